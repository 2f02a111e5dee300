/-
  BumpFew: what it calls. No project text.
-/
import Derived.Test.YtkflmglpniebfaaBu12n
import Derived.Test.YtkflmglpniebfaaBu12s
import Derived.Test.YtkflmglpniebfaaBu8
namespace Go.Proofs.Ytkflmglpniebfaa.Fr
open Go.Rx
open Go.RowKit (Below)
set_option linter.unusedVariables false
theorem shz (h : RF) : shiftF h (Int.toNat 0) = h := rfl
/-- How many cars were taken one size before. -/
def lst (a : Int) (h : RF) (r : Int) : Nat → Int
  | 0 => 0
  | k + 1 => (ndS a h r k).1
theorem sm_go (h : RF) {k n : Nat} (q : k < n) : smS h (Nat.min k n) + h k 0 = smS h (Nat.min (k + 1) n) := by
  rw [show Nat.min k n = k from Nat.min_eq_left (show k ≤ n by omega), show Nat.min (k + 1) n = k + 1 from Nat.min_eq_left (show k + 1 ≤ n by omega)]
  rfl
theorem sm_end (h : RF) {k n : Nat} (q : ¬ k < n) : smS h (Nat.min k n) = smS h (Nat.min (k + 1) n) := by
  rw [show Nat.min k n = n from Nat.min_eq_right (show n ≤ k by omega), show Nat.min (k + 1) n = n from Nat.min_eq_right (show n ≤ k + 1 by omega)]
theorem few_all (a : Int) (h : RF) (r : Int) (ha : 8 ≤ a ∧ a ≤ 64) (hr : 0 ≤ r ∧ r ≤ a) (n : Nat) (hs : ∀ k, k < n → 1 ≤ h k 0 ∧ h k 0 ≤ a / 2) (k : Nat) (hk : k ≤ n) :
    (ndS a h r k).1 ≤ 1 + 2 * smS h (Nat.min k n) / a ∧ lst a h r k ≤ (ndS a h r k).1 ∧ (ndS a h r k).1 ≤ lst a h r k + 1 ∧ (k = 0 → (ndS a h r k).1 = 0) ∧ 0 ≤ smS h (Nat.min k n) ∧ smS h (Nat.min k n) ≤ k * 32 ∧ 0 ≤ (ndS a h r k).1 ∧ (ndS a h r k).1 ≤ k ∧ 0 ≤ 2 * smS h (Nat.min k n) / a ∧ 2 * smS h (Nat.min k n) / a ≤ 2 * smS h (Nat.min k n) := by
  rw [show Nat.min k n = k from Nat.min_eq_left hk]
  have hs2 : ∀ k, k < n → 1 ≤ h k 0 ∧ 2 * h k 0 ≤ a := fun k hk => by have := hs k hk; omega
  have f1 := few_bd a h r ha.1 hr n hs2 k hk
  have f2 := ndS_bd a h r hr n (fun k hk => by have := hs k hk; omega) k hk
  have f3 := smS_bd h 32 n (fun k hk => by have := hs k hk; omega) k hk
  have f4 : 0 ≤ 2 * smS h k / a := Int.ediv_nonneg (by omega) (by omega)
  have f5 : 2 * smS h k / a ≤ 2 * smS h k := Int.ediv_le_self _ (by omega)
  refine ⟨f1, ?_, ?_, ?_, f3.1, f3.2, f2.1, f2.2.1, f4, f5⟩
  · cases k with
    | zero => exact f2.1
    | succ k =>
      simp only [lst]
      by_cases q : (ndS a h r k).2 < h k 0
      · rw [ndS_no a h r q]; simp only; omega
      · rw [ndS_yes a h r q]; simp only; omega
  · cases k with
    | zero => simp only [lst, ndS]; omega
    | succ k =>
      simp only [lst]
      by_cases q : (ndS a h r k).2 < h k 0
      · rw [ndS_no a h r q]; simp only; omega
      · rw [ndS_yes a h r q]; simp only; omega
  · intro q
    subst q
    rfl
@[reducible] def XL15A : List (Nat × Rx.Spec) := [(48, sp48)]
theorem XL15A_told : ∀ p ∈ XL15A, Told p.1 p.2 := by
  intro p hp
  simp only [List.mem_cons, List.not_mem_nil, or_false] at hp
  rcases hp with rfl
  · exact told48
@[reducible] def XL15B : List (Nat × Rx.Spec) := [(48, sp48), (49, specOf con49), (63, spF), (61, spF)]
theorem XL15B_told : ∀ p ∈ XL15B, Told p.1 p.2 := by
  intro p hp
  simp only [List.mem_cons, List.not_mem_nil, or_false] at hp
  rcases hp with rfl | rfl | rfl | rfl
  · exact told48
  · exact con49_told
  · exact (toldF (f := 63) (fn := Try.f63) (by kernel_rfl) (by kernel_rfl) (by kernel_rfl))
  · exact (toldF (f := 61) (fn := Try.f61) (by kernel_rfl) (by kernel_rfl) (by kernel_rfl))
@[reducible] def XL15Z : List (Nat × Rx.Spec) := [(48, sp48), (49, specOf con49G), (63, specOf con63E), (61, specOf con61G)]
theorem XL15Z_told : ∀ p ∈ XL15Z, Told p.1 p.2 := by
  intro p hp
  simp only [List.mem_cons, List.not_mem_nil, or_false] at hp
  rcases hp with rfl | rfl | rfl | rfl
  · exact told48
  · exact con49G_told
  · exact con63E_told
  · exact con61G_told
@[reducible] def XL15G : List (Nat × Rx.Spec) := [(48, sp48), (49, specOf con49G), (63, specOf con63G), (61, specOf con61G)]
theorem XL15G_told : ∀ p ∈ XL15G, Told p.1 p.2 := by
  intro p hp
  simp only [List.mem_cons, List.not_mem_nil, or_false] at hp
  rcases hp with rfl | rfl | rfl | rfl
  · exact told48
  · exact con49G_told
  · exact con63G_told
  · exact con61G_told
end Go.Proofs.Ytkflmglpniebfaa.Fr
