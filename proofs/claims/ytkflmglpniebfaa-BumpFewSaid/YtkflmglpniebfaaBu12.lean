/-
  Bump: how many cars are needed. No project text.
-/
import Derived.Test.YtkflmglpniebfaaBu9
namespace Go.Proofs.Ytkflmglpniebfaa.Fr
open Go.Rx
open Go.RowKit (Below)
set_option linter.unusedVariables false
/-- How many cars are taken by the first k sizes, and the room that is left. -/
def ndS (a : Int) (h : RF) (r : Int) : Nat → Int × Int
  | 0 => (0, r)
  | k + 1 => if (ndS a h r k).2 < h k 0 then ((ndS a h r k).1 + 1, a - h k 0) else ((ndS a h r k).1, (ndS a h r k).2 - h k 0)
theorem ndS_no (a : Int) (h : RF) (r : Int) {k : Nat} (q : (ndS a h r k).2 < h k 0) : ndS a h r (k + 1) = ((ndS a h r k).1 + 1, a - h k 0) := if_pos q
theorem ndS_yes (a : Int) (h : RF) (r : Int) {k : Nat} (q : ¬ (ndS a h r k).2 < h k 0) : ndS a h r (k + 1) = ((ndS a h r k).1, (ndS a h r k).2 - h k 0) := if_neg q
theorem ndS_bd (a : Int) (h : RF) (r : Int) (hr : 0 ≤ r ∧ r ≤ a) (n : Nat) (hs : ∀ k, k < n → 1 ≤ h k 0 ∧ h k 0 ≤ a) : ∀ k, k ≤ n → 0 ≤ (ndS a h r k).1 ∧ (ndS a h r k).1 ≤ k ∧ 0 ≤ (ndS a h r k).2 ∧ (ndS a h r k).2 ≤ a
  | 0, _ => ⟨Int.le_refl 0, Int.le_refl 0, hr.1, hr.2⟩
  | k + 1, hk => by
    have ih := ndS_bd a h r hr n hs k (by omega)
    have := hs k (by omega)
    by_cases q : (ndS a h r k).2 < h k 0
    · rw [ndS_no a h r q]; simp only; omega
    · rw [ndS_yes a h r q]; simp only; omega
/-- The room of the last car, if words may be placed there. -/
def room0 (a : Int) (f : RF) (m : Nat) (g : RF) (s : Int) : Int := if 0 < m ∧ f (lastC m g).toNat 0 = 1 ∧ ¬ lastC m g = s then a - f (lastC m g).toNat 1 else 0
/-- Words of the first k sizes. -/
def smS (h : RF) : Nat → Int
  | 0 => 0
  | k + 1 => smS h k + h k 0
theorem smS_bd (h : RF) (b : Int) (n : Nat) (hs : ∀ k, k < n → 1 ≤ h k 0 ∧ h k 0 ≤ b) : ∀ k : Nat, k ≤ n → 0 ≤ smS h k ∧ smS h k ≤ k * b
  | 0, _ => by simp [smS]
  | k + 1, hk => by
    have ih := smS_bd h b n hs k (by omega)
    have := hs k (by omega)
    have e : ((k + 1 : Nat) : Int) * b = k * b + b := by rw [Int.natCast_add, Int.add_mul]; simp
    simp only [smS, e]
    omega
/-- Cars are half full. -/
theorem half_full (a : Int) (h : RF) (r : Int) (hr : 0 ≤ r ∧ r ≤ a) (n : Nat) (hs : ∀ k, k < n → 1 ≤ h k 0 ∧ 2 * h k 0 ≤ a) : ∀ k, k ≤ n → (ndS a h r k).1 = 0 ∨ (1 ≤ (ndS a h r k).1 ∧ ((ndS a h r k).1 - 1) * a + 2 * (a - (ndS a h r k).2) ≤ 2 * smS h k)
  | 0, _ => .inl rfl
  | k + 1, hk => by
    have ih := half_full a h r hr n hs k (by omega)
    have h1 := hs k (by omega)
    have hb := ndS_bd a h r hr n (fun k hk => ⟨(hs k hk).1, by have := hs k hk; omega⟩) k (by omega)
    by_cases q : (ndS a h r k).2 < h k 0
    · rw [ndS_no a h r q]
      right
      simp only [smS]
      rcases ih with ih | ih
      · rw [ih] at hb ⊢
        simp only [Int.zero_add, Int.sub_self, Int.zero_mul]
        have : 0 ≤ smS h k := (smS_bd h a n (fun k hk => ⟨(hs k hk).1, by have := hs k hk; omega⟩) k (by omega)).1
        omega
      · have e : ((ndS a h r k).1 + 1 - 1) * a = ((ndS a h r k).1 - 1) * a + a := by
          rw [show (ndS a h r k).1 + 1 - 1 = ((ndS a h r k).1 - 1) + 1 by omega, Int.add_mul]
          simp
        rw [e]
        omega
    · rw [ndS_yes a h r q]
      simp only [smS]
      rcases ih with ih | ih
      · exact .inl ih
      · right
        omega
theorem few_bd (a : Int) (h : RF) (r : Int) (ha : 8 ≤ a) (hr : 0 ≤ r ∧ r ≤ a) (n : Nat) (hs : ∀ k, k < n → 1 ≤ h k 0 ∧ 2 * h k 0 ≤ a) (k : Nat) (hk : k ≤ n) : (ndS a h r k).1 ≤ 1 + 2 * smS h k / a := by
  have hb := ndS_bd a h r hr n (fun k hk => ⟨(hs k hk).1, by have := hs k hk; omega⟩) k hk
  have h0 : 0 ≤ smS h k := (smS_bd h a n (fun k hk => ⟨(hs k hk).1, by have := hs k hk; omega⟩) k hk).1
  have hd : 0 ≤ 2 * smS h k / a := Int.ediv_nonneg (by omega) (by omega)
  rcases half_full a h r hr n hs k hk with q | q
  · omega
  · have : (ndS a h r k).1 - 1 ≤ 2 * smS h k / a := Int.le_ediv_of_mul_le (by omega) (by omega)
    omega
theorem room0_bd {a b c d e : Int} {n m : Nat} {f g : RF} (h : (bck a b c d e n f m g).2 = 0) (s : Int) : 0 ≤ room0 a f m g s ∧ room0 a f m g s ≤ a := by
  obtain ⟨h1, -⟩ := bck_ok h
  unfold room0
  split
  · rename_i q
    have := bck_one h (Int.toNat ((m : Int) - 1)) (by omega)
    have e : g (Int.toNat ((m : Int) - 1)) 0 = lastC m g := rfl
    rw [e] at this
    omega
  · omega
theorem room0_yes {a : Int} {f g : RF} {m : Nat} {s : Int} (h : 0 < m ∧ f (lastC m g).toNat 0 = 1 ∧ ¬ lastC m g = s) : room0 a f m g s = a - f (lastC m g).toNat 1 := if_pos h
theorem room0_no {a : Int} {f g : RF} {m : Nat} {s : Int} (h : ¬ (0 < m ∧ f (lastC m g).toNat 0 = 1 ∧ ¬ lastC m g = s)) : room0 a f m g s = 0 := if_neg h
theorem sz_bd (x : Int) {a : Int} (ha : 8 ≤ a) : 1 ≤ (x % if a / 2 < 1 then 1 else a / 2) + 1 ∧ (x % if a / 2 < 1 then 1 else a / 2) + 1 ≤ a / 2 := by
  rw [if_neg (by omega)]
  have h1 := Int.emod_nonneg x (show a / 2 ≠ 0 by omega)
  have h2 := Int.emod_lt_of_pos x (show 0 < a / 2 by omega)
  omega
theorem app_one {v b : Int} (h : 1 ≤ v ∧ v ≤ b) (i : Nat) (hi : i < 1) : 1 ≤ appF (fun _ _ => 0) 0 (litF 1 [v]) 0 i 0 ∧ appF (fun _ _ => 0) 0 (litF 1 [v]) 0 i 0 ≤ b := by
  obtain rfl : i = 0 := by omega
  simpa [appF, litF] using h
theorem app_more {f : RF} {k : Nat} {v b : Int} (hf : ∀ i, i < k → 1 ≤ f i 0 ∧ f i 0 ≤ b) (h : 1 ≤ v ∧ v ≤ b) (i : Nat) (hi : i < k + 1) : 1 ≤ appF f k (litF 1 [v]) 0 i 0 ∧ appF f k (litF 1 [v]) 0 i 0 ≤ b := by
  unfold appF
  split
  · exact hf i (by assumption)
  · obtain rfl : i = k := by omega
    simpa [litF] using h
@[reducible] def X61 : List (Nat × Rx.Spec) := [(49, specOf con49G), (31, specOf con31G), (92, specOf con92a), (93, specOf con93a)]
theorem X61_told : ∀ p ∈ X61, Told p.1 p.2 := by
  intro p hp
  simp only [List.mem_cons, List.not_mem_nil, or_false] at hp
  rcases hp with rfl | rfl | rfl | rfl
  · exact con49G_told
  · exact con31G_told
  · exact con92a_told
  · exact con93a_told
end Go.Proofs.Ytkflmglpniebfaa.Fr
