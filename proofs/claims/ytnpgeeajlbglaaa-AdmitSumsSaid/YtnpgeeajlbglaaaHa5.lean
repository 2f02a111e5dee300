/-
  AdmitSums: what the law calls. No project text.
-/
import Derived.Test.YtnpgeeajlbglaaaHa3
namespace Go.Proofs.Ytnpgeeajlbglaaa.Fr
open Go.Rx
open Go.RowKit (Below)
set_option linter.unusedVariables false
/-- The sum of the first k numbers. -/
def sm (f : RF) : Nat → Int
  | 0 => 0
  | k + 1 => sm f k + f k 0
theorem rn_spec (a b c d e o l : Int) (f : RF) (n : Nat) : ∀ m k : Nat, k + m = n → ste a b c d e (o + sm f k) (l - sm f k) = 0 →
    ∃ j : Nat, (rn a b c d e f m k (o + sm f k) (l - sm f k)).1 = (j : Int) ∧ k ≤ j ∧ j ≤ n ∧ (∀ i, k ≤ i → i < j → aft a b c d e (o + sm f i) (l - sm f i) (f i 0) = 0) ∧
      ((j = n ∧ (rn a b c d e f m k (o + sm f k) (l - sm f k)).2 = 0) ∨ (j < n ∧ (rn a b c d e f m k (o + sm f k) (l - sm f k)).2 = aft a b c d e (o + sm f j) (l - sm f j) (f j 0) ∧ ¬ aft a b c d e (o + sm f j) (l - sm f j) (f j 0) = 0))
  | 0, k, hn, hs => ⟨k, rfl, Nat.le_refl _, by omega, fun i h1 h2 => by omega, .inl ⟨by omega, rfl⟩⟩
  | m + 1, k, hn, hs => by
    by_cases h : aft a b c d e (o + sm f k) (l - sm f k) (f k 0) = 0
    · have e1 : rn a b c d e f (m + 1) k (o + sm f k) (l - sm f k) = rn a b c d e f m (k + 1) (o + sm f (k + 1)) (l - sm f (k + 1)) := by
        rw [show o + sm f (k + 1) = o + sm f k + f k 0 by simp only [sm]; omega, show l - sm f (k + 1) = l - sm f k - f k 0 by simp only [sm]; omega]
        exact if_pos h
      have q := aft_next h
      obtain ⟨j, j1, j2, j3, j4, j5⟩ := rn_spec a b c d e o l f n m (k + 1) (by omega) (by
        rw [show o + sm f (k + 1) = o + sm f k + f k 0 by simp only [sm]; omega, show l - sm f (k + 1) = l - sm f k - f k 0 by simp only [sm]; omega]
        exact q.2.1)
      rw [e1]
      refine ⟨j, j1, by omega, j3, fun i h1 h2 => ?_, j5⟩
      rcases Nat.lt_or_ge k i with z | z
      · exact j4 i (by omega) h2
      · obtain rfl : i = k := by omega
        exact h
    · have e1 : rn a b c d e f (m + 1) k (o + sm f k) (l - sm f k) = ((k : Int), aft a b c d e (o + sm f k) (l - sm f k) (f k 0)) := if_neg h
      rw [e1]
      exact ⟨k, rfl, Nat.le_refl _, by omega, fun i h1 h2 => by omega, .inr ⟨by omega, rfl, h⟩⟩
theorem rn_shift (a b c d e : Int) (f : RF) (h : Nat) : ∀ (m k : Nat) (o l : Int), rn a b c d e (shiftF f h) m k o l = ((rn a b c d e f m (h + k) o l).1 - h, (rn a b c d e f m (h + k) o l).2)
  | 0, k, o, l => by
    simp only [rn]
    congr 1
    omega
  | m + 1, k, o, l => by
    unfold rn
    rw [shiftF_eq]
    by_cases q : aft a b c d e o l (f (h + k) 0) = 0
    · rw [if_pos q, if_pos q, rn_shift a b c d e f h m (k + 1), show h + (k + 1) = h + k + 1 by omega]
    · rw [if_neg q, if_neg q]
      congr 1
      simp only
      omega
theorem rn_prefix (a b c d e o l : Int) (f : RF) (n : Nat) : ∀ h : Nat, h ≤ n → (∀ i, i < h → aft a b c d e (o + sm f i) (l - sm f i) (f i 0) = 0) → rn a b c d e f (n - h) h (o + sm f h) (l - sm f h) = rn a b c d e f n 0 o l
  | 0, _, _ => by simp [sm]
  | h + 1, hn, hh => by
    have ih := rn_prefix a b c d e o l f n h (by omega) fun i hi => hh i (by omega)
    rw [← ih, rn_ok (by omega) (hh h (by omega))]
    congr 1
    · simp only [sm]; omega
    · simp only [sm]; omega
/-- What a run does, told by how many are admitted. -/
structure RunS (a b c d e o l : Int) (n : Nat) (f : RF) (j : Nat) (r : Int) : Prop where
  le : j ≤ n
  done : (rrn a b c d e o l n f).1 = (j : Int)
  err : (rrn a b c d e o l n f).2 = r
  pre : ∀ k, k ≤ j → 0 ≤ sm f k ∧ sm f k ≤ 64 ∧ ste a b c d e (o + sm f k) (l - sm f k) = 0 ∧ (0 < k → 2 * (o + sm f k) ≤ a * (b - 6)) ∧ (k < j → 1 ≤ f k 0 ∧ f k 0 ≤ 64)
  last : (j = n ∧ r = 0) ∨ (j < n ∧ r = aft a b c d e (o + sm f j) (l - sm f j) (f j 0) ∧ ¬ r = 0)
  rest : ∀ h : Nat, h ≤ j → rrn a b c d e (o + sm f h) (l - sm f h) (n - h) (shiftF f h) = ((j : Int) - h, r)
theorem runS {a b c d e o l : Int} {n : Nat} {f : RF} (hs : ste a b c d e o l = 0) (hn : n ≤ 60) : ∃ j r, RunS a b c d e o l n f j r := by
  have e0 : rrn a b c d e o l n f = rn a b c d e f n 0 o l := rrn_go hs (by omega)
  obtain ⟨j, j1, -, j3, j4, j5⟩ := rn_spec a b c d e o l f n n 0 (by omega) (by simpa [sm] using hs)
  simp only [sm, Int.add_zero, Int.sub_zero] at j1 j5
  have pre : ∀ k, k ≤ j → 0 ≤ sm f k ∧ sm f k ≤ 64 ∧ ste a b c d e (o + sm f k) (l - sm f k) = 0 ∧ (0 < k → 2 * (o + sm f k) ≤ a * (b - 6)) ∧ (k < j → 1 ≤ f k 0 ∧ f k 0 ≤ 64) := by
    intro k
    induction k with
    | zero =>
      intro hk
      refine ⟨by simp [sm], by simp [sm], by simpa [sm] using hs, fun h => by omega, fun h => ?_⟩
      have := aft_next (j4 0 (by omega) h)
      omega
    | succ k ih =>
      intro hk
      obtain ⟨i1, i2, i3, i4, i5⟩ := ih (by omega)
      have q := aft_next (j4 k (by omega) (by omega))
      have z1 := ste_cases a b c d e (o + sm f k + f k 0) (l - sm f k - f k 0)
      have z2 := aft_cases a b c d e (o + sm f k) (l - sm f k) (f k 0)
      have z3 := ste_cases a b c d e o l
      have z4 := chk_cases a b c d e
      have z5 := j4 k (by omega) (by omega)
      have e1 : sm f (k + 1) = sm f k + f k 0 := rfl
      rw [e1, show o + (sm f k + f k 0) = o + sm f k + f k 0 by omega, show l - (sm f k + f k 0) = l - sm f k - f k 0 by omega]
      refine ⟨by omega, by omega, q.2.1, fun _ => by omega, fun h => ?_⟩
      have := aft_next (j4 (k + 1) (by omega) h)
      omega
  refine ⟨j, (rrn a b c d e o l n f).2, j3, by rw [e0, j1], rfl, pre, ?_, fun h hh => ?_⟩
  · rw [e0]
    rcases j5 with ⟨q1, q2⟩ | ⟨q1, q2, q3⟩
    · exact .inl ⟨q1, q2⟩
    · exact .inr ⟨q1, q2, by rw [q2]; exact q3⟩
  · rw [rrn_go (pre h hh).2.2.1 (by omega), rn_shift, Nat.add_zero, rn_prefix a b c d e o l f n h (by omega) fun i hi => j4 i (by omega) (by omega), ← e0]
    rw [show (rrn a b c d e o l n f).1 = (j : Int) by rw [e0, j1]]
def spF : Rx.Spec := fun _ _ _ => False
theorem toldF {f : Nat} {fn : Func} (hf : Try.prog.funcs[f]? = some fn) (h1 : fn.body.isSome = true) (h2 : (fn.name == "runtime.NumGoroutine") = false) : Told f spF := ⟨⟨fn, hf, h1, h2⟩, fun _ _ _ h => h.elim⟩
@[reducible] def XL11A : List (Nat × Rx.Spec) := [(28, sp28), (29, spF)]
theorem XL11A_told : ∀ p ∈ XL11A, Told p.1 p.2 := by
  intro p hp
  simp only [List.mem_cons, List.not_mem_nil, or_false] at hp
  rcases hp with rfl | rfl
  · exact told28
  · exact (toldF (f := 29) (fn := Try.f29) (by kernel_rfl) (by kernel_rfl) (by kernel_rfl))
@[reducible] def XL11B : List (Nat × Rx.Spec) := [(28, sp28), (29, specOf con29), (32, specOf con32), (35, spF)]
theorem XL11B_told : ∀ p ∈ XL11B, Told p.1 p.2 := by
  intro p hp
  simp only [List.mem_cons, List.not_mem_nil, or_false] at hp
  rcases hp with rfl | rfl | rfl | rfl
  · exact told28
  · exact con29_told
  · exact con32_told
  · exact (toldF (f := 35) (fn := Try.f35) (by kernel_rfl) (by kernel_rfl) (by kernel_rfl))
@[reducible] def XL11G : List (Nat × Rx.Spec) := [(28, sp28), (29, specOf con29), (32, specOf con32), (35, specOf con35)]
theorem XL11G_told : ∀ p ∈ XL11G, Told p.1 p.2 := by
  intro p hp
  simp only [List.mem_cons, List.not_mem_nil, or_false] at hp
  rcases hp with rfl | rfl | rfl | rfl
  · exact told28
  · exact con29_told
  · exact con32_told
  · exact con35_told
end Go.Proofs.Ytnpgeeajlbglaaa.Fr
