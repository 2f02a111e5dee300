/-
  Frames: occupied, the code. No project text.
-/
import Derived.Test.YtkflmglpniebfaaFr8
namespace Go.Proofs.Ytkflmglpniebfaa.Fr
open Go.Rx
open Go.RowKit (Below)
set_option linter.unusedVariables false
/-- The used words of the first k cars of a list. -/
def sl (f : RF) (l : List Int) : Nat → Int
  | 0 => 0
  | k + 1 => sl f l k + f (Int.toNat (lF l k 0)) 1
theorem lF_left {l : List Int} {x : Int} {k : Nat} (h : k < l.length) : lF (l ++ [x]) k 0 = lF l k 0 := by
  unfold lF
  simp [List.getD, List.getElem?_append_left h]
theorem lF_last {l : List Int} {x : Int} : lF (l ++ [x]) l.length 0 = x := by
  unfold lF
  simp
theorem sel_mem {p : Nat → Bool} : ∀ {n k : Nat}, k < (sel p n).length → ∃ i, i < n ∧ lF (sel p n) k 0 = (i : Int) ∧ p i = true
  | 0, k, h => by simp [sel] at h
  | n + 1, k, h => by
    by_cases hp : p n = true
    · rw [sel_yes hp] at h ⊢
      by_cases hk : k < (sel p n).length
      · obtain ⟨i, h1, h2, h3⟩ := sel_mem hk
        exact ⟨i, by omega, by rw [lF_left hk]; exact h2, h3⟩
      · have e : k = (sel p n).length := by simp at h; omega
        subst e
        exact ⟨n, by omega, lF_last, hp⟩
    · rw [sel_no hp] at h ⊢
      obtain ⟨i, h1, h2, h3⟩ := sel_mem h
      exact ⟨i, by omega, h2, h3⟩
theorem sel_len {p : Nat → Bool} : ∀ {n : Nat}, (sel p n).length ≤ n
  | 0 => by simp [sel]
  | n + 1 => by
    have := sel_len (p := p) (n := n)
    by_cases hp : p n = true
    · rw [sel_yes hp]; simp; omega
    · rw [sel_no hp]; omega
end Go.Proofs.Ytkflmglpniebfaa.Fr
