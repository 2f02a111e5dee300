/-
  Admit: what the laws call. No project text.
-/
import Derived.Test.YtnpgeeajlbglaaaHa2a
namespace Go.Proofs.Ytnpgeeajlbglaaa.Fr
open Go.Rx
open Go.RowKit (Below)
set_option linter.unusedVariables false
@[reducible] def XL10 : List (Nat × Rx.Spec) := [(28, sp28), (31, specOf con31), (32, specOf con32), (33, specOf con33), (34, specOf con34)]
theorem XL10_told : ∀ p ∈ XL10, Told p.1 p.2 := by
  intro p hp
  simp only [List.mem_cons, List.not_mem_nil, or_false] at hp
  rcases hp with rfl | rfl | rfl | rfl | rfl
  · exact told28
  · exact con31_told
  · exact con32_told
  · exact con33_told
  · exact con34_told
theorem room_bd (a b c d e o : Int) : chk a b c d e = 0 → 0 ≤ o → 2 * o ≤ a * (b - 6) → 0 ≤ 2 * o / a ∧ 2 * o / a ≤ b - 6 ∧ 2 * o / a ≤ 2 * o := fun h ho h2 => by
  have z := chk_cases a b c d e
  have q := div_bd (a := a) (o := o) (by omega) ho
  refine ⟨q.1, ?_, q.2⟩
  have k : 2 * o / a ≤ a * (b - 6) / a := Int.ediv_le_ediv (by omega) h2
  rwa [Int.mul_ediv_cancel_left _ (by omega)] at k
end Go.Proofs.Ytnpgeeajlbglaaa.Fr
