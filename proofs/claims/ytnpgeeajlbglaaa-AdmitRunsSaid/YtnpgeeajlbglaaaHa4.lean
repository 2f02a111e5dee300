/-
  Admit: what the laws call. No project text.
-/
import Derived.Test.YtnpgeeajlbglaaaHa3
namespace Go.Proofs.Ytnpgeeajlbglaaa.Fr
open Go.Rx
open Go.RowKit (Below)
set_option linter.unusedVariables false
@[reducible] def XL9 : List (Nat × Rx.Spec) := [(28, sp28), (29, specOf con29), (30, specOf con30)]
theorem XL9_told : ∀ p ∈ XL9, Told p.1 p.2 := by
  intro p hp
  simp only [List.mem_cons, List.not_mem_nil, or_false] at hp
  rcases hp with rfl | rfl | rfl
  · exact told28
  · exact con29_told
  · exact con30_told
end Go.Proofs.Ytnpgeeajlbglaaa.Fr
