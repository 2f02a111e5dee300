/-
  HeaderSizes: what the law calls. No project text.
-/
import Derived.Test.YtnpgeeajlbglaaaHs1
namespace Go.Proofs.Ytnpgeeajlbglaaa.Fr
open Go.Rx
open Go.RowKit (Below)
set_option linter.unusedVariables false
@[reducible] def XH3B : List (Nat × Rx.Spec) := [(14, sp14), (12, specOf con12B), (13, specOf con13)]
theorem XH3B_told : ∀ p ∈ XH3B, Told p.1 p.2 := by
  intro p hp
  simp only [List.mem_cons, List.not_mem_nil, or_false] at hp
  rcases hp with rfl | rfl | rfl
  · exact told14
  · exact con12B_told
  · exact con13_told
@[reducible] def XH3G : List (Nat × Rx.Spec) := [(14, sp14), (12, specOf con12G), (13, specOf con13)]
theorem XH3G_told : ∀ p ∈ XH3G, Told p.1 p.2 := by
  intro p hp
  simp only [List.mem_cons, List.not_mem_nil, or_false] at hp
  rcases hp with rfl | rfl | rfl
  · exact told14
  · exact con12G_told
  · exact con13_told
end Go.Proofs.Ytnpgeeajlbglaaa.Fr
