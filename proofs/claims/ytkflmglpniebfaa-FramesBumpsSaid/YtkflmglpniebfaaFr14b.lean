/-
  Frames: bump, empty: what they call. No project text.
-/
import Derived.Test.YtkflmglpniebfaaFr14
namespace Go.Proofs.Ytkflmglpniebfaa.Fr
open Go.Rx
open Go.RowKit (Below)
set_option linter.unusedVariables false
@[reducible] def X39F : List (Nat × Rx.Spec) := [(33, specOf con33G), (31, specOf con31G)]
theorem X39F_told : ∀ p ∈ X39F, Told p.1 p.2 := by
  intro p hp
  simp only [List.mem_cons, List.not_mem_nil, or_false] at hp
  rcases hp with rfl | rfl
  · exact con33G_told
  · exact con31G_told
@[reducible] def X39G : List (Nat × Rx.Spec) := [(33, specOf con33G), (31, specOf con31G)]
theorem X39G_told : ∀ p ∈ X39G, Told p.1 p.2 := by
  intro p hp
  simp only [List.mem_cons, List.not_mem_nil, or_false] at hp
  rcases hp with rfl | rfl
  · exact con33G_told
  · exact con31G_told
end Go.Proofs.Ytkflmglpniebfaa.Fr
