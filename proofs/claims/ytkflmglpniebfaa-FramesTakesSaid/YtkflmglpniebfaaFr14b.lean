/-
  Frames: bump, empty: what they call. No project text.
-/
import Derived.Test.YtkflmglpniebfaaFr14
namespace Go.Proofs.Ytkflmglpniebfaa.Fr
open Go.Rx
open Go.RowKit (Below)
set_option linter.unusedVariables false
@[reducible] def X41G : List (Nat × Rx.Spec) := [(31, specOf con31G)]
theorem X41G_told : ∀ p ∈ X41G, Told p.1 p.2 := by
  intro p hp
  simp only [List.mem_cons, List.not_mem_nil, or_false] at hp
  rcases hp with rfl
  · exact con31G_told
end Go.Proofs.Ytkflmglpniebfaa.Fr
