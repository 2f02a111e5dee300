/-
  Frames: bump, empty: what they call. No project text.
-/
import Derived.Test.YtkflmglpniebfaaFr14
namespace Go.Proofs.Ytkflmglpniebfaa.Fr
open Go.Rx
open Go.RowKit (Below)
set_option linter.unusedVariables false
@[reducible] def X39B : List (Nat × Rx.Spec) := [(33, specOf con33B), (31, specOf con31B)]
theorem X39B_told : ∀ p ∈ X39B, Told p.1 p.2 := by
  intro p hp
  simp only [List.mem_cons, List.not_mem_nil, or_false] at hp
  rcases hp with rfl | rfl
  · exact con33B_told
  · exact con31B_told
@[reducible] def X40B : List (Nat × Rx.Spec) := [(71, specOf con71), (34, specOf con34B), (32, specOf con32B)]
theorem X40B_told : ∀ p ∈ X40B, Told p.1 p.2 := by
  intro p hp
  simp only [List.mem_cons, List.not_mem_nil, or_false] at hp
  rcases hp with rfl | rfl | rfl
  · exact con71_told
  · exact con34B_told
  · exact con32B_told
@[reducible] def X39Y : List (Nat × Rx.Spec) := [(33, specOf con33G), (31, specOf con31G)]
theorem X39Y_told : ∀ p ∈ X39Y, Told p.1 p.2 := by
  intro p hp
  simp only [List.mem_cons, List.not_mem_nil, or_false] at hp
  rcases hp with rfl | rfl
  · exact con33G_told
  · exact con31G_told
@[reducible] def X40Y : List (Nat × Rx.Spec) := [(71, specOf con71), (34, specOf con34G), (32, specOf con32G)]
theorem X40Y_told : ∀ p ∈ X40Y, Told p.1 p.2 := by
  intro p hp
  simp only [List.mem_cons, List.not_mem_nil, or_false] at hp
  rcases hp with rfl | rfl | rfl
  · exact con71_told
  · exact con34G_told
  · exact con32G_told
@[reducible] def X39D : List (Nat × Rx.Spec) := [(33, specOf con33G), (31, specOf con31D)]
theorem X39D_told : ∀ p ∈ X39D, Told p.1 p.2 := by
  intro p hp
  simp only [List.mem_cons, List.not_mem_nil, or_false] at hp
  rcases hp with rfl | rfl
  · exact con33G_told
  · exact con31D_told
@[reducible] def X40D : List (Nat × Rx.Spec) := [(71, specOf con71), (34, specOf con34G), (32, specOf con32D)]
theorem X40D_told : ∀ p ∈ X40D, Told p.1 p.2 := by
  intro p hp
  simp only [List.mem_cons, List.not_mem_nil, or_false] at hp
  rcases hp with rfl | rfl | rfl
  · exact con71_told
  · exact con34G_told
  · exact con32D_told
@[reducible] def X39F : List (Nat × Rx.Spec) := [(33, specOf con33G), (31, specOf con31G)]
theorem X39F_told : ∀ p ∈ X39F, Told p.1 p.2 := by
  intro p hp
  simp only [List.mem_cons, List.not_mem_nil, or_false] at hp
  rcases hp with rfl | rfl
  · exact con33G_told
  · exact con31G_told
@[reducible] def X40F : List (Nat × Rx.Spec) := [(71, specOf con71), (34, specOf con34G), (32, specOf con32G)]
theorem X40F_told : ∀ p ∈ X40F, Told p.1 p.2 := by
  intro p hp
  simp only [List.mem_cons, List.not_mem_nil, or_false] at hp
  rcases hp with rfl | rfl | rfl
  · exact con71_told
  · exact con34G_told
  · exact con32G_told
@[reducible] def X39G : List (Nat × Rx.Spec) := [(33, specOf con33G), (31, specOf con31G)]
theorem X39G_told : ∀ p ∈ X39G, Told p.1 p.2 := by
  intro p hp
  simp only [List.mem_cons, List.not_mem_nil, or_false] at hp
  rcases hp with rfl | rfl
  · exact con33G_told
  · exact con31G_told
@[reducible] def X40G : List (Nat × Rx.Spec) := [(71, specOf con71), (34, specOf con34G), (32, specOf con32G)]
theorem X40G_told : ∀ p ∈ X40G, Told p.1 p.2 := by
  intro p hp
  simp only [List.mem_cons, List.not_mem_nil, or_false] at hp
  rcases hp with rfl | rfl | rfl
  · exact con71_told
  · exact con34G_told
  · exact con32G_told
@[reducible] def X41B : List (Nat × Rx.Spec) := [(31, specOf con31B)]
theorem X41B_told : ∀ p ∈ X41B, Told p.1 p.2 := by
  intro p hp
  simp only [List.mem_cons, List.not_mem_nil, or_false] at hp
  rcases hp with rfl
  · exact con31B_told
@[reducible] def X42B : List (Nat × Rx.Spec) := [(71, specOf con71)]
theorem X42B_told : ∀ p ∈ X42B, Told p.1 p.2 := by
  intro p hp
  simp only [List.mem_cons, List.not_mem_nil, or_false] at hp
  rcases hp with rfl
  · exact con71_told
@[reducible] def X41D : List (Nat × Rx.Spec) := [(31, specOf con31D)]
theorem X41D_told : ∀ p ∈ X41D, Told p.1 p.2 := by
  intro p hp
  simp only [List.mem_cons, List.not_mem_nil, or_false] at hp
  rcases hp with rfl
  · exact con31D_told
@[reducible] def X42D : List (Nat × Rx.Spec) := [(71, specOf con71)]
theorem X42D_told : ∀ p ∈ X42D, Told p.1 p.2 := by
  intro p hp
  simp only [List.mem_cons, List.not_mem_nil, or_false] at hp
  rcases hp with rfl
  · exact con71_told
@[reducible] def X41G : List (Nat × Rx.Spec) := [(31, specOf con31G)]
theorem X41G_told : ∀ p ∈ X41G, Told p.1 p.2 := by
  intro p hp
  simp only [List.mem_cons, List.not_mem_nil, or_false] at hp
  rcases hp with rfl
  · exact con31G_told
@[reducible] def X42G : List (Nat × Rx.Spec) := [(71, specOf con71)]
theorem X42G_told : ∀ p ∈ X42G, Told p.1 p.2 := by
  intro p hp
  simp only [List.mem_cons, List.not_mem_nil, or_false] at hp
  rcases hp with rfl
  · exact con71_told
end Go.Proofs.Ytkflmglpniebfaa.Fr
