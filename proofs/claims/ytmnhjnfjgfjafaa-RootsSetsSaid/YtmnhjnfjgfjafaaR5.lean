/-
  RootsSets: what it calls. No project text.
-/
import Derived.Test.YtmnhjnfjgfjafaaR4
namespace Go.Proofs.Ytmnhjnfjgfjafaa.Fr
open Go.Rx
open Go.RowKit (Below)
set_option linter.unusedVariables false
@[reducible] def XLB : List (Nat × Rx.Spec) := [(6, sp6), (11, specOf con11B)]
theorem XLB_told : ∀ p ∈ XLB, Told p.1 p.2 := by
  intro p hp
  simp only [List.mem_cons, List.not_mem_nil, or_false] at hp
  rcases hp with rfl | rfl
  · exact told6
  · exact con11B_told
@[reducible] def XLX : List (Nat × Rx.Spec) := [(6, sp6), (11, specOf con11X)]
theorem XLX_told : ∀ p ∈ XLX, Told p.1 p.2 := by
  intro p hp
  simp only [List.mem_cons, List.not_mem_nil, or_false] at hp
  rcases hp with rfl | rfl
  · exact told6
  · exact con11X_told
@[reducible] def XLR : List (Nat × Rx.Spec) := [(6, sp6), (11, specOf con11R)]
theorem XLR_told : ∀ p ∈ XLR, Told p.1 p.2 := by
  intro p hp
  simp only [List.mem_cons, List.not_mem_nil, or_false] at hp
  rcases hp with rfl | rfl
  · exact told6
  · exact con11R_told
@[reducible] def XLM : List (Nat × Rx.Spec) := [(6, sp6), (11, specOf con11G), (9, specOf con9G), (13, specOf con13X)]
theorem XLM_told : ∀ p ∈ XLM, Told p.1 p.2 := by
  intro p hp
  simp only [List.mem_cons, List.not_mem_nil, or_false] at hp
  rcases hp with rfl | rfl | rfl | rfl
  · exact told6
  · exact con11G_told
  · exact con9G_told
  · exact con13X_told
@[reducible] def XLG : List (Nat × Rx.Spec) := [(6, sp6), (11, specOf con11G), (9, specOf con9G), (13, specOf con13G), (18, specOf con18G), (16, specOf con16G)]
theorem XLG_told : ∀ p ∈ XLG, Told p.1 p.2 := by
  intro p hp
  simp only [List.mem_cons, List.not_mem_nil, or_false] at hp
  rcases hp with rfl | rfl | rfl | rfl | rfl | rfl
  · exact told6
  · exact con11G_told
  · exact con9G_told
  · exact con13G_told
  · exact con18G_told
  · exact con16G_told
end Go.Proofs.Ytmnhjnfjgfjafaa.Fr
