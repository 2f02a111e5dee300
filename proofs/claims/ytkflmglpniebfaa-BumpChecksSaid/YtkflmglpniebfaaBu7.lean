/-
  Bump: last. No project text.
-/
import Derived.Test.YtkflmglpniebfaaBu6
namespace Go.Proofs.Ytkflmglpniebfaa.Fr
open Go.Rx
open Go.RowKit (Below)
set_option linter.unusedVariables false
theorem lastT_bad {a b c d e : Int} {n m : Nat} {f g : RF} {s y : Int} (h : ¬ askT a b c d e n f m g s y = 0) : lastT a b c d e n f m g s y = (0, askT a b c d e n f m g s y) := if_neg h
@[reducible] def X53B : List (Nat × Rx.Spec) := [(49, specOf con49), (92, spF), (93, spF)]
theorem X53B_told : ∀ p ∈ X53B, Told p.1 p.2 := by
  intro p hp
  simp only [List.mem_cons, List.not_mem_nil, or_false] at hp
  rcases hp with rfl | rfl | rfl
  · exact con49_told
  · exact (toldF (f := 92) (fn := Try.f92) (by kernel_rfl) (by kernel_rfl) (by kernel_rfl))
  · exact (toldF (f := 93) (fn := Try.f93) (by kernel_rfl) (by kernel_rfl) (by kernel_rfl))
@[reducible] def X53 : List (Nat × Rx.Spec) := [(49, specOf con49G), (31, specOf con31G), (92, specOf con92a), (93, specOf con93a)]
theorem X53_told : ∀ p ∈ X53, Told p.1 p.2 := by
  intro p hp
  simp only [List.mem_cons, List.not_mem_nil, or_false] at hp
  rcases hp with rfl | rfl | rfl | rfl
  · exact con49G_told
  · exact con31G_told
  · exact con92a_told
  · exact con93a_told
end Go.Proofs.Ytkflmglpniebfaa.Fr
