/-
  Frames: room, top, half. No project text.
-/
import Derived.Test.YtkflmglpniebfaaFr2
namespace Go.Proofs.Ytkflmglpniebfaa.Fr
open Go.Rx
open Go.RowKit (Below)
set_option linter.unusedVariables false
@[reducible] def X3 : List (Nat × Rx.Spec) := [(66, sp66), (67, specOf con67), (21, specOf con21), (22, specOf con22)]
theorem X3_told : ∀ p ∈ X3, Told p.1 p.2 := by
  intro p hp
  simp only [List.mem_cons, List.not_mem_nil, or_false] at hp
  rcases hp with rfl | rfl | rfl | rfl
  · exact told66
  · exact con67_told
  · exact con21_told
  · exact con22_told
def askF (a b c d e : Int) (n : Nat) (f : RF) (x : Int) : Int := if (ckF a b c d e n f).2 = 0 then (if x < 0 ∨ b ≤ x then 7 else 0) else (ckF a b c d e n f).2
def roomF (a b c d e : Int) (n : Nat) (f : RF) (x : Int) : Int × Int := if askF a b c d e n f x = 0 then (if f x.toNat 0 = 0 then (0, 9) else (a - f x.toNat 1, 0)) else (0, askF a b c d e n f x)
theorem mul_bd {a b x : Int} (h : 8 ≤ a ∧ a ≤ 64) (h1 : 0 ≤ x) (h2 : x < b) (h3 : b ≤ 24) : 0 ≤ x * a ∧ x * a ≤ 1536 := by
  refine ⟨Int.mul_nonneg h1 (by omega), ?_⟩
  have := Int.mul_le_mul (show x ≤ 24 by omega) (show a ≤ 64 by omega) (by omega) (by omega)
  omega
end Go.Proofs.Ytkflmglpniebfaa.Fr
