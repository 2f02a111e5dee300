/-
  FramesTakes: what it calls. No project text.
-/
import Derived.Test.YtkflmglpniebfaaFr15
import Derived.Test.YtkflmglpniebfaaFr13x37
import Derived.Test.YtkflmglpniebfaaFr14x41
namespace Go.Proofs.Ytkflmglpniebfaa.Fr
open Go.Rx
open Go.RowKit (Below)
set_option linter.unusedVariables false
theorem shift_head {l l' : List Int} {x : Int} (h : l = x :: l') (j : Nat) : lF l' j 0 = shiftF (lF l) (Int.toNat 1) j 0 := by
  subst h
  show _ = lF (x :: l') (1 + j) 0
  rw [Nat.add_comm]
  exact lF_cons.symm
theorem put_back {f g : RF} {i : Nat} (h0 : f i 0 = 0) (h1 : f i 1 = 0) (hr : ∀ j, j ≠ i → ∀ q, g j q = f j q) (j : Nat) : putE g i [0, 0] j 0 = f j 0 ∧ putE g i [0, 0] j 1 = f j 1 := by
  by_cases h : j = i
  · subst h
    simp [putE, h0, h1]
  · simp [putE, h, hr j h]
@[reducible] def X7BF : List (Nat × Rx.Spec) := [(18, sp18), (24, specOf con24B)]
theorem X7BF_told : ∀ p ∈ X7BF, Told p.1 p.2 := by
  intro p hp
  simp only [List.mem_cons, List.not_mem_nil, or_false] at hp
  rcases hp with rfl | rfl
  · exact told18
  · exact con24B_told
@[reducible] def X7EF : List (Nat × Rx.Spec) := [(18, sp18), (24, specOf con24N), (26, specOf con26V), (37, specOf con37EF)]
theorem X7EF_told : ∀ p ∈ X7EF, Told p.1 p.2 := by
  intro p hp
  simp only [List.mem_cons, List.not_mem_nil, or_false] at hp
  rcases hp with rfl | rfl | rfl | rfl
  · exact told18
  · exact con24N_told
  · exact con26V_told
  · exact con37EF_told
@[reducible] def X7BT : List (Nat × Rx.Spec) := [(18, sp18), (24, specOf con24B)]
theorem X7BT_told : ∀ p ∈ X7BT, Told p.1 p.2 := by
  intro p hp
  simp only [List.mem_cons, List.not_mem_nil, or_false] at hp
  rcases hp with rfl | rfl
  · exact told18
  · exact con24B_told
@[reducible] def X7ET : List (Nat × Rx.Spec) := [(18, sp18), (24, specOf con24N), (26, specOf con26V), (37, specOf con37ET)]
theorem X7ET_told : ∀ p ∈ X7ET, Told p.1 p.2 := by
  intro p hp
  simp only [List.mem_cons, List.not_mem_nil, or_false] at hp
  rcases hp with rfl | rfl | rfl | rfl
  · exact told18
  · exact con24N_told
  · exact con26V_told
  · exact con37ET_told
@[reducible] def X7FT : List (Nat × Rx.Spec) := [(18, sp18), (24, specOf con24R), (26, specOf con26R), (37, specOf con37FT)]
theorem X7FT_told : ∀ p ∈ X7FT, Told p.1 p.2 := by
  intro p hp
  simp only [List.mem_cons, List.not_mem_nil, or_false] at hp
  rcases hp with rfl | rfl | rfl | rfl
  · exact told18
  · exact con24R_told
  · exact con26R_told
  · exact con37FT_told
@[reducible] def X7FNN : List (Nat × Rx.Spec) := [(18, sp18), (23, specOf conSameT), (24, specRo con24R con24N), (26, specOf con26N), (28, specOf conIntsT), (31, specOf con31G), (37, specOf con37GFa), (41, specOf con41G)]
theorem X7FNN_told : ∀ p ∈ X7FNN, Told p.1 p.2 := by
  intro p hp
  simp only [List.mem_cons, List.not_mem_nil, or_false] at hp
  rcases hp with rfl | rfl | rfl | rfl | rfl | rfl | rfl | rfl
  · exact told18
  · exact conSameT_told
  · exact told_ro con24R_told con24N_told
  · exact con26N_told
  · exact conIntsT_told
  · exact con31G_told
  · exact con37GFa_told
  · exact con41G_told
@[reducible] def X7FNR : List (Nat × Rx.Spec) := [(18, sp18), (23, specOf conSameT), (24, specRo con24R con24N), (26, specOf con26R), (28, specOf conIntsT), (31, specOf con31G), (37, specOf con37GFa), (41, specOf con41G)]
theorem X7FNR_told : ∀ p ∈ X7FNR, Told p.1 p.2 := by
  intro p hp
  simp only [List.mem_cons, List.not_mem_nil, or_false] at hp
  rcases hp with rfl | rfl | rfl | rfl | rfl | rfl | rfl | rfl
  · exact told18
  · exact conSameT_told
  · exact told_ro con24R_told con24N_told
  · exact con26R_told
  · exact conIntsT_told
  · exact con31G_told
  · exact con37GFa_told
  · exact con41G_told
@[reducible] def X7FRN : List (Nat × Rx.Spec) := [(18, sp18), (23, specOf conSameT), (24, specOf con24R), (26, specOf con26N), (28, specOf conIntsT), (31, specOf con31G), (37, specOf con37GFa), (41, specOf con41G)]
theorem X7FRN_told : ∀ p ∈ X7FRN, Told p.1 p.2 := by
  intro p hp
  simp only [List.mem_cons, List.not_mem_nil, or_false] at hp
  rcases hp with rfl | rfl | rfl | rfl | rfl | rfl | rfl | rfl
  · exact told18
  · exact conSameT_told
  · exact con24R_told
  · exact con26N_told
  · exact conIntsT_told
  · exact con31G_told
  · exact con37GFa_told
  · exact con41G_told
@[reducible] def X7FRR : List (Nat × Rx.Spec) := [(18, sp18), (23, specOf conSameT), (24, specOf con24R), (26, specOf con26R), (28, specOf conIntsT), (31, specOf con31G), (37, specOf con37GFa), (41, specOf con41G)]
theorem X7FRR_told : ∀ p ∈ X7FRR, Told p.1 p.2 := by
  intro p hp
  simp only [List.mem_cons, List.not_mem_nil, or_false] at hp
  rcases hp with rfl | rfl | rfl | rfl | rfl | rfl | rfl | rfl
  · exact told18
  · exact conSameT_told
  · exact con24R_told
  · exact con26R_told
  · exact conIntsT_told
  · exact con31G_told
  · exact con37GFa_told
  · exact con41G_told
@[reducible] def X7TNN : List (Nat × Rx.Spec) := [(18, sp18), (23, specOf conSameT), (24, specRo con24R con24N), (26, specRo con26N con26R), (28, specOf conIntsT), (31, specOf con31G), (37, specOf con37HTa), (41, specOf con41G)]
theorem X7TNN_told : ∀ p ∈ X7TNN, Told p.1 p.2 := by
  intro p hp
  simp only [List.mem_cons, List.not_mem_nil, or_false] at hp
  rcases hp with rfl | rfl | rfl | rfl | rfl | rfl | rfl | rfl
  · exact told18
  · exact conSameT_told
  · exact told_ro con24R_told con24N_told
  · exact told_ro con26N_told con26R_told
  · exact conIntsT_told
  · exact con31G_told
  · exact con37HTa_told
  · exact con41G_told
@[reducible] def X7TNR : List (Nat × Rx.Spec) := [(18, sp18), (23, specOf conSameT), (24, specRo con24R con24N), (26, specOf con26R), (28, specOf conIntsT), (31, specOf con31G), (37, specOf con37GTa), (41, specOf con41G)]
theorem X7TNR_told : ∀ p ∈ X7TNR, Told p.1 p.2 := by
  intro p hp
  simp only [List.mem_cons, List.not_mem_nil, or_false] at hp
  rcases hp with rfl | rfl | rfl | rfl | rfl | rfl | rfl | rfl
  · exact told18
  · exact conSameT_told
  · exact told_ro con24R_told con24N_told
  · exact con26R_told
  · exact conIntsT_told
  · exact con31G_told
  · exact con37GTa_told
  · exact con41G_told
@[reducible] def X7TRN : List (Nat × Rx.Spec) := [(18, sp18), (23, specOf conSameT), (24, specOf con24R), (26, specRo con26N con26R), (28, specOf conIntsT), (31, specOf con31G), (37, specOf con37HTa), (41, specOf con41G)]
theorem X7TRN_told : ∀ p ∈ X7TRN, Told p.1 p.2 := by
  intro p hp
  simp only [List.mem_cons, List.not_mem_nil, or_false] at hp
  rcases hp with rfl | rfl | rfl | rfl | rfl | rfl | rfl | rfl
  · exact told18
  · exact conSameT_told
  · exact con24R_told
  · exact told_ro con26N_told con26R_told
  · exact conIntsT_told
  · exact con31G_told
  · exact con37HTa_told
  · exact con41G_told
@[reducible] def X7TRR : List (Nat × Rx.Spec) := [(18, sp18), (23, specOf conSameT), (24, specOf con24R), (26, specOf con26R), (28, specOf conIntsT), (31, specOf con31G), (37, specOf con37GTa), (41, specOf con41G)]
theorem X7TRR_told : ∀ p ∈ X7TRR, Told p.1 p.2 := by
  intro p hp
  simp only [List.mem_cons, List.not_mem_nil, or_false] at hp
  rcases hp with rfl | rfl | rfl | rfl | rfl | rfl | rfl | rfl
  · exact told18
  · exact conSameT_told
  · exact con24R_told
  · exact con26R_told
  · exact conIntsT_told
  · exact con31G_told
  · exact con37GTa_told
  · exact con41G_told
end Go.Proofs.Ytkflmglpniebfaa.Fr
