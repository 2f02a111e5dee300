/-
  RootsChanges: what it calls. No project text.
-/
import Derived.Test.YtmnhjnfjgfjafaaQ5
namespace Go.Proofs.Ytmnhjnfjgfjafaa.Fr
open Go.Rx
open Go.RowKit (Below)
set_option linter.unusedVariables false
theorem setR_same {n : Nat} {f g g' : RF} {A v : Int} (h : SetR n f A v g) (h' : SetR n f A v g') (j : Nat) : g j 0 = g' j 0 := by
  by_cases hx : j = A.toNat
  · subst hx; rw [h.now, h'.now]
  · rw [h.rest j hx, h'.rest j hx]
@[reducible] def XMB : List (Nat × Rx.Spec) := [(6, sp6), (7, specOf con7), (8, specOf con8), (9, specOf con9B), (10, specOf con10B), (11, specOf con11B), (12, specOf con12B), (13, specOf con13B), (14, specOf con14B), (16, specOf con16B), (17, specOf con17B), (18, specOf con18B), (19, specOf con19B), (15, specOf con15)]
theorem XMB_told : ∀ p ∈ XMB, Told p.1 p.2 := by
  intro p hp
  simp only [List.mem_cons, List.not_mem_nil, or_false] at hp
  rcases hp with rfl | rfl | rfl | rfl | rfl | rfl | rfl | rfl | rfl | rfl | rfl | rfl | rfl | rfl
  · exact told6
  · exact con7_told
  · exact con8_told
  · exact con9B_told
  · exact con10B_told
  · exact con11B_told
  · exact con12B_told
  · exact con13B_told
  · exact con14B_told
  · exact con16B_told
  · exact con17B_told
  · exact con18B_told
  · exact con19B_told
  · exact con15_told
@[reducible] def XMX : List (Nat × Rx.Spec) := [(6, sp6), (7, specOf con7), (8, specOf con8), (9, specOf con9X), (10, specOf con10X), (11, specOf con11X), (12, specOf con12X), (13, specOf con13Y), (14, specOf con14X), (16, specOf con16X), (17, specOf con17X), (18, specOf con18X), (19, specOf con19X), (15, specOf con15)]
theorem XMX_told : ∀ p ∈ XMX, Told p.1 p.2 := by
  intro p hp
  simp only [List.mem_cons, List.not_mem_nil, or_false] at hp
  rcases hp with rfl | rfl | rfl | rfl | rfl | rfl | rfl | rfl | rfl | rfl | rfl | rfl | rfl | rfl
  · exact told6
  · exact con7_told
  · exact con8_told
  · exact con9X_told
  · exact con10X_told
  · exact con11X_told
  · exact con12X_told
  · exact con13Y_told
  · exact con14X_told
  · exact con16X_told
  · exact con17X_told
  · exact con18X_told
  · exact con19X_told
  · exact con15_told
@[reducible] def XMRX : List (Nat × Rx.Spec) := [(6, sp6), (7, specOf con7), (8, specOf con8), (9, specOf con9G), (10, specOf con10G), (11, specOf con11R), (12, specOf con12R), (13, specOf con13Y), (14, specOf con14X), (16, specOf con16G), (17, specOf con17G), (18, specOf con18X), (19, specOf con19X), (15, specOf con15)]
theorem XMRX_told : ∀ p ∈ XMRX, Told p.1 p.2 := by
  intro p hp
  simp only [List.mem_cons, List.not_mem_nil, or_false] at hp
  rcases hp with rfl | rfl | rfl | rfl | rfl | rfl | rfl | rfl | rfl | rfl | rfl | rfl | rfl | rfl
  · exact told6
  · exact con7_told
  · exact con8_told
  · exact con9G_told
  · exact con10G_told
  · exact con11R_told
  · exact con12R_told
  · exact con13Y_told
  · exact con14X_told
  · exact con16G_told
  · exact con17G_told
  · exact con18X_told
  · exact con19X_told
  · exact con15_told
@[reducible] def XMRG : List (Nat × Rx.Spec) := [(6, sp6), (7, specOf con7), (8, specOf con8), (9, specOf con9G), (10, specOf con10G), (11, specOf con11R), (12, specOf con12R), (13, specOf con13G), (14, specOf con14G), (16, specOf con16G), (17, specOf con17G), (18, specOf con18A), (19, specOf con19A), (15, specOf con15)]
theorem XMRG_told : ∀ p ∈ XMRG, Told p.1 p.2 := by
  intro p hp
  simp only [List.mem_cons, List.not_mem_nil, or_false] at hp
  rcases hp with rfl | rfl | rfl | rfl | rfl | rfl | rfl | rfl | rfl | rfl | rfl | rfl | rfl | rfl
  · exact told6
  · exact con7_told
  · exact con8_told
  · exact con9G_told
  · exact con10G_told
  · exact con11R_told
  · exact con12R_told
  · exact con13G_told
  · exact con14G_told
  · exact con16G_told
  · exact con17G_told
  · exact con18A_told
  · exact con19A_told
  · exact con15_told
@[reducible] def XMGX : List (Nat × Rx.Spec) := [(6, sp6), (7, specOf con7), (8, specOf con8), (9, specOf con9G), (10, specOf con10G), (11, specOf con11G), (12, specOf con12G), (13, specOf con13Y), (14, specOf con14X), (16, specOf con16G), (17, specOf con17G), (18, specOf con18X), (19, specOf con19X), (15, specOf con15)]
theorem XMGX_told : ∀ p ∈ XMGX, Told p.1 p.2 := by
  intro p hp
  simp only [List.mem_cons, List.not_mem_nil, or_false] at hp
  rcases hp with rfl | rfl | rfl | rfl | rfl | rfl | rfl | rfl | rfl | rfl | rfl | rfl | rfl | rfl
  · exact told6
  · exact con7_told
  · exact con8_told
  · exact con9G_told
  · exact con10G_told
  · exact con11G_told
  · exact con12G_told
  · exact con13Y_told
  · exact con14X_told
  · exact con16G_told
  · exact con17G_told
  · exact con18X_told
  · exact con19X_told
  · exact con15_told
@[reducible] def XMGG : List (Nat × Rx.Spec) := [(6, sp6), (7, specOf con7), (8, specOf con8), (9, specOf con9G), (10, specOf con10G), (11, specOf con11G), (12, specOf con12G), (13, specOf con13G), (14, specOf con14G), (16, specOf con16G), (17, specOf con17G), (18, specOf con18A), (19, specOf con19A), (15, specOf con15)]
theorem XMGG_told : ∀ p ∈ XMGG, Told p.1 p.2 := by
  intro p hp
  simp only [List.mem_cons, List.not_mem_nil, or_false] at hp
  rcases hp with rfl | rfl | rfl | rfl | rfl | rfl | rfl | rfl | rfl | rfl | rfl | rfl | rfl | rfl
  · exact told6
  · exact con7_told
  · exact con8_told
  · exact con9G_told
  · exact con10G_told
  · exact con11G_told
  · exact con12G_told
  · exact con13G_told
  · exact con14G_told
  · exact con16G_told
  · exact con17G_told
  · exact con18A_told
  · exact con19A_told
  · exact con15_told
end Go.Proofs.Ytmnhjnfjgfjafaa.Fr
