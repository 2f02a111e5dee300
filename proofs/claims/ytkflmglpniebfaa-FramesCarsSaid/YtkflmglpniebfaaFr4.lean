/-
  Frames: what the laws call. No project text.
-/
import Derived.Test.YtkflmglpniebfaaFr3x31
import Derived.Test.YtkflmglpniebfaaFr3x32
import Derived.Test.YtkflmglpniebfaaFr3x33
import Derived.Test.YtkflmglpniebfaaFr3x34
import Derived.Test.YtkflmglpniebfaaFr3x35
import Derived.Test.YtkflmglpniebfaaFr3x36
namespace Go.Proofs.Ytkflmglpniebfaa.Fr
open Go.Rx
open Go.RowKit (Below)
set_option linter.unusedVariables false
def sp18 : Rx.Spec := fun args s K => args = [] ∧ K (.bool true) s
set_option maxRecDepth 1000000 in
theorem closed18 : Ev.run ⟨Try.prog, Ev.mkTT Try.prog, Ev.mkFT Try.prog, [], [], [], none⟩ 1000000 18 [] = some true := by kernel_rfl
theorem told18 : Told 18 sp18 := ⟨⟨Try.f18, by kernel_rfl, by kernel_rfl, by kernel_rfl⟩, specTrue_ok (Ev.run_closed mixed closed18)⟩
@[reducible] def X4 : List (Nat × Rx.Spec) := [(18, sp18), (31, specOf con31), (32, specOf con32), (33, specOf con33), (34, specOf con34), (35, specOf con35), (36, specOf con36)]
theorem X4_told : ∀ p ∈ X4, Told p.1 p.2 := by
  intro p hp
  simp only [List.mem_cons, List.not_mem_nil, or_false] at hp
  rcases hp with rfl | rfl | rfl | rfl | rfl | rfl | rfl
  · exact told18
  · exact con31_told
  · exact con32_told
  · exact con33_told
  · exact con34_told
  · exact con35_told
  · exact con36_told
end Go.Proofs.Ytkflmglpniebfaa.Fr
