/-
  BumpChecks: what it calls. No project text.
-/
import Derived.Test.YtkflmglpniebfaaBu7p
import Derived.Test.YtkflmglpniebfaaBu7q
import Derived.Test.YtkflmglpniebfaaBu6p
import Derived.Test.YtkflmglpniebfaaBu6q
import Derived.Test.YtkflmglpniebfaaBu6r
namespace Go.Proofs.Ytkflmglpniebfaa.Fr
open Go.Rx
open Go.RowKit (Below)
set_option linter.unusedVariables false
def sp48 : Rx.Spec := fun args s K => args = [] ∧ K (.bool true) s
set_option maxRecDepth 1000000 in
theorem closed48 : Ev.run ⟨Try.prog, Ev.mkTT Try.prog, Ev.mkFT Try.prog, [], [], [], none⟩ 1000000 48 [] = some true := by kernel_rfl
theorem told48 : Told 48 sp48 := ⟨⟨Try.f48, by kernel_rfl, by kernel_rfl, by kernel_rfl⟩, specTrue_ok (Ev.run_closed mixed closed48)⟩
def con54B : Con := fun vs bs K => match vs with
  | [u, vl, vt, .int .i64 s, .int .i64 y] => five u fun a b c d e => parse [.i64, .i64] 0 vl bs fun nl fl j0 bs0 => parse [.i64] j0 vt bs0 fun nt ft j1 bs1 => bs1 = [] ∧ ((¬ askT a b c d e nl fl nt ft s y = 0)) ∧ (K (.tuple ⟨[.int .i64 (0), .int .i64 (askT a b c d e nl fl nt ft s y)]⟩) [])
  | _ => False
theorem con54B_told : Told 54 (specOf con54B) := con54_told.mono fun vs bs K x => by
  unfold con54B at x
  unfold con54
  split at x
  · exact five_mono (fun a b c d e => parse_mono fun n f j bs => parse_mono fun m g j bs y => ⟨y.1, trivial, (by rw [lastT_bad y.2.1]; exact y.2.2)⟩) x
  · exact x.elim
theorem ask_bad {a b c d e : Int} {n m : Nat} {f g : RF} {s y : Int} (h : ¬ (bck a b c d e n f m g).2 = 0) : ¬ askT a b c d e n f m g s y = 0 := by
  unfold askT
  rw [if_neg h]
  exact h
@[reducible] def XL10A : List (Nat × Rx.Spec) := [(48, sp48)]
theorem XL10A_told : ∀ p ∈ XL10A, Told p.1 p.2 := by
  intro p hp
  simp only [List.mem_cons, List.not_mem_nil, or_false] at hp
  rcases hp with rfl
  · exact told48
@[reducible] def XL10B : List (Nat × Rx.Spec) := [(48, sp48), (49, specOf con49), (50, specOf con50), (51, specOf con51B), (52, specOf con52B), (53, specOf con53B), (54, specOf con54B)]
theorem XL10B_told : ∀ p ∈ XL10B, Told p.1 p.2 := by
  intro p hp
  simp only [List.mem_cons, List.not_mem_nil, or_false] at hp
  rcases hp with rfl | rfl | rfl | rfl | rfl | rfl | rfl
  · exact told48
  · exact con49_told
  · exact con50_told
  · exact con51B_told
  · exact con52B_told
  · exact con53B_told
  · exact con54B_told
@[reducible] def XL10R : List (Nat × Rx.Spec) := [(48, sp48), (49, specOf con49G), (50, specOf con50G), (51, specOf con51G), (52, specOf con52G), (53, specOf con53B), (54, specOf con54B)]
theorem XL10R_told : ∀ p ∈ XL10R, Told p.1 p.2 := by
  intro p hp
  simp only [List.mem_cons, List.not_mem_nil, or_false] at hp
  rcases hp with rfl | rfl | rfl | rfl | rfl | rfl | rfl
  · exact told48
  · exact con49G_told
  · exact con50G_told
  · exact con51G_told
  · exact con52G_told
  · exact con53B_told
  · exact con54B_told
@[reducible] def XL10G : List (Nat × Rx.Spec) := [(48, sp48), (49, specOf con49G), (50, specOf con50G), (51, specOf con51G), (52, specOf con52G), (53, specOf con53G), (54, specOf con54)]
theorem XL10G_told : ∀ p ∈ XL10G, Told p.1 p.2 := by
  intro p hp
  simp only [List.mem_cons, List.not_mem_nil, or_false] at hp
  rcases hp with rfl | rfl | rfl | rfl | rfl | rfl | rfl
  · exact told48
  · exact con49G_told
  · exact con50G_told
  · exact con51G_told
  · exact con52G_told
  · exact con53G_told
  · exact con54_told
end Go.Proofs.Ytkflmglpniebfaa.Fr
