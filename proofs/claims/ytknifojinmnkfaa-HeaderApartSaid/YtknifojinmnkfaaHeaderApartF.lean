/-
  What Pack, Forward and Kind return, as the law on their words takes it. No project text.
-/
import Derived.Test.YtknifojinmnkfaaCForward
import Derived.Test.YtknifojinmnkfaaCPack
import Derived.Test.YtknifojinmnkfaaCKind
namespace Go.Proofs.Ytknifojinmnkfaa.headerApart
theorem pack_spec (x0 x1 : Int) (l0 : -9223372036854775808 ≤ x0) (u0 : x0 ≤ 9223372036854775807) (l1 : -9223372036854775808 ≤ x1) (u1 : x1 ≤ 9223372036854775807) :
    (cPack.r1 x0 x1 = 0 ∧ 0 ≤ x0 ∧ 0 ≤ x1 ∧ x0 + x1 ≤ 63 ∧ cPack.r0 x0 x1 = x1 * 65536 + x0 * 256 + 1) ∨ (cPack.r1 x0 x1 ≠ 0 ∧ cPack.r0 x0 x1 = 0) := by
  generalize hp : cPack.r0 x0 x1 = p
  generalize hq : cPack.r1 x0 x1 = q
  simp only [cPack.r0, cPack.r1, cPack.z0, cPack.z1, cPack.z2, cPack.z3, cPack.z4, cPack.z5, cPack.z6, cPack.z7, cPack.z8, cPack.z9, cPack.z11, cPack.z12, cPack.z13, cPack.z14, cPack.z15, cPack.z17, cPack.z18, cPack.z19] at hp hq
  repeat' split at hp
  all_goals (repeat' split at hq)
  all_goals omega
theorem fwd_spec (x0 : Int) (l0 : -9223372036854775808 ≤ x0) (u0 : x0 ≤ 9223372036854775807) :
    (cForward.r1 x0 = 0 ∧ 1 ≤ x0 ∧ x0 ≤ 1600 ∧ cForward.r0 x0 = x0 * 256 + 2) ∨ (cForward.r1 x0 ≠ 0 ∧ cForward.r0 x0 = 0) := by
  generalize hp : cForward.r0 x0 = p
  generalize hq : cForward.r1 x0 = q
  simp only [cForward.r0, cForward.r1, cForward.z0, cForward.z1, cForward.z2, cForward.z3, cForward.z4, cForward.z6, cForward.z7, cForward.z8, cForward.z9, cForward.z10, cForward.z11] at hp hq
  repeat' split at hp
  all_goals (repeat' split at hq)
  all_goals omega
theorem kind_one (v : Int) (l : 0 ≤ v) (u : v ≤ 18446744073709551615) (h : cKind.r0 v = 1) : v % 256 = 1 ∧ v / 65536 < 64 := by
  revert h
  simp only [cKind.r0, cKind.z0, cKind.z2, cKind.z3, cKind.z4, cKind.z6, cKind.z7, cKind.z8, cKind.z10, cKind.z11, cKind.z12, cKind.z13, cKind.z14, cKind.z15, cKind.z16, cKind.z17, cKind.z18, cKind.z19]
  intro h
  repeat' split at h
  all_goals first | omega | (cases h)
theorem kind_two (v : Int) (l : 0 ≤ v) (u : v ≤ 18446744073709551615) (h : cKind.r0 v = 2) : v % 256 = 2 ∧ 1 ≤ v / 256 ∧ v / 256 ≤ 1600 := by
  revert h
  simp only [cKind.r0, cKind.z0, cKind.z2, cKind.z3, cKind.z4, cKind.z6, cKind.z7, cKind.z8, cKind.z10, cKind.z11, cKind.z12, cKind.z13, cKind.z14, cKind.z15, cKind.z16, cKind.z17, cKind.z18, cKind.z19]
  intro h
  repeat' split at h
  all_goals first | omega | (cases h)
theorem kind_012 (v : Int) : cKind.r0 v = 0 ∨ cKind.r0 v = 1 ∨ cKind.r0 v = 2 := by
  generalize h : cKind.r0 v = k
  simp only [cKind.r0, cKind.z8, cKind.z15, cKind.z19] at h
  repeat' split at h
  all_goals omega

theorem pb1 (x0 x1 : Int) : -9223372036854775808 ≤ cPack.r1 x0 x1 ∧ cPack.r1 x0 x1 ≤ 9223372036854775807 := by
  generalize hq : cPack.r1 x0 x1 = q
  simp only [cPack.r1, cPack.z0, cPack.z5, cPack.z19] at hq
  repeat' split at hq
  all_goals omega
theorem fb1 (x0 : Int) : -9223372036854775808 ≤ cForward.r1 x0 ∧ cForward.r1 x0 ≤ 9223372036854775807 := by
  generalize hq : cForward.r1 x0 = q
  simp only [cForward.r1, cForward.z10, cForward.z11] at hq
  repeat' split at hq
  all_goals omega

section
variable {x0 x1 x2 x3 x4 x5 : Int}
abbrev In64 (x : Int) : Prop := -9223372036854775808 ≤ x ∧ x ≤ 9223372036854775807
theorem pack_inj (h0 : In64 x0) (h1 : In64 x1) (h2 : In64 x2) (h3 : In64 x3) (_e : cPack.r1 x0 x1 = 0) (f : cPack.r1 x2 x3 = 0) (h : cPack.r0 x0 x1 = cPack.r0 x2 x3) : x0 = x2 ∧ x1 = x3 := by
  have := pack_spec x0 x1 h0.1 h0.2 h1.1 h1.2
  have := pack_spec x2 x3 h2.1 h2.2 h3.1 h3.2
  omega
theorem fwd_inj (h0 : In64 x4) (h1 : In64 x5) (_e : cForward.r1 x4 = 0) (f : cForward.r1 x5 = 0) (h : cForward.r0 x4 = cForward.r0 x5) : x4 = x5 := by
  have := fwd_spec x4 h0.1 h0.2
  have := fwd_spec x5 h1.1 h1.2
  omega
theorem pack_fwd (h0 : In64 x0) (h1 : In64 x1) (h2 : In64 x4) (_e : cPack.r1 x0 x1 = 0) (f : cForward.r1 x4 = 0) : cPack.r0 x0 x1 ≠ cForward.r0 x4 := by
  have := pack_spec x0 x1 h0.1 h0.2 h1.1 h1.2
  have := fwd_spec x4 h2.1 h2.2
  omega
theorem pack_room (h0 : In64 x0) (h1 : In64 x1) : 0 ≤ cPack.r0 x0 x1 ∧ cPack.r0 x0 x1 < 1099511627776 := by
  have := pack_spec x0 x1 h0.1 h0.2 h1.1 h1.2
  omega
theorem fwd_room (h0 : In64 x4) : 0 ≤ cForward.r0 x4 ∧ cForward.r0 x4 < 1099511627776 := by
  have := fwd_spec x4 h0.1 h0.2
  omega
theorem kind_pack (h0 : In64 x0) (h1 : In64 x1) (e : cPack.r1 x0 x1 = 0) : cKind.r0 ((cPack.r0 x0 x1 + 1) % 18446744073709551616) ≠ 1 ∧ cKind.r0 ((cPack.r0 x0 x1 - 1) % 18446744073709551616) ≠ 1 ∧ cKind.r0 (cPack.r0 x0 x1 + 1099511627776) = 0 := by
  have hp := pack_spec x0 x1 h0.1 h0.2 h1.1 h1.2
  generalize cPack.r0 x0 x1 = v at hp
  refine ⟨fun h => ?_, fun h => ?_, ?_⟩
  · have := kind_one _ (by omega) (by omega) h
    omega
  · have := kind_one _ (by omega) (by omega) h
    omega
  · rcases kind_012 (v + 1099511627776) with h | h | h
    · exact h
    · have := kind_one _ (by omega) (by omega) h
      omega
    · have := kind_two _ (by omega) (by omega) h
      omega
theorem kind_fwd (h0 : In64 x4) (_e : cForward.r1 x4 = 0) : cKind.r0 ((cForward.r0 x4 + 1) % 18446744073709551616) ≠ 2 ∧ cKind.r0 ((cForward.r0 x4 - 1) % 18446744073709551616) ≠ 2 ∧ cKind.r0 (cForward.r0 x4 + 1099511627776) = 0 := by
  have hp := fwd_spec x4 h0.1 h0.2
  generalize cForward.r0 x4 = v at hp
  refine ⟨fun h => ?_, fun h => ?_, ?_⟩
  · have := kind_two _ (by omega) (by omega) h
    omega
  · have := kind_two _ (by omega) (by omega) h
    omega
  · rcases kind_012 (v + 1099511627776) with h | h | h
    · exact h
    · have := kind_one _ (by omega) (by omega) h
      omega
    · have := kind_two _ (by omega) (by omega) h
      omega
end
end Go.Proofs.Ytknifojinmnkfaa.headerApart
