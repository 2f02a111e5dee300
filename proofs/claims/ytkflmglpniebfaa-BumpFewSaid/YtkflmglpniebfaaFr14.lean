/-
  Frames: bump, empty: what they call. No project text.
-/
import Derived.Test.YtkflmglpniebfaaFr13
namespace Go.Proofs.Ytkflmglpniebfaa.Fr
open Go.Rx
open Go.RowKit (Below)
set_option linter.unusedVariables false
def onCFX (O : Int → Int → Int → Int → Int → Nat → RF → Nat → Int → KK → Prop) : Con := fun vs bs K => match vs with
  | [u, v, .int .i64 x] => five u fun a b c d e => parse [.i64, .i64] 0 v bs fun n f j bs => bs = [] ∧ O a b c d e n f j x K
  | _ => False
theorem onCFX_mono {O O' : Int → Int → Int → Int → Int → Nat → RF → Nat → Int → KK → Prop} (h : ∀ a b c d e n f j x K, O' a b c d e n f j x K → O a b c d e n f j x K) : ∀ vs bs K, onCFX O' vs bs K → onCFX O vs bs K := by
  intro vs bs K x
  unfold onCFX at x ⊢
  split at x
  · exact five_mono (fun a b c d e => parse_mono fun n f j bs y => ⟨y.1, h _ _ _ _ _ _ _ _ _ _ y.2⟩) x
  · exact x.elim
theorem roomF_ok {a b c d e : Int} {n : Nat} {f : RF} {x : Int} (h : askF a b c d e n f x = 0) (h' : ¬ f x.toNat 0 = 0) : roomF a b c d e n f x = (a - f x.toNat 1, 0) := by unfold roomF; rw [if_pos h, if_neg h']
def con31G : Con := onCFX fun a b c d e n f j x K => (askF a b c d e n f x = 0 ∧ ¬ f x.toNat 0 = 0) ∧ K (.tuple ⟨[.int .i64 (a - f x.toNat 1), .int .i64 0]⟩) []
theorem con31G_told : Told 31 (specOf con31G) := con31_told.mono (onCFX_mono fun a b c d e n f j x K h => (roomF_ok h.1.1 h.1.2).symm ▸ h.2)
end Go.Proofs.Ytkflmglpniebfaa.Fr
