/-
  Frames: take, bump, empty: what they call. No project text.
-/
import Derived.Test.YtkflmglpniebfaaFr12
import Derived.Test.YtkflmglpniebfaaFr3x31
import Derived.Test.YtkflmglpniebfaaFr3
import Derived.Test.YtkflmglpniebfaaFr3x33
namespace Go.Proofs.Ytkflmglpniebfaa.Fr
open Go.Rx
open Go.RowKit (Below)
set_option linter.unusedVariables false
/-- A slice of a row of these kinds. -/
def parseR (ks : List IntKind) (j : Nat) (v : Value) (bs : List Blk) (k : Nat → RF → Nat → List Blk → Prop) : Prop :=
  match v with
  | .slice (some ⟨b, 0, some 0⟩) n c => b = j ∧ n ≤ 100000 ∧ match bs with
    | .row true ks' _ n' c' f :: bs' => (ks' = ks ∧ n' = n ∧ c' = c) ∧ k n f (j + 1) bs'
    | _ => False
  | _ => False
theorem parseR_inv {ks : List IntKind} {j : Nat} {v : Value} {bs : List Blk} {k : Nat → RF → Nat → List Blk → Prop} (h : parseR ks j v bs k) : ∃ e n c f bs', v = rsl j 0 n c ∧ n ≤ 100000 ∧ bs = .row true ks e n c f :: bs' ∧ k n f (j + 1) bs' := by
  unfold parseR at h
  split at h
  · obtain ⟨rfl, hn, h⟩ := h
    split at h
    · obtain ⟨⟨rfl, rfl, rfl⟩, h⟩ := h
      exact ⟨_, _, _, _, _, rfl, hn, rfl, h⟩
    · exact h.elim
  · exact h.elim
theorem bumpy {a b c d e : Int} {n : Nat} {f : RF} {x : Int} (h : askF a b c d e n f x = 0) : (ckF a b c d e n f).2 = 0 ∧ good a b c d e ∧ (n : Int) = b ∧ 0 ≤ x ∧ x < b ∧ x.toNat < n ∧ (∀ i, i < n → fok a f i) ∧ fok a f x.toNat := by
  unfold askF at h
  split at h
  · rename_i h0
    have g := ckF_zero h0
    split at h
    · cases h
    · exact ⟨h0, g.1, g.2.1, by omega, by omega, by omega, g.2.2, g.2.2 _ (by omega)⟩
  · exact absurd h (by assumption)
end Go.Proofs.Ytkflmglpniebfaa.Fr
