/-
  Frames: take, bump, empty: what they call. No project text.
-/
import Derived.Test.YtkflmglpniebfaaFr12
import Derived.Test.YtkflmglpniebfaaFr3x31
import Derived.Test.YtkflmglpniebfaaFr3
namespace Go.Proofs.Ytkflmglpniebfaa.Fr
open Go.Rx
open Go.RowKit (Below)
set_option linter.unusedVariables false
/-- A slice of a row of these kinds. -/
def parseR (ks : List IntKind) (j : Nat) (v : Value) (bs : List Blk) (k : Nat → RF → Nat → List Blk → Prop) : Prop :=
  match v with
  | .slice (some ⟨b, 0, some 0⟩) n c => b = j ∧ n ≤ 100000 ∧ match bs with
    | .row true ks' _ n' c' f :: bs' => (ks' = ks ∧ n' = n ∧ c' = c) ∧ k n f (j + 1) bs'
    | _ => False
  | _ => False
theorem parseR_inv {ks : List IntKind} {j : Nat} {v : Value} {bs : List Blk} {k : Nat → RF → Nat → List Blk → Prop} (h : parseR ks j v bs k) : ∃ e n c f bs', v = rsl j 0 n c ∧ n ≤ 100000 ∧ bs = .row true ks e n c f :: bs' ∧ k n f (j + 1) bs' := by
  unfold parseR at h
  split at h
  · obtain ⟨rfl, hn, h⟩ := h
    split at h
    · obtain ⟨⟨rfl, rfl, rfl⟩, h⟩ := h
      exact ⟨_, _, _, _, _, rfl, hn, rfl, h⟩
    · exact h.elim
  · exact h.elim
end Go.Proofs.Ytkflmglpniebfaa.Fr
