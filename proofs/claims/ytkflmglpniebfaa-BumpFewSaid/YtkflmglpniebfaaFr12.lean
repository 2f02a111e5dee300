/-
  FramesLists: what it calls. No project text.
-/
import Derived.Test.YtkflmglpniebfaaFr11
namespace Go.Proofs.Ytkflmglpniebfaa.Fr
open Go.Rx
open Go.RowKit (Below)
set_option linter.unusedVariables false
theorem locA_mono {s : Rx.St} {c c' : List Value → List Blk → Prop} (h : ∀ us bs, c' us bs → c us bs) : ∀ (args : List Value) (k : Nat), locA s k args c' → locA s k args c := by
  intro args
  induction args generalizing c c' with
  | nil => exact fun k hc => h _ _ hc
  | cons v vs ih =>
    intro k hc
    unfold locA at hc ⊢
    split at hc
    · obtain ⟨o, ho, hc⟩ := kO_some hc
      show kO (Rx.look s.h _) _
      rw [ho]
      cases o with
      | cells cs e => exact hc.elim
      | row ro ks e n q f => exact ⟨hc.1, ih (fun us bs => h _ _) _ hc.2⟩
    · rename_i hne
      exact ⟨hc.1, ih (fun us bs => h _ _) _ hc.2⟩
/-- A narrower contract. -/
theorem Told.mono {f : Nat} {c c' : Con} (h : Told f (specOf c)) (hc : ∀ vs bs K, c' vs bs K → c vs bs K) : Told f (specOf c') :=
  ⟨h.1, fun args s K hk => h.2 args s K (locA_mono (fun us bs => hc us bs _) args 0 hk)⟩
abbrev KK := Value → List Blk → Prop
theorem five_mono {v : Value} {k k' : Int → Int → Int → Int → Int → Prop} (h : ∀ a b c d e, k' a b c d e → k a b c d e) (x : five v k') : five v k := by
  unfold five at x ⊢
  split at x
  · exact ⟨x.1, h _ _ _ _ _ x.2⟩
  · exact x.elim
theorem parse_mono {ks : List IntKind} {j : Nat} {v : Value} {bs : List Blk} {k k' : Nat → RF → Nat → List Blk → Prop} (h : ∀ n f j bs, k' n f j bs → k n f j bs) (x : parse ks j v bs k') : parse ks j v bs k := by
  unfold parse at x ⊢
  split at x
  · exact h _ _ _ _ x
  · refine ⟨x.1, x.2.1, ?_⟩
    have y := x.2.2
    clear x
    split at y
    · exact ⟨y.1, h _ _ _ _ y.2⟩
    · exact y.elim
  · exact x.elim
end Go.Proofs.Ytkflmglpniebfaa.Fr
