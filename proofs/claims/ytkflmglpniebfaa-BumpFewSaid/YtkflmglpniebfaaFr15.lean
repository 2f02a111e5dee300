/-
  Frames: what taking a car does. No project text.
-/
import Derived.Test.YtkflmglpniebfaaFr14
import Derived.Test.YtkflmglpniebfaaFr13
namespace Go.Proofs.Ytkflmglpniebfaa.Fr
open Go.Rx
open Go.RowKit (Below)
set_option linter.unusedVariables false
theorem locA_or {s : Rx.St} {c c1 c2 : List Value → List Blk → Prop} (h : ∀ us bs, c us bs → c1 us bs ∨ c2 us bs) : ∀ (args : List Value) (k : Nat), locA s k args c → locA s k args c1 ∨ locA s k args c2 := by
  intro args
  induction args generalizing c c1 c2 with
  | nil => exact fun k hc => h _ _ hc
  | cons v vs ih =>
    intro k hc
    unfold locA at hc ⊢
    split at hc
    · obtain ⟨o, ho, hc⟩ := kO_some hc
      show kO (Rx.look s.h _) _ ∨ kO (Rx.look s.h _) _
      rw [ho]
      cases o with
      | cells cs e => exact hc.elim
      | row ro ks e n q f => exact (ih (fun us bs => h _ _) _ hc.2).imp (fun x => ⟨hc.1, x⟩) fun x => ⟨hc.1, x⟩
    · rename_i hne
      exact (ih (fun us bs => h _ _) _ hc.2).imp (fun x => ⟨hc.1, x⟩) fun x => ⟨hc.1, x⟩
theorem Told.or {f : Nat} {c1 c2 c : Con} (h1 : Told f (specOf c1)) (h2 : Told f (specOf c2)) (h : ∀ vs bs K, c vs bs K → c1 vs bs K ∨ c2 vs bs K) : Told f (specOf c) :=
  ⟨h1.1, fun args s K hk => (locA_or (fun us bs => h us bs _) args 0 hk).elim (fun x => h1.2 args s K x) fun x => h2.2 args s K x⟩
/-- A free car is taken. -/
structure Taken (a b c d e : Int) (n : Nat) (f : RF) (st : Int) (i : Nat) (g : RF) : Prop where
  lt : i < n
  at0 : f i 0 = 0
  at1 : f i 1 = 0
  first : lF (sel (selE f 0) n) 0 0 = (i : Int)
  now0 : g i 0 = st
  now1 : g i 1 = 0
  free : sel (selE f 0) n = (i : Int) :: sel (selE g 0) n
  some : List.length (sel (selE g 2) n) = List.length (sel (selE f 2) n) + (if st = 2 then 1 else 0)
  ok : (ckF a b c d e n g).2 = 0
  ask : askF a b c d e n g (i : Int) = 0
  rest : ∀ j, j ≠ i → ∀ q, g j q = f j q
/-- How many of the first k frames are not free. -/
def busy (f : RF) : Nat → Int
  | 0 => 0
  | k + 1 => if f k 0 = 0 then busy f k else busy f k + 1
theorem parseR_mono {ks : List IntKind} {j : Nat} {v : Value} {bs : List Blk} {k k' : Nat → RF → Nat → List Blk → Prop} (h : ∀ n f j bs, k' n f j bs → k n f j bs) (x : parseR ks j v bs k') : parseR ks j v bs k := by
  obtain ⟨e, n, c, f, bs', rfl, hn, rfl, h'⟩ := parseR_inv x
  exact ⟨rfl, hn, ⟨rfl, rfl, rfl⟩, h _ _ _ _ h'⟩
end Go.Proofs.Ytkflmglpniebfaa.Fr
