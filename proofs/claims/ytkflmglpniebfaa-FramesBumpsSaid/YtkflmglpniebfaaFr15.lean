/-
  Frames: what taking a car does. No project text.
-/
import Derived.Test.YtkflmglpniebfaaFr14b
import Derived.Test.YtkflmglpniebfaaFr13
namespace Go.Proofs.Ytkflmglpniebfaa.Fr
open Go.Rx
open Go.RowKit (Below)
set_option linter.unusedVariables false
theorem locA_or {s : Rx.St} {c c1 c2 : List Value → List Blk → Prop} (h : ∀ us bs, c us bs → c1 us bs ∨ c2 us bs) : ∀ (args : List Value) (k : Nat), locA s k args c → locA s k args c1 ∨ locA s k args c2 := by
  intro args
  induction args generalizing c c1 c2 with
  | nil => exact fun k hc => h _ _ hc
  | cons v vs ih =>
    intro k hc
    unfold locA at hc ⊢
    split at hc
    · obtain ⟨o, ho, hc⟩ := kO_some hc
      show kO (Rx.look s.h _) _ ∨ kO (Rx.look s.h _) _
      rw [ho]
      cases o with
      | cells cs e => exact hc.elim
      | row ro ks e n q f => exact (ih (fun us bs => h _ _) _ hc.2).imp (fun x => ⟨hc.1, x⟩) fun x => ⟨hc.1, x⟩
    · rename_i hne
      exact (ih (fun us bs => h _ _) _ hc.2).imp (fun x => ⟨hc.1, x⟩) fun x => ⟨hc.1, x⟩
theorem Told.or {f : Nat} {c1 c2 c : Con} (h1 : Told f (specOf c1)) (h2 : Told f (specOf c2)) (h : ∀ vs bs K, c vs bs K → c1 vs bs K ∨ c2 vs bs K) : Told f (specOf c) :=
  ⟨h1.1, fun args s K hk => (locA_or (fun us bs => h us bs _) args 0 hk).elim (fun x => h1.2 args s K x) fun x => h2.2 args s K x⟩
theorem pc_mono {f : RF} (k : Nat) : ∀ l : Nat, pc f k ≤ pc f (k + l)
  | 0 => by simp
  | l + 1 => by
    have := pc_mono (f := f) k l
    show _ ≤ pc f ((k + l) + 1)
    simp only [pc]
    split <;> omega
theorem ck_of (a : Int) (f : RF) : ∀ (l k : Nat), (∀ i, k ≤ i → i < k + l → fok a f i) → pc f (k + l) ≤ 2 → ck a f l k = (0, 0)
  | 0, k, _, _ => rfl
  | l + 1, k, h, hp => by
    have h0 := h k (by omega) (by omega)
    unfold fok at h0
    have hm := pc_mono (f := f) (k + 1) l
    rw [show k + 1 + l = k + (l + 1) by omega] at hm
    have h1 : pc f (k + 1) = if f k 0 = 2 then pc f k + 1 else pc f k := rfl
    unfold ck
    rw [if_neg (by omega), if_neg (by omega), if_neg (by split at h1 <;> omega)]
    exact ck_of a f l (k + 1) (fun i h2 h3 => h i (by omega) (by omega)) (by rw [show k + 1 + l = k + (l + 1) by omega]; exact hp)
theorem ck_pc (a : Int) (f : RF) : ∀ (l k : Nat), (ck a f l k).2 = 0 → pc f k ≤ 2 → pc f (k + l) ≤ 2
  | 0, k, _, hp => hp
  | l + 1, k, h, hp => by
    unfold ck at h
    have h1 : pc f (k + 1) = if f k 0 = 2 then pc f k + 1 else pc f k := rfl
    split at h
    · cases h
    · split at h
      · cases h
      · split at h
        · cases h
        · have := ck_pc a f l (k + 1) h (by split at h1 <;> omega)
          rw [show k + (l + 1) = k + 1 + l by omega]
          exact this
theorem ckF_of {a b c d e : Int} {n : Nat} {f : RF} (h : good a b c d e) (hn : (n : Int) = b) (hf : ∀ i, i < n → fok a f i) (hp : pc f n ≤ 2) : (ckF a b c d e n f).2 = 0 := by
  rw [ckF_go (if_pos h) hn, ck_of a f n 0 (fun i _ hi => hf i (by omega)) (by simpa using hp)]
theorem ckF_pc {a b c d e : Int} {n : Nat} {f : RF} (h : (ckF a b c d e n f).2 = 0) : pc f n ≤ 2 := by
  obtain ⟨h1, h2, -⟩ := ckF_zero h
  rw [ckF_go (if_pos h1) h2] at h
  have := ck_pc a f n 0 h (by simp [pc])
  simpa using this
/-- A free car is taken. -/
structure Taken (a b c d e : Int) (n : Nat) (f : RF) (st : Int) (i : Nat) (g : RF) : Prop where
  lt : i < n
  at0 : f i 0 = 0
  at1 : f i 1 = 0
  first : lF (sel (selE f 0) n) 0 0 = (i : Int)
  now0 : g i 0 = st
  now1 : g i 1 = 0
  free : sel (selE f 0) n = (i : Int) :: sel (selE g 0) n
  some : List.length (sel (selE g 2) n) = List.length (sel (selE f 2) n) + (if st = 2 then 1 else 0)
  ok : (ckF a b c d e n g).2 = 0
  ask : askF a b c d e n g (i : Int) = 0
  rest : ∀ j, j ≠ i → ∀ q, g j q = f j q
/-- How many of the first k frames are not free. -/
def busy (f : RF) : Nat → Int
  | 0 => 0
  | k + 1 => if f k 0 = 0 then busy f k else busy f k + 1
def roOf (s : Rx.St) : List Value → Bool
  | [] => true
  | v :: vs => match v with
    | .slice (some ⟨b, _, some 0⟩) _ _ => match Rx.look s.h b with
      | some (.row ro _ _ _ _ _) => ro
      | _ => true
    | _ => roOf s vs
/-- What is told of rows that came in, and of others. -/
def specRo (c1 c2 : Con) : Rx.Spec := fun args s K => bif roOf s args then specOf c1 args s K else specOf c2 args s K
theorem told_ro {f : Nat} {c1 c2 : Con} (h1 : Told f (specOf c1)) (h2 : Told f (specOf c2)) : Told f (specRo c1 c2) :=
  ⟨h1.1, fun args s K hk => by
    unfold specRo at hk
    cases h : roOf s args with
    | true => rw [h] at hk; exact h1.2 args s K hk
    | false => rw [h] at hk; exact h2.2 args s K hk⟩
theorem parseR_mono {ks : List IntKind} {j : Nat} {v : Value} {bs : List Blk} {k k' : Nat → RF → Nat → List Blk → Prop} (h : ∀ n f j bs, k' n f j bs → k n f j bs) (x : parseR ks j v bs k') : parseR ks j v bs k := by
  obtain ⟨e, n, c, f, bs', rfl, hn, rfl, h'⟩ := parseR_inv x
  exact ⟨rfl, hn, ⟨rfl, rfl, rfl⟩, h _ _ _ _ h'⟩
end Go.Proofs.Ytkflmglpniebfaa.Fr
