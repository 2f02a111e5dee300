/-
  Frames: what taking a car does. No project text.
-/
import Derived.Test.YtkflmglpniebfaaFr14b
import Derived.Test.YtkflmglpniebfaaFr13x37
namespace Go.Proofs.Ytkflmglpniebfaa.Fr
open Go.Rx
open Go.RowKit (Below)
set_option linter.unusedVariables false
theorem locA_or {s : Rx.St} {c c1 c2 : List Value → List Blk → Prop} (h : ∀ us bs, c us bs → c1 us bs ∨ c2 us bs) : ∀ (args : List Value) (k : Nat), locA s k args c → locA s k args c1 ∨ locA s k args c2 := by
  intro args
  induction args generalizing c c1 c2 with
  | nil => exact fun k hc => h _ _ hc
  | cons v vs ih =>
    intro k hc
    unfold locA at hc ⊢
    split at hc
    · obtain ⟨o, ho, hc⟩ := kO_some hc
      show kO (Rx.look s.h _) _ ∨ kO (Rx.look s.h _) _
      rw [ho]
      cases o with
      | cells cs e => exact hc.elim
      | row ro ks e n q f => exact (ih (fun us bs => h _ _) _ hc.2).imp (fun x => ⟨hc.1, x⟩) fun x => ⟨hc.1, x⟩
    · rename_i hne
      exact (ih (fun us bs => h _ _) _ hc.2).imp (fun x => ⟨hc.1, x⟩) fun x => ⟨hc.1, x⟩
theorem Told.or {f : Nat} {c1 c2 c : Con} (h1 : Told f (specOf c1)) (h2 : Told f (specOf c2)) (h : ∀ vs bs K, c vs bs K → c1 vs bs K ∨ c2 vs bs K) : Told f (specOf c) :=
  ⟨h1.1, fun args s K hk => (locA_or (fun us bs => h us bs _) args 0 hk).elim (fun x => h1.2 args s K x) fun x => h2.2 args s K x⟩
theorem pc_len {f : RF} : ∀ n : Nat, pc f n = (List.length (sel (selE f 2) n) : Int)
  | 0 => rfl
  | n + 1 => by
    have ih := pc_len (f := f) n
    by_cases h : f n 0 = 2
    · rw [sel_yes (selE_yes h), List.length_append]
      simp only [pc, if_pos h, ih, List.length_singleton]
      omega
    · rw [sel_no (selE_no h)]
      simp only [pc, if_neg h, ih]
theorem pc_mono {f : RF} (k : Nat) : ∀ l : Nat, pc f k ≤ pc f (k + l)
  | 0 => by simp
  | l + 1 => by
    have := pc_mono (f := f) k l
    show _ ≤ pc f ((k + l) + 1)
    simp only [pc]
    split <;> omega
theorem ck_of (a : Int) (f : RF) : ∀ (l k : Nat), (∀ i, k ≤ i → i < k + l → fok a f i) → pc f (k + l) ≤ 2 → ck a f l k = (0, 0)
  | 0, k, _, _ => rfl
  | l + 1, k, h, hp => by
    have h0 := h k (by omega) (by omega)
    unfold fok at h0
    have hm := pc_mono (f := f) (k + 1) l
    rw [show k + 1 + l = k + (l + 1) by omega] at hm
    have h1 : pc f (k + 1) = if f k 0 = 2 then pc f k + 1 else pc f k := rfl
    unfold ck
    rw [if_neg (by omega), if_neg (by omega), if_neg (by split at h1 <;> omega)]
    exact ck_of a f l (k + 1) (fun i h2 h3 => h i (by omega) (by omega)) (by rw [show k + 1 + l = k + (l + 1) by omega]; exact hp)
theorem ck_pc (a : Int) (f : RF) : ∀ (l k : Nat), (ck a f l k).2 = 0 → pc f k ≤ 2 → pc f (k + l) ≤ 2
  | 0, k, _, hp => hp
  | l + 1, k, h, hp => by
    unfold ck at h
    have h1 : pc f (k + 1) = if f k 0 = 2 then pc f k + 1 else pc f k := rfl
    split at h
    · cases h
    · split at h
      · cases h
      · split at h
        · cases h
        · have := ck_pc a f l (k + 1) h (by split at h1 <;> omega)
          rw [show k + (l + 1) = k + 1 + l by omega]
          exact this
theorem ckF_of {a b c d e : Int} {n : Nat} {f : RF} (h : good a b c d e) (hn : (n : Int) = b) (hf : ∀ i, i < n → fok a f i) (hp : pc f n ≤ 2) : (ckF a b c d e n f).2 = 0 := by
  rw [ckF_go (if_pos h) hn, ck_of a f n 0 (fun i _ hi => hf i (by omega)) (by simpa using hp)]
theorem ckF_pc {a b c d e : Int} {n : Nat} {f : RF} (h : (ckF a b c d e n f).2 = 0) : pc f n ≤ 2 := by
  obtain ⟨h1, h2, -⟩ := ckF_zero h
  rw [ckF_go (if_pos h1) h2] at h
  have := ck_pc a f n 0 h (by simp [pc])
  simpa using this
/-- The least one comes first. -/
theorem sel_head {p : Nat → Bool} : ∀ {n : Nat}, ¬ sel p n = [] → ∃ i, i < n ∧ p i = true ∧ sel p n = (i : Int) :: sel (fun j => p j && !decide (j = i)) n
  | 0, h => by simp [sel] at h
  | n + 1, h => by
    by_cases h0 : sel p n = []
    · by_cases hp : p n = true
      · have none : ∀ k, k ≤ n → sel (fun j => p j && !decide (j = n)) k = [] := fun k hk => by
          have hz : ∀ k, k ≤ n → sel p k = [] := fun k hk => by
            have : ∀ d k, k + d = n → sel p k = [] := fun d => by
              induction d with
              | zero => intro k hk; rw [show k = n by omega]; exact h0
              | succ d ih =>
                intro k hk
                have := ih (k + 1) (by omega)
                by_cases hq : p k = true
                · rw [sel_yes hq] at this; simp at this
                · rwa [sel_no hq] at this
            exact this (n - k) k (by omega)
          induction k with
          | zero => rfl
          | succ k ih =>
            have hk1 := hz (k + 1) hk
            have hq : ¬ p k = true := fun hq => by rw [sel_yes hq] at hk1; simp at hk1
            rw [sel_no (by simp [hq])]
            exact ih (by omega)
        refine ⟨n, by omega, hp, ?_⟩
        rw [sel_yes hp, h0, sel_no (by simp), none n (Nat.le_refl _)]
        rfl
      · rw [sel_no hp] at h
        exact absurd h0 h
    · obtain ⟨i, h1, h2, h3⟩ := sel_head h0
      refine ⟨i, by omega, h2, ?_⟩
      by_cases hp : p n = true
      · rw [sel_yes hp, sel_yes (by simp [hp]; omega), h3]
        rfl
      · rw [sel_no hp, sel_no (by simp [hp])]
        exact h3
theorem sel_congr {p q : Nat → Bool} : ∀ {n : Nat}, (∀ i, i < n → p i = q i) → sel p n = sel q n
  | 0, _ => rfl
  | n + 1, h => by
    have ih := sel_congr (n := n) fun i hi => h i (by omega)
    simp only [sel]
    rw [ih, h n (by omega)]
theorem lF_cons {x : Int} {l : List Int} {i j : Nat} : lF (x :: l) (i + 1) j = lF l i 0 := by simp [lF]
theorem lF_zero {x : Int} {l : List Int} {j : Nat} : lF (x :: l) 0 j = x := by simp [lF]
/-- A free car is taken. -/
structure Taken (a b c d e : Int) (n : Nat) (f : RF) (st : Int) (i : Nat) (g : RF) : Prop where
  lt : i < n
  at0 : f i 0 = 0
  at1 : f i 1 = 0
  first : lF (sel (selE f 0) n) 0 0 = (i : Int)
  now0 : g i 0 = st
  now1 : g i 1 = 0
  free : sel (selE f 0) n = (i : Int) :: sel (selE g 0) n
  some : List.length (sel (selE g 2) n) = List.length (sel (selE f 2) n) + (if st = 2 then 1 else 0)
  ok : (ckF a b c d e n g).2 = 0
  ask : askF a b c d e n g (i : Int) = 0
  rest : ∀ j, j ≠ i → ∀ q, g j q = f j q
theorem taken {a b c d e : Int} {n : Nat} {f : RF} (h : (ckF a b c d e n f).2 = 0) (h0 : ¬ sel (selE f 0) n = []) {st : Int} (hst : st = 1 ∨ (st = 2 ∧ ¬ List.length (sel (selE f 2) n) = 2)) : ∃ i : Nat, Taken a b c d e n f st i (putE f (lF (sel (selE f 0) n) 0 0).toNat [st, 0]) := by
  obtain ⟨i, h1, h2, h3⟩ := sel_head h0
  have e0 : f i 0 = 0 := of_decide_eq_true h2
  obtain ⟨g1, g2, g3⟩ := ckF_zero h
  have gi := g3 i h1
  unfold fok at gi
  have hf : lF (sel (selE f 0) n) 0 0 = (i : Int) := by rw [h3]; exact lF_zero
  have hi : (lF (sel (selE f 0) n) 0 0).toNat = i := by rw [hf]; rfl
  rw [hi]
  have p0 : ∀ j q, putE f i [st, 0] j q = if j = i then ([st, 0][q]?).getD 0 else f j q := fun j q => rfl
  have hsome : ∀ m, pc (putE f i [st, 0]) m = pc f m + (if i < m ∧ st = 2 then 1 else 0) := fun m => by
    induction m with
    | zero => simp [pc]
    | succ m ih =>
      simp only [pc, ih, p0]
      by_cases hm : m = i
      · subst hm
        simp [e0]
        (repeat' split) <;> first | rfl | omega
      · simp only [if_neg hm]
        by_cases h2 : f m 0 = 2
        · simp only [if_pos h2]
          (repeat' split) <;> first | rfl | omega
        · simp only [if_neg h2]
          (repeat' split) <;> first | rfl | omega
  have hsn := hsome n
  have hl1 := pc_len (f := f) n
  have hl2 := pc_len (f := putE f i [st, 0]) n
  have hpc := ckF_pc h
  have ok : (ckF a b c d e n (putE f i [st, 0])).2 = 0 := by
    refine ckF_of g1 g2 (fun j hj => ?_) ?_
    · have gj := g3 j hj
      unfold fok at gj ⊢
      simp only [p0]
      by_cases hm : j = i
      · simp [hm]; omega
      · simp only [if_neg hm]; exact gj
    · rw [hsn]; split <;> omega
  refine ⟨i, h1, e0, gi.2.2.1 e0, hf, by simp [putE], by simp [putE], ?_, ?_, ok, ?_, fun j hj q => by rw [p0, if_neg hj]⟩
  · rw [h3]
    congr 1
    refine sel_congr fun j hj => ?_
    unfold selE
    simp only [p0]
    by_cases hm : j = i
    · simp [hm, e0]; omega
    · simp [hm]
  · have : ((List.length (sel (selE (putE f i [st, 0]) 2) n) : Nat) : Int) = List.length (sel (selE f 2) n) + (if st = 2 then 1 else 0) := by
      rw [← hl2, hsn, hl1]
      simp [h1]
    split at this <;> simp_all <;> omega
  · unfold askF
    rw [if_pos ok, if_neg (by omega)]
/-- How many of the first k frames are not free. -/
def busy (f : RF) : Nat → Int
  | 0 => 0
  | k + 1 => if f k 0 = 0 then busy f k else busy f k + 1
theorem busy_free {f : RF} : ∀ n : Nat, busy f n + (List.length (sel (selE f 0) n) : Int) = n
  | 0 => rfl
  | n + 1 => by
    have ih := busy_free (f := f) n
    by_cases h : f n 0 = 0
    · rw [sel_yes (selE_yes h), List.length_append]
      simp only [busy, if_pos h, List.length_singleton]
      omega
    · rw [sel_no (selE_no h)]
      simp only [busy, if_neg h]
      omega
theorem busy_bd {f : RF} : ∀ n : Nat, 0 ≤ busy f n ∧ busy f n ≤ n
  | 0 => by simp [busy]
  | n + 1 => by
    have ih := busy_bd (f := f) n
    simp only [busy]
    split <;> omega
def roOf (s : Rx.St) : List Value → Bool
  | [] => true
  | v :: vs => match v with
    | .slice (some ⟨b, _, some 0⟩) _ _ => match Rx.look s.h b with
      | some (.row ro _ _ _ _ _) => ro
      | _ => true
    | _ => roOf s vs
/-- What is told of rows that came in, and of others. -/
def specRo (c1 c2 : Con) : Rx.Spec := fun args s K => bif roOf s args then specOf c1 args s K else specOf c2 args s K
theorem told_ro {f : Nat} {c1 c2 : Con} (h1 : Told f (specOf c1)) (h2 : Told f (specOf c2)) : Told f (specRo c1 c2) :=
  ⟨h1.1, fun args s K hk => by
    unfold specRo at hk
    cases h : roOf s args with
    | true => rw [h] at hk; exact h1.2 args s K hk
    | false => rw [h] at hk; exact h2.2 args s K hk⟩
theorem parseR_mono {ks : List IntKind} {j : Nat} {v : Value} {bs : List Blk} {k k' : Nat → RF → Nat → List Blk → Prop} (h : ∀ n f j bs, k' n f j bs → k n f j bs) (x : parseR ks j v bs k') : parseR ks j v bs k := by
  obtain ⟨e, n, c, f, bs', rfl, hn, rfl, h'⟩ := parseR_inv x
  exact ⟨rfl, hn, ⟨rfl, rfl, rfl⟩, h _ _ _ _ h'⟩
def con37GFa : Con := fun vs bs K => match vs with
  | [u, v, .bool false] => five u fun a b c d e => parseR [.i64, .i64] 0 v bs fun n f j bs => bs = [] ∧ ((ckF a b c d e n f).2 = 0 ∧ ¬ sel (selE f 0) n = []) ∧ ∀ (i : Nat) (g : RF), Taken a b c d e n f 1 i g → ∀ cp, n ≤ cp → K (.tuple ⟨[rsl j 0 n cp, .int .i64 (i : Int), .int .i64 0]⟩) [.row false [.i64, .i64] 54 n cp g]
  | _ => False
theorem con37GFa_told : Told 37 (specOf con37GFa) := con37GF_told.mono fun vs bs K x => by
  unfold con37GFa at x
  unfold con37GF
  split at x
  · refine five_mono (fun a b c d e => parseR_mono fun n f j bs y => ?_) x
    obtain ⟨y1, y2, y4⟩ := y
    refine ⟨y1, y2, fun cp hcp => ?_⟩
    obtain ⟨i, T⟩ := taken y2.1 (by first | exact y2.2 | exact y2.2.1) (st := 1) (.inl rfl)
    have := y4 i _ T cp hcp
    rw [← T.first] at this
    exact this
  · exact x.elim
def con37GTa : Con := fun vs bs K => match vs with
  | [u, v, .bool true] => five u fun a b c d e => parseR [.i64, .i64] 0 v bs fun n f j bs => bs = [] ∧ ((ckF a b c d e n f).2 = 0 ∧ ¬ sel (selE f 0) n = [] ∧ ¬ sel (selE f 2) n = [] ∧ ¬ List.length (sel (selE f 2) n) = 2) ∧ ∀ (i : Nat) (g : RF), Taken a b c d e n f 2 i g → ∀ cp, n ≤ cp → K (.tuple ⟨[rsl j 0 n cp, .int .i64 (i : Int), .int .i64 0]⟩) [.row false [.i64, .i64] 54 n cp g]
  | _ => False
theorem con37GTa_told : Told 37 (specOf con37GTa) := con37GT_told.mono fun vs bs K x => by
  unfold con37GTa at x
  unfold con37GT
  split at x
  · refine five_mono (fun a b c d e => parseR_mono fun n f j bs y => ?_) x
    obtain ⟨y1, y2, y4⟩ := y
    refine ⟨y1, y2, fun cp hcp => ?_⟩
    obtain ⟨i, T⟩ := taken y2.1 (by first | exact y2.2 | exact y2.2.1) (st := 2) (.inr ⟨rfl, y2.2.2.2⟩)
    have := y4 i _ T cp hcp
    rw [← T.first] at this
    exact this
  · exact x.elim
def con37HTa : Con := fun vs bs K => match vs with
  | [u, v, .bool true] => five u fun a b c d e => parseR [.i64, .i64] 0 v bs fun n f j bs => bs = [] ∧ ((ckF a b c d e n f).2 = 0 ∧ ¬ sel (selE f 0) n = [] ∧ sel (selE f 2) n = []) ∧ ∀ (i : Nat) (g : RF), Taken a b c d e n f 2 i g → ∀ cp, n ≤ cp → K (.tuple ⟨[rsl j 0 n cp, .int .i64 (i : Int), .int .i64 0]⟩) [.row false [.i64, .i64] 54 n cp g]
  | _ => False
theorem con37HTa_told : Told 37 (specOf con37HTa) := con37HT_told.mono fun vs bs K x => by
  unfold con37HTa at x
  unfold con37HT
  split at x
  · refine five_mono (fun a b c d e => parseR_mono fun n f j bs y => ?_) x
    obtain ⟨y1, y2, y4⟩ := y
    refine ⟨y1, y2, fun cp hcp => ?_⟩
    obtain ⟨i, T⟩ := taken y2.1 (by first | exact y2.2 | exact y2.2.1) (st := 2) (.inr ⟨rfl, by rw [y2.2.2]; simp⟩)
    have := y4 i _ T cp hcp
    rw [← T.first] at this
    exact this
  · exact x.elim

def con26V : Con := onCF fun a b c d e n f j K => (ckF a b c d e n f).2 = 0 ∧ ((sel (selE f 2) n) = [] → K (.tuple ⟨[.slice none 0 0, .int .i64 0]⟩) []) ∧ (¬ (sel (selE f 2) n) = [] → ∀ cp, List.length (sel (selE f 2) n) ≤ cp → K (.tuple ⟨[rsl j 0 (List.length (sel (selE f 2) n)) cp, .int .i64 0]⟩) [.row false [.i64] 3 (List.length (sel (selE f 2) n)) cp (lF (sel (selE f 2) n))])
theorem con26V_told : Told 26 (specOf con26V) := con26_told.mono (onCF_mono fun a b c d e n f j K h => ⟨fun q => absurd h.1 q, fun _ => h.2⟩)
end Go.Proofs.Ytkflmglpniebfaa.Fr
