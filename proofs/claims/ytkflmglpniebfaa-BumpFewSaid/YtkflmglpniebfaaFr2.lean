/-
  Frames: the checks. No project text.
-/
import Derived.Test.YtkflmglpniebfaaFr0
namespace Go.Proofs.Ytkflmglpniebfaa.Fr
open Go.Rx
open Go.RowKit (Below)
set_option linter.unusedVariables false
/-- How many of the first k frames are popular. -/
def pc (f : RF) : Nat → Int
  | 0 => 0
  | k + 1 => if f k 0 = 2 then pc f k + 1 else pc f k
/-- The error from frame k on, l of them: which one has it, which it is. -/
def ck (a : Int) (f : RF) : Nat → Nat → Int × Int
  | 0, _ => (0, 0)
  | l + 1, k => if f k 0 < 0 ∨ 2 < f k 0 ∨ (f k 0 = 0 ∧ ¬ f k 1 = 0) then (k, 6) else if f k 1 < 0 ∨ a < f k 1 then (k, 7) else if f k 0 = 2 ∧ pc f k = 2 then (k, 5) else ck a f l (k + 1)
theorem ck_step (a : Int) (f : RF) {n k : Nat} (h : k < n) : ck a f (n - k) k = if f k 0 < 0 ∨ 2 < f k 0 ∨ (f k 0 = 0 ∧ ¬ f k 1 = 0) then ((k : Int), 6) else if f k 1 < 0 ∨ a < f k 1 then ((k : Int), 7) else if f k 0 = 2 ∧ pc f k = 2 then ((k : Int), 5) else ck a f (n - (k + 1)) (k + 1) := by
  rw [show n - k = (n - (k + 1)) + 1 by omega]
  rfl
def fok (a : Int) (f : RF) (k : Nat) : Prop := 0 ≤ f k 0 ∧ f k 0 ≤ 2 ∧ (f k 0 = 0 → f k 1 = 0) ∧ 0 ≤ f k 1 ∧ f k 1 ≤ a
theorem ck_ok (a : Int) (f : RF) : ∀ (l k : Nat), (ck a f l k).2 = 0 → ∀ i, k ≤ i → i < k + l → fok a f i
  | 0, k, _, i, h1, h2 => by omega
  | l + 1, k, h, i, h1, h2 => by
    unfold ck at h
    split at h
    · cases h
    · split at h
      · cases h
      · split at h
        · cases h
        · rcases Nat.lt_or_ge k i with q | q
          · exact ck_ok a f l (k + 1) h i (by omega) (by omega)
          · obtain rfl : i = k := by omega
            unfold fok
            omega
/-- What a check of frames returns. -/
def ckF (a b c d e : Int) (n : Nat) (f : RF) : Int × Int := if chk a b c d e = 0 then (if (n : Int) = b then ck a f n 0 else (-1, 3)) else (-1, chk a b c d e)
theorem ckF_bad {a b c d e : Int} {n : Nat} {f : RF} (h : ¬ chk a b c d e = 0) : ckF a b c d e n f = (-1, chk a b c d e) := if_neg h
theorem ckF_long {a b c d e : Int} {n : Nat} {f : RF} (h : chk a b c d e = 0) (h' : ¬ (n : Int) = b) : ckF a b c d e n f = (-1, 3) := by unfold ckF; rw [if_pos h, if_neg h']
theorem ckF_go {a b c d e : Int} {n : Nat} {f : RF} (h : chk a b c d e = 0) (h' : (n : Int) = b) : ckF a b c d e n f = ck a f n 0 := by unfold ckF; rw [if_pos h, if_pos h']
theorem chk_good {a b c d e : Int} (h : chk a b c d e = 0) : good a b c d e := by
  unfold chk at h
  split at h
  · assumption
  · cases h
theorem ckF_zero {a b c d e : Int} {n : Nat} {f : RF} (h : (ckF a b c d e n f).2 = 0) : good a b c d e ∧ (n : Int) = b ∧ ∀ i, i < n → fok a f i := by
  unfold ckF at h
  split at h
  · rename_i g
    split at h
    · rename_i g'
      exact ⟨chk_good g, g', fun i hi => ck_ok a f n 0 h i (by omega) (by omega)⟩
    · cases h
  · exact absurd h (by assumption)
def con67 : Con := fun vs bs K => match vs with
  | [u] => five u fun a b c d e => bs = [] ∧ K (.int .i64 (chk a b c d e)) []
  | _ => False

def con67_zA (a : Int) (b : Int) (c : Int) (d : Int) (e : Int) : Ann := fun _ _ _ => none
def con21 : Con := fun vs bs K => match vs with
  | [u, v] => five u fun a b c d e => parse [.i64, .i64] 0 v bs fun n f _ bs => bs = [] ∧ K (.tuple ⟨[.int .i64 (ckF a b c d e n f).1, .int .i64 (ckF a b c d e n f).2]⟩) []
  | _ => False

def con21_nA (a : Int) (b : Int) (c : Int) (d : Int) (e : Int) : Ann := fun k _ _ => bif Nat.beq k 8 then some [{ α := Nat, T := fun k => ⟨66, [(2, .pointer (some ⟨0, 0, none⟩)), (7, .int .i64 (pc zF k)), (20, .slice none 0 0), (21, .int .i64 (0 : Nat)), (22, .int .i64 (k : Int))]⟩, S := fun _ => ⟨[(0, .cells [.int .i64 a, .int .i64 b, .int .i64 c, .int .i64 d, .int .i64 e] 23)], 1⟩, I := fun k => k ≤ 0 ∧ 0 ≤ pc zF k ∧ pc zF k ≤ 2 ∧ ck a zF (0 - k) k = ck a zF 0 0, m := fun k => 0 - k, ρ0 := [(0, 0)], ρ1 := [[(0, 0)]] }] else none
def con21_rA (el nl cl : Nat) (fl : RF) (a : Int) (b : Int) (c : Int) (d : Int) (e : Int) : Ann := fun k _ _ => bif Nat.beq k 8 then some [{ α := Nat, T := fun k => ⟨66, [(2, .pointer (some ⟨1, 0, none⟩)), (7, .int .i64 (pc fl k)), (20, rsl 0 0 nl cl), (21, .int .i64 (nl : Nat)), (22, .int .i64 (k : Int))]⟩, S := fun _ => ⟨[(1, .cells [.int .i64 a, .int .i64 b, .int .i64 c, .int .i64 d, .int .i64 e] 23), (0, .row true [.i64, .i64] el nl cl fl)], 2⟩, I := fun k => k ≤ nl ∧ 0 ≤ pc fl k ∧ pc fl k ≤ 2 ∧ ck a fl (nl - k) k = ck a fl nl 0, m := fun k => nl - k, ρ0 := [(1, 1)], ρ1 := [[(1, 1)]] }] else none
def con22 : Con := fun vs bs K => match vs with
  | [u, v] => five u fun a b c d e => parse [.i64, .i64] 0 v bs fun n f _ bs => bs = [] ∧ K (.tuple ⟨[.int .i64 (ckF a b c d e n f).1, .int .i64 (ckF a b c d e n f).2]⟩) []
  | _ => False

def con22_nA (a : Int) (b : Int) (c : Int) (d : Int) (e : Int) : Ann := fun k _ _ => bif Nat.beq k 8 then some [{ α := Nat, T := fun k => ⟨88, [(2, .pointer (some ⟨0, 0, none⟩)), (1, .slice none 0 0), (7, .int .i64 (pc zF k)), (8, .int .i64 (k : Int))]⟩, S := fun _ => ⟨[(0, .cells [.int .i64 a, .int .i64 b, .int .i64 c, .int .i64 d, .int .i64 e] 23)], 1⟩, I := fun k => k ≤ 0 ∧ 0 ≤ pc zF k ∧ pc zF k ≤ 2 ∧ ck a zF (0 - k) k = ck a zF 0 0, m := fun k => 0 - k, ρ0 := [(0, 0)], ρ1 := [[(0, 0)]] }] else none
def con22_rA (el nl cl : Nat) (fl : RF) (a : Int) (b : Int) (c : Int) (d : Int) (e : Int) : Ann := fun k _ _ => bif Nat.beq k 8 then some [{ α := Nat, T := fun k => ⟨88, [(2, .pointer (some ⟨1, 0, none⟩)), (1, rsl 0 0 nl cl), (7, .int .i64 (pc fl k)), (8, .int .i64 (k : Int))]⟩, S := fun _ => ⟨[(1, .cells [.int .i64 a, .int .i64 b, .int .i64 c, .int .i64 d, .int .i64 e] 23), (0, .row true [.i64, .i64] el nl cl fl)], 2⟩, I := fun k => k ≤ nl ∧ 0 ≤ pc fl k ∧ pc fl k ≤ 2 ∧ ck a fl (nl - k) k = ck a fl nl 0, m := fun k => nl - k, ρ0 := [(1, 1)], ρ1 := [[(1, 1)]] }] else none
set_option maxRecDepth 100000 in
def con67_zV (a : Int) (b : Int) (c : Int) (d : Int) (e : Int) (K : Value → List Blk → Prop) : Prop := (T0 ∧ (T0 ∧ (T0 ∧ (T0 ∧ (if (8 ≤ a) then (T0 ∧ (if (a ≤ 64) then (T0 ∧ (T0 ∧ (T0 ∧ (if (7 ≤ b) then (T0 ∧ (if (b ≤ 24) then (T0 ∧ (T0 ∧ (T0 ∧ (if (4 ≤ c) then (T0 ∧ (if (c ≤ 64) then (T0 ∧ (T0 ∧ (T0 ∧ (if (1 ≤ d) then (T0 ∧ (if (d ≤ 8) then (T0 ∧ (T0 ∧ (T0 ∧ (if (2 ≤ e) then (T0 ∧ (if (e ≤ 16) then (∃ y0 : Value, (∃ y1 : List Blk, ((Go.Rx.Found 0 (vi 0) ({ h := [(0, CB a b c d e)], next := 1 }) (y0) (y1)) ∧ (K y0 y1)))) else (∃ y0 : Value, (∃ y1 : List Blk, ((Go.Rx.Found 0 (vi 7) ({ h := [(0, CB a b c d e)], next := 1 }) (y0) (y1)) ∧ (K y0 y1)))))) else (∃ y0 : Value, (∃ y1 : List Blk, ((Go.Rx.Found 0 (vi 7) ({ h := [(0, CB a b c d e)], next := 1 }) (y0) (y1)) ∧ (K y0 y1)))))))) else (∃ y0 : Value, (∃ y1 : List Blk, ((Go.Rx.Found 0 (vi 7) ({ h := [(0, CB a b c d e)], next := 1 }) (y0) (y1)) ∧ (K y0 y1)))))) else (∃ y0 : Value, (∃ y1 : List Blk, ((Go.Rx.Found 0 (vi 7) ({ h := [(0, CB a b c d e)], next := 1 }) (y0) (y1)) ∧ (K y0 y1)))))))) else (∃ y0 : Value, (∃ y1 : List Blk, ((Go.Rx.Found 0 (vi 7) ({ h := [(0, CB a b c d e)], next := 1 }) (y0) (y1)) ∧ (K y0 y1)))))) else (∃ y0 : Value, (∃ y1 : List Blk, ((Go.Rx.Found 0 (vi 7) ({ h := [(0, CB a b c d e)], next := 1 }) (y0) (y1)) ∧ (K y0 y1)))))))) else (∃ y0 : Value, (∃ y1 : List Blk, ((Go.Rx.Found 0 (vi 7) ({ h := [(0, CB a b c d e)], next := 1 }) (y0) (y1)) ∧ (K y0 y1)))))) else (∃ y0 : Value, (∃ y1 : List Blk, ((Go.Rx.Found 0 (vi 7) ({ h := [(0, CB a b c d e)], next := 1 }) (y0) (y1)) ∧ (K y0 y1)))))))) else (∃ y0 : Value, (∃ y1 : List Blk, ((Go.Rx.Found 0 (vi 7) ({ h := [(0, CB a b c d e)], next := 1 }) (y0) (y1)) ∧ (K y0 y1)))))) else (∃ y0 : Value, (∃ y1 : List Blk, ((Go.Rx.Found 0 (vi 7) ({ h := [(0, CB a b c d e)], next := 1 }) (y0) (y1)) ∧ (K y0 y1)))))))))
set_option maxRecDepth 100000 in
theorem con67_zE (a : Int) (b : Int) (c : Int) (d : Int) (e : Int) (K : Value → List Blk → Prop) : con67_zV a b c d e K = bodyX (mk []) (callN (mk []) 3) (con67_zA a b c d e) Try.f67 [.agg ⟨[.int .i64 a, .int .i64 b, .int .i64 c, .int .i64 d, .int .i64 e]⟩] (stOf []) fun v s' => ∃ v1 news, Rx.Found 0 v s' v1 news ∧ K v1 news := by kernel_rfl
set_option maxRecDepth 100000 in
set_option maxHeartbeats 4000000 in
set_option tactic.hygienic false in
theorem con67_zP (a : Int) (b : Int) (c : Int) (d : Int) (e : Int) (K : Value → List Blk → Prop)  (hI : InC a b c d e) (h : K (.int .i64 (chk a b c d e)) []) : con67_zV a b c d e K := by
  unfold con67_zV
  repeat' (first | (with_reducible exact rfl) | (with_reducible exact trivial) | (with_reducible refine And.intro ?_ ?_) | (intro) | (with_reducible refine br_intro (fun hq => ?_) (fun hq => ?_)) | (with_reducible refine if_both (fun hz => ?_) (fun hz => ?_)) | fail)
  all_goals first
    | exact fin0 (by kernel_rfl) (by kernel_rfl) (by
        have q : chk a b c d e = 7 := if_neg (by unfold good; omega)
        rw [q] at h; exact h)
    | exact fin0 (by kernel_rfl) (by kernel_rfl) (by
        have q : chk a b c d e = 0 := if_pos (by unfold good; omega)
        rw [q] at h; exact h)
theorem con67_ok : BodyOk (mk []) 3 Try.f67 con67 := by
  intro vs bs K hh hro
  clear hro
  unfold con67 at hh
  split at hh
  · obtain ⟨a, b, c, d, e, rfl, hI, hh0⟩ := five_inv hh
    obtain ⟨rfl, hc⟩ := hh0
    exact ⟨_, _, cast (con67_zE a b c d e K) (con67_zP a b c d e K hI hc)⟩
  · exact hh.elim
theorem con67_told : Told 67 (specOf con67) := told (X := []) (fun _ h => by cases h) (by kernel_rfl) (by kernel_rfl) (by kernel_rfl) con67_ok
set_option maxRecDepth 100000 in
def con21_nV (a : Int) (b : Int) (c : Int) (d : Int) (e : Int) (K : Value → List Blk → Prop) : Prop := (T0 ∧ (T0 ∧ ((InC a b c d e) ∧ (T0 ∧ (if (@Eq Int (chk a b c d e) (0)) then (TS ∧ (T0 ∧ (T0 ∧ (if (@Eq Int (0) (b)) then (TS ∧ ((∃ y0 : Nat, ((Go.Rx.Sub 0 [(0, 0)] ⟨66, [(22, vi 0), (21, vi 0), (20, vn), (7, vi 0), (2, pt 0 0)]⟩ ⟨[(0, CB a b c d e)], 1⟩ ({ n := 66, m := [(2, pt 0 0), (7, vi (pc zF y0)), (20, vn), (21, vi 0), (22, vi (↑y0 : Int))] }) ({ h := [(0, CB a b c d e)], next := 1 })) ∧ ((y0 ≤ 0) ∧ ((0 ≤ pc zF y0) ∧ ((pc zF y0 ≤ 2) ∧ (ck a zF (0 - y0) y0 = ck a zF 0 0)))))) ∧ (∀ y0 : Nat, (((y0 ≤ 0) ∧ ((0 ≤ pc zF y0) ∧ ((pc zF y0 ≤ 2) ∧ (ck a zF (0 - y0) y0 = ck a zF 0 0)))) → (T0 ∧ (∃ y1 : Value, (∃ y2 : List Blk, ((Go.Rx.Found 0 (vt [vi 0, vi 0]) ({ h := [(0, CB a b c d e)], next := 1 }) (y1) (y2)) ∧ (K y1 y2))))))))) else (∃ y0 : Value, (∃ y1 : List Blk, ((Go.Rx.Found 0 (vt [vi (-1 : Int), vi 3]) ({ h := [(0, CB a b c d e)], next := 1 }) (y0) (y1)) ∧ (K y0 y1)))))))) else (∃ y0 : Value, (∃ y1 : List Blk, ((Go.Rx.Found 0 (vt [vi (-1 : Int), vi (chk a b c d e)]) ({ h := [(0, CB a b c d e)], next := 1 }) (y0) (y1)) ∧ (K y0 y1)))))))))
set_option maxRecDepth 100000 in
theorem con21_nE (a : Int) (b : Int) (c : Int) (d : Int) (e : Int) (K : Value → List Blk → Prop) : con21_nV a b c d e K = bodyX (mk [(66, sp66)]) (callN (mk [(66, sp66)]) 3) (con21_nA a b c d e) Try.f21 [.agg ⟨[.int .i64 a, .int .i64 b, .int .i64 c, .int .i64 d, .int .i64 e]⟩, .slice none 0 0] (stOf []) fun v s' => ∃ v1 news, Rx.Found 0 v s' v1 news ∧ K v1 news := by kernel_rfl
set_option maxRecDepth 100000 in
set_option maxHeartbeats 4000000 in
set_option tactic.hygienic false in
theorem con21_nP (a : Int) (b : Int) (c : Int) (d : Int) (e : Int) (K : Value → List Blk → Prop)  (hI : InC a b c d e) (h : K (.tuple ⟨[.int .i64 (ckF a b c d e 0 zF).1, .int .i64 (ckF a b c d e 0 zF).2]⟩) []) : con21_nV a b c d e K := by
  unfold con21_nV
  repeat' (first | (with_reducible exact rfl) | (with_reducible exact trivial) | (with_reducible refine And.intro ?_ ?_) | (intro) | (with_reducible refine br_intro (fun hq => ?_) (fun hq => ?_)) | (with_reducible refine if_both (fun hz => ?_) (fun hz => ?_)) | fail)
  all_goals first
    | omega
    | assumption
    | exact ⟨0, (by (refine And.intro (And.intro rfl (And.intro rfl (And.intro rfl rfl))) ?_; (repeat' (first | exact trivial | exact rfl | exact fun _ _ _ _ => rfl | refine And.intro ?_ ?_ | omega | fail)); done)), by omega, by simp [pc], by simp [pc], rfl⟩
    | (refine ⟨y0 + 1, (by (refine And.intro (And.intro rfl (And.intro rfl (And.intro rfl rfl))) ?_; (repeat' (first | exact trivial | exact rfl | exact fun _ _ _ _ => rfl | refine And.intro ?_ ?_ | omega | (simp only [pc]; first | rw [if_pos (by omega)] | rw [if_neg (by omega)]) | fail)); done)), ⟨by omega, ?_, ?_, ?_⟩, by omega⟩
       · have q := ‹y0 ≤ 0 ∧ 0 ≤ pc zF y0 ∧ pc zF y0 ≤ 2 ∧ ck a zF (0 - y0) y0 = ck a zF 0 0›
         simp only [pc]; split <;> omega
       · have q := ‹y0 ≤ 0 ∧ 0 ≤ pc zF y0 ∧ pc zF y0 ≤ 2 ∧ ck a zF (0 - y0) y0 = ck a zF 0 0›
         simp only [pc]; split <;> omega
       · have q := ‹y0 ≤ 0 ∧ 0 ≤ pc zF y0 ∧ pc zF y0 ≤ 2 ∧ ck a zF (0 - y0) y0 = ck a zF 0 0›
         have q2 := ck_step a zF (n := 0) (k := y0) (by omega)
         rw [if_neg (by omega), if_neg (by omega), if_neg (by omega)] at q2
         rw [← q2]
         exact q.2.2.2)
    | exact fin0 (by kernel_rfl) (by kernel_rfl) (by
        rw [ckF_bad (by assumption)] at h; exact h)
    | exact fin0 (by kernel_rfl) (by kernel_rfl) (by
        rw [ckF_long (by assumption) (by assumption)] at h; exact h)
    | exact fin0 (by kernel_rfl) (by kernel_rfl) (by
        have q := ‹y0 ≤ 0 ∧ 0 ≤ pc zF y0 ∧ pc zF y0 ≤ 2 ∧ ck a zF (0 - y0) y0 = ck a zF 0 0›
        have q2 := ck_step a zF (n := 0) (k := y0) (by omega)
        rw [ckF_go (by assumption) (by assumption), ← q.2.2.2, q2] at h
        first
          | (rw [if_pos (by omega)] at h; exact h)
          | (rw [if_neg (by omega), if_pos (by omega)] at h; exact h)
          | (rw [if_neg (by omega), if_neg (by omega), if_pos (by omega)] at h; exact h))
    | exact fin0 (by kernel_rfl) (by kernel_rfl) (by
        have q := ‹y0 ≤ 0 ∧ 0 ≤ pc zF y0 ∧ pc zF y0 ≤ 2 ∧ ck a zF (0 - y0) y0 = ck a zF 0 0›
        rw [ckF_go (by assumption) (by assumption), ← q.2.2.2, show 0 - y0 = 0 by omega] at h
        exact h)
set_option maxRecDepth 100000 in
def con21_rV (el nl cl : Nat) (fl : RF) (a : Int) (b : Int) (c : Int) (d : Int) (e : Int) (K : Value → List Blk → Prop) : Prop := (T0 ∧ (T0 ∧ ((InC a b c d e) ∧ (T0 ∧ (if (@Eq Int (chk a b c d e) (0)) then (TS ∧ (T0 ∧ (T0 ∧ (if (@Eq Int ((↑nl : Int)) (b)) then (TS ∧ ((∃ y0 : Nat, ((Go.Rx.Sub 1 [(1, 1)] ⟨66, [(22, vi 0), (21, vi (↑nl : Int)), (20, rsl 0 0 nl cl), (7, vi 0), (2, pt 1 0)]⟩ ⟨[(1, CB a b c d e), (0, rT el nl cl fl)], 2⟩ ({ n := 66, m := [(2, pt 1 0), (7, vi (pc fl y0)), (20, rsl 0 0 nl cl), (21, vi (↑nl : Int)), (22, vi (↑y0 : Int))] }) ({ h := [(1, CB a b c d e), (0, rT el nl cl fl)], next := 2 })) ∧ ((y0 ≤ nl) ∧ ((0 ≤ pc fl y0) ∧ ((pc fl y0 ≤ 2) ∧ (ck a fl (nl - y0) y0 = ck a fl nl 0)))))) ∧ (∀ y0 : Nat, (((y0 ≤ nl) ∧ ((0 ≤ pc fl y0) ∧ ((pc fl y0 ≤ 2) ∧ (ck a fl (nl - y0) y0 = ck a fl nl 0)))) → (T0 ∧ (if ((↑y0 : Int) < (↑nl : Int)) then ((TS ∧ (eN 2)) ∧ (((0 ≤ (↑y0 : Int)) ∧ ((↑y0 : Int) < (↑nl : Int))) ∧ ((y0 < nl) ∧ (((eN 0) ∧ (eN 2)) ∧ (T0 ∧ (T0 ∧ (T0 ∧ (T0 ∧ (if (fl y0 0 < 0) then (∃ y1 : Value, (∃ y2 : List Blk, ((Go.Rx.Found 1 (vt [vi (↑y0 : Int), vi 6]) ({ h := [(2, Blk.cells [vi (fl y0 0), vi (fl y0 1)] 54), (1, CB a b c d e), (0, rT el nl cl fl)], next := 3 }) (y1) (y2)) ∧ (K y1 y2)))) else (T0 ∧ (T0 ∧ (if (2 < fl y0 0) then (∃ y1 : Value, (∃ y2 : List Blk, ((Go.Rx.Found 1 (vt [vi (↑y0 : Int), vi 6]) ({ h := [(2, Blk.cells [vi (fl y0 0), vi (fl y0 1)] 54), (1, CB a b c d e), (0, rT el nl cl fl)], next := 3 }) (y1) (y2)) ∧ (K y1 y2)))) else (T0 ∧ (T0 ∧ (if (@Eq Int (fl y0 0) (0)) then (T0 ∧ (T0 ∧ (if (@Eq Int (fl y0 1) (0)) then (T0 ∧ (T0 ∧ (if (fl y0 1 < 0) then (∃ y1 : Value, (∃ y2 : List Blk, ((Go.Rx.Found 1 (vt [vi (↑y0 : Int), vi 7]) ({ h := [(2, Blk.cells [vi (fl y0 0), vi (fl y0 1)] 54), (1, CB a b c d e), (0, rT el nl cl fl)], next := 3 }) (y1) (y2)) ∧ (K y1 y2)))) else (T0 ∧ (T0 ∧ (T0 ∧ (if (a < fl y0 1) then (∃ y1 : Value, (∃ y2 : List Blk, ((Go.Rx.Found 1 (vt [vi (↑y0 : Int), vi 7]) ({ h := [(2, Blk.cells [vi (fl y0 0), vi (fl y0 1)] 54), (1, CB a b c d e), (0, rT el nl cl fl)], next := 3 }) (y1) (y2)) ∧ (K y1 y2)))) else (T0 ∧ (T0 ∧ (if (@Eq Int (fl y0 0) (2)) then (T0 ∧ (if (@Eq Int (pc fl y0) (2)) then (∃ y1 : Value, (∃ y2 : List Blk, ((Go.Rx.Found 1 (vt [vi (↑y0 : Int), vi 5]) ({ h := [(2, Blk.cells [vi (fl y0 0), vi (fl y0 1)] 54), (1, CB a b c d e), (0, rT el nl cl fl)], next := 3 }) (y1) (y2)) ∧ (K y1 y2)))) else (T0 ∧ ((((-9223372036854775808 : Int) ≤ pc fl y0 + 1) ∧ (pc fl y0 + (1 : Int) ≤ 9223372036854775807)) ∧ (T0 ∧ ((((-9223372036854775808 : Int) ≤ (↑y0 : Int) + 1) ∧ ((↑y0 : Int) + (1 : Int) ≤ 9223372036854775807)) ∧ (∃ y1 : Nat, ((Go.Rx.Sub 1 [(1, 1)] ⟨66, [(22, vi ((↑y0 : Int) + 1)), (7, vi (pc fl y0 + 1)), (2, pt 1 0), (20, rsl 0 0 nl cl), (21, vi (↑nl : Int))]⟩ ⟨[(1, CB a b c d e), (0, rT el nl cl fl)], 3⟩ ({ n := 66, m := [(2, pt 1 0), (7, vi (pc fl y1)), (20, rsl 0 0 nl cl), (21, vi (↑nl : Int)), (22, vi (↑y1 : Int))] }) ({ h := [(1, CB a b c d e), (0, rT el nl cl fl)], next := 2 })) ∧ (((y1 ≤ nl) ∧ ((0 ≤ pc fl y1) ∧ ((pc fl y1 ≤ 2) ∧ (ck a fl (nl - y1) y1 = ck a fl nl 0)))) ∧ (nl - y1 < nl - y0)))))))))) else (T0 ∧ ((((-9223372036854775808 : Int) ≤ (↑y0 : Int) + 1) ∧ ((↑y0 : Int) + (1 : Int) ≤ 9223372036854775807)) ∧ (∃ y1 : Nat, ((Go.Rx.Sub 1 [(1, 1)] ⟨66, [(22, vi ((↑y0 : Int) + 1)), (2, pt 1 0), (7, vi (pc fl y0)), (20, rsl 0 0 nl cl), (21, vi (↑nl : Int))]⟩ ⟨[(1, CB a b c d e), (0, rT el nl cl fl)], 3⟩ ({ n := 66, m := [(2, pt 1 0), (7, vi (pc fl y1)), (20, rsl 0 0 nl cl), (21, vi (↑nl : Int)), (22, vi (↑y1 : Int))] }) ({ h := [(1, CB a b c d e), (0, rT el nl cl fl)], next := 2 })) ∧ (((y1 ≤ nl) ∧ ((0 ≤ pc fl y1) ∧ ((pc fl y1 ≤ 2) ∧ (ck a fl (nl - y1) y1 = ck a fl nl 0)))) ∧ (nl - y1 < nl - y0)))))))))))))))) else (∃ y1 : Value, (∃ y2 : List Blk, ((Go.Rx.Found 1 (vt [vi (↑y0 : Int), vi 6]) ({ h := [(2, Blk.cells [vi (fl y0 0), vi (fl y0 1)] 54), (1, CB a b c d e), (0, rT el nl cl fl)], next := 3 }) (y1) (y2)) ∧ (K y1 y2))))))) else (T0 ∧ (T0 ∧ (if (fl y0 1 < 0) then (∃ y1 : Value, (∃ y2 : List Blk, ((Go.Rx.Found 1 (vt [vi (↑y0 : Int), vi 7]) ({ h := [(2, Blk.cells [vi (fl y0 0), vi (fl y0 1)] 54), (1, CB a b c d e), (0, rT el nl cl fl)], next := 3 }) (y1) (y2)) ∧ (K y1 y2)))) else (T0 ∧ (T0 ∧ (T0 ∧ (if (a < fl y0 1) then (∃ y1 : Value, (∃ y2 : List Blk, ((Go.Rx.Found 1 (vt [vi (↑y0 : Int), vi 7]) ({ h := [(2, Blk.cells [vi (fl y0 0), vi (fl y0 1)] 54), (1, CB a b c d e), (0, rT el nl cl fl)], next := 3 }) (y1) (y2)) ∧ (K y1 y2)))) else (T0 ∧ (T0 ∧ (if (@Eq Int (fl y0 0) (2)) then (T0 ∧ (if (@Eq Int (pc fl y0) (2)) then (∃ y1 : Value, (∃ y2 : List Blk, ((Go.Rx.Found 1 (vt [vi (↑y0 : Int), vi 5]) ({ h := [(2, Blk.cells [vi (fl y0 0), vi (fl y0 1)] 54), (1, CB a b c d e), (0, rT el nl cl fl)], next := 3 }) (y1) (y2)) ∧ (K y1 y2)))) else (T0 ∧ ((((-9223372036854775808 : Int) ≤ pc fl y0 + 1) ∧ (pc fl y0 + (1 : Int) ≤ 9223372036854775807)) ∧ (T0 ∧ ((((-9223372036854775808 : Int) ≤ (↑y0 : Int) + 1) ∧ ((↑y0 : Int) + (1 : Int) ≤ 9223372036854775807)) ∧ (∃ y1 : Nat, ((Go.Rx.Sub 1 [(1, 1)] ⟨66, [(22, vi ((↑y0 : Int) + 1)), (7, vi (pc fl y0 + 1)), (2, pt 1 0), (20, rsl 0 0 nl cl), (21, vi (↑nl : Int))]⟩ ⟨[(1, CB a b c d e), (0, rT el nl cl fl)], 3⟩ ({ n := 66, m := [(2, pt 1 0), (7, vi (pc fl y1)), (20, rsl 0 0 nl cl), (21, vi (↑nl : Int)), (22, vi (↑y1 : Int))] }) ({ h := [(1, CB a b c d e), (0, rT el nl cl fl)], next := 2 })) ∧ (((y1 ≤ nl) ∧ ((0 ≤ pc fl y1) ∧ ((pc fl y1 ≤ 2) ∧ (ck a fl (nl - y1) y1 = ck a fl nl 0)))) ∧ (nl - y1 < nl - y0)))))))))) else (T0 ∧ ((((-9223372036854775808 : Int) ≤ (↑y0 : Int) + 1) ∧ ((↑y0 : Int) + (1 : Int) ≤ 9223372036854775807)) ∧ (∃ y1 : Nat, ((Go.Rx.Sub 1 [(1, 1)] ⟨66, [(22, vi ((↑y0 : Int) + 1)), (2, pt 1 0), (7, vi (pc fl y0)), (20, rsl 0 0 nl cl), (21, vi (↑nl : Int))]⟩ ⟨[(1, CB a b c d e), (0, rT el nl cl fl)], 3⟩ ({ n := 66, m := [(2, pt 1 0), (7, vi (pc fl y1)), (20, rsl 0 0 nl cl), (21, vi (↑nl : Int)), (22, vi (↑y1 : Int))] }) ({ h := [(1, CB a b c d e), (0, rT el nl cl fl)], next := 2 })) ∧ (((y1 ≤ nl) ∧ ((0 ≤ pc fl y1) ∧ ((pc fl y1 ≤ 2) ∧ (ck a fl (nl - y1) y1 = ck a fl nl 0)))) ∧ (nl - y1 < nl - y0))))))))))))))))))))))))))))))) else (∃ y1 : Value, (∃ y2 : List Blk, ((Go.Rx.Found 1 (vt [vi 0, vi 0]) ({ h := [(1, CB a b c d e), (0, rT el nl cl fl)], next := 2 }) (y1) (y2)) ∧ (K y1 y2)))))))))) else (∃ y0 : Value, (∃ y1 : List Blk, ((Go.Rx.Found 1 (vt [vi (-1 : Int), vi 3]) ({ h := [(1, CB a b c d e), (0, rT el nl cl fl)], next := 2 }) (y0) (y1)) ∧ (K y0 y1)))))))) else (∃ y0 : Value, (∃ y1 : List Blk, ((Go.Rx.Found 1 (vt [vi (-1 : Int), vi (chk a b c d e)]) ({ h := [(1, CB a b c d e), (0, rT el nl cl fl)], next := 2 }) (y0) (y1)) ∧ (K y0 y1)))))))))
set_option maxRecDepth 100000 in
theorem con21_rE (el nl cl : Nat) (fl : RF) (a : Int) (b : Int) (c : Int) (d : Int) (e : Int) (K : Value → List Blk → Prop) : con21_rV el nl cl fl a b c d e K = bodyX (mk [(66, sp66)]) (callN (mk [(66, sp66)]) 3) (con21_rA el nl cl fl a b c d e) Try.f21 [.agg ⟨[.int .i64 a, .int .i64 b, .int .i64 c, .int .i64 d, .int .i64 e]⟩, rsl 0 0 nl cl] (stOf [.row true [.i64, .i64] el nl cl fl]) fun v s' => ∃ v1 news, Rx.Found 1 v s' v1 news ∧ K v1 news := by kernel_rfl
set_option maxRecDepth 100000 in
set_option maxHeartbeats 4000000 in
set_option tactic.hygienic false in
theorem con21_rP (el nl cl : Nat) (fl : RF) (a : Int) (b : Int) (c : Int) (d : Int) (e : Int) (K : Value → List Blk → Prop)  (hI : InC a b c d e) (hnl : nl ≤ 100000) (h : K (.tuple ⟨[.int .i64 (ckF a b c d e nl fl).1, .int .i64 (ckF a b c d e nl fl).2]⟩) []) : con21_rV el nl cl fl a b c d e K := by
  unfold con21_rV
  repeat' (first | (with_reducible exact rfl) | (with_reducible exact trivial) | (with_reducible refine And.intro ?_ ?_) | (intro) | (with_reducible refine br_intro (fun hq => ?_) (fun hq => ?_)) | (with_reducible refine if_both (fun hz => ?_) (fun hz => ?_)) | fail)
  all_goals first
    | omega
    | assumption
    | exact ⟨0, (by (refine And.intro (And.intro rfl (And.intro rfl (And.intro rfl rfl))) ?_; (repeat' (first | exact trivial | exact rfl | exact fun _ _ _ _ => rfl | refine And.intro ?_ ?_ | omega | fail)); done)), by omega, by simp [pc], by simp [pc], rfl⟩
    | (refine ⟨y0 + 1, (by (refine And.intro (And.intro rfl (And.intro rfl (And.intro rfl rfl))) ?_; (repeat' (first | exact trivial | exact rfl | exact fun _ _ _ _ => rfl | refine And.intro ?_ ?_ | omega | (simp only [pc]; first | rw [if_pos (by omega)] | rw [if_neg (by omega)]) | fail)); done)), ⟨by omega, ?_, ?_, ?_⟩, by omega⟩
       · have q := ‹y0 ≤ nl ∧ 0 ≤ pc fl y0 ∧ pc fl y0 ≤ 2 ∧ ck a fl (nl - y0) y0 = ck a fl nl 0›
         simp only [pc]; split <;> omega
       · have q := ‹y0 ≤ nl ∧ 0 ≤ pc fl y0 ∧ pc fl y0 ≤ 2 ∧ ck a fl (nl - y0) y0 = ck a fl nl 0›
         simp only [pc]; split <;> omega
       · have q := ‹y0 ≤ nl ∧ 0 ≤ pc fl y0 ∧ pc fl y0 ≤ 2 ∧ ck a fl (nl - y0) y0 = ck a fl nl 0›
         have q2 := ck_step a fl (n := nl) (k := y0) (by omega)
         rw [if_neg (by omega), if_neg (by omega), if_neg (by omega)] at q2
         rw [← q2]
         exact q.2.2.2)
    | exact fin0 (by kernel_rfl) (by kernel_rfl) (by
        rw [ckF_bad (by assumption)] at h; exact h)
    | exact fin0 (by kernel_rfl) (by kernel_rfl) (by
        rw [ckF_long (by assumption) (by assumption)] at h; exact h)
    | exact fin0 (by kernel_rfl) (by kernel_rfl) (by
        have q := ‹y0 ≤ nl ∧ 0 ≤ pc fl y0 ∧ pc fl y0 ≤ 2 ∧ ck a fl (nl - y0) y0 = ck a fl nl 0›
        have q2 := ck_step a fl (n := nl) (k := y0) (by omega)
        rw [ckF_go (by assumption) (by assumption), ← q.2.2.2, q2] at h
        first
          | (rw [if_pos (by omega)] at h; exact h)
          | (rw [if_neg (by omega), if_pos (by omega)] at h; exact h)
          | (rw [if_neg (by omega), if_neg (by omega), if_pos (by omega)] at h; exact h))
    | exact fin0 (by kernel_rfl) (by kernel_rfl) (by
        have q := ‹y0 ≤ nl ∧ 0 ≤ pc fl y0 ∧ pc fl y0 ≤ 2 ∧ ck a fl (nl - y0) y0 = ck a fl nl 0›
        rw [ckF_go (by assumption) (by assumption), ← q.2.2.2, show nl - y0 = 0 by omega] at h
        exact h)
theorem con21_ok : BodyOk (mk [(66, sp66)]) 3 Try.f21 con21 := by
  intro vs bs K hh hro
  clear hro
  unfold con21 at hh
  split at hh
  · obtain ⟨a, b, c, d, e, rfl, hI, hh0⟩ := five_inv hh
    rcases parse_inv hh0 with ⟨rfl, hh1⟩ | ⟨el, nl, cl, fl, bs1, rfl, hnl, rfl, hh1⟩ <;> clear hh0
    · obtain ⟨rfl, hc⟩ := hh1
      exact ⟨_, _, cast (con21_nE a b c d e K) (con21_nP a b c d e K hI hc)⟩
    · obtain ⟨rfl, hc⟩ := hh1
      exact ⟨_, _, cast (con21_rE el nl cl fl a b c d e K) (con21_rP el nl cl fl a b c d e K hI hnl hc)⟩
  · exact hh.elim
theorem con21_told : Told 21 (specOf con21) := told (X := [(66, sp66)]) (fun p hp => by
    simp only [List.mem_cons, List.not_mem_nil, or_false] at hp
    subst hp
    exact told66) (by kernel_rfl) (by kernel_rfl) (by kernel_rfl) con21_ok
set_option maxRecDepth 100000 in
def con22_nV (a : Int) (b : Int) (c : Int) (d : Int) (e : Int) (K : Value → List Blk → Prop) : Prop := (T0 ∧ (T0 ∧ (T0 ∧ ((InC a b c d e) ∧ (eB ∧ (T0 ∧ (if (@Eq Int (chk a b c d e) (0)) then (TS ∧ (T0 ∧ (T0 ∧ (if (@Eq Int (0) (b)) then (T0 ∧ (if (@Eq Int (chk a b c d e) (0)) then ((∃ y0 : Nat, ((Go.Rx.Sub 0 [(0, 0)] ⟨88, [(8, vi 0), (7, vi 0), (2, pt 0 0), (1, vn)]⟩ ⟨[(0, CB a b c d e)], 1⟩ ({ n := 88, m := [(2, pt 0 0), (1, vn), (7, vi (pc zF y0)), (8, vi (↑y0 : Int))] }) ({ h := [(0, CB a b c d e)], next := 1 })) ∧ ((y0 ≤ 0) ∧ ((0 ≤ pc zF y0) ∧ ((pc zF y0 ≤ 2) ∧ (ck a zF (0 - y0) y0 = ck a zF 0 0)))))) ∧ (∀ y0 : Nat, (((y0 ≤ 0) ∧ ((0 ≤ pc zF y0) ∧ ((pc zF y0 ≤ 2) ∧ (ck a zF (0 - y0) y0 = ck a zF 0 0)))) → (TS ∧ (T0 ∧ (∃ y1 : Value, (∃ y2 : List Blk, ((Go.Rx.Found 0 (vt [vi 0, vi 0]) ({ h := [(0, CB a b c d e)], next := 1 }) (y1) (y2)) ∧ (K y1 y2))))))))) else (∃ y0 : Value, (∃ y1 : List Blk, ((Go.Rx.Found 0 (vt [vi (-1 : Int), vi (chk a b c d e)]) ({ h := [(0, CB a b c d e)], next := 1 }) (y0) (y1)) ∧ (K y0 y1)))))) else (T0 ∧ (∃ y0 : Value, (∃ y1 : List Blk, ((Go.Rx.Found 0 (vt [vi (-1 : Int), vi 3]) ({ h := [(0, CB a b c d e)], next := 1 }) (y0) (y1)) ∧ (K y0 y1))))))))) else (T0 ∧ (if (@Eq Int (chk a b c d e) (0)) then ((∃ y0 : Nat, ((Go.Rx.Sub 0 [(0, 0)] ⟨88, [(8, vi 0), (7, vi 0), (2, pt 0 0), (1, vn)]⟩ ⟨[(0, CB a b c d e)], 1⟩ ({ n := 88, m := [(2, pt 0 0), (1, vn), (7, vi (pc zF y0)), (8, vi (↑y0 : Int))] }) ({ h := [(0, CB a b c d e)], next := 1 })) ∧ ((y0 ≤ 0) ∧ ((0 ≤ pc zF y0) ∧ ((pc zF y0 ≤ 2) ∧ (ck a zF (0 - y0) y0 = ck a zF 0 0)))))) ∧ (∀ y0 : Nat, (((y0 ≤ 0) ∧ ((0 ≤ pc zF y0) ∧ ((pc zF y0 ≤ 2) ∧ (ck a zF (0 - y0) y0 = ck a zF 0 0)))) → (TS ∧ (T0 ∧ (∃ y1 : Value, (∃ y2 : List Blk, ((Go.Rx.Found 0 (vt [vi 0, vi 0]) ({ h := [(0, CB a b c d e)], next := 1 }) (y1) (y2)) ∧ (K y1 y2))))))))) else (∃ y0 : Value, (∃ y1 : List Blk, ((Go.Rx.Found 0 (vt [vi (-1 : Int), vi (chk a b c d e)]) ({ h := [(0, CB a b c d e)], next := 1 }) (y0) (y1)) ∧ (K y0 y1)))))))))))))
set_option maxRecDepth 100000 in
theorem con22_nE (a : Int) (b : Int) (c : Int) (d : Int) (e : Int) (K : Value → List Blk → Prop) : con22_nV a b c d e K = bodyX (mk [(67, specOf con67)]) (callN (mk [(67, specOf con67)]) 3) (con22_nA a b c d e) Try.f22 [.agg ⟨[.int .i64 a, .int .i64 b, .int .i64 c, .int .i64 d, .int .i64 e]⟩, .slice none 0 0] (stOf []) fun v s' => ∃ v1 news, Rx.Found 0 v s' v1 news ∧ K v1 news := by kernel_rfl
set_option maxRecDepth 100000 in
set_option maxHeartbeats 4000000 in
set_option tactic.hygienic false in
theorem con22_nP (a : Int) (b : Int) (c : Int) (d : Int) (e : Int) (K : Value → List Blk → Prop)  (hI : InC a b c d e) (h : K (.tuple ⟨[.int .i64 (ckF a b c d e 0 zF).1, .int .i64 (ckF a b c d e 0 zF).2]⟩) []) : con22_nV a b c d e K := by
  unfold con22_nV
  repeat' (first | (with_reducible exact rfl) | (with_reducible exact trivial) | (with_reducible refine And.intro ?_ ?_) | (intro) | (with_reducible refine br_intro (fun hq => ?_) (fun hq => ?_)) | (with_reducible refine if_both (fun hz => ?_) (fun hz => ?_)) | fail)
  all_goals first
    | omega
    | assumption
    | exact ⟨0, (by (refine And.intro (And.intro rfl (And.intro rfl (And.intro rfl rfl))) ?_; (repeat' (first | exact trivial | exact rfl | exact fun _ _ _ _ => rfl | refine And.intro ?_ ?_ | omega | fail)); done)), by omega, by simp [pc], by simp [pc], rfl⟩
    | (refine ⟨y0 + 1, (by (refine And.intro (And.intro rfl (And.intro rfl (And.intro rfl rfl))) ?_; (repeat' (first | exact trivial | exact rfl | exact fun _ _ _ _ => rfl | refine And.intro ?_ ?_ | omega | (simp only [pc]; first | rw [if_pos (by omega)] | rw [if_neg (by omega)]) | fail)); done)), ⟨by omega, ?_, ?_, ?_⟩, by omega⟩
       · have q := ‹y0 ≤ 0 ∧ 0 ≤ pc zF y0 ∧ pc zF y0 ≤ 2 ∧ ck a zF (0 - y0) y0 = ck a zF 0 0›
         simp only [pc]; split <;> omega
       · have q := ‹y0 ≤ 0 ∧ 0 ≤ pc zF y0 ∧ pc zF y0 ≤ 2 ∧ ck a zF (0 - y0) y0 = ck a zF 0 0›
         simp only [pc]; split <;> omega
       · have q := ‹y0 ≤ 0 ∧ 0 ≤ pc zF y0 ∧ pc zF y0 ≤ 2 ∧ ck a zF (0 - y0) y0 = ck a zF 0 0›
         have q2 := ck_step a zF (n := 0) (k := y0) (by omega)
         rw [if_neg (by omega), if_neg (by omega), if_neg (by omega)] at q2
         rw [← q2]
         exact q.2.2.2)
    | exact fin0 (by kernel_rfl) (by kernel_rfl) (by
        rw [ckF_bad (by assumption)] at h; exact h)
    | exact fin0 (by kernel_rfl) (by kernel_rfl) (by
        rw [ckF_long (by assumption) (by assumption)] at h; exact h)
    | exact fin0 (by kernel_rfl) (by kernel_rfl) (by
        have q := ‹y0 ≤ 0 ∧ 0 ≤ pc zF y0 ∧ pc zF y0 ≤ 2 ∧ ck a zF (0 - y0) y0 = ck a zF 0 0›
        have q2 := ck_step a zF (n := 0) (k := y0) (by omega)
        rw [ckF_go (by assumption) (by assumption), ← q.2.2.2, q2] at h
        first
          | (rw [if_pos (by omega)] at h; exact h)
          | (rw [if_neg (by omega), if_pos (by omega)] at h; exact h)
          | (rw [if_neg (by omega), if_neg (by omega), if_pos (by omega)] at h; exact h))
    | exact fin0 (by kernel_rfl) (by kernel_rfl) (by
        have q := ‹y0 ≤ 0 ∧ 0 ≤ pc zF y0 ∧ pc zF y0 ≤ 2 ∧ ck a zF (0 - y0) y0 = ck a zF 0 0›
        rw [ckF_go (by assumption) (by assumption), ← q.2.2.2, show 0 - y0 = 0 by omega] at h
        exact h)
set_option maxRecDepth 100000 in
def con22_rV (el nl cl : Nat) (fl : RF) (a : Int) (b : Int) (c : Int) (d : Int) (e : Int) (K : Value → List Blk → Prop) : Prop := (T0 ∧ (T0 ∧ (T0 ∧ ((InC a b c d e) ∧ (eB ∧ (T0 ∧ (if (@Eq Int (chk a b c d e) (0)) then (TS ∧ (T0 ∧ (T0 ∧ (if (@Eq Int ((↑nl : Int)) (b)) then (T0 ∧ (if (@Eq Int (chk a b c d e) (0)) then ((∃ y0 : Nat, ((Go.Rx.Sub 1 [(1, 1)] ⟨88, [(8, vi 0), (7, vi 0), (2, pt 1 0), (1, rsl 0 0 nl cl)]⟩ ⟨[(1, CB a b c d e), (0, rT el nl cl fl)], 2⟩ ({ n := 88, m := [(2, pt 1 0), (1, rsl 0 0 nl cl), (7, vi (pc fl y0)), (8, vi (↑y0 : Int))] }) ({ h := [(1, CB a b c d e), (0, rT el nl cl fl)], next := 2 })) ∧ ((y0 ≤ nl) ∧ ((0 ≤ pc fl y0) ∧ ((pc fl y0 ≤ 2) ∧ (ck a fl (nl - y0) y0 = ck a fl nl 0)))))) ∧ (∀ y0 : Nat, (((y0 ≤ nl) ∧ ((0 ≤ pc fl y0) ∧ ((pc fl y0 ≤ 2) ∧ (ck a fl (nl - y0) y0 = ck a fl nl 0)))) → (TS ∧ (T0 ∧ (if ((↑y0 : Int) < (↑nl : Int)) then ((TS ∧ (eN 2)) ∧ (((0 ≤ (↑y0 : Int)) ∧ ((↑y0 : Int) < (↑nl : Int))) ∧ (T0 ∧ ((y0 < nl) ∧ (T0 ∧ (if (fl y0 0 < 0) then (∃ y1 : Value, (∃ y2 : List Blk, ((Go.Rx.Found 1 (vt [vi (↑y0 : Int), vi 6]) ({ h := [(1, CB a b c d e), (0, rT el nl cl fl)], next := 2 }) (y1) (y2)) ∧ (K y1 y2)))) else ((TS ∧ (eN 2)) ∧ (((0 ≤ (↑y0 : Int)) ∧ ((↑y0 : Int) < (↑nl : Int))) ∧ (T0 ∧ ((y0 < nl) ∧ (T0 ∧ (if (2 < fl y0 0) then (∃ y1 : Value, (∃ y2 : List Blk, ((Go.Rx.Found 1 (vt [vi (↑y0 : Int), vi 6]) ({ h := [(1, CB a b c d e), (0, rT el nl cl fl)], next := 2 }) (y1) (y2)) ∧ (K y1 y2)))) else ((TS ∧ (eN 2)) ∧ (((0 ≤ (↑y0 : Int)) ∧ ((↑y0 : Int) < (↑nl : Int))) ∧ (T0 ∧ ((y0 < nl) ∧ (T0 ∧ (if (@Eq Int (fl y0 0) (0)) then ((TS ∧ (eN 2)) ∧ (((0 ≤ (↑y0 : Int)) ∧ ((↑y0 : Int) < (↑nl : Int))) ∧ (T0 ∧ ((y0 < nl) ∧ (T0 ∧ (if (@Eq Int (fl y0 1) (0)) then (T0 ∧ (T0 ∧ (T0 ∧ (T0 ∧ ((TS ∧ (eN 2)) ∧ (((0 ≤ (↑y0 : Int)) ∧ ((↑y0 : Int) < (↑nl : Int))) ∧ (T0 ∧ (T0 ∧ (T0 ∧ ((y0 < nl) ∧ (T0 ∧ (T0 ∧ (if (fl y0 1 < 0) then (T0 ∧ (T0 ∧ (∃ y1 : Value, (∃ y2 : List Blk, ((Go.Rx.Found 1 (vt [vi (↑y0 : Int), vi 7]) ({ h := [(1, CB a b c d e), (0, rT el nl cl fl)], next := 2 }) (y1) (y2)) ∧ (K y1 y2)))))) else (T0 ∧ (T0 ∧ (T0 ∧ (T0 ∧ ((TS ∧ (eN 2)) ∧ (((0 ≤ (↑y0 : Int)) ∧ ((↑y0 : Int) < (↑nl : Int))) ∧ (T0 ∧ (T0 ∧ (T0 ∧ ((y0 < nl) ∧ (T0 ∧ (T0 ∧ (T0 ∧ (T0 ∧ (T0 ∧ (if (a < fl y0 1) then (T0 ∧ (∃ y1 : Value, (∃ y2 : List Blk, ((Go.Rx.Found 1 (vt [vi (↑y0 : Int), vi 7]) ({ h := [(1, CB a b c d e), (0, rT el nl cl fl)], next := 2 }) (y1) (y2)) ∧ (K y1 y2))))) else (T0 ∧ ((TS ∧ (eN 2)) ∧ (((0 ≤ (↑y0 : Int)) ∧ ((↑y0 : Int) < (↑nl : Int))) ∧ (T0 ∧ ((y0 < nl) ∧ (T0 ∧ (if (@Eq Int (fl y0 0) (2)) then (T0 ∧ ((((-9223372036854775808 : Int) ≤ pc fl y0 + 1) ∧ (pc fl y0 + (1 : Int) ≤ 9223372036854775807)) ∧ (T0 ∧ (if (2 < pc fl y0 + 1) then (∃ y1 : Value, (∃ y2 : List Blk, ((Go.Rx.Found 1 (vt [vi (↑y0 : Int), vi 5]) ({ h := [(1, CB a b c d e), (0, rT el nl cl fl)], next := 2 }) (y1) (y2)) ∧ (K y1 y2)))) else (T0 ∧ ((((-9223372036854775808 : Int) ≤ (↑y0 : Int) + 1) ∧ ((↑y0 : Int) + (1 : Int) ≤ 9223372036854775807)) ∧ (∃ y1 : Nat, ((Go.Rx.Sub 1 [(1, 1)] ⟨88, [(8, vi ((↑y0 : Int) + 1)), (7, vi (pc fl y0 + 1)), (2, pt 1 0), (1, rsl 0 0 nl cl)]⟩ ⟨[(1, CB a b c d e), (0, rT el nl cl fl)], 2⟩ ({ n := 88, m := [(2, pt 1 0), (1, rsl 0 0 nl cl), (7, vi (pc fl y1)), (8, vi (↑y1 : Int))] }) ({ h := [(1, CB a b c d e), (0, rT el nl cl fl)], next := 2 })) ∧ (((y1 ≤ nl) ∧ ((0 ≤ pc fl y1) ∧ ((pc fl y1 ≤ 2) ∧ (ck a fl (nl - y1) y1 = ck a fl nl 0)))) ∧ (nl - y1 < nl - y0)))))))))) else (T0 ∧ (if (2 < pc fl y0) then (∃ y1 : Value, (∃ y2 : List Blk, ((Go.Rx.Found 1 (vt [vi (↑y0 : Int), vi 5]) ({ h := [(1, CB a b c d e), (0, rT el nl cl fl)], next := 2 }) (y1) (y2)) ∧ (K y1 y2)))) else (T0 ∧ ((((-9223372036854775808 : Int) ≤ (↑y0 : Int) + 1) ∧ ((↑y0 : Int) + (1 : Int) ≤ 9223372036854775807)) ∧ (∃ y1 : Nat, ((Go.Rx.Sub 1 [(1, 1)] ⟨88, [(8, vi ((↑y0 : Int) + 1)), (2, pt 1 0), (1, rsl 0 0 nl cl), (7, vi (pc fl y0))]⟩ ⟨[(1, CB a b c d e), (0, rT el nl cl fl)], 2⟩ ({ n := 88, m := [(2, pt 1 0), (1, rsl 0 0 nl cl), (7, vi (pc fl y1)), (8, vi (↑y1 : Int))] }) ({ h := [(1, CB a b c d e), (0, rT el nl cl fl)], next := 2 })) ∧ (((y1 ≤ nl) ∧ ((0 ≤ pc fl y1) ∧ ((pc fl y1 ≤ 2) ∧ (ck a fl (nl - y1) y1 = ck a fl nl 0)))) ∧ (nl - y1 < nl - y0)))))))))))))))))))))))))))))))))))))))))))) else (∃ y1 : Value, (∃ y2 : List Blk, ((Go.Rx.Found 1 (vt [vi (↑y0 : Int), vi 6]) ({ h := [(1, CB a b c d e), (0, rT el nl cl fl)], next := 2 }) (y1) (y2)) ∧ (K y1 y2)))))))))) else (T0 ∧ (T0 ∧ (T0 ∧ (T0 ∧ ((TS ∧ (eN 2)) ∧ (((0 ≤ (↑y0 : Int)) ∧ ((↑y0 : Int) < (↑nl : Int))) ∧ (T0 ∧ (T0 ∧ (T0 ∧ ((y0 < nl) ∧ (T0 ∧ (T0 ∧ (if (fl y0 1 < 0) then (T0 ∧ (T0 ∧ (∃ y1 : Value, (∃ y2 : List Blk, ((Go.Rx.Found 1 (vt [vi (↑y0 : Int), vi 7]) ({ h := [(1, CB a b c d e), (0, rT el nl cl fl)], next := 2 }) (y1) (y2)) ∧ (K y1 y2)))))) else (T0 ∧ (T0 ∧ (T0 ∧ (T0 ∧ ((TS ∧ (eN 2)) ∧ (((0 ≤ (↑y0 : Int)) ∧ ((↑y0 : Int) < (↑nl : Int))) ∧ (T0 ∧ (T0 ∧ (T0 ∧ ((y0 < nl) ∧ (T0 ∧ (T0 ∧ (T0 ∧ (T0 ∧ (T0 ∧ (if (a < fl y0 1) then (T0 ∧ (∃ y1 : Value, (∃ y2 : List Blk, ((Go.Rx.Found 1 (vt [vi (↑y0 : Int), vi 7]) ({ h := [(1, CB a b c d e), (0, rT el nl cl fl)], next := 2 }) (y1) (y2)) ∧ (K y1 y2))))) else (T0 ∧ ((TS ∧ (eN 2)) ∧ (((0 ≤ (↑y0 : Int)) ∧ ((↑y0 : Int) < (↑nl : Int))) ∧ (T0 ∧ ((y0 < nl) ∧ (T0 ∧ (if (@Eq Int (fl y0 0) (2)) then (T0 ∧ ((((-9223372036854775808 : Int) ≤ pc fl y0 + 1) ∧ (pc fl y0 + (1 : Int) ≤ 9223372036854775807)) ∧ (T0 ∧ (if (2 < pc fl y0 + 1) then (∃ y1 : Value, (∃ y2 : List Blk, ((Go.Rx.Found 1 (vt [vi (↑y0 : Int), vi 5]) ({ h := [(1, CB a b c d e), (0, rT el nl cl fl)], next := 2 }) (y1) (y2)) ∧ (K y1 y2)))) else (T0 ∧ ((((-9223372036854775808 : Int) ≤ (↑y0 : Int) + 1) ∧ ((↑y0 : Int) + (1 : Int) ≤ 9223372036854775807)) ∧ (∃ y1 : Nat, ((Go.Rx.Sub 1 [(1, 1)] ⟨88, [(8, vi ((↑y0 : Int) + 1)), (7, vi (pc fl y0 + 1)), (2, pt 1 0), (1, rsl 0 0 nl cl)]⟩ ⟨[(1, CB a b c d e), (0, rT el nl cl fl)], 2⟩ ({ n := 88, m := [(2, pt 1 0), (1, rsl 0 0 nl cl), (7, vi (pc fl y1)), (8, vi (↑y1 : Int))] }) ({ h := [(1, CB a b c d e), (0, rT el nl cl fl)], next := 2 })) ∧ (((y1 ≤ nl) ∧ ((0 ≤ pc fl y1) ∧ ((pc fl y1 ≤ 2) ∧ (ck a fl (nl - y1) y1 = ck a fl nl 0)))) ∧ (nl - y1 < nl - y0)))))))))) else (T0 ∧ (if (2 < pc fl y0) then (∃ y1 : Value, (∃ y2 : List Blk, ((Go.Rx.Found 1 (vt [vi (↑y0 : Int), vi 5]) ({ h := [(1, CB a b c d e), (0, rT el nl cl fl)], next := 2 }) (y1) (y2)) ∧ (K y1 y2)))) else (T0 ∧ ((((-9223372036854775808 : Int) ≤ (↑y0 : Int) + 1) ∧ ((↑y0 : Int) + (1 : Int) ≤ 9223372036854775807)) ∧ (∃ y1 : Nat, ((Go.Rx.Sub 1 [(1, 1)] ⟨88, [(8, vi ((↑y0 : Int) + 1)), (2, pt 1 0), (1, rsl 0 0 nl cl), (7, vi (pc fl y0))]⟩ ⟨[(1, CB a b c d e), (0, rT el nl cl fl)], 2⟩ ({ n := 88, m := [(2, pt 1 0), (1, rsl 0 0 nl cl), (7, vi (pc fl y1)), (8, vi (↑y1 : Int))] }) ({ h := [(1, CB a b c d e), (0, rT el nl cl fl)], next := 2 })) ∧ (((y1 ≤ nl) ∧ ((0 ≤ pc fl y1) ∧ ((pc fl y1 ≤ 2) ∧ (ck a fl (nl - y1) y1 = ck a fl nl 0)))) ∧ (nl - y1 < nl - y0)))))))))))))))))))))))))))))))))))))))))))))))))))))))))))))) else (∃ y1 : Value, (∃ y2 : List Blk, ((Go.Rx.Found 1 (vt [vi 0, vi 0]) ({ h := [(1, CB a b c d e), (0, rT el nl cl fl)], next := 2 }) (y1) (y2)) ∧ (K y1 y2)))))))))) else (∃ y0 : Value, (∃ y1 : List Blk, ((Go.Rx.Found 1 (vt [vi (-1 : Int), vi (chk a b c d e)]) ({ h := [(1, CB a b c d e), (0, rT el nl cl fl)], next := 2 }) (y0) (y1)) ∧ (K y0 y1)))))) else (T0 ∧ (∃ y0 : Value, (∃ y1 : List Blk, ((Go.Rx.Found 1 (vt [vi (-1 : Int), vi 3]) ({ h := [(1, CB a b c d e), (0, rT el nl cl fl)], next := 2 }) (y0) (y1)) ∧ (K y0 y1))))))))) else (T0 ∧ (if (@Eq Int (chk a b c d e) (0)) then ((∃ y0 : Nat, ((Go.Rx.Sub 1 [(1, 1)] ⟨88, [(8, vi 0), (7, vi 0), (2, pt 1 0), (1, rsl 0 0 nl cl)]⟩ ⟨[(1, CB a b c d e), (0, rT el nl cl fl)], 2⟩ ({ n := 88, m := [(2, pt 1 0), (1, rsl 0 0 nl cl), (7, vi (pc fl y0)), (8, vi (↑y0 : Int))] }) ({ h := [(1, CB a b c d e), (0, rT el nl cl fl)], next := 2 })) ∧ ((y0 ≤ nl) ∧ ((0 ≤ pc fl y0) ∧ ((pc fl y0 ≤ 2) ∧ (ck a fl (nl - y0) y0 = ck a fl nl 0)))))) ∧ (∀ y0 : Nat, (((y0 ≤ nl) ∧ ((0 ≤ pc fl y0) ∧ ((pc fl y0 ≤ 2) ∧ (ck a fl (nl - y0) y0 = ck a fl nl 0)))) → (TS ∧ (T0 ∧ (if ((↑y0 : Int) < (↑nl : Int)) then ((TS ∧ (eN 2)) ∧ (((0 ≤ (↑y0 : Int)) ∧ ((↑y0 : Int) < (↑nl : Int))) ∧ (T0 ∧ ((y0 < nl) ∧ (T0 ∧ (if (fl y0 0 < 0) then (∃ y1 : Value, (∃ y2 : List Blk, ((Go.Rx.Found 1 (vt [vi (↑y0 : Int), vi 6]) ({ h := [(1, CB a b c d e), (0, rT el nl cl fl)], next := 2 }) (y1) (y2)) ∧ (K y1 y2)))) else ((TS ∧ (eN 2)) ∧ (((0 ≤ (↑y0 : Int)) ∧ ((↑y0 : Int) < (↑nl : Int))) ∧ (T0 ∧ ((y0 < nl) ∧ (T0 ∧ (if (2 < fl y0 0) then (∃ y1 : Value, (∃ y2 : List Blk, ((Go.Rx.Found 1 (vt [vi (↑y0 : Int), vi 6]) ({ h := [(1, CB a b c d e), (0, rT el nl cl fl)], next := 2 }) (y1) (y2)) ∧ (K y1 y2)))) else ((TS ∧ (eN 2)) ∧ (((0 ≤ (↑y0 : Int)) ∧ ((↑y0 : Int) < (↑nl : Int))) ∧ (T0 ∧ ((y0 < nl) ∧ (T0 ∧ (if (@Eq Int (fl y0 0) (0)) then ((TS ∧ (eN 2)) ∧ (((0 ≤ (↑y0 : Int)) ∧ ((↑y0 : Int) < (↑nl : Int))) ∧ (T0 ∧ ((y0 < nl) ∧ (T0 ∧ (if (@Eq Int (fl y0 1) (0)) then (T0 ∧ (T0 ∧ (T0 ∧ (T0 ∧ ((TS ∧ (eN 2)) ∧ (((0 ≤ (↑y0 : Int)) ∧ ((↑y0 : Int) < (↑nl : Int))) ∧ (T0 ∧ (T0 ∧ (T0 ∧ ((y0 < nl) ∧ (T0 ∧ (T0 ∧ (if (fl y0 1 < 0) then (T0 ∧ (T0 ∧ (∃ y1 : Value, (∃ y2 : List Blk, ((Go.Rx.Found 1 (vt [vi (↑y0 : Int), vi 7]) ({ h := [(1, CB a b c d e), (0, rT el nl cl fl)], next := 2 }) (y1) (y2)) ∧ (K y1 y2)))))) else (T0 ∧ (T0 ∧ (T0 ∧ (T0 ∧ ((TS ∧ (eN 2)) ∧ (((0 ≤ (↑y0 : Int)) ∧ ((↑y0 : Int) < (↑nl : Int))) ∧ (T0 ∧ (T0 ∧ (T0 ∧ ((y0 < nl) ∧ (T0 ∧ (T0 ∧ (T0 ∧ (T0 ∧ (T0 ∧ (if (a < fl y0 1) then (T0 ∧ (∃ y1 : Value, (∃ y2 : List Blk, ((Go.Rx.Found 1 (vt [vi (↑y0 : Int), vi 7]) ({ h := [(1, CB a b c d e), (0, rT el nl cl fl)], next := 2 }) (y1) (y2)) ∧ (K y1 y2))))) else (T0 ∧ ((TS ∧ (eN 2)) ∧ (((0 ≤ (↑y0 : Int)) ∧ ((↑y0 : Int) < (↑nl : Int))) ∧ (T0 ∧ ((y0 < nl) ∧ (T0 ∧ (if (@Eq Int (fl y0 0) (2)) then (T0 ∧ ((((-9223372036854775808 : Int) ≤ pc fl y0 + 1) ∧ (pc fl y0 + (1 : Int) ≤ 9223372036854775807)) ∧ (T0 ∧ (if (2 < pc fl y0 + 1) then (∃ y1 : Value, (∃ y2 : List Blk, ((Go.Rx.Found 1 (vt [vi (↑y0 : Int), vi 5]) ({ h := [(1, CB a b c d e), (0, rT el nl cl fl)], next := 2 }) (y1) (y2)) ∧ (K y1 y2)))) else (T0 ∧ ((((-9223372036854775808 : Int) ≤ (↑y0 : Int) + 1) ∧ ((↑y0 : Int) + (1 : Int) ≤ 9223372036854775807)) ∧ (∃ y1 : Nat, ((Go.Rx.Sub 1 [(1, 1)] ⟨88, [(8, vi ((↑y0 : Int) + 1)), (7, vi (pc fl y0 + 1)), (2, pt 1 0), (1, rsl 0 0 nl cl)]⟩ ⟨[(1, CB a b c d e), (0, rT el nl cl fl)], 2⟩ ({ n := 88, m := [(2, pt 1 0), (1, rsl 0 0 nl cl), (7, vi (pc fl y1)), (8, vi (↑y1 : Int))] }) ({ h := [(1, CB a b c d e), (0, rT el nl cl fl)], next := 2 })) ∧ (((y1 ≤ nl) ∧ ((0 ≤ pc fl y1) ∧ ((pc fl y1 ≤ 2) ∧ (ck a fl (nl - y1) y1 = ck a fl nl 0)))) ∧ (nl - y1 < nl - y0)))))))))) else (T0 ∧ (if (2 < pc fl y0) then (∃ y1 : Value, (∃ y2 : List Blk, ((Go.Rx.Found 1 (vt [vi (↑y0 : Int), vi 5]) ({ h := [(1, CB a b c d e), (0, rT el nl cl fl)], next := 2 }) (y1) (y2)) ∧ (K y1 y2)))) else (T0 ∧ ((((-9223372036854775808 : Int) ≤ (↑y0 : Int) + 1) ∧ ((↑y0 : Int) + (1 : Int) ≤ 9223372036854775807)) ∧ (∃ y1 : Nat, ((Go.Rx.Sub 1 [(1, 1)] ⟨88, [(8, vi ((↑y0 : Int) + 1)), (2, pt 1 0), (1, rsl 0 0 nl cl), (7, vi (pc fl y0))]⟩ ⟨[(1, CB a b c d e), (0, rT el nl cl fl)], 2⟩ ({ n := 88, m := [(2, pt 1 0), (1, rsl 0 0 nl cl), (7, vi (pc fl y1)), (8, vi (↑y1 : Int))] }) ({ h := [(1, CB a b c d e), (0, rT el nl cl fl)], next := 2 })) ∧ (((y1 ≤ nl) ∧ ((0 ≤ pc fl y1) ∧ ((pc fl y1 ≤ 2) ∧ (ck a fl (nl - y1) y1 = ck a fl nl 0)))) ∧ (nl - y1 < nl - y0)))))))))))))))))))))))))))))))))))))))))))) else (∃ y1 : Value, (∃ y2 : List Blk, ((Go.Rx.Found 1 (vt [vi (↑y0 : Int), vi 6]) ({ h := [(1, CB a b c d e), (0, rT el nl cl fl)], next := 2 }) (y1) (y2)) ∧ (K y1 y2)))))))))) else (T0 ∧ (T0 ∧ (T0 ∧ (T0 ∧ ((TS ∧ (eN 2)) ∧ (((0 ≤ (↑y0 : Int)) ∧ ((↑y0 : Int) < (↑nl : Int))) ∧ (T0 ∧ (T0 ∧ (T0 ∧ ((y0 < nl) ∧ (T0 ∧ (T0 ∧ (if (fl y0 1 < 0) then (T0 ∧ (T0 ∧ (∃ y1 : Value, (∃ y2 : List Blk, ((Go.Rx.Found 1 (vt [vi (↑y0 : Int), vi 7]) ({ h := [(1, CB a b c d e), (0, rT el nl cl fl)], next := 2 }) (y1) (y2)) ∧ (K y1 y2)))))) else (T0 ∧ (T0 ∧ (T0 ∧ (T0 ∧ ((TS ∧ (eN 2)) ∧ (((0 ≤ (↑y0 : Int)) ∧ ((↑y0 : Int) < (↑nl : Int))) ∧ (T0 ∧ (T0 ∧ (T0 ∧ ((y0 < nl) ∧ (T0 ∧ (T0 ∧ (T0 ∧ (T0 ∧ (T0 ∧ (if (a < fl y0 1) then (T0 ∧ (∃ y1 : Value, (∃ y2 : List Blk, ((Go.Rx.Found 1 (vt [vi (↑y0 : Int), vi 7]) ({ h := [(1, CB a b c d e), (0, rT el nl cl fl)], next := 2 }) (y1) (y2)) ∧ (K y1 y2))))) else (T0 ∧ ((TS ∧ (eN 2)) ∧ (((0 ≤ (↑y0 : Int)) ∧ ((↑y0 : Int) < (↑nl : Int))) ∧ (T0 ∧ ((y0 < nl) ∧ (T0 ∧ (if (@Eq Int (fl y0 0) (2)) then (T0 ∧ ((((-9223372036854775808 : Int) ≤ pc fl y0 + 1) ∧ (pc fl y0 + (1 : Int) ≤ 9223372036854775807)) ∧ (T0 ∧ (if (2 < pc fl y0 + 1) then (∃ y1 : Value, (∃ y2 : List Blk, ((Go.Rx.Found 1 (vt [vi (↑y0 : Int), vi 5]) ({ h := [(1, CB a b c d e), (0, rT el nl cl fl)], next := 2 }) (y1) (y2)) ∧ (K y1 y2)))) else (T0 ∧ ((((-9223372036854775808 : Int) ≤ (↑y0 : Int) + 1) ∧ ((↑y0 : Int) + (1 : Int) ≤ 9223372036854775807)) ∧ (∃ y1 : Nat, ((Go.Rx.Sub 1 [(1, 1)] ⟨88, [(8, vi ((↑y0 : Int) + 1)), (7, vi (pc fl y0 + 1)), (2, pt 1 0), (1, rsl 0 0 nl cl)]⟩ ⟨[(1, CB a b c d e), (0, rT el nl cl fl)], 2⟩ ({ n := 88, m := [(2, pt 1 0), (1, rsl 0 0 nl cl), (7, vi (pc fl y1)), (8, vi (↑y1 : Int))] }) ({ h := [(1, CB a b c d e), (0, rT el nl cl fl)], next := 2 })) ∧ (((y1 ≤ nl) ∧ ((0 ≤ pc fl y1) ∧ ((pc fl y1 ≤ 2) ∧ (ck a fl (nl - y1) y1 = ck a fl nl 0)))) ∧ (nl - y1 < nl - y0)))))))))) else (T0 ∧ (if (2 < pc fl y0) then (∃ y1 : Value, (∃ y2 : List Blk, ((Go.Rx.Found 1 (vt [vi (↑y0 : Int), vi 5]) ({ h := [(1, CB a b c d e), (0, rT el nl cl fl)], next := 2 }) (y1) (y2)) ∧ (K y1 y2)))) else (T0 ∧ ((((-9223372036854775808 : Int) ≤ (↑y0 : Int) + 1) ∧ ((↑y0 : Int) + (1 : Int) ≤ 9223372036854775807)) ∧ (∃ y1 : Nat, ((Go.Rx.Sub 1 [(1, 1)] ⟨88, [(8, vi ((↑y0 : Int) + 1)), (2, pt 1 0), (1, rsl 0 0 nl cl), (7, vi (pc fl y0))]⟩ ⟨[(1, CB a b c d e), (0, rT el nl cl fl)], 2⟩ ({ n := 88, m := [(2, pt 1 0), (1, rsl 0 0 nl cl), (7, vi (pc fl y1)), (8, vi (↑y1 : Int))] }) ({ h := [(1, CB a b c d e), (0, rT el nl cl fl)], next := 2 })) ∧ (((y1 ≤ nl) ∧ ((0 ≤ pc fl y1) ∧ ((pc fl y1 ≤ 2) ∧ (ck a fl (nl - y1) y1 = ck a fl nl 0)))) ∧ (nl - y1 < nl - y0)))))))))))))))))))))))))))))))))))))))))))))))))))))))))))))) else (∃ y1 : Value, (∃ y2 : List Blk, ((Go.Rx.Found 1 (vt [vi 0, vi 0]) ({ h := [(1, CB a b c d e), (0, rT el nl cl fl)], next := 2 }) (y1) (y2)) ∧ (K y1 y2)))))))))) else (∃ y0 : Value, (∃ y1 : List Blk, ((Go.Rx.Found 1 (vt [vi (-1 : Int), vi (chk a b c d e)]) ({ h := [(1, CB a b c d e), (0, rT el nl cl fl)], next := 2 }) (y0) (y1)) ∧ (K y0 y1)))))))))))))
set_option maxRecDepth 100000 in
theorem con22_rE (el nl cl : Nat) (fl : RF) (a : Int) (b : Int) (c : Int) (d : Int) (e : Int) (K : Value → List Blk → Prop) : con22_rV el nl cl fl a b c d e K = bodyX (mk [(67, specOf con67)]) (callN (mk [(67, specOf con67)]) 3) (con22_rA el nl cl fl a b c d e) Try.f22 [.agg ⟨[.int .i64 a, .int .i64 b, .int .i64 c, .int .i64 d, .int .i64 e]⟩, rsl 0 0 nl cl] (stOf [.row true [.i64, .i64] el nl cl fl]) fun v s' => ∃ v1 news, Rx.Found 1 v s' v1 news ∧ K v1 news := by kernel_rfl
set_option maxRecDepth 100000 in
set_option maxHeartbeats 4000000 in
set_option tactic.hygienic false in
theorem con22_rP (el nl cl : Nat) (fl : RF) (a : Int) (b : Int) (c : Int) (d : Int) (e : Int) (K : Value → List Blk → Prop)  (hI : InC a b c d e) (hnl : nl ≤ 100000) (h : K (.tuple ⟨[.int .i64 (ckF a b c d e nl fl).1, .int .i64 (ckF a b c d e nl fl).2]⟩) []) : con22_rV el nl cl fl a b c d e K := by
  unfold con22_rV
  repeat' (first | (with_reducible exact rfl) | (with_reducible exact trivial) | (with_reducible refine And.intro ?_ ?_) | (intro) | (with_reducible refine br_intro (fun hq => ?_) (fun hq => ?_)) | (with_reducible refine if_both (fun hz => ?_) (fun hz => ?_)) | fail)
  all_goals first
    | omega
    | assumption
    | exact ⟨0, (by (refine And.intro (And.intro rfl (And.intro rfl (And.intro rfl rfl))) ?_; (repeat' (first | exact trivial | exact rfl | exact fun _ _ _ _ => rfl | refine And.intro ?_ ?_ | omega | fail)); done)), by omega, by simp [pc], by simp [pc], rfl⟩
    | (refine ⟨y0 + 1, (by (refine And.intro (And.intro rfl (And.intro rfl (And.intro rfl rfl))) ?_; (repeat' (first | exact trivial | exact rfl | exact fun _ _ _ _ => rfl | refine And.intro ?_ ?_ | omega | (simp only [pc]; first | rw [if_pos (by omega)] | rw [if_neg (by omega)]) | fail)); done)), ⟨by omega, ?_, ?_, ?_⟩, by omega⟩
       · have q := ‹y0 ≤ nl ∧ 0 ≤ pc fl y0 ∧ pc fl y0 ≤ 2 ∧ ck a fl (nl - y0) y0 = ck a fl nl 0›
         simp only [pc]; split <;> omega
       · have q := ‹y0 ≤ nl ∧ 0 ≤ pc fl y0 ∧ pc fl y0 ≤ 2 ∧ ck a fl (nl - y0) y0 = ck a fl nl 0›
         simp only [pc]; split <;> omega
       · have q := ‹y0 ≤ nl ∧ 0 ≤ pc fl y0 ∧ pc fl y0 ≤ 2 ∧ ck a fl (nl - y0) y0 = ck a fl nl 0›
         have q2 := ck_step a fl (n := nl) (k := y0) (by omega)
         rw [if_neg (by omega), if_neg (by omega), if_neg (by omega)] at q2
         rw [← q2]
         exact q.2.2.2)
    | exact fin0 (by kernel_rfl) (by kernel_rfl) (by
        rw [ckF_bad (by assumption)] at h; exact h)
    | exact fin0 (by kernel_rfl) (by kernel_rfl) (by
        rw [ckF_long (by assumption) (by assumption)] at h; exact h)
    | exact fin0 (by kernel_rfl) (by kernel_rfl) (by
        have q := ‹y0 ≤ nl ∧ 0 ≤ pc fl y0 ∧ pc fl y0 ≤ 2 ∧ ck a fl (nl - y0) y0 = ck a fl nl 0›
        have q2 := ck_step a fl (n := nl) (k := y0) (by omega)
        rw [ckF_go (by assumption) (by assumption), ← q.2.2.2, q2] at h
        first
          | (rw [if_pos (by omega)] at h; exact h)
          | (rw [if_neg (by omega), if_pos (by omega)] at h; exact h)
          | (rw [if_neg (by omega), if_neg (by omega), if_pos (by omega)] at h; exact h))
    | exact fin0 (by kernel_rfl) (by kernel_rfl) (by
        have q := ‹y0 ≤ nl ∧ 0 ≤ pc fl y0 ∧ pc fl y0 ≤ 2 ∧ ck a fl (nl - y0) y0 = ck a fl nl 0›
        rw [ckF_go (by assumption) (by assumption), ← q.2.2.2, show nl - y0 = 0 by omega] at h
        exact h)
theorem con22_ok : BodyOk (mk [(67, specOf con67)]) 3 Try.f22 con22 := by
  intro vs bs K hh hro
  clear hro
  unfold con22 at hh
  split at hh
  · obtain ⟨a, b, c, d, e, rfl, hI, hh0⟩ := five_inv hh
    rcases parse_inv hh0 with ⟨rfl, hh1⟩ | ⟨el, nl, cl, fl, bs1, rfl, hnl, rfl, hh1⟩ <;> clear hh0
    · obtain ⟨rfl, hc⟩ := hh1
      exact ⟨_, _, cast (con22_nE a b c d e K) (con22_nP a b c d e K hI hc)⟩
    · obtain ⟨rfl, hc⟩ := hh1
      exact ⟨_, _, cast (con22_rE el nl cl fl a b c d e K) (con22_rP el nl cl fl a b c d e K hI hnl hc)⟩
  · exact hh.elim
theorem con22_told : Told 22 (specOf con22) := told (X := [(67, specOf con67)]) (fun p hp => by
    simp only [List.mem_cons, List.not_mem_nil, or_false] at hp
    subst hp
    exact con67_told) (by kernel_rfl) (by kernel_rfl) (by kernel_rfl) con22_ok
end Go.Proofs.Ytkflmglpniebfaa.Fr
