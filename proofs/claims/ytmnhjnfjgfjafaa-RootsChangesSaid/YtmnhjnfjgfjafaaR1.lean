/-
  Roots: the check. No project text.
-/
import Derived.Test.YtmnhjnfjgfjafaaFr0
namespace Go.Proofs.Ytmnhjnfjgfjafaa.Fr
open Go.Rx
open Go.RowKit (Below)
set_option linter.unusedVariables false
theorem locA_mono {s : Rx.St} {c c' : List Value → List Blk → Prop} (h : ∀ us bs, c' us bs → c us bs) : ∀ (args : List Value) (k : Nat), locA s k args c' → locA s k args c := by
  intro args
  induction args generalizing c c' with
  | nil => exact fun k hc => h _ _ hc
  | cons v vs ih =>
    intro k hc
    unfold locA at hc ⊢
    split at hc
    · obtain ⟨o, ho, hc⟩ := kO_some hc
      show kO (Rx.look s.h _) _
      rw [ho]
      cases o with
      | cells cs e => exact hc.elim
      | row ro ks e n q f => exact ⟨hc.1, ih (fun us bs => h _ _) _ hc.2⟩
    · rename_i hne
      exact ⟨hc.1, ih (fun us bs => h _ _) _ hc.2⟩
/-- A narrower contract. -/
theorem Told.mono {f : Nat} {c c' : Con} (h : Told f (specOf c)) (hc : ∀ vs bs K, c' vs bs K → c vs bs K) : Told f (specOf c') :=
  ⟨h.1, fun args s K hk => h.2 args s K (locA_mono (fun us bs => hc us bs _) args 0 hk)⟩
/-- A slice of a row of these kinds. -/
def parseR (ks : List IntKind) (j : Nat) (v : Value) (bs : List Blk) (k : Nat → RF → Nat → List Blk → Prop) : Prop :=
  match v with
  | .slice (some ⟨b, 0, some 0⟩) n c => b = j ∧ n ≤ 100000 ∧ match bs with
    | .row true ks' _ n' c' f :: bs' => (ks' = ks ∧ n' = n ∧ c' = c) ∧ k n f (j + 1) bs'
    | _ => False
  | _ => False
theorem parseR_inv {ks : List IntKind} {j : Nat} {v : Value} {bs : List Blk} {k : Nat → RF → Nat → List Blk → Prop} (h : parseR ks j v bs k) : ∃ e n c f bs', v = rsl j 0 n c ∧ n ≤ 100000 ∧ bs = .row true ks e n c f :: bs' ∧ k n f (j + 1) bs' := by
  unfold parseR at h
  split at h
  · obtain ⟨rfl, hn, h⟩ := h
    split at h
    · obtain ⟨⟨rfl, rfl, rfl⟩, h⟩ := h
      exact ⟨_, _, _, _, _, rfl, hn, rfl, h⟩
    · exact h.elim
  · exact h.elim
/-- The first register from k on, of l, that holds no address. -/
def rs (f : RF) : Nat → Nat → Int × Int
  | 0, _ => (0, 0)
  | l + 1, k => if f k 0 < 0 ∨ 1600 < f k 0 then ((k : Int), 7) else rs f l (k + 1)
theorem rs_step (f : RF) {n k : Nat} (h : k < n) : rs f (n - k) k = if f k 0 < 0 ∨ 1600 < f k 0 then ((k : Int), 7) else rs f (n - (k + 1)) (k + 1) := by
  rw [show n - k = (n - (k + 1)) + 1 by omega]
  rfl
theorem rs_ok (f : RF) : ∀ (l k : Nat), (rs f l k).2 = 0 → ∀ i, k ≤ i → i < k + l → 0 ≤ f i 0 ∧ f i 0 ≤ 1600
  | 0, k, _, i, h1, h2 => by omega
  | l + 1, k, h, i, h1, h2 => by
    unfold rs at h
    split at h
    · cases h
    · rcases Nat.lt_or_ge k i with q | q
      · exact rs_ok f l (k + 1) h i (by omega) (by omega)
      · obtain rfl : i = k := by omega
        omega
theorem rs_of (f : RF) : ∀ (l k : Nat), (∀ i, k ≤ i → i < k + l → 0 ≤ f i 0 ∧ f i 0 ≤ 1600) → rs f l k = (0, 0)
  | 0, k, _ => rfl
  | l + 1, k, h => by
    unfold rs
    have := h k (by omega) (by omega)
    rw [if_neg (by omega)]
    exact rs_of f l (k + 1) fun i h1 h2 => h i (by omega) (by omega)
def rck (n : Nat) (f : RF) : Int × Int := if n < 1 ∨ 8 < n then (-1, 7) else rs f n 0
theorem rck_bad {n : Nat} {f : RF} (h : n < 1 ∨ 8 < n) : rck n f = (-1, 7) := if_pos h
theorem rck_go {n : Nat} {f : RF} (h : ¬ (n < 1 ∨ 8 < n)) : rck n f = rs f n 0 := if_neg h
theorem rck_ok {n : Nat} {f : RF} (h : (rck n f).2 = 0) : 1 ≤ n ∧ n ≤ 8 ∧ ∀ i, i < n → 0 ≤ f i 0 ∧ f i 0 ≤ 1600 := by
  unfold rck at h
  split at h
  · cases h
  · exact ⟨by omega, by omega, fun i hi => rs_ok f n 0 h i (by omega) (by omega)⟩
theorem rck_of {n : Nat} {f : RF} (h1 : 1 ≤ n) (h2 : n ≤ 8) (h : ∀ i, i < n → 0 ≤ f i 0 ∧ f i 0 ≤ 1600) : (rck n f).2 = 0 := by
  rw [rck_go (by omega), rs_of f n 0 fun i _ hi => h i (by omega)]
/-- One register holds something else. -/
structure SetR (n : Nat) (f : RF) (A v : Int) (g : RF) : Prop where
  now : g A.toNat 0 = v
  rest : ∀ j, j ≠ A.toNat → g j 0 = f j 0
  ok : (rck n g).2 = 0
theorem setR {n : Nat} {f : RF} {A v : Int} (h : (rck n f).2 = 0) (hv : 0 ≤ v ∧ v ≤ 1600) : SetR n f A v (putF f A.toNat 0 v) := by
  obtain ⟨h1, h2, h3⟩ := rck_ok h
  refine ⟨if_pos ⟨rfl, rfl⟩, fun j hj => if_neg fun e => hj e.1, rck_of h1 h2 fun i hi => ?_⟩
  unfold putF
  split
  · exact hv
  · exact h3 i hi
@[reducible] def XZ : List (Nat × Rx.Spec) := [(6, sp6)]
theorem XZ_told : ∀ p ∈ XZ, Told p.1 p.2 := by
  intro p hp
  simp only [List.mem_cons, List.not_mem_nil, or_false] at hp
  rcases hp with rfl
  · exact told6
def con7 : Con := fun vs bs K => match vs with
  | [vr] => parse [.i64] 0 vr bs fun nr fr j0 bs0 => bs0 = [] ∧ (True) ∧ (K (.tuple ⟨[.int .i64 (rck nr fr).1, .int .i64 ((rck nr fr).2)]⟩) [])
  | _ => False

def con7_nA  : Ann := fun k => bif Nat.beq k 4 then some [{ α := Nat, T := fun k => ⟨26, [(14, .slice none 0 0), (15, .int .i64 (0 : Nat)), (16, .int .i64 (k : Int))]⟩, S := fun _ => ⟨[], 0⟩, I := fun k => k ≤ 0 ∧ 1 ≤ 0 ∧ 0 ≤ 8 ∧ rs zF (0 - k) k = rs zF 0 0, m := fun k => 0 - k, ρ0 := [], ρ1 := [[]] }] else none
def con7_rA (er nr cr : Nat) (fr : RF) : Ann := fun k => bif Nat.beq k 4 then some [{ α := Nat, T := fun k => ⟨26, [(14, rsl 0 0 nr cr), (15, .int .i64 (nr : Nat)), (16, .int .i64 (k : Int))]⟩, S := fun _ => ⟨[(0, .row true [.i64] er nr cr fr)], 1⟩, I := fun k => k ≤ nr ∧ 1 ≤ nr ∧ nr ≤ 8 ∧ rs fr (nr - k) k = rs fr nr 0, m := fun k => nr - k, ρ0 := [], ρ1 := [[]] }] else none
def con7_nV  (K : Value → List Blk → Prop) : Prop := (T0 ∧ (TS ∧ (T0 ∧ (∃ y0 : Value, (∃ y1 : List Blk, ((Go.Rx.Found 0 (vt [vi (-1 : Int), vi 7]) ({ h := [], next := 0 }) (y0) (y1)) ∧ (K y0 y1)))))))
theorem con7_nE  (K : Value → List Blk → Prop) : con7_nV  K = bodyX (mk XZ) (callN (mk XZ) 4) (con7_nA ) Try.f7 [.slice none 0 0] (stOf []) fun v s' => ∃ v1 news, Rx.Found 0 v s' v1 news ∧ K v1 news := by kernel_rfl
set_option maxRecDepth 100000 in
set_option maxHeartbeats 4000000 in
set_option tactic.hygienic false in
theorem con7_nP  (K : Value → List Blk → Prop)  (h : K (.tuple ⟨[.int .i64 (rck 0 zF).1, .int .i64 ((rck 0 zF).2)]⟩) []) : con7_nV  K := by
  unfold con7_nV

  repeat' (first | (with_reducible exact rfl) | (with_reducible exact trivial) | (with_reducible refine And.intro ?_ ?_) | (intro) | (with_reducible refine br_intro (fun hq => ?_) (fun hq => ?_)) | (with_reducible refine if_both (fun hz => ?_) (fun hz => ?_)) | fail)

  all_goals first
    | omega
    | assumption
    | exact ⟨0, (by (refine And.intro (And.intro rfl (And.intro rfl (And.intro rfl rfl))) ?_; repeat' (first | exact trivial | exact rfl | exact fun _ _ _ _ => rfl | refine And.intro ?_ ?_ | omega | fail))), by omega, by omega, by omega, rfl⟩
    | (refine ⟨y0 + 1, (by (refine And.intro (And.intro rfl (And.intro rfl (And.intro rfl rfl))) ?_; repeat' (first | exact trivial | exact rfl | exact fun _ _ _ _ => rfl | refine And.intro ?_ ?_ | omega | fail))), ⟨by omega, by omega, by omega, ?_⟩, by omega⟩
       have q := ‹y0 ≤ 0 ∧ 1 ≤ 0 ∧ 0 ≤ 8 ∧ rs zF (0 - y0) y0 = rs zF 0 0›
       have q2 := rs_step zF (n := 0) (k := y0) (by omega)
       rw [if_neg (by omega)] at q2
       rw [← q2]
       exact q.2.2.2)
    | exact fin0 (by kernel_rfl) (by kernel_rfl) (by rw [rck_bad (by omega)] at h; exact h)
    | exact fin0 (by kernel_rfl) (by kernel_rfl) (by
        have q := ‹y0 ≤ 0 ∧ 1 ≤ 0 ∧ 0 ≤ 8 ∧ rs zF (0 - y0) y0 = rs zF 0 0›
        have q2 := rs_step zF (n := 0) (k := y0) (by omega)
        rw [rck_go (by omega), ← q.2.2.2, q2, if_pos (by omega)] at h
        exact h)
    | exact fin0 (by kernel_rfl) (by kernel_rfl) (by
        have q := ‹y0 ≤ 0 ∧ 1 ≤ 0 ∧ 0 ≤ 8 ∧ rs zF (0 - y0) y0 = rs zF 0 0›
        rw [rck_go (by omega), ← q.2.2.2, show 0 - y0 = 0 by omega] at h
        exact h)
def con7_rV (er nr cr : Nat) (fr : RF) (K : Value → List Blk → Prop) : Prop := (T0 ∧ (TS ∧ (T0 ∧ (if ((↑nr : Int) < 1) then (∃ y0 : Value, (∃ y1 : List Blk, ((Go.Rx.Found 1 (vt [vi (-1 : Int), vi 7]) ({ h := [(0, Blk.row true [IntKind.i64] er nr cr fr)], next := 1 }) (y0) (y1)) ∧ (K y0 y1)))) else (TS ∧ (T0 ∧ (if (8 < (↑nr : Int)) then (∃ y0 : Value, (∃ y1 : List Blk, ((Go.Rx.Found 1 (vt [vi (-1 : Int), vi 7]) ({ h := [(0, Blk.row true [IntKind.i64] er nr cr fr)], next := 1 }) (y0) (y1)) ∧ (K y0 y1)))) else (TS ∧ ((∃ y0 : Nat, ((Go.Rx.Sub 1 [] ⟨26, [(16, vi 0), (15, vi (↑nr : Int)), (14, rsl 0 0 nr cr)]⟩ ⟨[(0, Blk.row true [IntKind.i64] er nr cr fr)], 1⟩ ({ n := 26, m := [(14, rsl 0 0 nr cr), (15, vi (↑nr : Int)), (16, vi (↑y0 : Int))] }) ({ h := [(0, Blk.row true [IntKind.i64] er nr cr fr)], next := 1 })) ∧ ((y0 ≤ nr) ∧ ((1 ≤ nr) ∧ ((nr ≤ 8) ∧ (rs fr (nr - y0) y0 = rs fr nr 0)))))) ∧ (∀ y0 : Nat, (((y0 ≤ nr) ∧ ((1 ≤ nr) ∧ ((nr ≤ 8) ∧ (rs fr (nr - y0) y0 = rs fr nr 0)))) → (T0 ∧ (if ((↑y0 : Int) < (↑nr : Int)) then ((TS ∧ (eN 1)) ∧ (((0 ≤ (↑y0 : Int)) ∧ ((↑y0 : Int) < (↑nr : Int))) ∧ ((y0 < nr) ∧ (T0 ∧ (T0 ∧ (if (@Eq Int (fr y0 0) (0)) then (T0 ∧ ((((-9223372036854775808 : Int) ≤ (↑y0 : Int) + 1) ∧ ((↑y0 : Int) + (1 : Int) ≤ 9223372036854775807)) ∧ (∃ y1 : Nat, ((Go.Rx.Sub 1 [] ⟨26, [(16, vi ((↑y0 : Int) + 1)), (14, rsl 0 0 nr cr), (15, vi (↑nr : Int))]⟩ ⟨[(0, Blk.row true [IntKind.i64] er nr cr fr)], 1⟩ ({ n := 26, m := [(14, rsl 0 0 nr cr), (15, vi (↑nr : Int)), (16, vi (↑y1 : Int))] }) ({ h := [(0, Blk.row true [IntKind.i64] er nr cr fr)], next := 1 })) ∧ (((y1 ≤ nr) ∧ ((1 ≤ nr) ∧ ((nr ≤ 8) ∧ (rs fr (nr - y1) y1 = rs fr nr 0)))) ∧ (nr - y1 < nr - y0)))))) else (T0 ∧ (T0 ∧ (if (1 ≤ fr y0 0) then (T0 ∧ (if (fr y0 0 ≤ 1600) then (T0 ∧ ((((-9223372036854775808 : Int) ≤ (↑y0 : Int) + 1) ∧ ((↑y0 : Int) + (1 : Int) ≤ 9223372036854775807)) ∧ (∃ y1 : Nat, ((Go.Rx.Sub 1 [] ⟨26, [(16, vi ((↑y0 : Int) + 1)), (14, rsl 0 0 nr cr), (15, vi (↑nr : Int))]⟩ ⟨[(0, Blk.row true [IntKind.i64] er nr cr fr)], 1⟩ ({ n := 26, m := [(14, rsl 0 0 nr cr), (15, vi (↑nr : Int)), (16, vi (↑y1 : Int))] }) ({ h := [(0, Blk.row true [IntKind.i64] er nr cr fr)], next := 1 })) ∧ (((y1 ≤ nr) ∧ ((1 ≤ nr) ∧ ((nr ≤ 8) ∧ (rs fr (nr - y1) y1 = rs fr nr 0)))) ∧ (nr - y1 < nr - y0)))))) else (∃ y1 : Value, (∃ y2 : List Blk, ((Go.Rx.Found 1 (vt [vi (↑y0 : Int), vi 7]) ({ h := [(0, Blk.row true [IntKind.i64] er nr cr fr)], next := 1 }) (y1) (y2)) ∧ (K y1 y2)))))) else (∃ y1 : Value, (∃ y2 : List Blk, ((Go.Rx.Found 1 (vt [vi (↑y0 : Int), vi 7]) ({ h := [(0, Blk.row true [IntKind.i64] er nr cr fr)], next := 1 }) (y1) (y2)) ∧ (K y1 y2))))))))))))) else (∃ y1 : Value, (∃ y2 : List Blk, ((Go.Rx.Found 1 (vt [vi 0, vi 0]) ({ h := [(0, Blk.row true [IntKind.i64] er nr cr fr)], next := 1 }) (y1) (y2)) ∧ (K y1 y2)))))))))))))))))
theorem con7_rE (er nr cr : Nat) (fr : RF) (K : Value → List Blk → Prop) : con7_rV er nr cr fr K = bodyX (mk XZ) (callN (mk XZ) 4) (con7_rA er nr cr fr) Try.f7 [rsl 0 0 nr cr] (stOf [.row true [.i64] er nr cr fr]) fun v s' => ∃ v1 news, Rx.Found 1 v s' v1 news ∧ K v1 news := by kernel_rfl
set_option maxRecDepth 100000 in
set_option maxHeartbeats 4000000 in
set_option tactic.hygienic false in
theorem con7_rP (er nr cr : Nat) (fr : RF) (K : Value → List Blk → Prop)  (hnr : nr ≤ 100000) (h : K (.tuple ⟨[.int .i64 (rck nr fr).1, .int .i64 ((rck nr fr).2)]⟩) []) : con7_rV er nr cr fr K := by
  unfold con7_rV

  repeat' (first | (with_reducible exact rfl) | (with_reducible exact trivial) | (with_reducible refine And.intro ?_ ?_) | (intro) | (with_reducible refine br_intro (fun hq => ?_) (fun hq => ?_)) | (with_reducible refine if_both (fun hz => ?_) (fun hz => ?_)) | fail)

  all_goals first
    | omega
    | assumption
    | exact ⟨0, (by (refine And.intro (And.intro rfl (And.intro rfl (And.intro rfl rfl))) ?_; repeat' (first | exact trivial | exact rfl | exact fun _ _ _ _ => rfl | refine And.intro ?_ ?_ | omega | fail))), by omega, by omega, by omega, rfl⟩
    | (refine ⟨y0 + 1, (by (refine And.intro (And.intro rfl (And.intro rfl (And.intro rfl rfl))) ?_; repeat' (first | exact trivial | exact rfl | exact fun _ _ _ _ => rfl | refine And.intro ?_ ?_ | omega | fail))), ⟨by omega, by omega, by omega, ?_⟩, by omega⟩
       have q := ‹y0 ≤ nr ∧ 1 ≤ nr ∧ nr ≤ 8 ∧ rs fr (nr - y0) y0 = rs fr nr 0›
       have q2 := rs_step fr (n := nr) (k := y0) (by omega)
       rw [if_neg (by omega)] at q2
       rw [← q2]
       exact q.2.2.2)
    | exact fin0 (by kernel_rfl) (by kernel_rfl) (by rw [rck_bad (by omega)] at h; exact h)
    | exact fin0 (by kernel_rfl) (by kernel_rfl) (by
        have q := ‹y0 ≤ nr ∧ 1 ≤ nr ∧ nr ≤ 8 ∧ rs fr (nr - y0) y0 = rs fr nr 0›
        have q2 := rs_step fr (n := nr) (k := y0) (by omega)
        rw [rck_go (by omega), ← q.2.2.2, q2, if_pos (by omega)] at h
        exact h)
    | exact fin0 (by kernel_rfl) (by kernel_rfl) (by
        have q := ‹y0 ≤ nr ∧ 1 ≤ nr ∧ nr ≤ 8 ∧ rs fr (nr - y0) y0 = rs fr nr 0›
        rw [rck_go (by omega), ← q.2.2.2, show nr - y0 = 0 by omega] at h
        exact h)
theorem con7_ok : BodyOk (mk XZ) 4 Try.f7 con7 := by
  intro vs bs K hh hro
  clear hro
  unfold con7 at hh
  split at hh
  · rename_i vr
    rcases parse_inv hh with ⟨rfl, hh0⟩ | ⟨er, nr, cr, fr, btr, rfl, hnr, rfl, hh0⟩ <;> clear hh
    · obtain ⟨rfl, -, hc⟩ := hh0
      exact ⟨_, cast (con7_nE   K) (con7_nP   K   hc)⟩
    · obtain ⟨rfl, -, hc⟩ := hh0
      exact ⟨_, cast (con7_rE er nr cr fr  K) (con7_rP er nr cr fr  K hnr  hc)⟩
  · exact hh.elim
theorem con7_told : Told 7 (specOf con7) := told (X := XZ) XZ_told (by kernel_rfl) (by kernel_rfl) (by kernel_rfl) con7_ok
end Go.Proofs.Ytmnhjnfjgfjafaa.Fr
