/-
  Roots: the reference: check, equality. No project text.
-/
import Derived.Test.YtmnhjnfjgfjafaaR1
namespace Go.Proofs.Ytmnhjnfjgfjafaa.Fr
open Go.Rx
open Go.RowKit (Below)
set_option linter.unusedVariables false
def con8 : Con := fun vs bs K => match vs with
  | [vr] => parse [.i64] 0 vr bs fun nr fr j0 bs0 => bs0 = [] ∧ (True) ∧ (K (.tuple ⟨[.int .i64 (rck nr fr).1, .int .i64 ((rck nr fr).2)]⟩) [])
  | _ => False

def con8_nA  : Ann := fun k => bif Nat.beq k 4 then some [{ α := Nat, T := fun k => ⟨32, [(0, .slice none 0 0), (4, .int .i64 (k : Int))]⟩, S := fun _ => ⟨[], 0⟩, I := fun k => k ≤ 0 ∧ 1 ≤ 0 ∧ 0 ≤ 8 ∧ rs zF (0 - k) k = rs zF 0 0, m := fun k => 0 - k, ρ0 := [], ρ1 := [[]] }] else none
def con8_rA (er nr cr : Nat) (fr : RF) : Ann := fun k => bif Nat.beq k 4 then some [{ α := Nat, T := fun k => ⟨32, [(0, rsl 0 0 nr cr), (4, .int .i64 (k : Int))]⟩, S := fun _ => ⟨[(0, .row true [.i64] er nr cr fr)], 1⟩, I := fun k => k ≤ nr ∧ 1 ≤ nr ∧ nr ≤ 8 ∧ rs fr (nr - k) k = rs fr nr 0, m := fun k => nr - k, ρ0 := [], ρ1 := [[]] }] else none
def con15 : Con := fun vs bs K => match vs with
  | [va, vb] => parse [.i64] 0 va bs fun na fa j0 bs0 => parse [.i64] j0 vb bs0 fun nb fb j1 bs1 => bs1 = [] ∧ ((na = nb) ∧ (∀ i, i < na → fa i 0 = fb i 0)) ∧ (K (.bool true) [])
  | _ => False

def con15_nnA  : Ann := fun k => bif Nat.beq k 4 then some [{ α := Nat, T := fun k => ⟨26, [(0, .slice none 0 0), (1, .slice none 0 0), (5, .int .i64 (k : Int))]⟩, S := fun _ => ⟨[], 0⟩, I := fun k => k ≤ 0 ∧ 0 ≤ k, m := fun k => 0 - k, ρ0 := [], ρ1 := [[]] }] else none
def con15_nrA (eb nb cb : Nat) (fb : RF) : Ann := fun k => bif Nat.beq k 4 then some [{ α := Nat, T := fun k => ⟨26, [(0, .slice none 0 0), (1, rsl 0 0 nb cb), (5, .int .i64 (k : Int))]⟩, S := fun _ => ⟨[(0, .row true [.i64] eb nb cb fb)], 1⟩, I := fun k => k ≤ 0 ∧ 0 ≤ k, m := fun k => 0 - k, ρ0 := [], ρ1 := [[]] }] else none
def con15_rnA (ea na ca : Nat) (fa : RF) : Ann := fun k => bif Nat.beq k 4 then some [{ α := Nat, T := fun k => ⟨26, [(0, rsl 0 0 na ca), (1, .slice none 0 0), (5, .int .i64 (k : Int))]⟩, S := fun _ => ⟨[(0, .row true [.i64] ea na ca fa)], 1⟩, I := fun k => k ≤ na ∧ 0 ≤ k, m := fun k => na - k, ρ0 := [], ρ1 := [[]] }] else none
def con15_rrA (ea na ca : Nat) (fa : RF) (eb nb cb : Nat) (fb : RF) : Ann := fun k => bif Nat.beq k 4 then some [{ α := Nat, T := fun k => ⟨26, [(0, rsl 0 0 na ca), (1, rsl 1 0 nb cb), (5, .int .i64 (k : Int))]⟩, S := fun _ => ⟨[(0, .row true [.i64] ea na ca fa), (1, .row true [.i64] eb nb cb fb)], 2⟩, I := fun k => k ≤ na ∧ 0 ≤ k, m := fun k => na - k, ρ0 := [], ρ1 := [[]] }] else none
def con8_nV  (K : Value → List Blk → Prop) : Prop := (T0 ∧ (TS ∧ (T0 ∧ (∃ y0 : Value, (∃ y1 : List Blk, ((Go.Rx.Found 0 (vt [vi (-1 : Int), vi 7]) ({ h := [], next := 0 }) (y0) (y1)) ∧ (K y0 y1)))))))
theorem con8_nE  (K : Value → List Blk → Prop) : con8_nV  K = bodyX (mk XZ) (callN (mk XZ) 4) (con8_nA ) Try.f8 [.slice none 0 0] (stOf []) fun v s' => ∃ v1 news, Rx.Found 0 v s' v1 news ∧ K v1 news := by kernel_rfl
set_option maxRecDepth 100000 in
set_option maxHeartbeats 4000000 in
set_option tactic.hygienic false in
theorem con8_nP  (K : Value → List Blk → Prop)  (h : K (.tuple ⟨[.int .i64 (rck 0 zF).1, .int .i64 ((rck 0 zF).2)]⟩) []) : con8_nV  K := by
  unfold con8_nV

  repeat' (first | (with_reducible exact rfl) | (with_reducible exact trivial) | (with_reducible refine And.intro ?_ ?_) | (intro) | (with_reducible refine br_intro (fun hq => ?_) (fun hq => ?_)) | (with_reducible refine if_both (fun hz => ?_) (fun hz => ?_)) | fail)

  all_goals first
    | omega
    | assumption
    | exact ⟨0, (by (refine And.intro (And.intro rfl (And.intro rfl (And.intro rfl rfl))) ?_; repeat' (first | exact trivial | exact rfl | exact fun _ _ _ _ => rfl | refine And.intro ?_ ?_ | omega | fail))), by omega, by omega, by omega, rfl⟩
    | (refine ⟨y0 + 1, (by (refine And.intro (And.intro rfl (And.intro rfl (And.intro rfl rfl))) ?_; repeat' (first | exact trivial | exact rfl | exact fun _ _ _ _ => rfl | refine And.intro ?_ ?_ | omega | fail))), ⟨by omega, by omega, by omega, ?_⟩, by omega⟩
       have q := ‹y0 ≤ 0 ∧ 1 ≤ 0 ∧ 0 ≤ 8 ∧ rs zF (0 - y0) y0 = rs zF 0 0›
       have q2 := rs_step zF (n := 0) (k := y0) (by omega)
       rw [if_neg (by omega)] at q2
       rw [← q2]
       exact q.2.2.2)
    | exact fin0 (by kernel_rfl) (by kernel_rfl) (by rw [rck_bad (by omega)] at h; exact h)
    | exact fin0 (by kernel_rfl) (by kernel_rfl) (by
        have q := ‹y0 ≤ 0 ∧ 1 ≤ 0 ∧ 0 ≤ 8 ∧ rs zF (0 - y0) y0 = rs zF 0 0›
        have q2 := rs_step zF (n := 0) (k := y0) (by omega)
        rw [rck_go (by omega), ← q.2.2.2, q2, if_pos (by omega)] at h
        exact h)
    | exact fin0 (by kernel_rfl) (by kernel_rfl) (by
        have q := ‹y0 ≤ 0 ∧ 1 ≤ 0 ∧ 0 ≤ 8 ∧ rs zF (0 - y0) y0 = rs zF 0 0›
        rw [rck_go (by omega), ← q.2.2.2, show 0 - y0 = 0 by omega] at h
        exact h)
def con8_rV (er nr cr : Nat) (fr : RF) (K : Value → List Blk → Prop) : Prop := (T0 ∧ (TS ∧ (T0 ∧ (if ((↑nr : Int) < 1) then (∃ y0 : Value, (∃ y1 : List Blk, ((Go.Rx.Found 1 (vt [vi (-1 : Int), vi 7]) ({ h := [(0, Blk.row true [IntKind.i64] er nr cr fr)], next := 1 }) (y0) (y1)) ∧ (K y0 y1)))) else (TS ∧ (T0 ∧ (if (8 < (↑nr : Int)) then (∃ y0 : Value, (∃ y1 : List Blk, ((Go.Rx.Found 1 (vt [vi (-1 : Int), vi 7]) ({ h := [(0, Blk.row true [IntKind.i64] er nr cr fr)], next := 1 }) (y0) (y1)) ∧ (K y0 y1)))) else ((∃ y0 : Nat, ((Go.Rx.Sub 1 [] ⟨32, [(4, vi 0), (0, rsl 0 0 nr cr)]⟩ ⟨[(0, Blk.row true [IntKind.i64] er nr cr fr)], 1⟩ ({ n := 32, m := [(0, rsl 0 0 nr cr), (4, vi (↑y0 : Int))] }) ({ h := [(0, Blk.row true [IntKind.i64] er nr cr fr)], next := 1 })) ∧ ((y0 ≤ nr) ∧ ((1 ≤ nr) ∧ ((nr ≤ 8) ∧ (rs fr (nr - y0) y0 = rs fr nr 0)))))) ∧ (∀ y0 : Nat, (((y0 ≤ nr) ∧ ((1 ≤ nr) ∧ ((nr ≤ 8) ∧ (rs fr (nr - y0) y0 = rs fr nr 0)))) → (TS ∧ (T0 ∧ (if ((↑y0 : Int) < (↑nr : Int)) then ((TS ∧ (eN 1)) ∧ (((0 ≤ (↑y0 : Int)) ∧ ((↑y0 : Int) < (↑nr : Int))) ∧ ((y0 < nr) ∧ (T0 ∧ (if (fr y0 0 < 0) then (∃ y1 : Value, (∃ y2 : List Blk, ((Go.Rx.Found 1 (vt [vi (↑y0 : Int), vi 7]) ({ h := [(0, Blk.row true [IntKind.i64] er nr cr fr)], next := 1 }) (y1) (y2)) ∧ (K y1 y2)))) else ((TS ∧ (eN 1)) ∧ (((0 ≤ (↑y0 : Int)) ∧ ((↑y0 : Int) < (↑nr : Int))) ∧ ((y0 < nr) ∧ (T0 ∧ (if (1600 < fr y0 0) then (∃ y1 : Value, (∃ y2 : List Blk, ((Go.Rx.Found 1 (vt [vi (↑y0 : Int), vi 7]) ({ h := [(0, Blk.row true [IntKind.i64] er nr cr fr)], next := 1 }) (y1) (y2)) ∧ (K y1 y2)))) else (T0 ∧ ((((-9223372036854775808 : Int) ≤ (↑y0 : Int) + 1) ∧ ((↑y0 : Int) + (1 : Int) ≤ 9223372036854775807)) ∧ (∃ y1 : Nat, ((Go.Rx.Sub 1 [] ⟨32, [(4, vi ((↑y0 : Int) + 1)), (0, rsl 0 0 nr cr)]⟩ ⟨[(0, Blk.row true [IntKind.i64] er nr cr fr)], 1⟩ ({ n := 32, m := [(0, rsl 0 0 nr cr), (4, vi (↑y1 : Int))] }) ({ h := [(0, Blk.row true [IntKind.i64] er nr cr fr)], next := 1 })) ∧ (((y1 ≤ nr) ∧ ((1 ≤ nr) ∧ ((nr ≤ 8) ∧ (rs fr (nr - y1) y1 = rs fr nr 0)))) ∧ (nr - y1 < nr - y0)))))))))))))))) else (∃ y1 : Value, (∃ y2 : List Blk, ((Go.Rx.Found 1 (vt [vi 0, vi 0]) ({ h := [(0, Blk.row true [IntKind.i64] er nr cr fr)], next := 1 }) (y1) (y2)) ∧ (K y1 y2)))))))))))))))))
theorem con8_rE (er nr cr : Nat) (fr : RF) (K : Value → List Blk → Prop) : con8_rV er nr cr fr K = bodyX (mk XZ) (callN (mk XZ) 4) (con8_rA er nr cr fr) Try.f8 [rsl 0 0 nr cr] (stOf [.row true [.i64] er nr cr fr]) fun v s' => ∃ v1 news, Rx.Found 1 v s' v1 news ∧ K v1 news := by kernel_rfl
set_option maxRecDepth 100000 in
set_option maxHeartbeats 4000000 in
set_option tactic.hygienic false in
theorem con8_rP (er nr cr : Nat) (fr : RF) (K : Value → List Blk → Prop)  (hnr : nr ≤ 100000) (h : K (.tuple ⟨[.int .i64 (rck nr fr).1, .int .i64 ((rck nr fr).2)]⟩) []) : con8_rV er nr cr fr K := by
  unfold con8_rV

  repeat' (first | (with_reducible exact rfl) | (with_reducible exact trivial) | (with_reducible refine And.intro ?_ ?_) | (intro) | (with_reducible refine br_intro (fun hq => ?_) (fun hq => ?_)) | (with_reducible refine if_both (fun hz => ?_) (fun hz => ?_)) | fail)

  all_goals first
    | omega
    | assumption
    | exact ⟨0, (by (refine And.intro (And.intro rfl (And.intro rfl (And.intro rfl rfl))) ?_; repeat' (first | exact trivial | exact rfl | exact fun _ _ _ _ => rfl | refine And.intro ?_ ?_ | omega | fail))), by omega, by omega, by omega, rfl⟩
    | (refine ⟨y0 + 1, (by (refine And.intro (And.intro rfl (And.intro rfl (And.intro rfl rfl))) ?_; repeat' (first | exact trivial | exact rfl | exact fun _ _ _ _ => rfl | refine And.intro ?_ ?_ | omega | fail))), ⟨by omega, by omega, by omega, ?_⟩, by omega⟩
       have q := ‹y0 ≤ nr ∧ 1 ≤ nr ∧ nr ≤ 8 ∧ rs fr (nr - y0) y0 = rs fr nr 0›
       have q2 := rs_step fr (n := nr) (k := y0) (by omega)
       rw [if_neg (by omega)] at q2
       rw [← q2]
       exact q.2.2.2)
    | exact fin0 (by kernel_rfl) (by kernel_rfl) (by rw [rck_bad (by omega)] at h; exact h)
    | exact fin0 (by kernel_rfl) (by kernel_rfl) (by
        have q := ‹y0 ≤ nr ∧ 1 ≤ nr ∧ nr ≤ 8 ∧ rs fr (nr - y0) y0 = rs fr nr 0›
        have q2 := rs_step fr (n := nr) (k := y0) (by omega)
        rw [rck_go (by omega), ← q.2.2.2, q2, if_pos (by omega)] at h
        exact h)
    | exact fin0 (by kernel_rfl) (by kernel_rfl) (by
        have q := ‹y0 ≤ nr ∧ 1 ≤ nr ∧ nr ≤ 8 ∧ rs fr (nr - y0) y0 = rs fr nr 0›
        rw [rck_go (by omega), ← q.2.2.2, show nr - y0 = 0 by omega] at h
        exact h)
theorem con8_ok : BodyOk (mk XZ) 4 Try.f8 con8 := by
  intro vs bs K hh hro
  clear hro
  unfold con8 at hh
  split at hh
  · rename_i vr
    rcases parse_inv hh with ⟨rfl, hh0⟩ | ⟨er, nr, cr, fr, btr, rfl, hnr, rfl, hh0⟩ <;> clear hh
    · obtain ⟨rfl, -, hc⟩ := hh0
      exact ⟨_, cast (con8_nE   K) (con8_nP   K   hc)⟩
    · obtain ⟨rfl, -, hc⟩ := hh0
      exact ⟨_, cast (con8_rE er nr cr fr  K) (con8_rP er nr cr fr  K hnr  hc)⟩
  · exact hh.elim
theorem con8_told : Told 8 (specOf con8) := told (X := XZ) XZ_told (by kernel_rfl) (by kernel_rfl) (by kernel_rfl) con8_ok
def con15_nnV  (K : Value → List Blk → Prop) : Prop := (T0 ∧ (TS ∧ (TS ∧ (T0 ∧ ((∃ y0 : Nat, ((Go.Rx.Sub 0 [] ⟨26, [(5, vi 0), (0, vn), (1, vn)]⟩ ⟨[], 0⟩ ({ n := 26, m := [(0, vn), (1, vn), (5, vi (↑y0 : Int))] }) ({ h := [], next := 0 })) ∧ ((y0 ≤ 0) ∧ (0 ≤ y0)))) ∧ (∀ y0 : Nat, (((y0 ≤ 0) ∧ (0 ≤ y0)) → (TS ∧ (T0 ∧ (∃ y1 : Value, (∃ y2 : List Blk, ((Go.Rx.Found 0 (Value.bool true) ({ h := [], next := 0 }) (y1) (y2)) ∧ (K y1 y2)))))))))))))
theorem con15_nnE  (K : Value → List Blk → Prop) : con15_nnV  K = bodyX (mk XZ) (callN (mk XZ) 4) (con15_nnA ) Try.f15 [.slice none 0 0, .slice none 0 0] (stOf []) fun v s' => ∃ v1 news, Rx.Found 0 v s' v1 news ∧ K v1 news := by kernel_rfl
set_option maxRecDepth 100000 in
set_option maxHeartbeats 4000000 in
set_option tactic.hygienic false in
theorem con15_nnP  (K : Value → List Blk → Prop)  (h1 : 0 = 0) (h2 : ∀ i, i < 0 → zF i 0 = zF i 0) (h : K (.bool true) []) : con15_nnV  K := by
  unfold con15_nnV

  repeat' (first | (with_reducible exact rfl) | (with_reducible exact trivial) | (with_reducible refine And.intro ?_ ?_) | (intro) | (with_reducible refine br_intro (fun hq => ?_) (fun hq => ?_)) | (with_reducible refine if_both (fun hz => ?_) (fun hz => ?_)) | fail)

  all_goals first
    | omega
    | assumption
    | contradiction
    | exact ⟨0, (by (refine And.intro (And.intro rfl (And.intro rfl (And.intro rfl rfl))) ?_; repeat' (first | exact trivial | exact rfl | exact fun _ _ _ _ => rfl | refine And.intro ?_ ?_ | omega | fail))), by omega, by omega⟩
    | exact ⟨y0 + 1, (by (refine And.intro (And.intro rfl (And.intro rfl (And.intro rfl rfl))) ?_; repeat' (first | exact trivial | exact rfl | exact fun _ _ _ _ => rfl | refine And.intro ?_ ?_ | omega | fail))), ⟨by omega, by omega⟩, by omega⟩
    | exact fin0 (by kernel_rfl) (by kernel_rfl) (by first | exact h | simpa using h)
    | (exfalso; have q := h2 y0 (by omega); omega)
def con15_nrV (eb nb cb : Nat) (fb : RF) (K : Value → List Blk → Prop) : Prop := (T0 ∧ (TS ∧ (TS ∧ (T0 ∧ (if (@Eq Int (0) ((↑nb : Int))) then ((∃ y0 : Nat, ((Go.Rx.Sub 1 [] ⟨26, [(5, vi 0), (0, vn), (1, rsl 0 0 nb cb)]⟩ ⟨[(0, Blk.row true [IntKind.i64] eb nb cb fb)], 1⟩ ({ n := 26, m := [(0, vn), (1, rsl 0 0 nb cb), (5, vi (↑y0 : Int))] }) ({ h := [(0, Blk.row true [IntKind.i64] eb nb cb fb)], next := 1 })) ∧ ((y0 ≤ 0) ∧ (0 ≤ y0)))) ∧ (∀ y0 : Nat, (((y0 ≤ 0) ∧ (0 ≤ y0)) → (TS ∧ (T0 ∧ (∃ y1 : Value, (∃ y2 : List Blk, ((Go.Rx.Found 1 (Value.bool true) ({ h := [(0, Blk.row true [IntKind.i64] eb nb cb fb)], next := 1 }) (y1) (y2)) ∧ (K y1 y2))))))))) else (∃ y0 : Value, (∃ y1 : List Blk, ((Go.Rx.Found 1 (Value.bool false) ({ h := [(0, Blk.row true [IntKind.i64] eb nb cb fb)], next := 1 }) (y0) (y1)) ∧ (K y0 y1)))))))))
theorem con15_nrE (eb nb cb : Nat) (fb : RF) (K : Value → List Blk → Prop) : con15_nrV eb nb cb fb K = bodyX (mk XZ) (callN (mk XZ) 4) (con15_nrA eb nb cb fb) Try.f15 [.slice none 0 0, rsl 0 0 nb cb] (stOf [.row true [.i64] eb nb cb fb]) fun v s' => ∃ v1 news, Rx.Found 1 v s' v1 news ∧ K v1 news := by kernel_rfl
set_option maxRecDepth 100000 in
set_option maxHeartbeats 4000000 in
set_option tactic.hygienic false in
theorem con15_nrP (eb nb cb : Nat) (fb : RF) (K : Value → List Blk → Prop)  (hnb : nb ≤ 100000) (h1 : 0 = nb) (h2 : ∀ i, i < 0 → zF i 0 = fb i 0) (h : K (.bool true) []) : con15_nrV eb nb cb fb K := by
  unfold con15_nrV

  repeat' (first | (with_reducible exact rfl) | (with_reducible exact trivial) | (with_reducible refine And.intro ?_ ?_) | (intro) | (with_reducible refine br_intro (fun hq => ?_) (fun hq => ?_)) | (with_reducible refine if_both (fun hz => ?_) (fun hz => ?_)) | fail)

  all_goals first
    | omega
    | assumption
    | contradiction
    | exact ⟨0, (by (refine And.intro (And.intro rfl (And.intro rfl (And.intro rfl rfl))) ?_; repeat' (first | exact trivial | exact rfl | exact fun _ _ _ _ => rfl | refine And.intro ?_ ?_ | omega | fail))), by omega, by omega⟩
    | exact ⟨y0 + 1, (by (refine And.intro (And.intro rfl (And.intro rfl (And.intro rfl rfl))) ?_; repeat' (first | exact trivial | exact rfl | exact fun _ _ _ _ => rfl | refine And.intro ?_ ?_ | omega | fail))), ⟨by omega, by omega⟩, by omega⟩
    | exact fin0 (by kernel_rfl) (by kernel_rfl) (by first | exact h | simpa using h)
    | (exfalso; have q := h2 y0 (by omega); omega)
def con15_rnV (ea na ca : Nat) (fa : RF) (K : Value → List Blk → Prop) : Prop := (T0 ∧ (TS ∧ (TS ∧ (T0 ∧ (if (@Eq Int ((↑na : Int)) (0)) then ((∃ y0 : Nat, ((Go.Rx.Sub 1 [] ⟨26, [(5, vi 0), (0, rsl 0 0 na ca), (1, vn)]⟩ ⟨[(0, Blk.row true [IntKind.i64] ea na ca fa)], 1⟩ ({ n := 26, m := [(0, rsl 0 0 na ca), (1, vn), (5, vi (↑y0 : Int))] }) ({ h := [(0, Blk.row true [IntKind.i64] ea na ca fa)], next := 1 })) ∧ ((y0 ≤ na) ∧ (0 ≤ y0)))) ∧ (∀ y0 : Nat, (((y0 ≤ na) ∧ (0 ≤ y0)) → (TS ∧ (T0 ∧ (if ((↑y0 : Int) < (↑na : Int)) then (T0 ∧ (T0 ∧ (T0 ∧ (T0 ∧ ((TS ∧ (eN 1)) ∧ (((0 ≤ (↑y0 : Int)) ∧ ((↑y0 : Int) < (↑na : Int))) ∧ (T0 ∧ ((y0 < na) ∧ (T0 ∧ (T0 ∧ (T0 ∧ (False)))))))))))) else (∃ y1 : Value, (∃ y2 : List Blk, ((Go.Rx.Found 1 (Value.bool true) ({ h := [(0, Blk.row true [IntKind.i64] ea na ca fa)], next := 1 }) (y1) (y2)) ∧ (K y1 y2)))))))))) else (∃ y0 : Value, (∃ y1 : List Blk, ((Go.Rx.Found 1 (Value.bool false) ({ h := [(0, Blk.row true [IntKind.i64] ea na ca fa)], next := 1 }) (y0) (y1)) ∧ (K y0 y1)))))))))
theorem con15_rnE (ea na ca : Nat) (fa : RF) (K : Value → List Blk → Prop) : con15_rnV ea na ca fa K = bodyX (mk XZ) (callN (mk XZ) 4) (con15_rnA ea na ca fa) Try.f15 [rsl 0 0 na ca, .slice none 0 0] (stOf [.row true [.i64] ea na ca fa]) fun v s' => ∃ v1 news, Rx.Found 1 v s' v1 news ∧ K v1 news := by kernel_rfl
set_option maxRecDepth 100000 in
set_option maxHeartbeats 4000000 in
set_option tactic.hygienic false in
theorem con15_rnP (ea na ca : Nat) (fa : RF) (K : Value → List Blk → Prop)  (hna : na ≤ 100000) (h1 : na = 0) (h2 : ∀ i, i < na → fa i 0 = zF i 0) (h : K (.bool true) []) : con15_rnV ea na ca fa K := by
  unfold con15_rnV

  repeat' (first | (with_reducible exact rfl) | (with_reducible exact trivial) | (with_reducible refine And.intro ?_ ?_) | (intro) | (with_reducible refine br_intro (fun hq => ?_) (fun hq => ?_)) | (with_reducible refine if_both (fun hz => ?_) (fun hz => ?_)) | fail)

  all_goals first
    | omega
    | assumption
    | contradiction
    | exact ⟨0, (by (refine And.intro (And.intro rfl (And.intro rfl (And.intro rfl rfl))) ?_; repeat' (first | exact trivial | exact rfl | exact fun _ _ _ _ => rfl | refine And.intro ?_ ?_ | omega | fail))), by omega, by omega⟩
    | exact ⟨y0 + 1, (by (refine And.intro (And.intro rfl (And.intro rfl (And.intro rfl rfl))) ?_; repeat' (first | exact trivial | exact rfl | exact fun _ _ _ _ => rfl | refine And.intro ?_ ?_ | omega | fail))), ⟨by omega, by omega⟩, by omega⟩
    | exact fin0 (by kernel_rfl) (by kernel_rfl) (by first | exact h | simpa using h)
    | (exfalso; have q := h2 y0 (by omega); omega)
def con15_rrV (ea na ca : Nat) (fa : RF) (eb nb cb : Nat) (fb : RF) (K : Value → List Blk → Prop) : Prop := (T0 ∧ (TS ∧ (TS ∧ (T0 ∧ (if (@Eq Int ((↑na : Int)) ((↑nb : Int))) then ((∃ y0 : Nat, ((Go.Rx.Sub 2 [] ⟨26, [(5, vi 0), (0, rsl 0 0 na ca), (1, rsl 1 0 nb cb)]⟩ ⟨[(0, Blk.row true [IntKind.i64] ea na ca fa), (1, Blk.row true [IntKind.i64] eb nb cb fb)], 2⟩ ({ n := 26, m := [(0, rsl 0 0 na ca), (1, rsl 1 0 nb cb), (5, vi (↑y0 : Int))] }) ({ h := [(0, Blk.row true [IntKind.i64] ea na ca fa), (1, Blk.row true [IntKind.i64] eb nb cb fb)], next := 2 })) ∧ ((y0 ≤ na) ∧ (0 ≤ y0)))) ∧ (∀ y0 : Nat, (((y0 ≤ na) ∧ (0 ≤ y0)) → (TS ∧ (T0 ∧ (if ((↑y0 : Int) < (↑na : Int)) then (T0 ∧ (T0 ∧ (T0 ∧ (T0 ∧ ((TS ∧ (eN 1)) ∧ (((0 ≤ (↑y0 : Int)) ∧ ((↑y0 : Int) < (↑na : Int))) ∧ (T0 ∧ ((y0 < na) ∧ (T0 ∧ (T0 ∧ (T0 ∧ ((TS ∧ (eN 1)) ∧ (((0 ≤ (↑y0 : Int)) ∧ ((↑y0 : Int) < (↑nb : Int))) ∧ (T0 ∧ ((y0 < nb) ∧ (T0 ∧ (T0 ∧ (if (@Eq Int (fa y0 0) (fb y0 0)) then (T0 ∧ ((((-9223372036854775808 : Int) ≤ (↑y0 : Int) + 1) ∧ ((↑y0 : Int) + (1 : Int) ≤ 9223372036854775807)) ∧ (∃ y1 : Nat, ((Go.Rx.Sub 2 [] ⟨26, [(5, vi ((↑y0 : Int) + 1)), (0, rsl 0 0 na ca), (1, rsl 1 0 nb cb)]⟩ ⟨[(0, Blk.row true [IntKind.i64] ea na ca fa), (1, Blk.row true [IntKind.i64] eb nb cb fb)], 2⟩ ({ n := 26, m := [(0, rsl 0 0 na ca), (1, rsl 1 0 nb cb), (5, vi (↑y1 : Int))] }) ({ h := [(0, Blk.row true [IntKind.i64] ea na ca fa), (1, Blk.row true [IntKind.i64] eb nb cb fb)], next := 2 })) ∧ (((y1 ≤ na) ∧ (0 ≤ y1)) ∧ (na - y1 < na - y0)))))) else (∃ y1 : Value, (∃ y2 : List Blk, ((Go.Rx.Found 2 (Value.bool false) ({ h := [(0, Blk.row true [IntKind.i64] ea na ca fa), (1, Blk.row true [IntKind.i64] eb nb cb fb)], next := 2 }) (y1) (y2)) ∧ (K y1 y2)))))))))))))))))))))) else (∃ y1 : Value, (∃ y2 : List Blk, ((Go.Rx.Found 2 (Value.bool true) ({ h := [(0, Blk.row true [IntKind.i64] ea na ca fa), (1, Blk.row true [IntKind.i64] eb nb cb fb)], next := 2 }) (y1) (y2)) ∧ (K y1 y2)))))))))) else (∃ y0 : Value, (∃ y1 : List Blk, ((Go.Rx.Found 2 (Value.bool false) ({ h := [(0, Blk.row true [IntKind.i64] ea na ca fa), (1, Blk.row true [IntKind.i64] eb nb cb fb)], next := 2 }) (y0) (y1)) ∧ (K y0 y1)))))))))
theorem con15_rrE (ea na ca : Nat) (fa : RF) (eb nb cb : Nat) (fb : RF) (K : Value → List Blk → Prop) : con15_rrV ea na ca fa eb nb cb fb K = bodyX (mk XZ) (callN (mk XZ) 4) (con15_rrA ea na ca fa eb nb cb fb) Try.f15 [rsl 0 0 na ca, rsl 1 0 nb cb] (stOf [.row true [.i64] ea na ca fa, .row true [.i64] eb nb cb fb]) fun v s' => ∃ v1 news, Rx.Found 2 v s' v1 news ∧ K v1 news := by kernel_rfl
set_option maxRecDepth 100000 in
set_option maxHeartbeats 4000000 in
set_option tactic.hygienic false in
theorem con15_rrP (ea na ca : Nat) (fa : RF) (eb nb cb : Nat) (fb : RF) (K : Value → List Blk → Prop)  (hna : na ≤ 100000) (hnb : nb ≤ 100000) (h1 : na = nb) (h2 : ∀ i, i < na → fa i 0 = fb i 0) (h : K (.bool true) []) : con15_rrV ea na ca fa eb nb cb fb K := by
  unfold con15_rrV

  repeat' (first | (with_reducible exact rfl) | (with_reducible exact trivial) | (with_reducible refine And.intro ?_ ?_) | (intro) | (with_reducible refine br_intro (fun hq => ?_) (fun hq => ?_)) | (with_reducible refine if_both (fun hz => ?_) (fun hz => ?_)) | fail)

  all_goals first
    | omega
    | assumption
    | contradiction
    | exact ⟨0, (by (refine And.intro (And.intro rfl (And.intro rfl (And.intro rfl rfl))) ?_; repeat' (first | exact trivial | exact rfl | exact fun _ _ _ _ => rfl | refine And.intro ?_ ?_ | omega | fail))), by omega, by omega⟩
    | exact ⟨y0 + 1, (by (refine And.intro (And.intro rfl (And.intro rfl (And.intro rfl rfl))) ?_; repeat' (first | exact trivial | exact rfl | exact fun _ _ _ _ => rfl | refine And.intro ?_ ?_ | omega | fail))), ⟨by omega, by omega⟩, by omega⟩
    | exact fin0 (by kernel_rfl) (by kernel_rfl) (by first | exact h | simpa using h)
    | (exfalso; have q := h2 y0 (by omega); omega)
theorem con15_ok : BodyOk (mk XZ) 4 Try.f15 con15 := by
  intro vs bs K hh hro
  clear hro
  unfold con15 at hh
  split at hh
  · rename_i va vb
    rcases parse_inv hh with ⟨rfl, hh0⟩ | ⟨ea, na, ca, fa, bta, rfl, hna, rfl, hh0⟩ <;> clear hh
    · rcases parse_inv hh0 with ⟨rfl, hh1⟩ | ⟨eb, nb, cb, fb, btb, rfl, hnb, rfl, hh1⟩ <;> clear hh0
      · obtain ⟨rfl, ⟨h1, h2⟩, hc⟩ := hh1
        exact ⟨_, cast (con15_nnE   K) (con15_nnP   K  h1 h2 hc)⟩
      · obtain ⟨rfl, ⟨h1, h2⟩, hc⟩ := hh1
        exact ⟨_, cast (con15_nrE eb nb cb fb  K) (con15_nrP eb nb cb fb  K hnb h1 h2 hc)⟩
    · rcases parse_inv hh0 with ⟨rfl, hh1⟩ | ⟨eb, nb, cb, fb, btb, rfl, hnb, rfl, hh1⟩ <;> clear hh0
      · obtain ⟨rfl, ⟨h1, h2⟩, hc⟩ := hh1
        exact ⟨_, cast (con15_rnE ea na ca fa  K) (con15_rnP ea na ca fa  K hna h1 h2 hc)⟩
      · obtain ⟨rfl, ⟨h1, h2⟩, hc⟩ := hh1
        exact ⟨_, cast (con15_rrE ea na ca fa eb nb cb fb  K) (con15_rrP ea na ca fa eb nb cb fb  K hna hnb h1 h2 hc)⟩
  · exact hh.elim
theorem con15_told : Told 15 (specOf con15) := told (X := XZ) XZ_told (by kernel_rfl) (by kernel_rfl) (by kernel_rfl) con15_ok
end Go.Proofs.Ytmnhjnfjgfjafaa.Fr
