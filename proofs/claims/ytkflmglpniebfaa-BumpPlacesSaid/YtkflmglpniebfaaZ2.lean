/-
  Frames: equality of rows. No project text.
-/
import Derived.Test.YtkflmglpniebfaaZ1
namespace Go.Proofs.Ytkflmglpniebfaa.Fr
set_option maxRecDepth 100000
set_option maxHeartbeats 4000000
open Go.Rx
open Go.RowKit (Below)
set_option linter.unusedVariables false
def conInts : Con := fun vs bs K => match vs with
  | [u, v] => parse [.i64] 0 u bs fun n f j bs => parse [.i64] j v bs fun m g _ bs => bs = [] ∧ ∀ b, (b = true ↔ n = m ∧ ∀ i, i < n → f i 0 = g i 0) → K (.bool b) []
  | _ => False

def conInts_nnA  : Ann := fun k _ _ => bif Nat.beq k 4 then some [{ α := Nat, T := fun k => ⟨26, [(0, .slice none 0 0), (1, .slice none 0 0), (5, .int .i64 (k : Int))]⟩, S := fun _ => ⟨[], 0⟩, I := fun k => k ≤ 0 ∧ ∀ i, i < k → (zF i 0 = zF i 0), m := fun k => 0 - k, ρ0 := [], ρ1 := [[]] }] else none
def conInts_nrA (eb nb cb : Nat) (fb : RF) : Ann := fun k _ _ => bif Nat.beq k 4 then some [{ α := Nat, T := fun k => ⟨26, [(0, .slice none 0 0), (1, rsl 0 0 nb cb), (5, .int .i64 (k : Int))]⟩, S := fun _ => ⟨[(0, .row true [.i64] eb nb cb fb)], 1⟩, I := fun k => k ≤ 0 ∧ ∀ i, i < k → (zF i 0 = fb i 0), m := fun k => 0 - k, ρ0 := [], ρ1 := [[]] }] else none
def conInts_rnA (ea na ca : Nat) (fa : RF) : Ann := fun k _ _ => bif Nat.beq k 4 then some [{ α := Nat, T := fun k => ⟨26, [(0, rsl 0 0 na ca), (1, .slice none 0 0), (5, .int .i64 (k : Int))]⟩, S := fun _ => ⟨[(0, .row true [.i64] ea na ca fa)], 1⟩, I := fun k => k ≤ na ∧ ∀ i, i < k → (fa i 0 = zF i 0), m := fun k => na - k, ρ0 := [], ρ1 := [[]] }] else none
def conInts_rrA (ea na ca : Nat) (fa : RF) (eb nb cb : Nat) (fb : RF) : Ann := fun k _ _ => bif Nat.beq k 4 then some [{ α := Nat, T := fun k => ⟨26, [(0, rsl 0 0 na ca), (1, rsl 1 0 nb cb), (5, .int .i64 (k : Int))]⟩, S := fun _ => ⟨[(0, .row true [.i64] ea na ca fa), (1, .row true [.i64] eb nb cb fb)], 2⟩, I := fun k => k ≤ na ∧ ∀ i, i < k → (fa i 0 = fb i 0), m := fun k => na - k, ρ0 := [], ρ1 := [[]] }] else none
def conSame : Con := fun vs bs K => match vs with
  | [u, v] => parse [.i64, .i64] 0 u bs fun n f j bs => parse [.i64, .i64] j v bs fun m g _ bs => bs = [] ∧ ∀ b, (b = true ↔ n = m ∧ ∀ i, i < n → f i 0 = g i 0 ∧ f i 1 = g i 1) → K (.bool b) []
  | _ => False

def conSame_nnA  : Ann := fun k _ _ => bif Nat.beq k 4 then some [{ α := Nat, T := fun k => ⟨26, [(0, .slice none 0 0), (1, .slice none 0 0), (5, .int .i64 (k : Int))]⟩, S := fun _ => ⟨[], 0⟩, I := fun k => k ≤ 0 ∧ ∀ i, i < k → (zF i 0 = zF i 0 ∧ zF i 1 = zF i 1), m := fun k => 0 - k, ρ0 := [], ρ1 := [[]] }] else none
def conSame_nrA (eb nb cb : Nat) (fb : RF) : Ann := fun k _ _ => bif Nat.beq k 4 then some [{ α := Nat, T := fun k => ⟨26, [(0, .slice none 0 0), (1, rsl 0 0 nb cb), (5, .int .i64 (k : Int))]⟩, S := fun _ => ⟨[(0, .row true [.i64, .i64] eb nb cb fb)], 1⟩, I := fun k => k ≤ 0 ∧ ∀ i, i < k → (zF i 0 = fb i 0 ∧ zF i 1 = fb i 1), m := fun k => 0 - k, ρ0 := [], ρ1 := [[]] }] else none
def conSame_rnA (ea na ca : Nat) (fa : RF) : Ann := fun k _ _ => bif Nat.beq k 4 then some [{ α := Nat, T := fun k => ⟨26, [(0, rsl 0 0 na ca), (1, .slice none 0 0), (5, .int .i64 (k : Int))]⟩, S := fun _ => ⟨[(0, .row true [.i64, .i64] ea na ca fa)], 1⟩, I := fun k => k ≤ na ∧ ∀ i, i < k → (fa i 0 = zF i 0 ∧ fa i 1 = zF i 1), m := fun k => na - k, ρ0 := [], ρ1 := [[]] }] else none
def conSame_rrA (ea na ca : Nat) (fa : RF) (eb nb cb : Nat) (fb : RF) : Ann := fun k _ _ => bif Nat.beq k 4 then some [{ α := Nat, T := fun k => ⟨26, [(0, rsl 0 0 na ca), (1, rsl 1 0 nb cb), (5, .int .i64 (k : Int))]⟩, S := fun _ => ⟨[(0, .row true [.i64, .i64] ea na ca fa), (1, .row true [.i64, .i64] eb nb cb fb)], 2⟩, I := fun k => k ≤ na ∧ ∀ i, i < k → (fa i 0 = fb i 0 ∧ fa i 1 = fb i 1), m := fun k => na - k, ρ0 := [], ρ1 := [[]] }] else none
def conInts_nnV  (K : Value → List Blk → Prop) : Prop := let q0 := TS; (T0 ∧ (q0 ∧ (q0 ∧ (T0 ∧ ((∃ y0 : Nat, ((Go.Rx.Sub 0 [] ⟨26, [(5, vi (0 : Int)), (0, vn), (1, vn)]⟩ ⟨[], 0⟩ ({ n := (26 : Nat), m := [((0 : Nat), vn), ((1 : Nat), vn), ((5 : Nat), vi (↑y0 : Int))] }) ({ h := [], next := (0 : Nat) })) ∧ ((y0 ≤ (0 : Nat)) ∧ (∀ y1 : Nat, ((y1 < y0) → (@Eq Int (zF y1 (0 : Nat)) (zF y1 (0 : Nat)))))))) ∧ (∀ y0 : Nat, (((y0 ≤ (0 : Nat)) ∧ (∀ y1 : Nat, ((y1 < y0) → (@Eq Int (zF y1 (0 : Nat)) (zF y1 (0 : Nat)))))) → (q0 ∧ (T0 ∧ (∃ y1 : Value, (∃ y2 : List Blk, ((Go.Rx.Found 0 (Value.bool true) ({ h := [], next := (0 : Nat) }) (y1) (y2)) ∧ (K y1 y2)))))))))))))
theorem conInts_nnE  (K : Value → List Blk → Prop) : conInts_nnV  K = bodyX (mk []) (callN (mk []) 3) (conInts_nnA ) Try.f28 [.slice none 0 0, .slice none 0 0] (stOf []) (Fd 0 K) := by kernel_rfl
set_option tactic.hygienic false in
theorem conInts_nnP  (K : Value → List Blk → Prop)  (h : ∀ b, (b = true ↔ 0 = 0 ∧ ∀ i, i < 0 → (zF i 0 = zF i 0)) → K (.bool b) []) : conInts_nnV  K := by
  unfold conInts_nnV
  conv => zeta
  repeat' (first | (with_reducible first | exact rfl | exact trivial | refine And.intro ?_ ?_ | refine br_intro (fun hq => ?_) fun hq => ?_ | refine if_both (fun hz => ?_) fun hz => ?_) | (intro) | fail)
  all_goals first
    | omega
    | assumption
    | exact ⟨0, (by (refine And.intro (And.intro rfl (And.intro rfl (And.intro rfl rfl))) ?_; (repeat' (first | exact trivial | exact rfl | exact fun _ _ _ _ => rfl | refine And.intro ?_ ?_ | omega | fail)); done)), by omega, fun i hi => by omega⟩
    | (refine ⟨y0 + 1, (by (refine And.intro (And.intro rfl (And.intro rfl (And.intro rfl rfl))) ?_; (repeat' (first | exact trivial | exact rfl | exact fun _ _ _ _ => rfl | refine And.intro ?_ ?_ | omega | fail)); done)), ⟨by omega, fun i hi => ?_⟩, by omega⟩
       rcases Nat.lt_or_ge i y0 with q | q
       · exact ‹y0 ≤ 0 ∧ ∀ i : Nat, i < y0 → (zF i 0 = zF i 0)›.2 i q
       · obtain rfl : i = y0 := by omega
         assumption)
    | exact fin0 (by kernel_rfl) (by kernel_rfl) (h true ⟨fun _ => ⟨by omega, fun i hi => ‹y0 ≤ 0 ∧ ∀ i : Nat, i < y0 → (zF i 0 = zF i 0)›.2 i (by omega)⟩, fun _ => rfl⟩)
    | exact fin0 (by kernel_rfl) (by kernel_rfl) (h false ⟨fun e => (by cases e), fun e => (by have := e.2 y0 (by omega); omega)⟩)
    | exact fin0 (by kernel_rfl) (by kernel_rfl) (h false ⟨fun e => (by cases e), fun e => (by omega)⟩)
    | exact fin0 (by kernel_rfl) (by kernel_rfl) (h false ⟨fun e => (by cases e), fun e => absurd (e.2 y0 (by omega)) (show ¬ eqL [zF y0 0, zF y0 1] [zF y0 0, zF y0 1] by assumption)⟩)
def conInts_nrV (eb nb cb : Nat) (fb : RF) (K : Value → List Blk → Prop) : Prop := let q0 := TS; (T0 ∧ (q0 ∧ (q0 ∧ (T0 ∧ (if (@Eq Int ((0 : Int)) ((↑nb : Int))) then ((∃ y0 : Nat, ((Go.Rx.Sub 1 [] ⟨26, [(5, vi (0 : Int)), (0, vn), (1, rsl (0 : Nat) (0 : Nat) nb cb)]⟩ ⟨[(0, Blk.row true [IntKind.i64] eb nb cb fb)], 1⟩ ({ n := (26 : Nat), m := [((0 : Nat), vn), ((1 : Nat), rsl (0 : Nat) (0 : Nat) nb cb), ((5 : Nat), vi (↑y0 : Int))] }) ({ h := [((0 : Nat), Blk.row true [IntKind.i64] eb nb cb fb)], next := (1 : Nat) })) ∧ ((y0 ≤ (0 : Nat)) ∧ (∀ y1 : Nat, ((y1 < y0) → (@Eq Int (zF y1 (0 : Nat)) (fb y1 (0 : Nat)))))))) ∧ (∀ y0 : Nat, (((y0 ≤ (0 : Nat)) ∧ (∀ y1 : Nat, ((y1 < y0) → (@Eq Int (zF y1 (0 : Nat)) (fb y1 (0 : Nat)))))) → (q0 ∧ (T0 ∧ (∃ y1 : Value, (∃ y2 : List Blk, ((Go.Rx.Found 1 (Value.bool true) ({ h := [((0 : Nat), Blk.row true [IntKind.i64] eb nb cb fb)], next := (1 : Nat) }) (y1) (y2)) ∧ (K y1 y2))))))))) else (∃ y0 : Value, (∃ y1 : List Blk, ((Go.Rx.Found 1 (Value.bool false) ({ h := [((0 : Nat), Blk.row true [IntKind.i64] eb nb cb fb)], next := (1 : Nat) }) (y0) (y1)) ∧ (K y0 y1)))))))))
theorem conInts_nrE (eb nb cb : Nat) (fb : RF) (K : Value → List Blk → Prop) : conInts_nrV eb nb cb fb K = bodyX (mk []) (callN (mk []) 3) (conInts_nrA eb nb cb fb) Try.f28 [.slice none 0 0, rsl 0 0 nb cb] (stOf [.row true [.i64] eb nb cb fb]) (Fd 1 K) := by kernel_rfl
set_option tactic.hygienic false in
theorem conInts_nrP (eb nb cb : Nat) (fb : RF) (K : Value → List Blk → Prop)  (hnb : nb ≤ 100000) (h : ∀ b, (b = true ↔ 0 = nb ∧ ∀ i, i < 0 → (zF i 0 = fb i 0)) → K (.bool b) []) : conInts_nrV eb nb cb fb K := by
  unfold conInts_nrV
  conv => zeta
  repeat' (first | (with_reducible first | exact rfl | exact trivial | refine And.intro ?_ ?_ | refine br_intro (fun hq => ?_) fun hq => ?_ | refine if_both (fun hz => ?_) fun hz => ?_) | (intro) | fail)
  all_goals first
    | omega
    | assumption
    | exact ⟨0, (by (refine And.intro (And.intro rfl (And.intro rfl (And.intro rfl rfl))) ?_; (repeat' (first | exact trivial | exact rfl | exact fun _ _ _ _ => rfl | refine And.intro ?_ ?_ | omega | fail)); done)), by omega, fun i hi => by omega⟩
    | (refine ⟨y0 + 1, (by (refine And.intro (And.intro rfl (And.intro rfl (And.intro rfl rfl))) ?_; (repeat' (first | exact trivial | exact rfl | exact fun _ _ _ _ => rfl | refine And.intro ?_ ?_ | omega | fail)); done)), ⟨by omega, fun i hi => ?_⟩, by omega⟩
       rcases Nat.lt_or_ge i y0 with q | q
       · exact ‹y0 ≤ 0 ∧ ∀ i : Nat, i < y0 → (zF i 0 = fb i 0)›.2 i q
       · obtain rfl : i = y0 := by omega
         assumption)
    | exact fin0 (by kernel_rfl) (by kernel_rfl) (h true ⟨fun _ => ⟨by omega, fun i hi => ‹y0 ≤ 0 ∧ ∀ i : Nat, i < y0 → (zF i 0 = fb i 0)›.2 i (by omega)⟩, fun _ => rfl⟩)
    | exact fin0 (by kernel_rfl) (by kernel_rfl) (h false ⟨fun e => (by cases e), fun e => (by have := e.2 y0 (by omega); omega)⟩)
    | exact fin0 (by kernel_rfl) (by kernel_rfl) (h false ⟨fun e => (by cases e), fun e => (by omega)⟩)
    | exact fin0 (by kernel_rfl) (by kernel_rfl) (h false ⟨fun e => (by cases e), fun e => absurd (e.2 y0 (by omega)) (show ¬ eqL [zF y0 0, zF y0 1] [fb y0 0, fb y0 1] by assumption)⟩)
def conInts_rnV (ea na ca : Nat) (fa : RF) (K : Value → List Blk → Prop) : Prop := let q0 := TS; (T0 ∧ (q0 ∧ (q0 ∧ (T0 ∧ (if (@Eq Int ((↑na : Int)) ((0 : Int))) then ((∃ y0 : Nat, ((Go.Rx.Sub 1 [] ⟨26, [(5, vi (0 : Int)), (0, rsl (0 : Nat) (0 : Nat) na ca), (1, vn)]⟩ ⟨[(0, Blk.row true [IntKind.i64] ea na ca fa)], 1⟩ ({ n := (26 : Nat), m := [((0 : Nat), rsl (0 : Nat) (0 : Nat) na ca), ((1 : Nat), vn), ((5 : Nat), vi (↑y0 : Int))] }) ({ h := [((0 : Nat), Blk.row true [IntKind.i64] ea na ca fa)], next := (1 : Nat) })) ∧ ((y0 ≤ na) ∧ (∀ y1 : Nat, ((y1 < y0) → (@Eq Int (fa y1 (0 : Nat)) (zF y1 (0 : Nat)))))))) ∧ (∀ y0 : Nat, (((y0 ≤ na) ∧ (∀ y1 : Nat, ((y1 < y0) → (@Eq Int (fa y1 (0 : Nat)) (zF y1 (0 : Nat)))))) → (q0 ∧ (T0 ∧ (if ((↑y0 : Int) < (↑na : Int)) then (t4 ((q0 ∧ (@Eq Nat ((1 : Nat)) ((1 : Nat)))) ∧ ((((0 : Int) ≤ (↑y0 : Int)) ∧ ((↑y0 : Int) < (↑na : Int))) ∧ (T0 ∧ ((y0 < na) ∧ (t3 (False))))))) else (∃ y1 : Value, (∃ y2 : List Blk, ((Go.Rx.Found 1 (Value.bool true) ({ h := [((0 : Nat), Blk.row true [IntKind.i64] ea na ca fa)], next := (1 : Nat) }) (y1) (y2)) ∧ (K y1 y2)))))))))) else (∃ y0 : Value, (∃ y1 : List Blk, ((Go.Rx.Found 1 (Value.bool false) ({ h := [((0 : Nat), Blk.row true [IntKind.i64] ea na ca fa)], next := (1 : Nat) }) (y0) (y1)) ∧ (K y0 y1)))))))))
theorem conInts_rnE (ea na ca : Nat) (fa : RF) (K : Value → List Blk → Prop) : conInts_rnV ea na ca fa K = bodyX (mk []) (callN (mk []) 3) (conInts_rnA ea na ca fa) Try.f28 [rsl 0 0 na ca, .slice none 0 0] (stOf [.row true [.i64] ea na ca fa]) (Fd 1 K) := by kernel_rfl
set_option tactic.hygienic false in
theorem conInts_rnP (ea na ca : Nat) (fa : RF) (K : Value → List Blk → Prop)  (hna : na ≤ 100000) (h : ∀ b, (b = true ↔ na = 0 ∧ ∀ i, i < na → (fa i 0 = zF i 0)) → K (.bool b) []) : conInts_rnV ea na ca fa K := by
  unfold conInts_rnV
  conv => zeta
  repeat' (first | (with_reducible first | exact rfl | exact trivial | refine And.intro ?_ ?_ | refine br_intro (fun hq => ?_) fun hq => ?_ | refine if_both (fun hz => ?_) fun hz => ?_) | (intro) | fail)
  all_goals first
    | omega
    | assumption
    | exact ⟨0, (by (refine And.intro (And.intro rfl (And.intro rfl (And.intro rfl rfl))) ?_; (repeat' (first | exact trivial | exact rfl | exact fun _ _ _ _ => rfl | refine And.intro ?_ ?_ | omega | fail)); done)), by omega, fun i hi => by omega⟩
    | (refine ⟨y0 + 1, (by (refine And.intro (And.intro rfl (And.intro rfl (And.intro rfl rfl))) ?_; (repeat' (first | exact trivial | exact rfl | exact fun _ _ _ _ => rfl | refine And.intro ?_ ?_ | omega | fail)); done)), ⟨by omega, fun i hi => ?_⟩, by omega⟩
       rcases Nat.lt_or_ge i y0 with q | q
       · exact ‹y0 ≤ na ∧ ∀ i : Nat, i < y0 → (fa i 0 = zF i 0)›.2 i q
       · obtain rfl : i = y0 := by omega
         assumption)
    | exact fin0 (by kernel_rfl) (by kernel_rfl) (h true ⟨fun _ => ⟨by omega, fun i hi => ‹y0 ≤ na ∧ ∀ i : Nat, i < y0 → (fa i 0 = zF i 0)›.2 i (by omega)⟩, fun _ => rfl⟩)
    | exact fin0 (by kernel_rfl) (by kernel_rfl) (h false ⟨fun e => (by cases e), fun e => (by have := e.2 y0 (by omega); omega)⟩)
    | exact fin0 (by kernel_rfl) (by kernel_rfl) (h false ⟨fun e => (by cases e), fun e => (by omega)⟩)
    | exact fin0 (by kernel_rfl) (by kernel_rfl) (h false ⟨fun e => (by cases e), fun e => absurd (e.2 y0 (by omega)) (show ¬ eqL [fa y0 0, fa y0 1] [zF y0 0, zF y0 1] by assumption)⟩)
def conInts_rrV (ea na ca : Nat) (fa : RF) (eb nb cb : Nat) (fb : RF) (K : Value → List Blk → Prop) : Prop := let q0 := (0, rsl (0 : Nat) (0 : Nat) na ca); let q1 := (1, rsl (1 : Nat) (0 : Nat) nb cb); let q2 := TS; let q3 := ((0 : Nat), rsl (0 : Nat) (0 : Nat) na ca); let q4 := ((1 : Nat), rsl (1 : Nat) (0 : Nat) nb cb); let q5 := (0, Blk.row true [IntKind.i64] ea na ca fa); let q6 := (1, Blk.row true [IntKind.i64] eb nb cb fb); let q7 := (q2 ∧ (@Eq Nat ((1 : Nat)) ((1 : Nat)))); (T0 ∧ (q2 ∧ (q2 ∧ (T0 ∧ (if (@Eq Int ((↑na : Int)) ((↑nb : Int))) then ((∃ y0 : Nat, ((Go.Rx.Sub 2 [] ⟨26, [(5, vi (0 : Int)), q0, q1]⟩ ⟨[q5, q6], 2⟩ ({ n := (26 : Nat), m := [q3, q4, ((5 : Nat), vi (↑y0 : Int))] }) ({ h := [((0 : Nat), Blk.row true [IntKind.i64] ea na ca fa), ((1 : Nat), Blk.row true [IntKind.i64] eb nb cb fb)], next := (2 : Nat) })) ∧ ((y0 ≤ na) ∧ (∀ y1 : Nat, ((y1 < y0) → (@Eq Int (fa y1 (0 : Nat)) (fb y1 (0 : Nat)))))))) ∧ (∀ y0 : Nat, let q8 := ((0 : Int) ≤ (↑y0 : Int)); (((y0 ≤ na) ∧ (∀ y1 : Nat, ((y1 < y0) → (@Eq Int (fa y1 (0 : Nat)) (fb y1 (0 : Nat)))))) → (q2 ∧ (T0 ∧ (if ((↑y0 : Int) < (↑na : Int)) then (t4 (q7 ∧ ((q8 ∧ ((↑y0 : Int) < (↑na : Int))) ∧ (T0 ∧ ((y0 < na) ∧ (t3 (q7 ∧ ((q8 ∧ ((↑y0 : Int) < (↑nb : Int))) ∧ (T0 ∧ ((y0 < nb) ∧ (t2 (if (@Eq Int (fa y0 (0 : Nat)) (fb y0 (0 : Nat))) then (T0 ∧ ((((-9223372036854775808 : Int) ≤ (↑y0 : Int) + (1 : Int)) ∧ ((↑y0 : Int) + (1 : Int) ≤ (9223372036854775807 : Int))) ∧ (∃ y1 : Nat, ((Go.Rx.Sub 2 [] ⟨26, [(5, vi ((↑y0 : Int) + (1 : Int))), q0, q1]⟩ ⟨[q5, q6], 2⟩ ({ n := (26 : Nat), m := [q3, q4, ((5 : Nat), vi (↑y1 : Int))] }) ({ h := [((0 : Nat), Blk.row true [IntKind.i64] ea na ca fa), ((1 : Nat), Blk.row true [IntKind.i64] eb nb cb fb)], next := (2 : Nat) })) ∧ (((y1 ≤ na) ∧ (∀ y2 : Nat, ((y2 < y1) → (@Eq Int (fa y2 (0 : Nat)) (fb y2 (0 : Nat)))))) ∧ (na - y1 < na - y0)))))) else (∃ y1 : Value, (∃ y2 : List Blk, ((Go.Rx.Found 2 (Value.bool false) ({ h := [((0 : Nat), Blk.row true [IntKind.i64] ea na ca fa), ((1 : Nat), Blk.row true [IntKind.i64] eb nb cb fb)], next := (2 : Nat) }) (y1) (y2)) ∧ (K y1 y2)))))))))))))))) else (∃ y1 : Value, (∃ y2 : List Blk, ((Go.Rx.Found 2 (Value.bool true) ({ h := [((0 : Nat), Blk.row true [IntKind.i64] ea na ca fa), ((1 : Nat), Blk.row true [IntKind.i64] eb nb cb fb)], next := (2 : Nat) }) (y1) (y2)) ∧ (K y1 y2)))))))))) else (∃ y0 : Value, (∃ y1 : List Blk, ((Go.Rx.Found 2 (Value.bool false) ({ h := [((0 : Nat), Blk.row true [IntKind.i64] ea na ca fa), ((1 : Nat), Blk.row true [IntKind.i64] eb nb cb fb)], next := (2 : Nat) }) (y0) (y1)) ∧ (K y0 y1)))))))))
theorem conInts_rrE (ea na ca : Nat) (fa : RF) (eb nb cb : Nat) (fb : RF) (K : Value → List Blk → Prop) : conInts_rrV ea na ca fa eb nb cb fb K = bodyX (mk []) (callN (mk []) 3) (conInts_rrA ea na ca fa eb nb cb fb) Try.f28 [rsl 0 0 na ca, rsl 1 0 nb cb] (stOf [.row true [.i64] ea na ca fa, .row true [.i64] eb nb cb fb]) (Fd 2 K) := by kernel_rfl
set_option tactic.hygienic false in
theorem conInts_rrP (ea na ca : Nat) (fa : RF) (eb nb cb : Nat) (fb : RF) (K : Value → List Blk → Prop)  (hna : na ≤ 100000) (hnb : nb ≤ 100000) (h : ∀ b, (b = true ↔ na = nb ∧ ∀ i, i < na → (fa i 0 = fb i 0)) → K (.bool b) []) : conInts_rrV ea na ca fa eb nb cb fb K := by
  unfold conInts_rrV
  conv => zeta
  repeat' (first | (with_reducible first | exact rfl | exact trivial | refine And.intro ?_ ?_ | refine br_intro (fun hq => ?_) fun hq => ?_ | refine if_both (fun hz => ?_) fun hz => ?_) | (intro) | fail)
  all_goals first
    | omega
    | assumption
    | exact ⟨0, (by (refine And.intro (And.intro rfl (And.intro rfl (And.intro rfl rfl))) ?_; (repeat' (first | exact trivial | exact rfl | exact fun _ _ _ _ => rfl | refine And.intro ?_ ?_ | omega | fail)); done)), by omega, fun i hi => by omega⟩
    | (refine ⟨y0 + 1, (by (refine And.intro (And.intro rfl (And.intro rfl (And.intro rfl rfl))) ?_; (repeat' (first | exact trivial | exact rfl | exact fun _ _ _ _ => rfl | refine And.intro ?_ ?_ | omega | fail)); done)), ⟨by omega, fun i hi => ?_⟩, by omega⟩
       rcases Nat.lt_or_ge i y0 with q | q
       · exact ‹y0 ≤ na ∧ ∀ i : Nat, i < y0 → (fa i 0 = fb i 0)›.2 i q
       · obtain rfl : i = y0 := by omega
         assumption)
    | exact fin0 (by kernel_rfl) (by kernel_rfl) (h true ⟨fun _ => ⟨by omega, fun i hi => ‹y0 ≤ na ∧ ∀ i : Nat, i < y0 → (fa i 0 = fb i 0)›.2 i (by omega)⟩, fun _ => rfl⟩)
    | exact fin0 (by kernel_rfl) (by kernel_rfl) (h false ⟨fun e => (by cases e), fun e => (by have := e.2 y0 (by omega); omega)⟩)
    | exact fin0 (by kernel_rfl) (by kernel_rfl) (h false ⟨fun e => (by cases e), fun e => (by omega)⟩)
    | exact fin0 (by kernel_rfl) (by kernel_rfl) (h false ⟨fun e => (by cases e), fun e => absurd (e.2 y0 (by omega)) (show ¬ eqL [fa y0 0, fa y0 1] [fb y0 0, fb y0 1] by assumption)⟩)
theorem conInts_ok : BodyOk (mk []) 3 Try.f28 conInts := by
  intro vs bs K hh hro
  clear hro
  unfold conInts at hh
  split at hh
  · rcases parse_inv hh with ⟨rfl, hh0⟩ | ⟨ea, na, ca, fa, bs0, rfl, hna, rfl, hh0⟩ <;> clear hh
    · rcases parse_inv hh0 with ⟨rfl, hh1⟩ | ⟨eb, nb, cb, fb, bs1, rfl, hnb, rfl, hh1⟩ <;> clear hh0
      · obtain ⟨rfl, hc⟩ := hh1
        exact ⟨_, _, cast (conInts_nnE  K) (conInts_nnP  K  hc)⟩
      · obtain ⟨rfl, hc⟩ := hh1
        exact ⟨_, _, cast (conInts_nrE eb nb cb fb K) (conInts_nrP eb nb cb fb K hnb hc)⟩
    · rcases parse_inv hh0 with ⟨rfl, hh1⟩ | ⟨eb, nb, cb, fb, bs1, rfl, hnb, rfl, hh1⟩ <;> clear hh0
      · obtain ⟨rfl, hc⟩ := hh1
        exact ⟨_, _, cast (conInts_rnE ea na ca fa K) (conInts_rnP ea na ca fa K hna hc)⟩
      · obtain ⟨rfl, hc⟩ := hh1
        exact ⟨_, _, cast (conInts_rrE ea na ca fa eb nb cb fb K) (conInts_rrP ea na ca fa eb nb cb fb K hna hnb hc)⟩
  · exact hh.elim
theorem conInts_told : Told 28 (specOf conInts) := told (X := []) (fun _ h => by cases h) (by kernel_rfl) (by kernel_rfl) (by kernel_rfl) conInts_ok
def conSame_nnV  (K : Value → List Blk → Prop) : Prop := let q0 := TS; (T0 ∧ (q0 ∧ (q0 ∧ (T0 ∧ ((∃ y0 : Nat, ((Go.Rx.Sub 0 [] ⟨26, [(5, vi (0 : Int)), (0, vn), (1, vn)]⟩ ⟨[], 0⟩ ({ n := (26 : Nat), m := [((0 : Nat), vn), ((1 : Nat), vn), ((5 : Nat), vi (↑y0 : Int))] }) ({ h := [], next := (0 : Nat) })) ∧ ((y0 ≤ (0 : Nat)) ∧ (∀ y1 : Nat, ((y1 < y0) → ((@Eq Int (zF y1 (0 : Nat)) (zF y1 (0 : Nat))) ∧ (@Eq Int (zF y1 (1 : Nat)) (zF y1 (1 : Nat))))))))) ∧ (∀ y0 : Nat, (((y0 ≤ (0 : Nat)) ∧ (∀ y1 : Nat, ((y1 < y0) → ((@Eq Int (zF y1 (0 : Nat)) (zF y1 (0 : Nat))) ∧ (@Eq Int (zF y1 (1 : Nat)) (zF y1 (1 : Nat))))))) → (q0 ∧ (T0 ∧ (∃ y1 : Value, (∃ y2 : List Blk, ((Go.Rx.Found 0 (Value.bool true) ({ h := [], next := (0 : Nat) }) (y1) (y2)) ∧ (K y1 y2)))))))))))))
theorem conSame_nnE  (K : Value → List Blk → Prop) : conSame_nnV  K = bodyX (mk []) (callN (mk []) 3) (conSame_nnA ) Try.f23 [.slice none 0 0, .slice none 0 0] (stOf []) (Fd 0 K) := by kernel_rfl
set_option tactic.hygienic false in
theorem conSame_nnP  (K : Value → List Blk → Prop)  (h : ∀ b, (b = true ↔ 0 = 0 ∧ ∀ i, i < 0 → (zF i 0 = zF i 0 ∧ zF i 1 = zF i 1)) → K (.bool b) []) : conSame_nnV  K := by
  unfold conSame_nnV
  conv => zeta
  repeat' (first | (with_reducible first | exact rfl | exact trivial | refine And.intro ?_ ?_ | refine br_intro (fun hq => ?_) fun hq => ?_ | refine if_both (fun hz => ?_) fun hz => ?_) | (intro) | fail)
  all_goals first
    | omega
    | assumption
    | exact ⟨0, (by (refine And.intro (And.intro rfl (And.intro rfl (And.intro rfl rfl))) ?_; (repeat' (first | exact trivial | exact rfl | exact fun _ _ _ _ => rfl | refine And.intro ?_ ?_ | omega | fail)); done)), by omega, fun i hi => by omega⟩
    | (refine ⟨y0 + 1, (by (refine And.intro (And.intro rfl (And.intro rfl (And.intro rfl rfl))) ?_; (repeat' (first | exact trivial | exact rfl | exact fun _ _ _ _ => rfl | refine And.intro ?_ ?_ | omega | fail)); done)), ⟨by omega, fun i hi => ?_⟩, by omega⟩
       rcases Nat.lt_or_ge i y0 with q | q
       · exact ‹y0 ≤ 0 ∧ ∀ i : Nat, i < y0 → (zF i 0 = zF i 0 ∧ zF i 1 = zF i 1)›.2 i q
       · obtain rfl : i = y0 := by omega
         assumption)
    | exact fin0 (by kernel_rfl) (by kernel_rfl) (h true ⟨fun _ => ⟨by omega, fun i hi => ‹y0 ≤ 0 ∧ ∀ i : Nat, i < y0 → (zF i 0 = zF i 0 ∧ zF i 1 = zF i 1)›.2 i (by omega)⟩, fun _ => rfl⟩)
    | exact fin0 (by kernel_rfl) (by kernel_rfl) (h false ⟨fun e => (by cases e), fun e => (by have := e.2 y0 (by omega); omega)⟩)
    | exact fin0 (by kernel_rfl) (by kernel_rfl) (h false ⟨fun e => (by cases e), fun e => (by omega)⟩)
    | exact fin0 (by kernel_rfl) (by kernel_rfl) (h false ⟨fun e => (by cases e), fun e => absurd (e.2 y0 (by omega)) (show ¬ eqL [zF y0 0, zF y0 1] [zF y0 0, zF y0 1] by assumption)⟩)
def conSame_nrV (eb nb cb : Nat) (fb : RF) (K : Value → List Blk → Prop) : Prop := let q0 := TS; (T0 ∧ (q0 ∧ (q0 ∧ (T0 ∧ (if (@Eq Int ((0 : Int)) ((↑nb : Int))) then ((∃ y0 : Nat, ((Go.Rx.Sub 1 [] ⟨26, [(5, vi (0 : Int)), (0, vn), (1, rsl (0 : Nat) (0 : Nat) nb cb)]⟩ ⟨[(0, rT eb nb cb fb)], 1⟩ ({ n := (26 : Nat), m := [((0 : Nat), vn), ((1 : Nat), rsl (0 : Nat) (0 : Nat) nb cb), ((5 : Nat), vi (↑y0 : Int))] }) ({ h := [((0 : Nat), rT eb nb cb fb)], next := (1 : Nat) })) ∧ ((y0 ≤ (0 : Nat)) ∧ (∀ y1 : Nat, ((y1 < y0) → ((@Eq Int (zF y1 (0 : Nat)) (fb y1 (0 : Nat))) ∧ (@Eq Int (zF y1 (1 : Nat)) (fb y1 (1 : Nat))))))))) ∧ (∀ y0 : Nat, (((y0 ≤ (0 : Nat)) ∧ (∀ y1 : Nat, ((y1 < y0) → ((@Eq Int (zF y1 (0 : Nat)) (fb y1 (0 : Nat))) ∧ (@Eq Int (zF y1 (1 : Nat)) (fb y1 (1 : Nat))))))) → (q0 ∧ (T0 ∧ (∃ y1 : Value, (∃ y2 : List Blk, ((Go.Rx.Found 1 (Value.bool true) ({ h := [((0 : Nat), rT eb nb cb fb)], next := (1 : Nat) }) (y1) (y2)) ∧ (K y1 y2))))))))) else (∃ y0 : Value, (∃ y1 : List Blk, ((Go.Rx.Found 1 (Value.bool false) ({ h := [((0 : Nat), rT eb nb cb fb)], next := (1 : Nat) }) (y0) (y1)) ∧ (K y0 y1)))))))))
theorem conSame_nrE (eb nb cb : Nat) (fb : RF) (K : Value → List Blk → Prop) : conSame_nrV eb nb cb fb K = bodyX (mk []) (callN (mk []) 3) (conSame_nrA eb nb cb fb) Try.f23 [.slice none 0 0, rsl 0 0 nb cb] (stOf [.row true [.i64, .i64] eb nb cb fb]) (Fd 1 K) := by kernel_rfl
set_option tactic.hygienic false in
theorem conSame_nrP (eb nb cb : Nat) (fb : RF) (K : Value → List Blk → Prop)  (hnb : nb ≤ 100000) (h : ∀ b, (b = true ↔ 0 = nb ∧ ∀ i, i < 0 → (zF i 0 = fb i 0 ∧ zF i 1 = fb i 1)) → K (.bool b) []) : conSame_nrV eb nb cb fb K := by
  unfold conSame_nrV
  conv => zeta
  repeat' (first | (with_reducible first | exact rfl | exact trivial | refine And.intro ?_ ?_ | refine br_intro (fun hq => ?_) fun hq => ?_ | refine if_both (fun hz => ?_) fun hz => ?_) | (intro) | fail)
  all_goals first
    | omega
    | assumption
    | exact ⟨0, (by (refine And.intro (And.intro rfl (And.intro rfl (And.intro rfl rfl))) ?_; (repeat' (first | exact trivial | exact rfl | exact fun _ _ _ _ => rfl | refine And.intro ?_ ?_ | omega | fail)); done)), by omega, fun i hi => by omega⟩
    | (refine ⟨y0 + 1, (by (refine And.intro (And.intro rfl (And.intro rfl (And.intro rfl rfl))) ?_; (repeat' (first | exact trivial | exact rfl | exact fun _ _ _ _ => rfl | refine And.intro ?_ ?_ | omega | fail)); done)), ⟨by omega, fun i hi => ?_⟩, by omega⟩
       rcases Nat.lt_or_ge i y0 with q | q
       · exact ‹y0 ≤ 0 ∧ ∀ i : Nat, i < y0 → (zF i 0 = fb i 0 ∧ zF i 1 = fb i 1)›.2 i q
       · obtain rfl : i = y0 := by omega
         assumption)
    | exact fin0 (by kernel_rfl) (by kernel_rfl) (h true ⟨fun _ => ⟨by omega, fun i hi => ‹y0 ≤ 0 ∧ ∀ i : Nat, i < y0 → (zF i 0 = fb i 0 ∧ zF i 1 = fb i 1)›.2 i (by omega)⟩, fun _ => rfl⟩)
    | exact fin0 (by kernel_rfl) (by kernel_rfl) (h false ⟨fun e => (by cases e), fun e => (by have := e.2 y0 (by omega); omega)⟩)
    | exact fin0 (by kernel_rfl) (by kernel_rfl) (h false ⟨fun e => (by cases e), fun e => (by omega)⟩)
    | exact fin0 (by kernel_rfl) (by kernel_rfl) (h false ⟨fun e => (by cases e), fun e => absurd (e.2 y0 (by omega)) (show ¬ eqL [zF y0 0, zF y0 1] [fb y0 0, fb y0 1] by assumption)⟩)
def conSame_rnV (ea na ca : Nat) (fa : RF) (K : Value → List Blk → Prop) : Prop := let q0 := (@Eq Nat ((2 : Nat)) ((2 : Nat))); let q1 := TS; (T0 ∧ (q1 ∧ (q1 ∧ (T0 ∧ (if (@Eq Int ((↑na : Int)) ((0 : Int))) then ((∃ y0 : Nat, ((Go.Rx.Sub 1 [] ⟨26, [(5, vi (0 : Int)), (0, rsl (0 : Nat) (0 : Nat) na ca), (1, vn)]⟩ ⟨[(0, rT ea na ca fa)], 1⟩ ({ n := (26 : Nat), m := [((0 : Nat), rsl (0 : Nat) (0 : Nat) na ca), ((1 : Nat), vn), ((5 : Nat), vi (↑y0 : Int))] }) ({ h := [((0 : Nat), rT ea na ca fa)], next := (1 : Nat) })) ∧ ((y0 ≤ na) ∧ (∀ y1 : Nat, ((y1 < y0) → ((@Eq Int (fa y1 (0 : Nat)) (zF y1 (0 : Nat))) ∧ (@Eq Int (fa y1 (1 : Nat)) (zF y1 (1 : Nat))))))))) ∧ (∀ y0 : Nat, (((y0 ≤ na) ∧ (∀ y1 : Nat, ((y1 < y0) → ((@Eq Int (fa y1 (0 : Nat)) (zF y1 (0 : Nat))) ∧ (@Eq Int (fa y1 (1 : Nat)) (zF y1 (1 : Nat))))))) → (q1 ∧ (T0 ∧ (if ((↑y0 : Int) < (↑na : Int)) then (t4 ((q1 ∧ q0) ∧ ((((0 : Int) ≤ (↑y0 : Int)) ∧ ((↑y0 : Int) < (↑na : Int))) ∧ (T0 ∧ ((y0 < na) ∧ (((@Eq Nat ((0 : Nat)) ((0 : Nat))) ∧ q0) ∧ (t3 (False)))))))) else (∃ y1 : Value, (∃ y2 : List Blk, ((Go.Rx.Found 1 (Value.bool true) ({ h := [((0 : Nat), rT ea na ca fa)], next := (1 : Nat) }) (y1) (y2)) ∧ (K y1 y2)))))))))) else (∃ y0 : Value, (∃ y1 : List Blk, ((Go.Rx.Found 1 (Value.bool false) ({ h := [((0 : Nat), rT ea na ca fa)], next := (1 : Nat) }) (y0) (y1)) ∧ (K y0 y1)))))))))
theorem conSame_rnE (ea na ca : Nat) (fa : RF) (K : Value → List Blk → Prop) : conSame_rnV ea na ca fa K = bodyX (mk []) (callN (mk []) 3) (conSame_rnA ea na ca fa) Try.f23 [rsl 0 0 na ca, .slice none 0 0] (stOf [.row true [.i64, .i64] ea na ca fa]) (Fd 1 K) := by kernel_rfl
set_option tactic.hygienic false in
theorem conSame_rnP (ea na ca : Nat) (fa : RF) (K : Value → List Blk → Prop)  (hna : na ≤ 100000) (h : ∀ b, (b = true ↔ na = 0 ∧ ∀ i, i < na → (fa i 0 = zF i 0 ∧ fa i 1 = zF i 1)) → K (.bool b) []) : conSame_rnV ea na ca fa K := by
  unfold conSame_rnV
  conv => zeta
  repeat' (first | (with_reducible first | exact rfl | exact trivial | refine And.intro ?_ ?_ | refine br_intro (fun hq => ?_) fun hq => ?_ | refine if_both (fun hz => ?_) fun hz => ?_) | (intro) | fail)
  all_goals first
    | omega
    | assumption
    | exact ⟨0, (by (refine And.intro (And.intro rfl (And.intro rfl (And.intro rfl rfl))) ?_; (repeat' (first | exact trivial | exact rfl | exact fun _ _ _ _ => rfl | refine And.intro ?_ ?_ | omega | fail)); done)), by omega, fun i hi => by omega⟩
    | (refine ⟨y0 + 1, (by (refine And.intro (And.intro rfl (And.intro rfl (And.intro rfl rfl))) ?_; (repeat' (first | exact trivial | exact rfl | exact fun _ _ _ _ => rfl | refine And.intro ?_ ?_ | omega | fail)); done)), ⟨by omega, fun i hi => ?_⟩, by omega⟩
       rcases Nat.lt_or_ge i y0 with q | q
       · exact ‹y0 ≤ na ∧ ∀ i : Nat, i < y0 → (fa i 0 = zF i 0 ∧ fa i 1 = zF i 1)›.2 i q
       · obtain rfl : i = y0 := by omega
         assumption)
    | exact fin0 (by kernel_rfl) (by kernel_rfl) (h true ⟨fun _ => ⟨by omega, fun i hi => ‹y0 ≤ na ∧ ∀ i : Nat, i < y0 → (fa i 0 = zF i 0 ∧ fa i 1 = zF i 1)›.2 i (by omega)⟩, fun _ => rfl⟩)
    | exact fin0 (by kernel_rfl) (by kernel_rfl) (h false ⟨fun e => (by cases e), fun e => (by have := e.2 y0 (by omega); omega)⟩)
    | exact fin0 (by kernel_rfl) (by kernel_rfl) (h false ⟨fun e => (by cases e), fun e => (by omega)⟩)
    | exact fin0 (by kernel_rfl) (by kernel_rfl) (h false ⟨fun e => (by cases e), fun e => absurd (e.2 y0 (by omega)) (show ¬ eqL [fa y0 0, fa y0 1] [zF y0 0, zF y0 1] by assumption)⟩)
def conSame_rrV (ea na ca : Nat) (fa : RF) (eb nb cb : Nat) (fb : RF) (K : Value → List Blk → Prop) : Prop := let q0 := (@Eq Nat ((2 : Nat)) ((2 : Nat))); let q1 := (0, rsl (0 : Nat) (0 : Nat) na ca); let q2 := (1, rsl (1 : Nat) (0 : Nat) nb cb); let q3 := TS; let q4 := ((0 : Nat), rsl (0 : Nat) (0 : Nat) na ca); let q5 := ((1 : Nat), rsl (1 : Nat) (0 : Nat) nb cb); let q6 := (0, rT ea na ca fa); let q7 := (1, rT eb nb cb fb); let q8 := ((@Eq Nat ((0 : Nat)) ((0 : Nat))) ∧ q0); let q9 := (q3 ∧ q0); (T0 ∧ (q3 ∧ (q3 ∧ (T0 ∧ (if (@Eq Int ((↑na : Int)) ((↑nb : Int))) then ((∃ y0 : Nat, ((Go.Rx.Sub 2 [] ⟨26, [(5, vi (0 : Int)), q1, q2]⟩ ⟨[q6, q7], 2⟩ ({ n := (26 : Nat), m := [q4, q5, ((5 : Nat), vi (↑y0 : Int))] }) ({ h := [((0 : Nat), rT ea na ca fa), ((1 : Nat), rT eb nb cb fb)], next := (2 : Nat) })) ∧ ((y0 ≤ na) ∧ (∀ y1 : Nat, ((y1 < y0) → ((@Eq Int (fa y1 (0 : Nat)) (fb y1 (0 : Nat))) ∧ (@Eq Int (fa y1 (1 : Nat)) (fb y1 (1 : Nat))))))))) ∧ (∀ y0 : Nat, let q10 := ((0 : Int) ≤ (↑y0 : Int)); (((y0 ≤ na) ∧ (∀ y1 : Nat, ((y1 < y0) → ((@Eq Int (fa y1 (0 : Nat)) (fb y1 (0 : Nat))) ∧ (@Eq Int (fa y1 (1 : Nat)) (fb y1 (1 : Nat))))))) → (q3 ∧ (T0 ∧ (if ((↑y0 : Int) < (↑na : Int)) then (t4 (q9 ∧ ((q10 ∧ ((↑y0 : Int) < (↑na : Int))) ∧ (T0 ∧ ((y0 < na) ∧ (q8 ∧ (t3 (q9 ∧ ((q10 ∧ ((↑y0 : Int) < (↑nb : Int))) ∧ (T0 ∧ ((y0 < nb) ∧ (q8 ∧ (T0 ∧ (if (eqL [fa y0 (0 : Nat), fa y0 (1 : Nat)] [fb y0 (0 : Nat), fb y0 (1 : Nat)]) then (T0 ∧ ((((-9223372036854775808 : Int) ≤ (↑y0 : Int) + (1 : Int)) ∧ ((↑y0 : Int) + (1 : Int) ≤ (9223372036854775807 : Int))) ∧ (∃ y1 : Nat, ((Go.Rx.Sub 2 [] ⟨26, [(5, vi ((↑y0 : Int) + (1 : Int))), q1, q2]⟩ ⟨[q6, q7], 2⟩ ({ n := (26 : Nat), m := [q4, q5, ((5 : Nat), vi (↑y1 : Int))] }) ({ h := [((0 : Nat), rT ea na ca fa), ((1 : Nat), rT eb nb cb fb)], next := (2 : Nat) })) ∧ (((y1 ≤ na) ∧ (∀ y2 : Nat, ((y2 < y1) → ((@Eq Int (fa y2 (0 : Nat)) (fb y2 (0 : Nat))) ∧ (@Eq Int (fa y2 (1 : Nat)) (fb y2 (1 : Nat))))))) ∧ (na - y1 < na - y0)))))) else (∃ y1 : Value, (∃ y2 : List Blk, ((Go.Rx.Found 2 (Value.bool false) ({ h := [((0 : Nat), rT ea na ca fa), ((1 : Nat), rT eb nb cb fb)], next := (2 : Nat) }) (y1) (y2)) ∧ (K y1 y2)))))))))))))))))) else (∃ y1 : Value, (∃ y2 : List Blk, ((Go.Rx.Found 2 (Value.bool true) ({ h := [((0 : Nat), rT ea na ca fa), ((1 : Nat), rT eb nb cb fb)], next := (2 : Nat) }) (y1) (y2)) ∧ (K y1 y2)))))))))) else (∃ y0 : Value, (∃ y1 : List Blk, ((Go.Rx.Found 2 (Value.bool false) ({ h := [((0 : Nat), rT ea na ca fa), ((1 : Nat), rT eb nb cb fb)], next := (2 : Nat) }) (y0) (y1)) ∧ (K y0 y1)))))))))
theorem conSame_rrE (ea na ca : Nat) (fa : RF) (eb nb cb : Nat) (fb : RF) (K : Value → List Blk → Prop) : conSame_rrV ea na ca fa eb nb cb fb K = bodyX (mk []) (callN (mk []) 3) (conSame_rrA ea na ca fa eb nb cb fb) Try.f23 [rsl 0 0 na ca, rsl 1 0 nb cb] (stOf [.row true [.i64, .i64] ea na ca fa, .row true [.i64, .i64] eb nb cb fb]) (Fd 2 K) := by kernel_rfl
set_option tactic.hygienic false in
theorem conSame_rrP (ea na ca : Nat) (fa : RF) (eb nb cb : Nat) (fb : RF) (K : Value → List Blk → Prop)  (hna : na ≤ 100000) (hnb : nb ≤ 100000) (h : ∀ b, (b = true ↔ na = nb ∧ ∀ i, i < na → (fa i 0 = fb i 0 ∧ fa i 1 = fb i 1)) → K (.bool b) []) : conSame_rrV ea na ca fa eb nb cb fb K := by
  unfold conSame_rrV
  conv => zeta
  repeat' (first | (with_reducible first | exact rfl | exact trivial | refine And.intro ?_ ?_ | refine br_intro (fun hq => ?_) fun hq => ?_ | refine if_both (fun hz => ?_) fun hz => ?_) | (intro) | fail)
  all_goals first
    | omega
    | assumption
    | exact ⟨0, (by (refine And.intro (And.intro rfl (And.intro rfl (And.intro rfl rfl))) ?_; (repeat' (first | exact trivial | exact rfl | exact fun _ _ _ _ => rfl | refine And.intro ?_ ?_ | omega | fail)); done)), by omega, fun i hi => by omega⟩
    | (refine ⟨y0 + 1, (by (refine And.intro (And.intro rfl (And.intro rfl (And.intro rfl rfl))) ?_; (repeat' (first | exact trivial | exact rfl | exact fun _ _ _ _ => rfl | refine And.intro ?_ ?_ | omega | fail)); done)), ⟨by omega, fun i hi => ?_⟩, by omega⟩
       rcases Nat.lt_or_ge i y0 with q | q
       · exact ‹y0 ≤ na ∧ ∀ i : Nat, i < y0 → (fa i 0 = fb i 0 ∧ fa i 1 = fb i 1)›.2 i q
       · obtain rfl : i = y0 := by omega
         assumption)
    | exact fin0 (by kernel_rfl) (by kernel_rfl) (h true ⟨fun _ => ⟨by omega, fun i hi => ‹y0 ≤ na ∧ ∀ i : Nat, i < y0 → (fa i 0 = fb i 0 ∧ fa i 1 = fb i 1)›.2 i (by omega)⟩, fun _ => rfl⟩)
    | exact fin0 (by kernel_rfl) (by kernel_rfl) (h false ⟨fun e => (by cases e), fun e => (by have := e.2 y0 (by omega); omega)⟩)
    | exact fin0 (by kernel_rfl) (by kernel_rfl) (h false ⟨fun e => (by cases e), fun e => (by omega)⟩)
    | exact fin0 (by kernel_rfl) (by kernel_rfl) (h false ⟨fun e => (by cases e), fun e => absurd (e.2 y0 (by omega)) (show ¬ eqL [fa y0 0, fa y0 1] [fb y0 0, fb y0 1] by assumption)⟩)
theorem conSame_ok : BodyOk (mk []) 3 Try.f23 conSame := by
  intro vs bs K hh hro
  clear hro
  unfold conSame at hh
  split at hh
  · rcases parse_inv hh with ⟨rfl, hh0⟩ | ⟨ea, na, ca, fa, bs0, rfl, hna, rfl, hh0⟩ <;> clear hh
    · rcases parse_inv hh0 with ⟨rfl, hh1⟩ | ⟨eb, nb, cb, fb, bs1, rfl, hnb, rfl, hh1⟩ <;> clear hh0
      · obtain ⟨rfl, hc⟩ := hh1
        exact ⟨_, _, cast (conSame_nnE  K) (conSame_nnP  K  hc)⟩
      · obtain ⟨rfl, hc⟩ := hh1
        exact ⟨_, _, cast (conSame_nrE eb nb cb fb K) (conSame_nrP eb nb cb fb K hnb hc)⟩
    · rcases parse_inv hh0 with ⟨rfl, hh1⟩ | ⟨eb, nb, cb, fb, bs1, rfl, hnb, rfl, hh1⟩ <;> clear hh0
      · obtain ⟨rfl, hc⟩ := hh1
        exact ⟨_, _, cast (conSame_rnE ea na ca fa K) (conSame_rnP ea na ca fa K hna hc)⟩
      · obtain ⟨rfl, hc⟩ := hh1
        exact ⟨_, _, cast (conSame_rrE ea na ca fa eb nb cb fb K) (conSame_rrP ea na ca fa eb nb cb fb K hna hnb hc)⟩
  · exact hh.elim
theorem conSame_told : Told 23 (specOf conSame) := told (X := []) (fun _ h => by cases h) (by kernel_rfl) (by kernel_rfl) (by kernel_rfl) conSame_ok
end Go.Proofs.Ytkflmglpniebfaa.Fr
namespace Go.Proofs.Ytkflmglpniebfaa.Fr
set_option maxRecDepth 100000
set_option maxHeartbeats 4000000
open Go.Rx
open Go.RowKit (Below)
set_option linter.unusedVariables false
/-- How many of the first k frames are popular. -/
def pc (f : RF) : Nat → Int
  | 0 => 0
  | k + 1 => if f k 0 = 2 then pc f k + 1 else pc f k
/-- The error from frame k on, l of them: which one has it, which it is. -/
def ck (a : Int) (f : RF) : Nat → Nat → Int × Int
  | 0, _ => (0, 0)
  | l + 1, k => if f k 0 < 0 ∨ 2 < f k 0 ∨ (f k 0 = 0 ∧ ¬ f k 1 = 0) then (k, 6) else if f k 1 < 0 ∨ a < f k 1 then (k, 7) else if f k 0 = 2 ∧ pc f k = 2 then (k, 5) else ck a f l (k + 1)
theorem ck_step (a : Int) (f : RF) {n k : Nat} (h : k < n) : ck a f (n - k) k = if f k 0 < 0 ∨ 2 < f k 0 ∨ (f k 0 = 0 ∧ ¬ f k 1 = 0) then ((k : Int), 6) else if f k 1 < 0 ∨ a < f k 1 then ((k : Int), 7) else if f k 0 = 2 ∧ pc f k = 2 then ((k : Int), 5) else ck a f (n - (k + 1)) (k + 1) := by
  rw [show n - k = (n - (k + 1)) + 1 by omega]
  rfl
def fok (a : Int) (f : RF) (k : Nat) : Prop := 0 ≤ f k 0 ∧ f k 0 ≤ 2 ∧ (f k 0 = 0 → f k 1 = 0) ∧ 0 ≤ f k 1 ∧ f k 1 ≤ a
theorem ck_ok (a : Int) (f : RF) : ∀ (l k : Nat), (ck a f l k).2 = 0 → ∀ i, k ≤ i → i < k + l → fok a f i
  | 0, k, _, i, h1, h2 => by omega
  | l + 1, k, h, i, h1, h2 => by
    unfold ck at h
    split at h
    · cases h
    · split at h
      · cases h
      · split at h
        · cases h
        · rcases Nat.lt_or_ge k i with q | q
          · exact ck_ok a f l (k + 1) h i (by omega) (by omega)
          · obtain rfl : i = k := by omega
            unfold fok
            omega
/-- What a check of frames returns. -/
def ckF (a b c d e : Int) (n : Nat) (f : RF) : Int × Int := if chk a b c d e = 0 then (if (n : Int) = b then ck a f n 0 else (-1, 3)) else (-1, chk a b c d e)
theorem ckF_bad {a b c d e : Int} {n : Nat} {f : RF} (h : ¬ chk a b c d e = 0) : ckF a b c d e n f = (-1, chk a b c d e) := if_neg h
theorem ckF_long {a b c d e : Int} {n : Nat} {f : RF} (h : chk a b c d e = 0) (h' : ¬ (n : Int) = b) : ckF a b c d e n f = (-1, 3) := by unfold ckF; rw [if_pos h, if_neg h']
theorem ckF_go {a b c d e : Int} {n : Nat} {f : RF} (h : chk a b c d e = 0) (h' : (n : Int) = b) : ckF a b c d e n f = ck a f n 0 := by unfold ckF; rw [if_pos h, if_pos h']
theorem chk_good {a b c d e : Int} (h : chk a b c d e = 0) : good a b c d e := by
  unfold chk at h
  split at h
  · assumption
  · cases h
theorem ckF_zero {a b c d e : Int} {n : Nat} {f : RF} (h : (ckF a b c d e n f).2 = 0) : good a b c d e ∧ (n : Int) = b ∧ ∀ i, i < n → fok a f i := by
  unfold ckF at h
  split at h
  · rename_i g
    split at h
    · rename_i g'
      exact ⟨chk_good g, g', fun i hi => ck_ok a f n 0 h i (by omega) (by omega)⟩
    · cases h
  · exact absurd h (by assumption)
def con67 : Con := fun vs bs K => match vs with
  | [u] => five u fun a b c d e => bs = [] ∧ K (.int .i64 (chk a b c d e)) []
  | _ => False

def con67_zA (a : Int) (b : Int) (c : Int) (d : Int) (e : Int) : Ann := fun _ _ _ => none
def con21 : Con := fun vs bs K => match vs with
  | [u, v] => five u fun a b c d e => parse [.i64, .i64] 0 v bs fun n f _ bs => bs = [] ∧ K (.tuple ⟨[.int .i64 (ckF a b c d e n f).1, .int .i64 (ckF a b c d e n f).2]⟩) []
  | _ => False

def con21_nA (a : Int) (b : Int) (c : Int) (d : Int) (e : Int) : Ann := fun k _ _ => bif Nat.beq k 8 then some [{ α := Nat, T := fun k => ⟨66, [(2, .pointer (some ⟨0, 0, none⟩)), (7, .int .i64 (pc zF k)), (20, .slice none 0 0), (21, .int .i64 (0 : Nat)), (22, .int .i64 (k : Int))]⟩, S := fun _ => ⟨[(0, .cells [.int .i64 a, .int .i64 b, .int .i64 c, .int .i64 d, .int .i64 e] 23)], 1⟩, I := fun k => k ≤ 0 ∧ 0 ≤ pc zF k ∧ pc zF k ≤ 2 ∧ ck a zF (0 - k) k = ck a zF 0 0, m := fun k => 0 - k, ρ0 := [(0, 0)], ρ1 := [[(0, 0)]] }] else none
def con21_rA (el nl cl : Nat) (fl : RF) (a : Int) (b : Int) (c : Int) (d : Int) (e : Int) : Ann := fun k _ _ => bif Nat.beq k 8 then some [{ α := Nat, T := fun k => ⟨66, [(2, .pointer (some ⟨1, 0, none⟩)), (7, .int .i64 (pc fl k)), (20, rsl 0 0 nl cl), (21, .int .i64 (nl : Nat)), (22, .int .i64 (k : Int))]⟩, S := fun _ => ⟨[(1, .cells [.int .i64 a, .int .i64 b, .int .i64 c, .int .i64 d, .int .i64 e] 23), (0, .row true [.i64, .i64] el nl cl fl)], 2⟩, I := fun k => k ≤ nl ∧ 0 ≤ pc fl k ∧ pc fl k ≤ 2 ∧ ck a fl (nl - k) k = ck a fl nl 0, m := fun k => nl - k, ρ0 := [(1, 1)], ρ1 := [[(1, 1)]] }] else none
def con22 : Con := fun vs bs K => match vs with
  | [u, v] => five u fun a b c d e => parse [.i64, .i64] 0 v bs fun n f _ bs => bs = [] ∧ K (.tuple ⟨[.int .i64 (ckF a b c d e n f).1, .int .i64 (ckF a b c d e n f).2]⟩) []
  | _ => False

def con22_nA (a : Int) (b : Int) (c : Int) (d : Int) (e : Int) : Ann := fun k _ _ => bif Nat.beq k 8 then some [{ α := Nat, T := fun k => ⟨88, [(2, .pointer (some ⟨0, 0, none⟩)), (1, .slice none 0 0), (7, .int .i64 (pc zF k)), (8, .int .i64 (k : Int))]⟩, S := fun _ => ⟨[(0, .cells [.int .i64 a, .int .i64 b, .int .i64 c, .int .i64 d, .int .i64 e] 23)], 1⟩, I := fun k => k ≤ 0 ∧ 0 ≤ pc zF k ∧ pc zF k ≤ 2 ∧ ck a zF (0 - k) k = ck a zF 0 0, m := fun k => 0 - k, ρ0 := [(0, 0)], ρ1 := [[(0, 0)]] }] else none
def con22_rA (el nl cl : Nat) (fl : RF) (a : Int) (b : Int) (c : Int) (d : Int) (e : Int) : Ann := fun k _ _ => bif Nat.beq k 8 then some [{ α := Nat, T := fun k => ⟨88, [(2, .pointer (some ⟨1, 0, none⟩)), (1, rsl 0 0 nl cl), (7, .int .i64 (pc fl k)), (8, .int .i64 (k : Int))]⟩, S := fun _ => ⟨[(1, .cells [.int .i64 a, .int .i64 b, .int .i64 c, .int .i64 d, .int .i64 e] 23), (0, .row true [.i64, .i64] el nl cl fl)], 2⟩, I := fun k => k ≤ nl ∧ 0 ≤ pc fl k ∧ pc fl k ≤ 2 ∧ ck a fl (nl - k) k = ck a fl nl 0, m := fun k => nl - k, ρ0 := [(1, 1)], ρ1 := [[(1, 1)]] }] else none
def con67_zV (a : Int) (b : Int) (c : Int) (d : Int) (e : Int) (K : Value → List Blk → Prop) : Prop := let q0 := (∃ y0 : Value, (∃ y1 : List Blk, ((Go.Rx.Found 0 (vi (7 : Int)) ({ h := [((0 : Nat), Blk.cells [vi a, vi b, vi c, vi d, vi e] (23 : Nat))], next := (1 : Nat) }) (y0) (y1)) ∧ (K y0 y1)))); (t4 (if ((8 : Int) ≤ a) then (T0 ∧ (if (a ≤ (64 : Int)) then (t3 (if ((7 : Int) ≤ b) then (T0 ∧ (if (b ≤ (24 : Int)) then (t3 (if ((4 : Int) ≤ c) then (T0 ∧ (if (c ≤ (64 : Int)) then (t3 (if ((1 : Int) ≤ d) then (T0 ∧ (if (d ≤ (8 : Int)) then (t3 (if ((2 : Int) ≤ e) then (T0 ∧ (if (e ≤ (16 : Int)) then (∃ y0 : Value, (∃ y1 : List Blk, ((Go.Rx.Found 0 (vi (0 : Int)) ({ h := [((0 : Nat), Blk.cells [vi a, vi b, vi c, vi d, vi e] (23 : Nat))], next := (1 : Nat) }) (y0) (y1)) ∧ (K y0 y1)))) else q0)) else q0)) else q0)) else q0)) else q0)) else q0)) else q0)) else q0)) else q0)) else q0))
theorem con67_zE (a : Int) (b : Int) (c : Int) (d : Int) (e : Int) (K : Value → List Blk → Prop) : con67_zV a b c d e K = bodyX (mk []) (callN (mk []) 3) (con67_zA a b c d e) Try.f67 [five' a b c d e] (stOf []) (Fd 0 K) := by kernel_rfl
set_option tactic.hygienic false in
theorem con67_zP (a : Int) (b : Int) (c : Int) (d : Int) (e : Int) (K : Value → List Blk → Prop)  (hI : InC a b c d e) (h : K (.int .i64 (chk a b c d e)) []) : con67_zV a b c d e K := by
  unfold con67_zV
  conv => zeta
  repeat' (first | (with_reducible first | exact rfl | exact trivial | refine And.intro ?_ ?_ | refine br_intro (fun hq => ?_) fun hq => ?_ | refine if_both (fun hz => ?_) fun hz => ?_) | (intro) | fail)
  all_goals first
    | exact fin0 (by kernel_rfl) (by kernel_rfl) (by
        have q : chk a b c d e = 7 := if_neg (by unfold good; omega)
        rw [q] at h; exact h)
    | exact fin0 (by kernel_rfl) (by kernel_rfl) (by
        have q : chk a b c d e = 0 := if_pos (by unfold good; omega)
        rw [q] at h; exact h)
theorem con67_ok : BodyOk (mk []) 3 Try.f67 con67 := by
  intro vs bs K hh hro
  clear hro
  unfold con67 at hh
  split at hh
  · obtain ⟨a, b, c, d, e, rfl, hI, hh0⟩ := five_inv hh
    obtain ⟨rfl, hc⟩ := hh0
    exact ⟨_, _, cast (con67_zE a b c d e K) (con67_zP a b c d e K hI hc)⟩
  · exact hh.elim
theorem con67_told : Told 67 (specOf con67) := told (X := []) (fun _ h => by cases h) (by kernel_rfl) (by kernel_rfl) (by kernel_rfl) con67_ok
def con21_nV (a : Int) (b : Int) (c : Int) (d : Int) (e : Int) (K : Value → List Blk → Prop) : Prop := let q0 := TS; (t2 ((InC a b c d e) ∧ (T0 ∧ (if (@Eq Int (chk a b c d e) ((0 : Int))) then (q0 ∧ (t2 (if (@Eq Int ((0 : Int)) (b)) then (q0 ∧ ((∃ y0 : Nat, ((Go.Rx.Sub 0 [((0 : Nat), (0 : Nat))] ⟨66, [(22, vi (0 : Int)), (21, vi (0 : Int)), (20, vn), (7, vi (0 : Int)), (2, Value.pointer (some { block := (0 : Nat), off := (0 : Nat) }))]⟩ ⟨[(0, Blk.cells [vi a, vi b, vi c, vi d, vi e] (23 : Nat))], 1⟩ ({ n := (66 : Nat), m := [((2 : Nat), Value.pointer (some { block := (0 : Nat), off := (0 : Nat) })), ((7 : Nat), vi (pc zF y0)), ((20 : Nat), vn), ((21 : Nat), vi (0 : Int)), ((22 : Nat), vi (↑y0 : Int))] }) ({ h := [((0 : Nat), Blk.cells [vi a, vi b, vi c, vi d, vi e] (23 : Nat))], next := (1 : Nat) })) ∧ ((y0 ≤ (0 : Nat)) ∧ (((0 : Int) ≤ pc zF y0) ∧ ((pc zF y0 ≤ (2 : Int)) ∧ (ck a zF ((0 : Nat) - y0) y0 = ck a zF (0 : Nat) (0 : Nat))))))) ∧ (∀ y0 : Nat, (((y0 ≤ (0 : Nat)) ∧ (((0 : Int) ≤ pc zF y0) ∧ ((pc zF y0 ≤ (2 : Int)) ∧ (ck a zF ((0 : Nat) - y0) y0 = ck a zF (0 : Nat) (0 : Nat))))) → (T0 ∧ (∃ y1 : Value, (∃ y2 : List Blk, ((Go.Rx.Found 0 (Value.tuple { toList := [vi (0 : Int), vi (0 : Int)] }) ({ h := [((0 : Nat), Blk.cells [vi a, vi b, vi c, vi d, vi e] (23 : Nat))], next := (1 : Nat) }) (y1) (y2)) ∧ (K y1 y2))))))))) else (∃ y0 : Value, (∃ y1 : List Blk, ((Go.Rx.Found 0 (Value.tuple { toList := [vi (-1 : Int), vi (3 : Int)] }) ({ h := [((0 : Nat), Blk.cells [vi a, vi b, vi c, vi d, vi e] (23 : Nat))], next := (1 : Nat) }) (y0) (y1)) ∧ (K y0 y1))))))) else (∃ y0 : Value, (∃ y1 : List Blk, ((Go.Rx.Found 0 (Value.tuple { toList := [vi (-1 : Int), vi (chk a b c d e)] }) ({ h := [((0 : Nat), Blk.cells [vi a, vi b, vi c, vi d, vi e] (23 : Nat))], next := (1 : Nat) }) (y0) (y1)) ∧ (K y0 y1))))))))
theorem con21_nE (a : Int) (b : Int) (c : Int) (d : Int) (e : Int) (K : Value → List Blk → Prop) : con21_nV a b c d e K = bodyX (mk [(66, sp66)]) (callN (mk [(66, sp66)]) 3) (con21_nA a b c d e) Try.f21 [five' a b c d e, .slice none 0 0] (stOf []) (Fd 0 K) := by kernel_rfl
set_option tactic.hygienic false in
theorem con21_nP (a : Int) (b : Int) (c : Int) (d : Int) (e : Int) (K : Value → List Blk → Prop)  (hI : InC a b c d e) (h : K (.tuple ⟨[.int .i64 (ckF a b c d e 0 zF).1, .int .i64 (ckF a b c d e 0 zF).2]⟩) []) : con21_nV a b c d e K := by
  unfold con21_nV
  conv => zeta
  repeat' (first | (with_reducible first | exact rfl | exact trivial | refine And.intro ?_ ?_ | refine br_intro (fun hq => ?_) fun hq => ?_ | refine if_both (fun hz => ?_) fun hz => ?_) | (intro) | fail)
  all_goals first
    | omega
    | assumption
    | exact ⟨0, (by (refine And.intro (And.intro rfl (And.intro rfl (And.intro rfl rfl))) ?_; (repeat' (first | exact trivial | exact rfl | exact fun _ _ _ _ => rfl | refine And.intro ?_ ?_ | omega | fail)); done)), by omega, by simp [pc], by simp [pc], rfl⟩
    | (refine ⟨y0 + 1, (by (refine And.intro (And.intro rfl (And.intro rfl (And.intro rfl rfl))) ?_; (repeat' (first | exact trivial | exact rfl | exact fun _ _ _ _ => rfl | refine And.intro ?_ ?_ | omega | (simp only [pc]; first | rw [if_pos (by omega)] | rw [if_neg (by omega)]) | fail)); done)), ⟨by omega, ?_, ?_, ?_⟩, by omega⟩
       · have q := ‹y0 ≤ 0 ∧ 0 ≤ pc zF y0 ∧ pc zF y0 ≤ 2 ∧ ck a zF (0 - y0) y0 = ck a zF 0 0›
         simp only [pc]; split <;> omega
       · have q := ‹y0 ≤ 0 ∧ 0 ≤ pc zF y0 ∧ pc zF y0 ≤ 2 ∧ ck a zF (0 - y0) y0 = ck a zF 0 0›
         simp only [pc]; split <;> omega
       · have q := ‹y0 ≤ 0 ∧ 0 ≤ pc zF y0 ∧ pc zF y0 ≤ 2 ∧ ck a zF (0 - y0) y0 = ck a zF 0 0›
         have q2 := ck_step a zF (n := 0) (k := y0) (by omega)
         rw [if_neg (by omega), if_neg (by omega), if_neg (by omega)] at q2
         rw [← q2]
         exact q.2.2.2)
    | exact fin0 (by kernel_rfl) (by kernel_rfl) (by
        rw [ckF_bad (by assumption)] at h; exact h)
    | exact fin0 (by kernel_rfl) (by kernel_rfl) (by
        rw [ckF_long (by assumption) (by assumption)] at h; exact h)
    | exact fin0 (by kernel_rfl) (by kernel_rfl) (by
        have q := ‹y0 ≤ 0 ∧ 0 ≤ pc zF y0 ∧ pc zF y0 ≤ 2 ∧ ck a zF (0 - y0) y0 = ck a zF 0 0›
        have q2 := ck_step a zF (n := 0) (k := y0) (by omega)
        rw [ckF_go (by assumption) (by assumption), ← q.2.2.2, q2] at h
        first
          | (rw [if_pos (by omega)] at h; exact h)
          | (rw [if_neg (by omega), if_pos (by omega)] at h; exact h)
          | (rw [if_neg (by omega), if_neg (by omega), if_pos (by omega)] at h; exact h))
    | exact fin0 (by kernel_rfl) (by kernel_rfl) (by
        have q := ‹y0 ≤ 0 ∧ 0 ≤ pc zF y0 ∧ pc zF y0 ≤ 2 ∧ ck a zF (0 - y0) y0 = ck a zF 0 0›
        rw [ckF_go (by assumption) (by assumption), ← q.2.2.2, show 0 - y0 = 0 by omega] at h
        exact h)
def con21_rV (el nl cl : Nat) (fl : RF) (a : Int) (b : Int) (c : Int) (d : Int) (e : Int) (K : Value → List Blk → Prop) : Prop := let q0 := ((1 : Nat), (1 : Nat)); let q1 := (9223372036854775807 : Int); let q2 := (-9223372036854775808 : Int); let q3 := (@Eq Nat ((2 : Nat)) ((2 : Nat))); let q4 := (20, rsl (0 : Nat) (0 : Nat) nl cl); let q5 := (21, vi (↑nl : Int)); let q6 := TS; let q7 := ((20 : Nat), rsl (0 : Nat) (0 : Nat) nl cl); let q8 := ((21 : Nat), vi (↑nl : Int)); let q9 := (0, rT el nl cl fl); let q10 := ((0 : Nat), rT el nl cl fl); let q11 := (2, Value.pointer (some { block := (1 : Nat), off := (0 : Nat) })); let q12 := ((2 : Nat), Value.pointer (some { block := (1 : Nat), off := (0 : Nat) })); let q13 := (1, Blk.cells [vi a, vi b, vi c, vi d, vi e] (23 : Nat)); let q14 := ((1 : Nat), Blk.cells [vi a, vi b, vi c, vi d, vi e] (23 : Nat)); (t2 ((InC a b c d e) ∧ (T0 ∧ (if (@Eq Int (chk a b c d e) ((0 : Int))) then (q6 ∧ (t2 (if (@Eq Int ((↑nl : Int)) (b)) then (q6 ∧ ((∃ y0 : Nat, ((Go.Rx.Sub 1 [q0] ⟨66, [(22, vi (0 : Int)), q5, q4, (7, vi (0 : Int)), q11]⟩ ⟨[q13, q9], 2⟩ ({ n := (66 : Nat), m := [q12, ((7 : Nat), vi (pc fl y0)), q7, q8, ((22 : Nat), vi (↑y0 : Int))] }) ({ h := [q14, q10], next := (2 : Nat) })) ∧ ((y0 ≤ nl) ∧ (((0 : Int) ≤ pc fl y0) ∧ ((pc fl y0 ≤ (2 : Int)) ∧ (ck a fl (nl - y0) y0 = ck a fl nl (0 : Nat))))))) ∧ (∀ y0 : Nat, let q15 := (22, vi ((↑y0 : Int) + (1 : Int))); let q16 := ((q2 ≤ (↑y0 : Int) + (1 : Int)) ∧ ((↑y0 : Int) + (1 : Int) ≤ q1)); let q17 := (∃ y1 : Value, (∃ y2 : List Blk, ((Go.Rx.Found 1 (Value.tuple { toList := [vi (↑y0 : Int), vi (6 : Int)] }) ({ h := [((2 : Nat), Blk.cells [vi (fl y0 (0 : Nat)), vi (fl y0 (1 : Nat))] (54 : Nat)), q14, q10], next := (3 : Nat) }) (y1) (y2)) ∧ (K y1 y2)))); let q18 := (∃ y1 : Value, (∃ y2 : List Blk, ((Go.Rx.Found 1 (Value.tuple { toList := [vi (↑y0 : Int), vi (7 : Int)] }) ({ h := [((2 : Nat), Blk.cells [vi (fl y0 (0 : Nat)), vi (fl y0 (1 : Nat))] (54 : Nat)), q14, q10], next := (3 : Nat) }) (y1) (y2)) ∧ (K y1 y2)))); let q19 := (t2 (if (fl y0 (1 : Nat) < (0 : Int)) then q18 else (t3 (if (a < fl y0 (1 : Nat)) then q18 else (t2 (if (@Eq Int (fl y0 (0 : Nat)) ((2 : Int))) then (T0 ∧ (if (@Eq Int (pc fl y0) ((2 : Int))) then (∃ y1 : Value, (∃ y2 : List Blk, ((Go.Rx.Found 1 (Value.tuple { toList := [vi (↑y0 : Int), vi (5 : Int)] }) ({ h := [((2 : Nat), Blk.cells [vi (fl y0 (0 : Nat)), vi (fl y0 (1 : Nat))] (54 : Nat)), q14, q10], next := (3 : Nat) }) (y1) (y2)) ∧ (K y1 y2)))) else (T0 ∧ (((q2 ≤ pc fl y0 + (1 : Int)) ∧ (pc fl y0 + (1 : Int) ≤ q1)) ∧ (T0 ∧ (q16 ∧ (∃ y1 : Nat, ((Go.Rx.Sub 1 [q0] ⟨66, [q15, (7, vi (pc fl y0 + (1 : Int))), q11, q4, q5]⟩ ⟨[q13, q9], 3⟩ ({ n := (66 : Nat), m := [q12, ((7 : Nat), vi (pc fl y1)), q7, q8, ((22 : Nat), vi (↑y1 : Int))] }) ({ h := [q14, q10], next := (2 : Nat) })) ∧ (((y1 ≤ nl) ∧ (((0 : Int) ≤ pc fl y1) ∧ ((pc fl y1 ≤ (2 : Int)) ∧ (ck a fl (nl - y1) y1 = ck a fl nl (0 : Nat))))) ∧ (nl - y1 < nl - y0)))))))))) else (T0 ∧ (q16 ∧ (∃ y1 : Nat, ((Go.Rx.Sub 1 [q0] ⟨66, [q15, q11, (7, vi (pc fl y0)), q4, q5]⟩ ⟨[q13, q9], 3⟩ ({ n := (66 : Nat), m := [q12, ((7 : Nat), vi (pc fl y1)), q7, q8, ((22 : Nat), vi (↑y1 : Int))] }) ({ h := [q14, q10], next := (2 : Nat) })) ∧ (((y1 ≤ nl) ∧ (((0 : Int) ≤ pc fl y1) ∧ ((pc fl y1 ≤ (2 : Int)) ∧ (ck a fl (nl - y1) y1 = ck a fl nl (0 : Nat))))) ∧ (nl - y1 < nl - y0)))))))))))); (((y0 ≤ nl) ∧ (((0 : Int) ≤ pc fl y0) ∧ ((pc fl y0 ≤ (2 : Int)) ∧ (ck a fl (nl - y0) y0 = ck a fl nl (0 : Nat))))) → (T0 ∧ (if ((↑y0 : Int) < (↑nl : Int)) then ((q6 ∧ q3) ∧ ((((0 : Int) ≤ (↑y0 : Int)) ∧ ((↑y0 : Int) < (↑nl : Int))) ∧ ((y0 < nl) ∧ (((@Eq Nat ((0 : Nat)) ((0 : Nat))) ∧ q3) ∧ (t4 (if (fl y0 (0 : Nat) < (0 : Int)) then q17 else (t2 (if ((2 : Int) < fl y0 (0 : Nat)) then q17 else (t2 (if (@Eq Int (fl y0 (0 : Nat)) ((0 : Int))) then (t2 (if (@Eq Int (fl y0 (1 : Nat)) ((0 : Int))) then q19 else q17)) else q19)))))))))) else (∃ y1 : Value, (∃ y2 : List Blk, ((Go.Rx.Found 1 (Value.tuple { toList := [vi (0 : Int), vi (0 : Int)] }) ({ h := [q14, q10], next := (2 : Nat) }) (y1) (y2)) ∧ (K y1 y2)))))))))) else (∃ y0 : Value, (∃ y1 : List Blk, ((Go.Rx.Found 1 (Value.tuple { toList := [vi (-1 : Int), vi (3 : Int)] }) ({ h := [q14, q10], next := (2 : Nat) }) (y0) (y1)) ∧ (K y0 y1))))))) else (∃ y0 : Value, (∃ y1 : List Blk, ((Go.Rx.Found 1 (Value.tuple { toList := [vi (-1 : Int), vi (chk a b c d e)] }) ({ h := [q14, q10], next := (2 : Nat) }) (y0) (y1)) ∧ (K y0 y1))))))))
theorem con21_rE (el nl cl : Nat) (fl : RF) (a : Int) (b : Int) (c : Int) (d : Int) (e : Int) (K : Value → List Blk → Prop) : con21_rV el nl cl fl a b c d e K = bodyX (mk [(66, sp66)]) (callN (mk [(66, sp66)]) 3) (con21_rA el nl cl fl a b c d e) Try.f21 [five' a b c d e, rsl 0 0 nl cl] (stOf [.row true [.i64, .i64] el nl cl fl]) (Fd 1 K) := by kernel_rfl
set_option tactic.hygienic false in
theorem con21_rP (el nl cl : Nat) (fl : RF) (a : Int) (b : Int) (c : Int) (d : Int) (e : Int) (K : Value → List Blk → Prop)  (hI : InC a b c d e) (hnl : nl ≤ 100000) (h : K (.tuple ⟨[.int .i64 (ckF a b c d e nl fl).1, .int .i64 (ckF a b c d e nl fl).2]⟩) []) : con21_rV el nl cl fl a b c d e K := by
  unfold con21_rV
  conv => zeta
  repeat' (first | (with_reducible first | exact rfl | exact trivial | refine And.intro ?_ ?_ | refine br_intro (fun hq => ?_) fun hq => ?_ | refine if_both (fun hz => ?_) fun hz => ?_) | (intro) | fail)
  all_goals first
    | omega
    | assumption
    | exact ⟨0, (by (refine And.intro (And.intro rfl (And.intro rfl (And.intro rfl rfl))) ?_; (repeat' (first | exact trivial | exact rfl | exact fun _ _ _ _ => rfl | refine And.intro ?_ ?_ | omega | fail)); done)), by omega, by simp [pc], by simp [pc], rfl⟩
    | (refine ⟨y0 + 1, (by (refine And.intro (And.intro rfl (And.intro rfl (And.intro rfl rfl))) ?_; (repeat' (first | exact trivial | exact rfl | exact fun _ _ _ _ => rfl | refine And.intro ?_ ?_ | omega | (simp only [pc]; first | rw [if_pos (by omega)] | rw [if_neg (by omega)]) | fail)); done)), ⟨by omega, ?_, ?_, ?_⟩, by omega⟩
       · have q := ‹y0 ≤ nl ∧ 0 ≤ pc fl y0 ∧ pc fl y0 ≤ 2 ∧ ck a fl (nl - y0) y0 = ck a fl nl 0›
         simp only [pc]; split <;> omega
       · have q := ‹y0 ≤ nl ∧ 0 ≤ pc fl y0 ∧ pc fl y0 ≤ 2 ∧ ck a fl (nl - y0) y0 = ck a fl nl 0›
         simp only [pc]; split <;> omega
       · have q := ‹y0 ≤ nl ∧ 0 ≤ pc fl y0 ∧ pc fl y0 ≤ 2 ∧ ck a fl (nl - y0) y0 = ck a fl nl 0›
         have q2 := ck_step a fl (n := nl) (k := y0) (by omega)
         rw [if_neg (by omega), if_neg (by omega), if_neg (by omega)] at q2
         rw [← q2]
         exact q.2.2.2)
    | exact fin0 (by kernel_rfl) (by kernel_rfl) (by
        rw [ckF_bad (by assumption)] at h; exact h)
    | exact fin0 (by kernel_rfl) (by kernel_rfl) (by
        rw [ckF_long (by assumption) (by assumption)] at h; exact h)
    | exact fin0 (by kernel_rfl) (by kernel_rfl) (by
        have q := ‹y0 ≤ nl ∧ 0 ≤ pc fl y0 ∧ pc fl y0 ≤ 2 ∧ ck a fl (nl - y0) y0 = ck a fl nl 0›
        have q2 := ck_step a fl (n := nl) (k := y0) (by omega)
        rw [ckF_go (by assumption) (by assumption), ← q.2.2.2, q2] at h
        first
          | (rw [if_pos (by omega)] at h; exact h)
          | (rw [if_neg (by omega), if_pos (by omega)] at h; exact h)
          | (rw [if_neg (by omega), if_neg (by omega), if_pos (by omega)] at h; exact h))
    | exact fin0 (by kernel_rfl) (by kernel_rfl) (by
        have q := ‹y0 ≤ nl ∧ 0 ≤ pc fl y0 ∧ pc fl y0 ≤ 2 ∧ ck a fl (nl - y0) y0 = ck a fl nl 0›
        rw [ckF_go (by assumption) (by assumption), ← q.2.2.2, show nl - y0 = 0 by omega] at h
        exact h)
theorem con21_ok : BodyOk (mk [(66, sp66)]) 3 Try.f21 con21 := by
  intro vs bs K hh hro
  clear hro
  unfold con21 at hh
  split at hh
  · obtain ⟨a, b, c, d, e, rfl, hI, hh0⟩ := five_inv hh
    rcases parse_inv hh0 with ⟨rfl, hh1⟩ | ⟨el, nl, cl, fl, bs1, rfl, hnl, rfl, hh1⟩ <;> clear hh0
    · obtain ⟨rfl, hc⟩ := hh1
      exact ⟨_, _, cast (con21_nE a b c d e K) (con21_nP a b c d e K hI hc)⟩
    · obtain ⟨rfl, hc⟩ := hh1
      exact ⟨_, _, cast (con21_rE el nl cl fl a b c d e K) (con21_rP el nl cl fl a b c d e K hI hnl hc)⟩
  · exact hh.elim
theorem con21_told : Told 21 (specOf con21) := told (X := [(66, sp66)]) (fun p hp => by
    simp only [List.mem_cons, List.not_mem_nil, or_false] at hp
    subst hp
    exact told66) (by kernel_rfl) (by kernel_rfl) (by kernel_rfl) con21_ok
def con22_nV (a : Int) (b : Int) (c : Int) (d : Int) (e : Int) (K : Value → List Blk → Prop) : Prop := let q0 := TS; let q1 := (T0 ∧ (if (@Eq Int (chk a b c d e) ((0 : Int))) then ((∃ y0 : Nat, ((Go.Rx.Sub 0 [((0 : Nat), (0 : Nat))] ⟨88, [(8, vi (0 : Int)), (7, vi (0 : Int)), (2, Value.pointer (some { block := (0 : Nat), off := (0 : Nat) })), (1, vn)]⟩ ⟨[(0, Blk.cells [vi a, vi b, vi c, vi d, vi e] (23 : Nat))], 1⟩ ({ n := (88 : Nat), m := [((2 : Nat), Value.pointer (some { block := (0 : Nat), off := (0 : Nat) })), ((1 : Nat), vn), ((7 : Nat), vi (pc zF y0)), ((8 : Nat), vi (↑y0 : Int))] }) ({ h := [((0 : Nat), Blk.cells [vi a, vi b, vi c, vi d, vi e] (23 : Nat))], next := (1 : Nat) })) ∧ ((y0 ≤ (0 : Nat)) ∧ (((0 : Int) ≤ pc zF y0) ∧ ((pc zF y0 ≤ (2 : Int)) ∧ (ck a zF ((0 : Nat) - y0) y0 = ck a zF (0 : Nat) (0 : Nat))))))) ∧ (∀ y0 : Nat, (((y0 ≤ (0 : Nat)) ∧ (((0 : Int) ≤ pc zF y0) ∧ ((pc zF y0 ≤ (2 : Int)) ∧ (ck a zF ((0 : Nat) - y0) y0 = ck a zF (0 : Nat) (0 : Nat))))) → (q0 ∧ (T0 ∧ (∃ y1 : Value, (∃ y2 : List Blk, ((Go.Rx.Found 0 (Value.tuple { toList := [vi (0 : Int), vi (0 : Int)] }) ({ h := [((0 : Nat), Blk.cells [vi a, vi b, vi c, vi d, vi e] (23 : Nat))], next := (1 : Nat) }) (y1) (y2)) ∧ (K y1 y2))))))))) else (∃ y0 : Value, (∃ y1 : List Blk, ((Go.Rx.Found 0 (Value.tuple { toList := [vi (-1 : Int), vi (chk a b c d e)] }) ({ h := [((0 : Nat), Blk.cells [vi a, vi b, vi c, vi d, vi e] (23 : Nat))], next := (1 : Nat) }) (y0) (y1)) ∧ (K y0 y1)))))); (t3 ((InC a b c d e) ∧ (eB ∧ (T0 ∧ (if (@Eq Int (chk a b c d e) ((0 : Int))) then (q0 ∧ (t2 (if (@Eq Int ((0 : Int)) (b)) then q1 else (T0 ∧ (∃ y0 : Value, (∃ y1 : List Blk, ((Go.Rx.Found 0 (Value.tuple { toList := [vi (-1 : Int), vi (3 : Int)] }) ({ h := [((0 : Nat), Blk.cells [vi a, vi b, vi c, vi d, vi e] (23 : Nat))], next := (1 : Nat) }) (y0) (y1)) ∧ (K y0 y1)))))))) else q1)))))
theorem con22_nE (a : Int) (b : Int) (c : Int) (d : Int) (e : Int) (K : Value → List Blk → Prop) : con22_nV a b c d e K = bodyX (mk [(67, specOf con67)]) (callN (mk [(67, specOf con67)]) 3) (con22_nA a b c d e) Try.f22 [five' a b c d e, .slice none 0 0] (stOf []) (Fd 0 K) := by kernel_rfl
set_option tactic.hygienic false in
theorem con22_nP (a : Int) (b : Int) (c : Int) (d : Int) (e : Int) (K : Value → List Blk → Prop)  (hI : InC a b c d e) (h : K (.tuple ⟨[.int .i64 (ckF a b c d e 0 zF).1, .int .i64 (ckF a b c d e 0 zF).2]⟩) []) : con22_nV a b c d e K := by
  unfold con22_nV
  conv => zeta
  repeat' (first | (with_reducible first | exact rfl | exact trivial | refine And.intro ?_ ?_ | refine br_intro (fun hq => ?_) fun hq => ?_ | refine if_both (fun hz => ?_) fun hz => ?_) | (intro) | fail)
  all_goals first
    | omega
    | assumption
    | exact ⟨0, (by (refine And.intro (And.intro rfl (And.intro rfl (And.intro rfl rfl))) ?_; (repeat' (first | exact trivial | exact rfl | exact fun _ _ _ _ => rfl | refine And.intro ?_ ?_ | omega | fail)); done)), by omega, by simp [pc], by simp [pc], rfl⟩
    | (refine ⟨y0 + 1, (by (refine And.intro (And.intro rfl (And.intro rfl (And.intro rfl rfl))) ?_; (repeat' (first | exact trivial | exact rfl | exact fun _ _ _ _ => rfl | refine And.intro ?_ ?_ | omega | (simp only [pc]; first | rw [if_pos (by omega)] | rw [if_neg (by omega)]) | fail)); done)), ⟨by omega, ?_, ?_, ?_⟩, by omega⟩
       · have q := ‹y0 ≤ 0 ∧ 0 ≤ pc zF y0 ∧ pc zF y0 ≤ 2 ∧ ck a zF (0 - y0) y0 = ck a zF 0 0›
         simp only [pc]; split <;> omega
       · have q := ‹y0 ≤ 0 ∧ 0 ≤ pc zF y0 ∧ pc zF y0 ≤ 2 ∧ ck a zF (0 - y0) y0 = ck a zF 0 0›
         simp only [pc]; split <;> omega
       · have q := ‹y0 ≤ 0 ∧ 0 ≤ pc zF y0 ∧ pc zF y0 ≤ 2 ∧ ck a zF (0 - y0) y0 = ck a zF 0 0›
         have q2 := ck_step a zF (n := 0) (k := y0) (by omega)
         rw [if_neg (by omega), if_neg (by omega), if_neg (by omega)] at q2
         rw [← q2]
         exact q.2.2.2)
    | exact fin0 (by kernel_rfl) (by kernel_rfl) (by
        rw [ckF_bad (by assumption)] at h; exact h)
    | exact fin0 (by kernel_rfl) (by kernel_rfl) (by
        rw [ckF_long (by assumption) (by assumption)] at h; exact h)
    | exact fin0 (by kernel_rfl) (by kernel_rfl) (by
        have q := ‹y0 ≤ 0 ∧ 0 ≤ pc zF y0 ∧ pc zF y0 ≤ 2 ∧ ck a zF (0 - y0) y0 = ck a zF 0 0›
        have q2 := ck_step a zF (n := 0) (k := y0) (by omega)
        rw [ckF_go (by assumption) (by assumption), ← q.2.2.2, q2] at h
        first
          | (rw [if_pos (by omega)] at h; exact h)
          | (rw [if_neg (by omega), if_pos (by omega)] at h; exact h)
          | (rw [if_neg (by omega), if_neg (by omega), if_pos (by omega)] at h; exact h))
    | exact fin0 (by kernel_rfl) (by kernel_rfl) (by
        have q := ‹y0 ≤ 0 ∧ 0 ≤ pc zF y0 ∧ pc zF y0 ≤ 2 ∧ ck a zF (0 - y0) y0 = ck a zF 0 0›
        rw [ckF_go (by assumption) (by assumption), ← q.2.2.2, show 0 - y0 = 0 by omega] at h
        exact h)
def con22_rV (el nl cl : Nat) (fl : RF) (a : Int) (b : Int) (c : Int) (d : Int) (e : Int) (K : Value → List Blk → Prop) : Prop := let q0 := ((1 : Nat), (1 : Nat)); let q1 := (9223372036854775807 : Int); let q2 := (-9223372036854775808 : Int); let q3 := (1, rsl (0 : Nat) (0 : Nat) nl cl); let q4 := TS; let q5 := ((1 : Nat), rsl (0 : Nat) (0 : Nat) nl cl); let q6 := (0, rT el nl cl fl); let q7 := (2, Value.pointer (some { block := (1 : Nat), off := (0 : Nat) })); let q8 := ((2 : Nat), Value.pointer (some { block := (1 : Nat), off := (0 : Nat) })); let q9 := (q4 ∧ (@Eq Nat ((2 : Nat)) ((2 : Nat)))); let q10 := (1, Blk.cells [vi a, vi b, vi c, vi d, vi e] (23 : Nat)); let q11 := (T0 ∧ (if (@Eq Int (chk a b c d e) ((0 : Int))) then ((∃ y0 : Nat, ((Go.Rx.Sub 1 [q0] ⟨88, [(8, vi (0 : Int)), (7, vi (0 : Int)), q7, q3]⟩ ⟨[q10, q6], 2⟩ ({ n := (88 : Nat), m := [q8, q5, ((7 : Nat), vi (pc fl y0)), ((8 : Nat), vi (↑y0 : Int))] }) ({ h := [((1 : Nat), Blk.cells [vi a, vi b, vi c, vi d, vi e] (23 : Nat)), ((0 : Nat), rT el nl cl fl)], next := (2 : Nat) })) ∧ ((y0 ≤ nl) ∧ (((0 : Int) ≤ pc fl y0) ∧ ((pc fl y0 ≤ (2 : Int)) ∧ (ck a fl (nl - y0) y0 = ck a fl nl (0 : Nat))))))) ∧ (∀ y0 : Nat, let q12 := (8, vi ((↑y0 : Int) + (1 : Int))); let q13 := (((0 : Int) ≤ (↑y0 : Int)) ∧ ((↑y0 : Int) < (↑nl : Int))); let q14 := ((q2 ≤ (↑y0 : Int) + (1 : Int)) ∧ ((↑y0 : Int) + (1 : Int) ≤ q1)); let q15 := (∃ y1 : Value, (∃ y2 : List Blk, ((Go.Rx.Found 1 (Value.tuple { toList := [vi (↑y0 : Int), vi (6 : Int)] }) ({ h := [((1 : Nat), Blk.cells [vi a, vi b, vi c, vi d, vi e] (23 : Nat)), ((0 : Nat), rT el nl cl fl)], next := (2 : Nat) }) (y1) (y2)) ∧ (K y1 y2)))); let q16 := (∃ y1 : Value, (∃ y2 : List Blk, ((Go.Rx.Found 1 (Value.tuple { toList := [vi (↑y0 : Int), vi (5 : Int)] }) ({ h := [((1 : Nat), Blk.cells [vi a, vi b, vi c, vi d, vi e] (23 : Nat)), ((0 : Nat), rT el nl cl fl)], next := (2 : Nat) }) (y1) (y2)) ∧ (K y1 y2)))); let q17 := (T0 ∧ (∃ y1 : Value, (∃ y2 : List Blk, ((Go.Rx.Found 1 (Value.tuple { toList := [vi (↑y0 : Int), vi (7 : Int)] }) ({ h := [((1 : Nat), Blk.cells [vi a, vi b, vi c, vi d, vi e] (23 : Nat)), ((0 : Nat), rT el nl cl fl)], next := (2 : Nat) }) (y1) (y2)) ∧ (K y1 y2))))); let q18 := (t4 (q9 ∧ (q13 ∧ (t3 ((y0 < nl) ∧ (t2 (if (fl y0 (1 : Nat) < (0 : Int)) then (T0 ∧ q17) else (t4 (q9 ∧ (q13 ∧ (t3 ((y0 < nl) ∧ (t5 (if (a < fl y0 (1 : Nat)) then q17 else (T0 ∧ (q9 ∧ (q13 ∧ (T0 ∧ ((y0 < nl) ∧ (T0 ∧ (if (@Eq Int (fl y0 (0 : Nat)) ((2 : Int))) then (T0 ∧ (((q2 ≤ pc fl y0 + (1 : Int)) ∧ (pc fl y0 + (1 : Int) ≤ q1)) ∧ (T0 ∧ (if ((2 : Int) < pc fl y0 + (1 : Int)) then q16 else (T0 ∧ (q14 ∧ (∃ y1 : Nat, ((Go.Rx.Sub 1 [q0] ⟨88, [q12, (7, vi (pc fl y0 + (1 : Int))), q7, q3]⟩ ⟨[q10, q6], 2⟩ ({ n := (88 : Nat), m := [q8, q5, ((7 : Nat), vi (pc fl y1)), ((8 : Nat), vi (↑y1 : Int))] }) ({ h := [((1 : Nat), Blk.cells [vi a, vi b, vi c, vi d, vi e] (23 : Nat)), ((0 : Nat), rT el nl cl fl)], next := (2 : Nat) })) ∧ (((y1 ≤ nl) ∧ (((0 : Int) ≤ pc fl y1) ∧ ((pc fl y1 ≤ (2 : Int)) ∧ (ck a fl (nl - y1) y1 = ck a fl nl (0 : Nat))))) ∧ (nl - y1 < nl - y0)))))))))) else (T0 ∧ (if ((2 : Int) < pc fl y0) then q16 else (T0 ∧ (q14 ∧ (∃ y1 : Nat, ((Go.Rx.Sub 1 [q0] ⟨88, [q12, q7, q3, (7, vi (pc fl y0))]⟩ ⟨[q10, q6], 2⟩ ({ n := (88 : Nat), m := [q8, q5, ((7 : Nat), vi (pc fl y1)), ((8 : Nat), vi (↑y1 : Int))] }) ({ h := [((1 : Nat), Blk.cells [vi a, vi b, vi c, vi d, vi e] (23 : Nat)), ((0 : Nat), rT el nl cl fl)], next := (2 : Nat) })) ∧ (((y1 ≤ nl) ∧ (((0 : Int) ≤ pc fl y1) ∧ ((pc fl y1 ≤ (2 : Int)) ∧ (ck a fl (nl - y1) y1 = ck a fl nl (0 : Nat))))) ∧ (nl - y1 < nl - y0))))))))))))))))))))))))))))); (((y0 ≤ nl) ∧ (((0 : Int) ≤ pc fl y0) ∧ ((pc fl y0 ≤ (2 : Int)) ∧ (ck a fl (nl - y0) y0 = ck a fl nl (0 : Nat))))) → (q4 ∧ (T0 ∧ (if ((↑y0 : Int) < (↑nl : Int)) then (q9 ∧ (q13 ∧ (T0 ∧ ((y0 < nl) ∧ (T0 ∧ (if (fl y0 (0 : Nat) < (0 : Int)) then q15 else (q9 ∧ (q13 ∧ (T0 ∧ ((y0 < nl) ∧ (T0 ∧ (if ((2 : Int) < fl y0 (0 : Nat)) then q15 else (q9 ∧ (q13 ∧ (T0 ∧ ((y0 < nl) ∧ (T0 ∧ (if (@Eq Int (fl y0 (0 : Nat)) ((0 : Int))) then (q9 ∧ (q13 ∧ (T0 ∧ ((y0 < nl) ∧ (T0 ∧ (if (@Eq Int (fl y0 (1 : Nat)) ((0 : Int))) then q18 else q15)))))) else q18)))))))))))))))))) else (∃ y1 : Value, (∃ y2 : List Blk, ((Go.Rx.Found 1 (Value.tuple { toList := [vi (0 : Int), vi (0 : Int)] }) ({ h := [((1 : Nat), Blk.cells [vi a, vi b, vi c, vi d, vi e] (23 : Nat)), ((0 : Nat), rT el nl cl fl)], next := (2 : Nat) }) (y1) (y2)) ∧ (K y1 y2)))))))))) else (∃ y0 : Value, (∃ y1 : List Blk, ((Go.Rx.Found 1 (Value.tuple { toList := [vi (-1 : Int), vi (chk a b c d e)] }) ({ h := [((1 : Nat), Blk.cells [vi a, vi b, vi c, vi d, vi e] (23 : Nat)), ((0 : Nat), rT el nl cl fl)], next := (2 : Nat) }) (y0) (y1)) ∧ (K y0 y1)))))); (t3 ((InC a b c d e) ∧ (eB ∧ (T0 ∧ (if (@Eq Int (chk a b c d e) ((0 : Int))) then (q4 ∧ (t2 (if (@Eq Int ((↑nl : Int)) (b)) then q11 else (T0 ∧ (∃ y0 : Value, (∃ y1 : List Blk, ((Go.Rx.Found 1 (Value.tuple { toList := [vi (-1 : Int), vi (3 : Int)] }) ({ h := [((1 : Nat), Blk.cells [vi a, vi b, vi c, vi d, vi e] (23 : Nat)), ((0 : Nat), rT el nl cl fl)], next := (2 : Nat) }) (y0) (y1)) ∧ (K y0 y1)))))))) else q11)))))
theorem con22_rE (el nl cl : Nat) (fl : RF) (a : Int) (b : Int) (c : Int) (d : Int) (e : Int) (K : Value → List Blk → Prop) : con22_rV el nl cl fl a b c d e K = bodyX (mk [(67, specOf con67)]) (callN (mk [(67, specOf con67)]) 3) (con22_rA el nl cl fl a b c d e) Try.f22 [five' a b c d e, rsl 0 0 nl cl] (stOf [.row true [.i64, .i64] el nl cl fl]) (Fd 1 K) := by kernel_rfl
set_option tactic.hygienic false in
theorem con22_rP (el nl cl : Nat) (fl : RF) (a : Int) (b : Int) (c : Int) (d : Int) (e : Int) (K : Value → List Blk → Prop)  (hI : InC a b c d e) (hnl : nl ≤ 100000) (h : K (.tuple ⟨[.int .i64 (ckF a b c d e nl fl).1, .int .i64 (ckF a b c d e nl fl).2]⟩) []) : con22_rV el nl cl fl a b c d e K := by
  unfold con22_rV
  conv => zeta
  repeat' (first | (with_reducible first | exact rfl | exact trivial | refine And.intro ?_ ?_ | refine br_intro (fun hq => ?_) fun hq => ?_ | refine if_both (fun hz => ?_) fun hz => ?_) | (intro) | fail)
  all_goals first
    | omega
    | assumption
    | exact ⟨0, (by (refine And.intro (And.intro rfl (And.intro rfl (And.intro rfl rfl))) ?_; (repeat' (first | exact trivial | exact rfl | exact fun _ _ _ _ => rfl | refine And.intro ?_ ?_ | omega | fail)); done)), by omega, by simp [pc], by simp [pc], rfl⟩
    | (refine ⟨y0 + 1, (by (refine And.intro (And.intro rfl (And.intro rfl (And.intro rfl rfl))) ?_; (repeat' (first | exact trivial | exact rfl | exact fun _ _ _ _ => rfl | refine And.intro ?_ ?_ | omega | (simp only [pc]; first | rw [if_pos (by omega)] | rw [if_neg (by omega)]) | fail)); done)), ⟨by omega, ?_, ?_, ?_⟩, by omega⟩
       · have q := ‹y0 ≤ nl ∧ 0 ≤ pc fl y0 ∧ pc fl y0 ≤ 2 ∧ ck a fl (nl - y0) y0 = ck a fl nl 0›
         simp only [pc]; split <;> omega
       · have q := ‹y0 ≤ nl ∧ 0 ≤ pc fl y0 ∧ pc fl y0 ≤ 2 ∧ ck a fl (nl - y0) y0 = ck a fl nl 0›
         simp only [pc]; split <;> omega
       · have q := ‹y0 ≤ nl ∧ 0 ≤ pc fl y0 ∧ pc fl y0 ≤ 2 ∧ ck a fl (nl - y0) y0 = ck a fl nl 0›
         have q2 := ck_step a fl (n := nl) (k := y0) (by omega)
         rw [if_neg (by omega), if_neg (by omega), if_neg (by omega)] at q2
         rw [← q2]
         exact q.2.2.2)
    | exact fin0 (by kernel_rfl) (by kernel_rfl) (by
        rw [ckF_bad (by assumption)] at h; exact h)
    | exact fin0 (by kernel_rfl) (by kernel_rfl) (by
        rw [ckF_long (by assumption) (by assumption)] at h; exact h)
    | exact fin0 (by kernel_rfl) (by kernel_rfl) (by
        have q := ‹y0 ≤ nl ∧ 0 ≤ pc fl y0 ∧ pc fl y0 ≤ 2 ∧ ck a fl (nl - y0) y0 = ck a fl nl 0›
        have q2 := ck_step a fl (n := nl) (k := y0) (by omega)
        rw [ckF_go (by assumption) (by assumption), ← q.2.2.2, q2] at h
        first
          | (rw [if_pos (by omega)] at h; exact h)
          | (rw [if_neg (by omega), if_pos (by omega)] at h; exact h)
          | (rw [if_neg (by omega), if_neg (by omega), if_pos (by omega)] at h; exact h))
    | exact fin0 (by kernel_rfl) (by kernel_rfl) (by
        have q := ‹y0 ≤ nl ∧ 0 ≤ pc fl y0 ∧ pc fl y0 ≤ 2 ∧ ck a fl (nl - y0) y0 = ck a fl nl 0›
        rw [ckF_go (by assumption) (by assumption), ← q.2.2.2, show nl - y0 = 0 by omega] at h
        exact h)
theorem con22_ok : BodyOk (mk [(67, specOf con67)]) 3 Try.f22 con22 := by
  intro vs bs K hh hro
  clear hro
  unfold con22 at hh
  split at hh
  · obtain ⟨a, b, c, d, e, rfl, hI, hh0⟩ := five_inv hh
    rcases parse_inv hh0 with ⟨rfl, hh1⟩ | ⟨el, nl, cl, fl, bs1, rfl, hnl, rfl, hh1⟩ <;> clear hh0
    · obtain ⟨rfl, hc⟩ := hh1
      exact ⟨_, _, cast (con22_nE a b c d e K) (con22_nP a b c d e K hI hc)⟩
    · obtain ⟨rfl, hc⟩ := hh1
      exact ⟨_, _, cast (con22_rE el nl cl fl a b c d e K) (con22_rP el nl cl fl a b c d e K hI hnl hc)⟩
  · exact hh.elim
theorem con22_told : Told 22 (specOf con22) := told (X := [(67, specOf con67)]) (fun p hp => by
    simp only [List.mem_cons, List.not_mem_nil, or_false] at hp
    subst hp
    exact con67_told) (by kernel_rfl) (by kernel_rfl) (by kernel_rfl) con22_ok
end Go.Proofs.Ytkflmglpniebfaa.Fr
namespace Go.Proofs.Ytkflmglpniebfaa.Fr
set_option maxRecDepth 100000
set_option maxHeartbeats 4000000
open Go.Rx
open Go.RowKit (Below)
set_option linter.unusedVariables false
@[reducible] def X7 : List (Nat × Rx.Spec) := [(22, specOf con22)]
theorem X7_told : ∀ p ∈ X7, Told p.1 p.2 := by
  intro p hp
  simp only [List.mem_cons, List.not_mem_nil, or_false] at hp
  subst hp
  exact con22_told
def selE (f : RF) (x : Int) (i : Nat) : Bool := decide (f i 0 = x)
theorem selE_yes {f : RF} {x : Int} {i : Nat} (h : f i 0 = x) : selE f x i = true := decide_eq_true h
theorem selE_no {f : RF} {x : Int} {i : Nat} (h : ¬ f i 0 = x) : ¬ selE f x i = true := by simpa [selE] using h
def con69 : Con := fun vs bs K => match vs with
  | [u, v, .int .i64 x] => five u fun a b c d e => parse [.i64, .i64] 0 v bs fun n f j bs => bs = [] ∧ (¬ (ckF a b c d e n f).2 = 0 → K (.tuple ⟨[.slice none 0 0, .int .i64 (ckF a b c d e n f).2]⟩) []) ∧ ((ckF a b c d e n f).2 = 0 → ((sel (selE f x) n) = [] → K (.tuple ⟨[.slice none 0 0, .int .i64 0]⟩) []) ∧ (¬ (sel (selE f x) n) = [] → ∀ cp, List.length (sel (selE f x) n) ≤ cp → K (.tuple ⟨[rsl j 0 (List.length (sel (selE f x) n)) cp, .int .i64 0]⟩) [.row false [.i64] 3 (List.length (sel (selE f x) n)) cp (lF (sel (selE f x) n))]))
  | _ => False

def con69_nA (a : Int) (b : Int) (c : Int) (d : Int) (e : Int) (x : Int) : Ann := fun k _ _ => bif Nat.beq k 6 then some [{ α := Nat, T := fun k => ⟨39, [(1, .slice none 0 0), (2, .int .i64 x), (11, .int .i64 ((k : Nat) : Int)), (10, .slice none 0 0)]⟩, S := fun _ => ⟨[], 0⟩, I := fun k => k ≤ 0 ∧ (sel (selE zF x) k) = [], m := fun k => 0 - k, ρ0 := [], ρ1 := [[]] }, { α := Nat × Nat, T := fun a => ⟨39, [(1, .slice none 0 0), (2, .int .i64 x), (11, .int .i64 ((a.1 : Nat) : Int)), (10, rsl 0 0 (List.length (sel (selE zF x) a.1)) (a.2 + 1))]⟩, S := fun a => ⟨[(0, .row false [.i64] 3 (List.length (sel (selE zF x) a.1)) (a.2 + 1) (lF (sel (selE zF x) a.1)))], 1⟩, I := fun a => a.1 ≤ 0 ∧ ¬ (sel (selE zF x) a.1) = [] ∧ List.length (sel (selE zF x) a.1) ≤ a.1 ∧ List.length (sel (selE zF x) a.1) ≤ a.2 + 1, m := fun a => 0 - a.1, ρ0 := [(0, 0)], ρ1 := [[(0, 0)], [(0, 1)], [(0, 2)]] }] else none
def con69_rA (el nl cl : Nat) (fl : RF) (a : Int) (b : Int) (c : Int) (d : Int) (e : Int) (x : Int) : Ann := fun k _ _ => bif Nat.beq k 6 then some [{ α := Nat, T := fun k => ⟨39, [(1, rsl 0 0 nl cl), (2, .int .i64 x), (11, .int .i64 ((k : Nat) : Int)), (10, .slice none 0 0)]⟩, S := fun _ => ⟨[(0, .row true [.i64, .i64] el nl cl fl)], 1⟩, I := fun k => k ≤ nl ∧ (sel (selE fl x) k) = [], m := fun k => nl - k, ρ0 := [], ρ1 := [[]] }, { α := Nat × Nat, T := fun a => ⟨39, [(1, rsl 0 0 nl cl), (2, .int .i64 x), (11, .int .i64 ((a.1 : Nat) : Int)), (10, rsl 1 0 (List.length (sel (selE fl x) a.1)) (a.2 + 1))]⟩, S := fun a => ⟨[(0, .row true [.i64, .i64] el nl cl fl), (1, .row false [.i64] 3 (List.length (sel (selE fl x) a.1)) (a.2 + 1) (lF (sel (selE fl x) a.1)))], 2⟩, I := fun a => a.1 ≤ nl ∧ ¬ (sel (selE fl x) a.1) = [] ∧ List.length (sel (selE fl x) a.1) ≤ a.1 ∧ List.length (sel (selE fl x) a.1) ≤ a.2 + 1, m := fun a => nl - a.1, ρ0 := [(1, 1)], ρ1 := [[(1, 1)], [(1, 2)], [(1, 3)]] }] else none
def con69_nV (a : Int) (b : Int) (c : Int) (d : Int) (e : Int) (x : Int) (K : Value → List Blk → Prop) : Prop := let q0 := (2, vi x); let q1 := ((2 : Nat), vi x); let q2 := (11, vi (0 : Int)); let q3 := (Prod.snd (ckF a b c d e (0 : Nat) zF)); let q4 := TS; let q5 := (1, vn); let q6 := (10, vn); let q7 := ((1 : Nat), vn); (t4 ((InC a b c d e) ∧ (eB ∧ (T0 ∧ (if (@Eq Int q3 ((0 : Int))) then (((∃ y0 : Nat, ((Go.Rx.Sub 0 [] ⟨39, [q2, q6, q5, q0]⟩ ⟨[], 1⟩ ({ n := (39 : Nat), m := [q7, q1, ((11 : Nat), vi (↑y0 : Int)), ((10 : Nat), vn)] }) ({ h := [], next := (0 : Nat) })) ∧ ((y0 ≤ (0 : Nat)) ∧ (sel (selE zF x) y0 = [])))) ∨ (∃ y0 : Nat × Nat, let q11 := (Prod.snd y0 + (1 : Nat)); let q12 := (sel (selE zF x) (Prod.fst y0)); let q13 := (List.length q12); ((Go.Rx.Sub 0 [((0 : Nat), (0 : Nat))] ⟨39, [q2, q6, q5, q0]⟩ ⟨[(0, Blk.cells [vi a, vi b, vi c, vi d, vi e] (23 : Nat))], 1⟩ ({ n := (39 : Nat), m := [q7, q1, ((11 : Nat), vi (↑(Prod.fst y0) : Int)), ((10 : Nat), rsl (0 : Nat) (0 : Nat) q13 q11)] }) ({ h := [((0 : Nat), Blk.row false [IntKind.i64] (3 : Nat) q13 q11 (lF q12))], next := (1 : Nat) })) ∧ ((Prod.fst y0 ≤ (0 : Nat)) ∧ ((¬sel (selE zF x) (Prod.fst y0) = []) ∧ ((List.length q12 ≤ Prod.fst y0) ∧ (List.length q12 ≤ Prod.snd y0 + (1 : Nat)))))))) ∧ ((∀ y0 : Nat, (((y0 ≤ (0 : Nat)) ∧ (sel (selE zF x) y0 = [])) → (q4 ∧ (T0 ∧ (∃ y1 : Value, (∃ y2 : List Blk, ((Go.Rx.Found 0 (Value.tuple { toList := [vn, vi (0 : Int)] }) ({ h := [], next := (0 : Nat) }) (y1) (y2)) ∧ (K y1 y2)))))))) ∧ (∀ y0 : Nat × Nat, let q8 := (Prod.snd y0 + (1 : Nat)); let q9 := (sel (selE zF x) (Prod.fst y0)); let q10 := (List.length q9); (((Prod.fst y0 ≤ (0 : Nat)) ∧ ((¬sel (selE zF x) (Prod.fst y0) = []) ∧ ((List.length q9 ≤ Prod.fst y0) ∧ (List.length q9 ≤ Prod.snd y0 + (1 : Nat))))) → (q4 ∧ (T0 ∧ (∃ y1 : Value, (∃ y2 : List Blk, ((Go.Rx.Found 0 (Value.tuple { toList := [rsl (0 : Nat) (0 : Nat) q10 q8, vi (0 : Int)] }) ({ h := [((0 : Nat), Blk.row false [IntKind.i64] (3 : Nat) q10 q8 (lF q9))], next := (1 : Nat) }) (y1) (y2)) ∧ (K y1 y2)))))))))) else (∃ y0 : Value, (∃ y1 : List Blk, ((Go.Rx.Found 0 (Value.tuple { toList := [vn, vi q3] }) ({ h := [((0 : Nat), Blk.cells [vi a, vi b, vi c, vi d, vi e] (23 : Nat))], next := (1 : Nat) }) (y0) (y1)) ∧ (K y0 y1)))))))))
theorem con69_nE (a : Int) (b : Int) (c : Int) (d : Int) (e : Int) (x : Int) (K : Value → List Blk → Prop) : con69_nV a b c d e x K = bodyX (mk X7) (callN (mk X7) 3) (con69_nA a b c d e x) Try.f69 [five' a b c d e, .slice none 0 0, .int .i64 x] (stOf []) (Fd 0 K) := by kernel_rfl
set_option tactic.hygienic false in
theorem con69_nP (a : Int) (b : Int) (c : Int) (d : Int) (e : Int) (x : Int) (K : Value → List Blk → Prop)  (hI : InC a b c d e) (h : (¬ (ckF a b c d e 0 zF).2 = 0 → K (.tuple ⟨[.slice none 0 0, .int .i64 (ckF a b c d e 0 zF).2]⟩) []) ∧ ((ckF a b c d e 0 zF).2 = 0 → ((sel (selE zF x) 0) = [] → K (.tuple ⟨[.slice none 0 0, .int .i64 0]⟩) []) ∧ (¬ (sel (selE zF x) 0) = [] → ∀ cp, List.length (sel (selE zF x) 0) ≤ cp → K (.tuple ⟨[rsl 0 0 (List.length (sel (selE zF x) 0)) cp, .int .i64 0]⟩) [.row false [.i64] 3 (List.length (sel (selE zF x) 0)) cp (lF (sel (selE zF x) 0))]))) : con69_nV a b c d e x K := by
  unfold con69_nV
  conv => zeta
  repeat' (first | (with_reducible first | exact rfl | exact trivial | refine And.intro ?_ ?_ | refine br_intro (fun hq => ?_) fun hq => ?_ | refine if_both (fun hz => ?_) fun hz => ?_) | (intro) | fail)
  all_goals first
    | omega
    | assumption
    | exact .inl ⟨0, (by (refine And.intro (And.intro rfl (And.intro rfl (And.intro rfl rfl))) ?_; (repeat' (first | exact trivial | exact rfl | exact fun _ _ _ _ => rfl | refine And.intro ?_ ?_ | omega | fail)); done)), by omega, rfl⟩
    | (have hq0 : ¬ zF y0 0 = x := by assumption
       have e1 : sel (selE zF x) (y0 + 1) = sel (selE zF x) y0 := sel_no (selE_no hq0)
       exact .inl ⟨y0 + 1, (by (refine And.intro (And.intro rfl (And.intro rfl (And.intro rfl rfl))) ?_; repeat' (first | exact trivial | exact rfl | exact fun _ _ _ _ => rfl | refine And.intro ?_ ?_ | omega | (show List.length (sel (selE zF x) (y0 + 1)) = _; first | (rw [e1]; done) | (rw [e1]; rfl) | (rw [e1]; simp; done)) | (show (_ : Nat) - 1 + 1 = _; omega) | (intro i j hi hj; have hi2 : i < List.length (sel (selE zF x) (y0 + 1)) := hi; rw [e1] at hi2; show lF (sel (selE zF x) (y0 + 1)) i j = _; first | (rw [e1]; done) | (rw [e1]; refine lF_one ?_ i j (by simpa using hi2) hj; rfl) | (rw [e1]; refine lF_app ?_ i j (by simpa using hi2) hj; rfl) | (rw [e1]; rfl)) | fail))), ⟨by omega, e1.trans (show y0 ≤ 0 ∧ sel (selE zF x) y0 = [] by assumption).2⟩, by omega⟩)
    | (have hq1 : zF y0 0 = x := by assumption
       have e1 : sel (selE zF x) (y0 + 1) = [] ++ [(y0 : Int)] := by
         rw [sel_yes (selE_yes hq1), (show y0 ≤ 0 ∧ sel (selE zF x) y0 = [] by assumption).2]
       exact .inr (.inr (.inl ⟨(y0 + 1, y1 - 1), (by (refine And.intro (And.intro rfl (And.intro rfl (And.intro rfl rfl))) ?_; repeat' (first | exact trivial | exact rfl | exact fun _ _ _ _ => rfl | refine And.intro ?_ ?_ | omega | (show List.length (sel (selE zF x) (y0 + 1)) = _; first | (rw [e1]; done) | (rw [e1]; rfl) | (rw [e1]; simp; done)) | (show (_ : Nat) - 1 + 1 = _; omega) | (intro i j hi hj; have hi2 : i < List.length (sel (selE zF x) (y0 + 1)) := hi; rw [e1] at hi2; show lF (sel (selE zF x) (y0 + 1)) i j = _; first | (rw [e1]; done) | (rw [e1]; refine lF_one ?_ i j (by simpa using hi2) hj; rfl) | (rw [e1]; refine lF_app ?_ i j (by simpa using hi2) hj; rfl) | (rw [e1]; rfl)) | fail))), ⟨by show y0 + 1 ≤ 0; omega, by rw [e1]; simp, by rw [e1]; simp, (by rw [e1]; show 1 ≤ y1 - 1 + 1; omega)⟩, by show 0 - (y0 + 1) < 0 - y0; omega⟩)))
    | (have I := (show y0.1 ≤ 0 ∧ ¬ sel (selE zF x) y0.1 = [] ∧ List.length (sel (selE zF x) y0.1) ≤ y0.1 ∧ List.length (sel (selE zF x) y0.1) ≤ y0.2 + 1 by assumption)
       have hq0 : ¬ zF y0.1 0 = x := by assumption
       have e1 : sel (selE zF x) (y0.1 + 1) = sel (selE zF x) y0.1 := sel_no (selE_no hq0)
       exact .inr (.inl ⟨(y0.1 + 1, y0.2), (by (refine And.intro (And.intro rfl (And.intro rfl (And.intro rfl rfl))) ?_; repeat' (first | exact trivial | exact rfl | exact fun _ _ _ _ => rfl | refine And.intro ?_ ?_ | omega | (show List.length (sel (selE zF x) (y0.1 + 1)) = _; first | (rw [e1]; done) | (rw [e1]; rfl) | (rw [e1]; simp; done)) | (show (_ : Nat) - 1 + 1 = _; omega) | (intro i j hi hj; have hi2 : i < List.length (sel (selE zF x) (y0.1 + 1)) := hi; rw [e1] at hi2; show lF (sel (selE zF x) (y0.1 + 1)) i j = _; first | (rw [e1]; done) | (rw [e1]; refine lF_one ?_ i j (by simpa using hi2) hj; rfl) | (rw [e1]; refine lF_app ?_ i j (by simpa using hi2) hj; rfl) | (rw [e1]; rfl)) | fail))), ⟨by show y0.1 + 1 ≤ 0; omega, by rw [e1]; exact I.2.1, by rw [e1]; show _ ≤ y0.1 + 1; omega, by rw [e1]; exact I.2.2.2⟩, by show 0 - (y0.1 + 1) < 0 - y0.1; omega⟩))
    | (have I := (show y0.1 ≤ 0 ∧ ¬ sel (selE zF x) y0.1 = [] ∧ List.length (sel (selE zF x) y0.1) ≤ y0.1 ∧ List.length (sel (selE zF x) y0.1) ≤ y0.2 + 1 by assumption)
       have hq1 : zF y0.1 0 = x := by assumption
       have e1 : sel (selE zF x) (y0.1 + 1) = sel (selE zF x) y0.1 ++ [(y0.1 : Int)] := sel_yes (selE_yes hq1)
       exact .inr (.inr (.inr ⟨(y0.1 + 1, y1 - 1), (by (refine And.intro (And.intro rfl (And.intro rfl (And.intro rfl rfl))) ?_; repeat' (first | exact trivial | exact rfl | exact fun _ _ _ _ => rfl | refine And.intro ?_ ?_ | omega | (show List.length (sel (selE zF x) (y0.1 + 1)) = _; first | (rw [e1]; done) | (rw [e1]; rfl) | (rw [e1]; simp; done)) | (show (_ : Nat) - 1 + 1 = _; omega) | (intro i j hi hj; have hi2 : i < List.length (sel (selE zF x) (y0.1 + 1)) := hi; rw [e1] at hi2; show lF (sel (selE zF x) (y0.1 + 1)) i j = _; first | (rw [e1]; done) | (rw [e1]; refine lF_one ?_ i j (by simpa using hi2) hj; rfl) | (rw [e1]; refine lF_app ?_ i j (by simpa using hi2) hj; rfl) | (rw [e1]; rfl)) | fail))), ⟨by show y0.1 + 1 ≤ 0; omega, by rw [e1]; simp, by rw [e1]; simp; omega, by rw [e1]; simp; omega⟩, by show 0 - (y0.1 + 1) < 0 - y0.1; omega⟩)))
    | exact fin0 (by kernel_rfl) (by kernel_rfl) (h.1 (by assumption))
    | (have I := (show y0 ≤ 0 ∧ sel (selE zF x) y0 = [] by assumption)
       exact fin0 (by kernel_rfl) (by kernel_rfl) ((h.2 (by assumption)).1 (by rw [← I.2]; congr 1; omega)))
    | (have I := (show y0.1 ≤ 0 ∧ ¬ sel (selE zF x) y0.1 = [] ∧ List.length (sel (selE zF x) y0.1) ≤ y0.1 ∧ List.length (sel (selE zF x) y0.1) ≤ y0.2 + 1 by assumption)
       have e1 : y0.1 = 0 := by omega
       rw [e1] at I ⊢
       exact fin1t (by kernel_rfl) (fun _ _ _ _ => rfl) (by kernel_rfl) (by kernel_rfl) ((h.2 (by assumption)).2 I.2.1 _ I.2.2.2))
def con69_rV (el nl cl : Nat) (fl : RF) (a : Int) (b : Int) (c : Int) (d : Int) (e : Int) (x : Int) (K : Value → List Blk → Prop) : Prop := let q0 := ((1 : Nat), (3 : Nat)); let q1 := ((1 : Nat), (2 : Nat)); let q2 := ((1 : Nat), (1 : Nat)); let q3 := ((1 : Nat) ≤ (1 : Nat)); let q4 := (9223372036854775807 : Int); let q5 := (List.length [IntKind.i64]); let q6 := (2, vi x); let q7 := (-9223372036854775808 : Int); let q8 := ((1 : Nat) ≤ (100000 : Nat)); let q9 := (Prod.snd (ckF a b c d e nl fl)); let q10 := (@Eq Nat ((0 : Nat)) ((0 : Nat))); let q11 := (1, rsl (0 : Nat) (0 : Nat) nl cl); let q12 := ((2 : Nat), vi x); let q13 := (11, vi (0 : Int)); let q14 := TS; let q15 := ((1 : Nat), rsl (0 : Nat) (0 : Nat) nl cl); let q16 := (10, vn); let q17 := ((10 : Nat), vn); let q18 := (0, rT el nl cl fl); let q19 := ((0 : Nat), rT el nl cl fl); let q20 := (q14 ∧ (@Eq Nat ((2 : Nat)) ((2 : Nat)))); (t3 (((0 : Nat) + nl ≤ nl) ∧ ((InC a b c d e) ∧ (q10 ∧ ((nl ≤ (100000 : Nat)) ∧ ((eK ∧ ((@Eq Nat (nl) (nl)) ∧ (@Eq Nat (cl) (cl)))) ∧ (eB ∧ (T0 ∧ (if (@Eq Int q9 ((0 : Int))) then (((∃ y0 : Nat, ((Go.Rx.Sub 1 [] ⟨39, [q13, q16, q11, q6]⟩ ⟨[q18], 2⟩ ({ n := (39 : Nat), m := [q15, q12, ((11 : Nat), vi (↑y0 : Int)), q17] }) ({ h := [q19], next := (1 : Nat) })) ∧ ((y0 ≤ nl) ∧ (sel (selE fl x) y0 = [])))) ∨ (∃ y0 : Nat × Nat, let q74 := (Prod.snd y0 + (1 : Nat)); let q75 := (sel (selE fl x) (Prod.fst y0)); let q76 := (List.length q75); ((Go.Rx.Sub 1 [q2] ⟨39, [q13, q16, q11, q6]⟩ ⟨[(1, Blk.cells [vi a, vi b, vi c, vi d, vi e] (23 : Nat)), q18], 2⟩ ({ n := (39 : Nat), m := [q15, q12, ((11 : Nat), vi (↑(Prod.fst y0) : Int)), ((10 : Nat), rsl (1 : Nat) (0 : Nat) q76 q74)] }) ({ h := [q19, ((1 : Nat), Blk.row false [IntKind.i64] (3 : Nat) q76 q74 (lF q75))], next := (2 : Nat) })) ∧ ((Prod.fst y0 ≤ nl) ∧ ((¬sel (selE fl x) (Prod.fst y0) = []) ∧ ((List.length q75 ≤ Prod.fst y0) ∧ (List.length q75 ≤ Prod.snd y0 + (1 : Nat)))))))) ∧ ((∀ y0 : Nat, let q51 := (11, vi ((↑y0 : Int) + (1 : Int))); let q52 := (litF q5 ([(↑y0 : Int)] ++ [])); let q53 := ((q7 ≤ (↑y0 : Int) + (1 : Int)) ∧ ((↑y0 : Int) + (1 : Int) ≤ q4)); (((y0 ≤ nl) ∧ (sel (selE fl x) y0 = [])) → (q14 ∧ (T0 ∧ (if ((↑y0 : Int) < (↑nl : Int)) then (q20 ∧ ((((0 : Int) ≤ (↑y0 : Int)) ∧ ((↑y0 : Int) < (↑nl : Int))) ∧ (T0 ∧ ((y0 < nl) ∧ (T0 ∧ (if (@Eq Int (fl y0 (0 : Nat)) (x)) then (q14 ∧ (t4 (q14 ∧ (q14 ∧ (t4 (q3 ∧ (q8 ∧ (∀ y1 : Nat, let q66 := (y1 - (1 : Nat) + (1 : Nat)); let q67 := (10, rsl (2 : Nat) (0 : Nat) (1 : Nat) q66); (((1 : Nat) ≤ y1) → (T0 ∧ (q53 ∧ ((∃ y2 : Nat, ((Go.Rx.Sub 1 [] ⟨39, [q51, q67, q11, q6]⟩ ⟨[q18], 3⟩ ({ n := (39 : Nat), m := [q15, q12, ((11 : Nat), vi (↑y2 : Int)), q17] }) ({ h := [q19], next := (1 : Nat) })) ∧ (((y2 ≤ nl) ∧ (sel (selE fl x) y2 = [])) ∧ (nl - y2 < nl - y0)))) ∨ ((∃ y2 : Nat × Nat, let q71 := (Prod.snd y2 + (1 : Nat)); let q72 := (sel (selE fl x) (Prod.fst y2)); let q73 := (List.length q72); ((Go.Rx.Sub 1 [q2] ⟨39, [q51, q67, q11, q6]⟩ ⟨[(1, Blk.row false [IntKind.i64] (3 : Nat) (1 : Nat) (1 : Nat) q52), q18], 3⟩ ({ n := (39 : Nat), m := [q15, q12, ((11 : Nat), vi (↑(Prod.fst y2) : Int)), ((10 : Nat), rsl (1 : Nat) (0 : Nat) q73 q71)] }) ({ h := [q19, ((1 : Nat), Blk.row false [IntKind.i64] (3 : Nat) q73 q71 (lF q72))], next := (2 : Nat) })) ∧ (((Prod.fst y2 ≤ nl) ∧ ((¬sel (selE fl x) (Prod.fst y2) = []) ∧ ((List.length q72 ≤ Prod.fst y2) ∧ (List.length q72 ≤ Prod.snd y2 + (1 : Nat))))) ∧ (nl - Prod.fst y2 < nl - y0)))) ∨ ((∃ y2 : Nat × Nat, let q68 := (Prod.snd y2 + (1 : Nat)); let q69 := (sel (selE fl x) (Prod.fst y2)); let q70 := (List.length q69); ((Go.Rx.Sub 1 [q1] ⟨39, [q51, q67, q11, q6]⟩ ⟨[(2, Blk.row false [IntKind.i64] (3 : Nat) (1 : Nat) q66 (appF (fun x x_1 ↦ (0 : Int)) (0 : Nat) q52 (0 : Nat))), q18], 3⟩ ({ n := (39 : Nat), m := [q15, q12, ((11 : Nat), vi (↑(Prod.fst y2) : Int)), ((10 : Nat), rsl (1 : Nat) (0 : Nat) q70 q68)] }) ({ h := [q19, ((1 : Nat), Blk.row false [IntKind.i64] (3 : Nat) q70 q68 (lF q69))], next := (2 : Nat) })) ∧ (((Prod.fst y2 ≤ nl) ∧ ((¬sel (selE fl x) (Prod.fst y2) = []) ∧ ((List.length q69 ≤ Prod.fst y2) ∧ (List.length q69 ≤ Prod.snd y2 + (1 : Nat))))) ∧ (nl - Prod.fst y2 < nl - y0)))) ∨ (∃ y2 : Nat × Nat, let q63 := (Prod.snd y2 + (1 : Nat)); let q64 := (sel (selE fl x) (Prod.fst y2)); let q65 := (List.length q64); ((Go.Rx.Sub 1 [q0] ⟨39, [q51, q67, q11, q6]⟩ ⟨[q18], 3⟩ ({ n := (39 : Nat), m := [q15, q12, ((11 : Nat), vi (↑(Prod.fst y2) : Int)), ((10 : Nat), rsl (1 : Nat) (0 : Nat) q65 q63)] }) ({ h := [q19, ((1 : Nat), Blk.row false [IntKind.i64] (3 : Nat) q65 q63 (lF q64))], next := (2 : Nat) })) ∧ (((Prod.fst y2 ≤ nl) ∧ ((¬sel (selE fl x) (Prod.fst y2) = []) ∧ ((List.length q64 ≤ Prod.fst y2) ∧ (List.length q64 ≤ Prod.snd y2 + (1 : Nat))))) ∧ (nl - Prod.fst y2 < nl - y0)))))))))))))))))) else (T0 ∧ (q53 ∧ ((∃ y1 : Nat, ((Go.Rx.Sub 1 [] ⟨39, [q51, q11, q6, q16]⟩ ⟨[q18], 1⟩ ({ n := (39 : Nat), m := [q15, q12, ((11 : Nat), vi (↑y1 : Int)), q17] }) ({ h := [q19], next := (1 : Nat) })) ∧ (((y1 ≤ nl) ∧ (sel (selE fl x) y1 = [])) ∧ (nl - y1 < nl - y0)))) ∨ ((∃ y1 : Nat × Nat, let q60 := (Prod.snd y1 + (1 : Nat)); let q61 := (sel (selE fl x) (Prod.fst y1)); let q62 := (List.length q61); ((Go.Rx.Sub 1 [q2] ⟨39, [q51, q11, q6, q16]⟩ ⟨[q18], 1⟩ ({ n := (39 : Nat), m := [q15, q12, ((11 : Nat), vi (↑(Prod.fst y1) : Int)), ((10 : Nat), rsl (1 : Nat) (0 : Nat) q62 q60)] }) ({ h := [q19, ((1 : Nat), Blk.row false [IntKind.i64] (3 : Nat) q62 q60 (lF q61))], next := (2 : Nat) })) ∧ (((Prod.fst y1 ≤ nl) ∧ ((¬sel (selE fl x) (Prod.fst y1) = []) ∧ ((List.length q61 ≤ Prod.fst y1) ∧ (List.length q61 ≤ Prod.snd y1 + (1 : Nat))))) ∧ (nl - Prod.fst y1 < nl - y0)))) ∨ ((∃ y1 : Nat × Nat, let q57 := (Prod.snd y1 + (1 : Nat)); let q58 := (sel (selE fl x) (Prod.fst y1)); let q59 := (List.length q58); ((Go.Rx.Sub 1 [q1] ⟨39, [q51, q11, q6, q16]⟩ ⟨[q18], 1⟩ ({ n := (39 : Nat), m := [q15, q12, ((11 : Nat), vi (↑(Prod.fst y1) : Int)), ((10 : Nat), rsl (1 : Nat) (0 : Nat) q59 q57)] }) ({ h := [q19, ((1 : Nat), Blk.row false [IntKind.i64] (3 : Nat) q59 q57 (lF q58))], next := (2 : Nat) })) ∧ (((Prod.fst y1 ≤ nl) ∧ ((¬sel (selE fl x) (Prod.fst y1) = []) ∧ ((List.length q58 ≤ Prod.fst y1) ∧ (List.length q58 ≤ Prod.snd y1 + (1 : Nat))))) ∧ (nl - Prod.fst y1 < nl - y0)))) ∨ (∃ y1 : Nat × Nat, let q54 := (Prod.snd y1 + (1 : Nat)); let q55 := (sel (selE fl x) (Prod.fst y1)); let q56 := (List.length q55); ((Go.Rx.Sub 1 [q0] ⟨39, [q51, q11, q6, q16]⟩ ⟨[q18], 1⟩ ({ n := (39 : Nat), m := [q15, q12, ((11 : Nat), vi (↑(Prod.fst y1) : Int)), ((10 : Nat), rsl (1 : Nat) (0 : Nat) q56 q54)] }) ({ h := [q19, ((1 : Nat), Blk.row false [IntKind.i64] (3 : Nat) q56 q54 (lF q55))], next := (2 : Nat) })) ∧ (((Prod.fst y1 ≤ nl) ∧ ((¬sel (selE fl x) (Prod.fst y1) = []) ∧ ((List.length q55 ≤ Prod.fst y1) ∧ (List.length q55 ≤ Prod.snd y1 + (1 : Nat))))) ∧ (nl - Prod.fst y1 < nl - y0))))))))))))))) else (∃ y1 : Value, (∃ y2 : List Blk, ((Go.Rx.Found 1 (Value.tuple { toList := [vn, vi (0 : Int)] }) ({ h := [q19], next := (1 : Nat) }) (y1) (y2)) ∧ (K y1 y2))))))))) ∧ (∀ y0 : Nat × Nat, let q21 := (↑(Prod.fst y0) : Int); let q22 := (Prod.snd y0 + (1 : Nat)); let q23 := (sel (selE fl x) (Prod.fst y0)); let q24 := (lF q23); let q25 := (List.length q23); let q26 := (List.length q23 + (1 : Nat)); let q27 := (11, vi (q21 + (1 : Int))); let q28 := (litF q5 ([q21] ++ [])); let q29 := (10, rsl (1 : Nat) (0 : Nat) q25 q22); let q30 := ((q7 ≤ q21 + (1 : Int)) ∧ (q21 + (1 : Int) ≤ q4)); (((Prod.fst y0 ≤ nl) ∧ ((¬sel (selE fl x) (Prod.fst y0) = []) ∧ ((List.length q23 ≤ Prod.fst y0) ∧ (List.length q23 ≤ Prod.snd y0 + (1 : Nat))))) → (q14 ∧ (T0 ∧ (if (q21 < (↑nl : Int)) then (q20 ∧ ((((0 : Int) ≤ q21) ∧ (q21 < (↑nl : Int))) ∧ (T0 ∧ ((Prod.fst y0 < nl) ∧ (T0 ∧ (if (@Eq Int (fl (Prod.fst y0) (0 : Nat)) (x)) then (q14 ∧ (t4 (q14 ∧ (q14 ∧ (t4 (q3 ∧ (q8 ∧ (T0 ∧ ((T0 ∧ ((false = false) ∧ (q10 ∧ ((@Eq Nat q25 q25) ∧ ((@Eq Nat q22 q22) ∧ (List.length q23 + (1 : Nat) ≤ (100000 : Nat))))))) ∧ (∀ y1 : Nat, let q43 := (y1 - (1 : Nat) + (1 : Nat)); let q44 := (10, rsl (3 : Nat) (0 : Nat) q26 q43); ((List.length q23 + (1 : Nat) ≤ y1) → (T0 ∧ (q30 ∧ ((∃ y2 : Nat, ((Go.Rx.Sub 1 [] ⟨39, [q27, q44, q11, q6]⟩ ⟨[q18], 4⟩ ({ n := (39 : Nat), m := [q15, q12, ((11 : Nat), vi (↑y2 : Int)), q17] }) ({ h := [q19], next := (1 : Nat) })) ∧ (((y2 ≤ nl) ∧ (sel (selE fl x) y2 = [])) ∧ (nl - y2 < nl - Prod.fst y0)))) ∨ ((∃ y2 : Nat × Nat, let q48 := (Prod.snd y2 + (1 : Nat)); let q49 := (sel (selE fl x) (Prod.fst y2)); let q50 := (List.length q49); ((Go.Rx.Sub 1 [q2] ⟨39, [q27, q44, q11, q6]⟩ ⟨[q18], 4⟩ ({ n := (39 : Nat), m := [q15, q12, ((11 : Nat), vi (↑(Prod.fst y2) : Int)), ((10 : Nat), rsl (1 : Nat) (0 : Nat) q50 q48)] }) ({ h := [q19, ((1 : Nat), Blk.row false [IntKind.i64] (3 : Nat) q50 q48 (lF q49))], next := (2 : Nat) })) ∧ (((Prod.fst y2 ≤ nl) ∧ ((¬sel (selE fl x) (Prod.fst y2) = []) ∧ ((List.length q49 ≤ Prod.fst y2) ∧ (List.length q49 ≤ Prod.snd y2 + (1 : Nat))))) ∧ (nl - Prod.fst y2 < nl - Prod.fst y0)))) ∨ ((∃ y2 : Nat × Nat, let q45 := (Prod.snd y2 + (1 : Nat)); let q46 := (sel (selE fl x) (Prod.fst y2)); let q47 := (List.length q46); ((Go.Rx.Sub 1 [q1] ⟨39, [q27, q44, q11, q6]⟩ ⟨[(2, Blk.row false [IntKind.i64] (3 : Nat) (1 : Nat) (1 : Nat) q28), q18], 4⟩ ({ n := (39 : Nat), m := [q15, q12, ((11 : Nat), vi (↑(Prod.fst y2) : Int)), ((10 : Nat), rsl (1 : Nat) (0 : Nat) q47 q45)] }) ({ h := [q19, ((1 : Nat), Blk.row false [IntKind.i64] (3 : Nat) q47 q45 (lF q46))], next := (2 : Nat) })) ∧ (((Prod.fst y2 ≤ nl) ∧ ((¬sel (selE fl x) (Prod.fst y2) = []) ∧ ((List.length q46 ≤ Prod.fst y2) ∧ (List.length q46 ≤ Prod.snd y2 + (1 : Nat))))) ∧ (nl - Prod.fst y2 < nl - Prod.fst y0)))) ∨ (∃ y2 : Nat × Nat, let q40 := (Prod.snd y2 + (1 : Nat)); let q41 := (sel (selE fl x) (Prod.fst y2)); let q42 := (List.length q41); ((Go.Rx.Sub 1 [q0] ⟨39, [q27, q44, q11, q6]⟩ ⟨[(3, Blk.row false [IntKind.i64] (3 : Nat) q26 q43 (appF q24 q25 q28 (0 : Nat))), q18], 4⟩ ({ n := (39 : Nat), m := [q15, q12, ((11 : Nat), vi (↑(Prod.fst y2) : Int)), ((10 : Nat), rsl (1 : Nat) (0 : Nat) q42 q40)] }) ({ h := [q19, ((1 : Nat), Blk.row false [IntKind.i64] (3 : Nat) q42 q40 (lF q41))], next := (2 : Nat) })) ∧ (((Prod.fst y2 ≤ nl) ∧ ((¬sel (selE fl x) (Prod.fst y2) = []) ∧ ((List.length q41 ≤ Prod.fst y2) ∧ (List.length q41 ≤ Prod.snd y2 + (1 : Nat))))) ∧ (nl - Prod.fst y2 < nl - Prod.fst y0)))))))))))))))))))) else (T0 ∧ (q30 ∧ ((∃ y1 : Nat, ((Go.Rx.Sub 1 [] ⟨39, [q27, q11, q6, q29]⟩ ⟨[q18], 2⟩ ({ n := (39 : Nat), m := [q15, q12, ((11 : Nat), vi (↑y1 : Int)), q17] }) ({ h := [q19], next := (1 : Nat) })) ∧ (((y1 ≤ nl) ∧ (sel (selE fl x) y1 = [])) ∧ (nl - y1 < nl - Prod.fst y0)))) ∨ ((∃ y1 : Nat × Nat, let q37 := (Prod.snd y1 + (1 : Nat)); let q38 := (sel (selE fl x) (Prod.fst y1)); let q39 := (List.length q38); ((Go.Rx.Sub 1 [q2] ⟨39, [q27, q11, q6, q29]⟩ ⟨[q18, (1, Blk.row false [IntKind.i64] (3 : Nat) q25 q22 q24)], 2⟩ ({ n := (39 : Nat), m := [q15, q12, ((11 : Nat), vi (↑(Prod.fst y1) : Int)), ((10 : Nat), rsl (1 : Nat) (0 : Nat) q39 q37)] }) ({ h := [q19, ((1 : Nat), Blk.row false [IntKind.i64] (3 : Nat) q39 q37 (lF q38))], next := (2 : Nat) })) ∧ (((Prod.fst y1 ≤ nl) ∧ ((¬sel (selE fl x) (Prod.fst y1) = []) ∧ ((List.length q38 ≤ Prod.fst y1) ∧ (List.length q38 ≤ Prod.snd y1 + (1 : Nat))))) ∧ (nl - Prod.fst y1 < nl - Prod.fst y0)))) ∨ ((∃ y1 : Nat × Nat, let q34 := (Prod.snd y1 + (1 : Nat)); let q35 := (sel (selE fl x) (Prod.fst y1)); let q36 := (List.length q35); ((Go.Rx.Sub 1 [q1] ⟨39, [q27, q11, q6, q29]⟩ ⟨[q18], 2⟩ ({ n := (39 : Nat), m := [q15, q12, ((11 : Nat), vi (↑(Prod.fst y1) : Int)), ((10 : Nat), rsl (1 : Nat) (0 : Nat) q36 q34)] }) ({ h := [q19, ((1 : Nat), Blk.row false [IntKind.i64] (3 : Nat) q36 q34 (lF q35))], next := (2 : Nat) })) ∧ (((Prod.fst y1 ≤ nl) ∧ ((¬sel (selE fl x) (Prod.fst y1) = []) ∧ ((List.length q35 ≤ Prod.fst y1) ∧ (List.length q35 ≤ Prod.snd y1 + (1 : Nat))))) ∧ (nl - Prod.fst y1 < nl - Prod.fst y0)))) ∨ (∃ y1 : Nat × Nat, let q31 := (Prod.snd y1 + (1 : Nat)); let q32 := (sel (selE fl x) (Prod.fst y1)); let q33 := (List.length q32); ((Go.Rx.Sub 1 [q0] ⟨39, [q27, q11, q6, q29]⟩ ⟨[q18], 2⟩ ({ n := (39 : Nat), m := [q15, q12, ((11 : Nat), vi (↑(Prod.fst y1) : Int)), ((10 : Nat), rsl (1 : Nat) (0 : Nat) q33 q31)] }) ({ h := [q19, ((1 : Nat), Blk.row false [IntKind.i64] (3 : Nat) q33 q31 (lF q32))], next := (2 : Nat) })) ∧ (((Prod.fst y1 ≤ nl) ∧ ((¬sel (selE fl x) (Prod.fst y1) = []) ∧ ((List.length q32 ≤ Prod.fst y1) ∧ (List.length q32 ≤ Prod.snd y1 + (1 : Nat))))) ∧ (nl - Prod.fst y1 < nl - Prod.fst y0))))))))))))))) else (∃ y1 : Value, (∃ y2 : List Blk, ((Go.Rx.Found 1 (Value.tuple { toList := [rsl (1 : Nat) (0 : Nat) q25 q22, vi (0 : Int)] }) ({ h := [q19, ((1 : Nat), Blk.row false [IntKind.i64] (3 : Nat) q25 q22 q24)], next := (2 : Nat) }) (y1) (y2)) ∧ (K y1 y2))))))))))) else (∃ y0 : Value, (∃ y1 : List Blk, ((Go.Rx.Found 1 (Value.tuple { toList := [vn, vi q9] }) ({ h := [((1 : Nat), Blk.cells [vi a, vi b, vi c, vi d, vi e] (23 : Nat)), q19], next := (2 : Nat) }) (y0) (y1)) ∧ (K y0 y1)))))))))))))
theorem con69_rE (el nl cl : Nat) (fl : RF) (a : Int) (b : Int) (c : Int) (d : Int) (e : Int) (x : Int) (K : Value → List Blk → Prop) : con69_rV el nl cl fl a b c d e x K = bodyX (mk X7) (callN (mk X7) 3) (con69_rA el nl cl fl a b c d e x) Try.f69 [five' a b c d e, rsl 0 0 nl cl, .int .i64 x] (stOf [.row true [.i64, .i64] el nl cl fl]) (Fd 1 K) := by kernel_rfl
set_option tactic.hygienic false in
theorem con69_rP (el nl cl : Nat) (fl : RF) (a : Int) (b : Int) (c : Int) (d : Int) (e : Int) (x : Int) (K : Value → List Blk → Prop)  (hI : InC a b c d e) (hnl : nl ≤ 100000) (h : (¬ (ckF a b c d e nl fl).2 = 0 → K (.tuple ⟨[.slice none 0 0, .int .i64 (ckF a b c d e nl fl).2]⟩) []) ∧ ((ckF a b c d e nl fl).2 = 0 → ((sel (selE fl x) nl) = [] → K (.tuple ⟨[.slice none 0 0, .int .i64 0]⟩) []) ∧ (¬ (sel (selE fl x) nl) = [] → ∀ cp, List.length (sel (selE fl x) nl) ≤ cp → K (.tuple ⟨[rsl 1 0 (List.length (sel (selE fl x) nl)) cp, .int .i64 0]⟩) [.row false [.i64] 3 (List.length (sel (selE fl x) nl)) cp (lF (sel (selE fl x) nl))]))) : con69_rV el nl cl fl a b c d e x K := by
  unfold con69_rV
  conv => zeta
  repeat' (first | (with_reducible first | exact rfl | exact trivial | refine And.intro ?_ ?_ | refine br_intro (fun hq => ?_) fun hq => ?_ | refine if_both (fun hz => ?_) fun hz => ?_) | (intro) | fail)
  all_goals first
    | omega
    | assumption
    | exact .inl ⟨0, (by (refine And.intro (And.intro rfl (And.intro rfl (And.intro rfl rfl))) ?_; (repeat' (first | exact trivial | exact rfl | exact fun _ _ _ _ => rfl | refine And.intro ?_ ?_ | omega | fail)); done)), by omega, rfl⟩
    | (have hq0 : ¬ fl y0 0 = x := by assumption
       have e1 : sel (selE fl x) (y0 + 1) = sel (selE fl x) y0 := sel_no (selE_no hq0)
       exact .inl ⟨y0 + 1, (by (refine And.intro (And.intro rfl (And.intro rfl (And.intro rfl rfl))) ?_; repeat' (first | exact trivial | exact rfl | exact fun _ _ _ _ => rfl | refine And.intro ?_ ?_ | omega | (show List.length (sel (selE fl x) (y0 + 1)) = _; first | (rw [e1]; done) | (rw [e1]; rfl) | (rw [e1]; simp; done)) | (show (_ : Nat) - 1 + 1 = _; omega) | (intro i j hi hj; have hi2 : i < List.length (sel (selE fl x) (y0 + 1)) := hi; rw [e1] at hi2; show lF (sel (selE fl x) (y0 + 1)) i j = _; first | (rw [e1]; done) | (rw [e1]; refine lF_one ?_ i j (by simpa using hi2) hj; rfl) | (rw [e1]; refine lF_app ?_ i j (by simpa using hi2) hj; rfl) | (rw [e1]; rfl)) | fail))), ⟨by omega, e1.trans (show y0 ≤ nl ∧ sel (selE fl x) y0 = [] by assumption).2⟩, by omega⟩)
    | (have hq1 : fl y0 0 = x := by assumption
       have e1 : sel (selE fl x) (y0 + 1) = [] ++ [(y0 : Int)] := by
         rw [sel_yes (selE_yes hq1), (show y0 ≤ nl ∧ sel (selE fl x) y0 = [] by assumption).2]
       exact .inr (.inr (.inl ⟨(y0 + 1, y1 - 1), (by (refine And.intro (And.intro rfl (And.intro rfl (And.intro rfl rfl))) ?_; repeat' (first | exact trivial | exact rfl | exact fun _ _ _ _ => rfl | refine And.intro ?_ ?_ | omega | (show List.length (sel (selE fl x) (y0 + 1)) = _; first | (rw [e1]; done) | (rw [e1]; rfl) | (rw [e1]; simp; done)) | (show (_ : Nat) - 1 + 1 = _; omega) | (intro i j hi hj; have hi2 : i < List.length (sel (selE fl x) (y0 + 1)) := hi; rw [e1] at hi2; show lF (sel (selE fl x) (y0 + 1)) i j = _; first | (rw [e1]; done) | (rw [e1]; refine lF_one ?_ i j (by simpa using hi2) hj; rfl) | (rw [e1]; refine lF_app ?_ i j (by simpa using hi2) hj; rfl) | (rw [e1]; rfl)) | fail))), ⟨by show y0 + 1 ≤ nl; omega, by rw [e1]; simp, by rw [e1]; simp, (by rw [e1]; show 1 ≤ y1 - 1 + 1; omega)⟩, by show nl - (y0 + 1) < nl - y0; omega⟩)))
    | (have I := (show y0.1 ≤ nl ∧ ¬ sel (selE fl x) y0.1 = [] ∧ List.length (sel (selE fl x) y0.1) ≤ y0.1 ∧ List.length (sel (selE fl x) y0.1) ≤ y0.2 + 1 by assumption)
       have hq0 : ¬ fl y0.1 0 = x := by assumption
       have e1 : sel (selE fl x) (y0.1 + 1) = sel (selE fl x) y0.1 := sel_no (selE_no hq0)
       exact .inr (.inl ⟨(y0.1 + 1, y0.2), (by (refine And.intro (And.intro rfl (And.intro rfl (And.intro rfl rfl))) ?_; repeat' (first | exact trivial | exact rfl | exact fun _ _ _ _ => rfl | refine And.intro ?_ ?_ | omega | (show List.length (sel (selE fl x) (y0.1 + 1)) = _; first | (rw [e1]; done) | (rw [e1]; rfl) | (rw [e1]; simp; done)) | (show (_ : Nat) - 1 + 1 = _; omega) | (intro i j hi hj; have hi2 : i < List.length (sel (selE fl x) (y0.1 + 1)) := hi; rw [e1] at hi2; show lF (sel (selE fl x) (y0.1 + 1)) i j = _; first | (rw [e1]; done) | (rw [e1]; refine lF_one ?_ i j (by simpa using hi2) hj; rfl) | (rw [e1]; refine lF_app ?_ i j (by simpa using hi2) hj; rfl) | (rw [e1]; rfl)) | fail))), ⟨by show y0.1 + 1 ≤ nl; omega, by rw [e1]; exact I.2.1, by rw [e1]; show _ ≤ y0.1 + 1; omega, by rw [e1]; exact I.2.2.2⟩, by show nl - (y0.1 + 1) < nl - y0.1; omega⟩))
    | (have I := (show y0.1 ≤ nl ∧ ¬ sel (selE fl x) y0.1 = [] ∧ List.length (sel (selE fl x) y0.1) ≤ y0.1 ∧ List.length (sel (selE fl x) y0.1) ≤ y0.2 + 1 by assumption)
       have hq1 : fl y0.1 0 = x := by assumption
       have e1 : sel (selE fl x) (y0.1 + 1) = sel (selE fl x) y0.1 ++ [(y0.1 : Int)] := sel_yes (selE_yes hq1)
       exact .inr (.inr (.inr ⟨(y0.1 + 1, y1 - 1), (by (refine And.intro (And.intro rfl (And.intro rfl (And.intro rfl rfl))) ?_; repeat' (first | exact trivial | exact rfl | exact fun _ _ _ _ => rfl | refine And.intro ?_ ?_ | omega | (show List.length (sel (selE fl x) (y0.1 + 1)) = _; first | (rw [e1]; done) | (rw [e1]; rfl) | (rw [e1]; simp; done)) | (show (_ : Nat) - 1 + 1 = _; omega) | (intro i j hi hj; have hi2 : i < List.length (sel (selE fl x) (y0.1 + 1)) := hi; rw [e1] at hi2; show lF (sel (selE fl x) (y0.1 + 1)) i j = _; first | (rw [e1]; done) | (rw [e1]; refine lF_one ?_ i j (by simpa using hi2) hj; rfl) | (rw [e1]; refine lF_app ?_ i j (by simpa using hi2) hj; rfl) | (rw [e1]; rfl)) | fail))), ⟨by show y0.1 + 1 ≤ nl; omega, by rw [e1]; simp, by rw [e1]; simp; omega, by rw [e1]; simp; omega⟩, by show nl - (y0.1 + 1) < nl - y0.1; omega⟩)))
    | exact fin0 (by kernel_rfl) (by kernel_rfl) (h.1 (by assumption))
    | (have I := (show y0 ≤ nl ∧ sel (selE fl x) y0 = [] by assumption)
       exact fin0 (by kernel_rfl) (by kernel_rfl) ((h.2 (by assumption)).1 (by rw [← I.2]; congr 1; omega)))
    | (have I := (show y0.1 ≤ nl ∧ ¬ sel (selE fl x) y0.1 = [] ∧ List.length (sel (selE fl x) y0.1) ≤ y0.1 ∧ List.length (sel (selE fl x) y0.1) ≤ y0.2 + 1 by assumption)
       have e1 : y0.1 = nl := by omega
       rw [e1] at I ⊢
       exact fin1t (by kernel_rfl) (fun _ _ _ _ => rfl) (by kernel_rfl) (by kernel_rfl) ((h.2 (by assumption)).2 I.2.1 _ I.2.2.2))
theorem con69_ok : BodyOk (mk X7) 3 Try.f69 con69 := by
  intro vs bs K hh hro
  clear hro
  unfold con69 at hh
  split at hh
  · rename_i u v x
    obtain ⟨a, b, c, d, e, rfl, hI, hh0⟩ := five_inv hh
    rcases parse_inv hh0 with ⟨rfl, hh1⟩ | ⟨el, nl, cl, fl, bs1, rfl, hnl, rfl, hh1⟩ <;> clear hh0
    · obtain ⟨rfl, hc⟩ := hh1
      exact ⟨_, _, cast (con69_nE a b c d e x K) (con69_nP a b c d e x K hI hc)⟩
    · obtain ⟨rfl, hc⟩ := hh1
      exact ⟨_, _, cast (con69_rE el nl cl fl a b c d e x K) (con69_rP el nl cl fl a b c d e x K hI hnl hc)⟩
  · exact hh.elim
theorem con69_told : Told 69 (specOf con69) := told (X := X7) (X7_told) (by kernel_rfl) (by kernel_rfl) (by kernel_rfl) con69_ok
end Go.Proofs.Ytkflmglpniebfaa.Fr
namespace Go.Proofs.Ytkflmglpniebfaa.Fr
set_option maxRecDepth 100000
set_option maxHeartbeats 4000000
open Go.Rx
open Go.RowKit (Below)
set_option linter.unusedVariables false
@[reducible] def X8 : List (Nat × Rx.Spec) := [(21, specOf con21), (68, specOf con68), (69, specOf con69)]
theorem X8_told : ∀ p ∈ X8, Told p.1 p.2 := by
  intro p hp
  simp only [List.mem_cons, List.not_mem_nil, or_false] at hp
  rcases hp with rfl | rfl | rfl
  · exact con21_told
  · exact con68_told
  · exact con69_told
theorem selB_one {g f : RF} {x : Int} (h : g 0 0 = x) : selB 1 g f = selE f x := by
  funext i
  simp [selB, selE, h, eq_comm]
def con25 : Con := fun vs bs K => match vs with
  | [u, v] => five u fun a b c d e => parse [.i64, .i64] 0 v bs fun n f j bs => bs = [] ∧ (¬ (ckF a b c d e n f).2 = 0 → K (.tuple ⟨[.slice none 0 0, .int .i64 (ckF a b c d e n f).2]⟩) []) ∧ ((ckF a b c d e n f).2 = 0 → ((sel (selE f 0) n) = [] → K (.tuple ⟨[.slice none 0 0, .int .i64 0]⟩) []) ∧ (¬ (sel (selE f 0) n) = [] → ∀ cp, List.length (sel (selE f 0) n) ≤ cp → K (.tuple ⟨[rsl j 0 (List.length (sel (selE f 0) n)) cp, .int .i64 0]⟩) [.row false [.i64] 3 (List.length (sel (selE f 0) n)) cp (lF (sel (selE f 0) n))]))
  | _ => False

def con25_nA (a : Int) (b : Int) (c : Int) (d : Int) (e : Int) : Ann := fun _ _ _ => none
def con25_rA (el nl cl : Nat) (fl : RF) (a : Int) (b : Int) (c : Int) (d : Int) (e : Int) : Ann := fun _ _ _ => none
def con27 : Con := fun vs bs K => match vs with
  | [u, v] => five u fun a b c d e => parse [.i64, .i64] 0 v bs fun n f j bs => bs = [] ∧ (¬ (ckF a b c d e n f).2 = 0 → K (.tuple ⟨[.slice none 0 0, .int .i64 (ckF a b c d e n f).2]⟩) []) ∧ ((ckF a b c d e n f).2 = 0 → ((sel (selE f 2) n) = [] → K (.tuple ⟨[.slice none 0 0, .int .i64 0]⟩) []) ∧ (¬ (sel (selE f 2) n) = [] → ∀ cp, List.length (sel (selE f 2) n) ≤ cp → K (.tuple ⟨[rsl j 0 (List.length (sel (selE f 2) n)) cp, .int .i64 0]⟩) [.row false [.i64] 3 (List.length (sel (selE f 2) n)) cp (lF (sel (selE f 2) n))]))
  | _ => False

def con27_nA (a : Int) (b : Int) (c : Int) (d : Int) (e : Int) : Ann := fun _ _ _ => none
def con27_rA (el nl cl : Nat) (fl : RF) (a : Int) (b : Int) (c : Int) (d : Int) (e : Int) : Ann := fun _ _ _ => none
def con25_nV (a : Int) (b : Int) (c : Int) (d : Int) (e : Int) (K : Value → List Blk → Prop) : Prop := let q0 := (ckF a b c d e (0 : Nat) zF); let q1 := (sel (selE zF (0 : Int)) (0 : Nat)); let q2 := (Prod.snd q0); let q3 := ((0 : Nat), Blk.cells [vi a, vi b, vi c, vi d, vi e] (23 : Nat)); (t5 ((InC a b c d e) ∧ (eB ∧ (((¬Prod.snd q0 = (0 : Int)) → (∃ y0 : Value, (∃ y1 : List Blk, ((Go.Rx.Found 0 (Value.tuple { toList := [vn, vi q2] }) ({ h := [q3], next := (1 : Nat) }) (y0) (y1)) ∧ (K y0 y1))))) ∧ ((@Eq Int q2 ((0 : Int))) → (((sel (selE zF (0 : Int)) (0 : Nat) = []) → (∃ y0 : Value, (∃ y1 : List Blk, ((Go.Rx.Found 0 (Value.tuple { toList := [vn, vi (0 : Int)] }) ({ h := [q3], next := (1 : Nat) }) (y0) (y1)) ∧ (K y0 y1))))) ∧ ((¬sel (selE zF (0 : Int)) (0 : Nat) = []) → (∀ y0 : Nat, ((List.length q1 ≤ y0) → (∃ y1 : Value, (∃ y2 : List Blk, ((Go.Rx.Found 0 (Value.tuple { toList := [rsl (1 : Nat) (0 : Nat) (0 : Nat) y0, vi (0 : Int)] }) ({ h := [((1 : Nat), Blk.row false [IntKind.i64] (3 : Nat) (0 : Nat) y0 (lF q1)), q3], next := (2 : Nat) }) (y1) (y2)) ∧ (K y1 y2)))))))))))))
theorem con25_nE (a : Int) (b : Int) (c : Int) (d : Int) (e : Int) (K : Value → List Blk → Prop) : con25_nV a b c d e K = bodyX (mk X8) (callN (mk X8) 3) (con25_nA a b c d e) Try.f25 [five' a b c d e, .slice none 0 0] (stOf []) (Fd 0 K) := by kernel_rfl
set_option tactic.hygienic false in
theorem con25_nP (a : Int) (b : Int) (c : Int) (d : Int) (e : Int) (K : Value → List Blk → Prop)  (hI : InC a b c d e) (h : (¬ (ckF a b c d e 0 zF).2 = 0 → K (.tuple ⟨[.slice none 0 0, .int .i64 (ckF a b c d e 0 zF).2]⟩) []) ∧ ((ckF a b c d e 0 zF).2 = 0 → ((sel (selE zF 0) 0) = [] → K (.tuple ⟨[.slice none 0 0, .int .i64 0]⟩) []) ∧ (¬ (sel (selE zF 0) 0) = [] → ∀ cp, List.length (sel (selE zF 0) 0) ≤ cp → K (.tuple ⟨[rsl 0 0 (List.length (sel (selE zF 0) 0)) cp, .int .i64 0]⟩) [.row false [.i64] 3 (List.length (sel (selE zF 0) 0)) cp (lF (sel (selE zF 0) 0))]))) : con25_nV a b c d e K := by
  unfold con25_nV
  conv => zeta
  have E1 : ∀ g : RF, g 0 0 = 0 → sel (selB 1 g zF) 0 = sel (selE zF 0) 0 := fun g h => by rw [selB_one h]
  repeat' (first | (with_reducible first | exact rfl | exact trivial | refine And.intro ?_ ?_ | refine br_intro (fun hq => ?_) fun hq => ?_ | refine if_both (fun hz => ?_) fun hz => ?_) | (intro) | fail)
  all_goals first
    | omega
    | assumption
    | exact fin0 (by kernel_rfl) (by kernel_rfl) (h.1 (by assumption))
    | exact fin0 (by kernel_rfl) (by kernel_rfl) ((h.2 (by assumption)).1 (by assumption))
    | exact fin0 (by kernel_rfl) (by kernel_rfl) ((h.2 (by assumption)).1 ((E1 _ rfl).symm.trans (by assumption)))
    | (rw [E1 _ rfl] at *
       exact fin1t (by kernel_rfl) (fun _ _ _ _ => rfl) (by kernel_rfl) (by kernel_rfl) ((h.2 (by assumption)).2 (by assumption) _ (by assumption)))
    | exact fin1t (by kernel_rfl) (fun _ _ _ _ => rfl) (by kernel_rfl) (by kernel_rfl) ((h.2 (by assumption)).2 (by assumption) _ (by assumption))
def con25_rV (el nl cl : Nat) (fl : RF) (a : Int) (b : Int) (c : Int) (d : Int) (e : Int) (K : Value → List Blk → Prop) : Prop := let q0 := (sel (selE fl (0 : Int)) nl); let q1 := (Prod.snd (ckF a b c d e nl fl)); let q2 := (List.length q0); let q3 := ((0 : Nat), rT el nl cl fl); let q4 := ((1 : Nat), Blk.cells [vi a, vi b, vi c, vi d, vi e] (23 : Nat)); (t3 (((0 : Nat) + nl ≤ nl) ∧ (T0 ∧ ((InC a b c d e) ∧ ((@Eq Nat ((0 : Nat)) ((0 : Nat))) ∧ ((nl ≤ (100000 : Nat)) ∧ ((eK ∧ ((@Eq Nat (nl) (nl)) ∧ (@Eq Nat (cl) (cl)))) ∧ (eB ∧ (((¬Prod.snd (ckF a b c d e nl fl) = (0 : Int)) → (∃ y0 : Value, (∃ y1 : List Blk, ((Go.Rx.Found 1 (Value.tuple { toList := [vn, vi q1] }) ({ h := [q4, q3], next := (2 : Nat) }) (y0) (y1)) ∧ (K y0 y1))))) ∧ ((@Eq Int q1 ((0 : Int))) → (((sel (selE fl (0 : Int)) nl = []) → (∃ y0 : Value, (∃ y1 : List Blk, ((Go.Rx.Found 1 (Value.tuple { toList := [vn, vi (0 : Int)] }) ({ h := [q4, q3], next := (2 : Nat) }) (y0) (y1)) ∧ (K y0 y1))))) ∧ ((¬sel (selE fl (0 : Int)) nl = []) → (∀ y0 : Nat, ((List.length q0 ≤ y0) → (∃ y1 : Value, (∃ y2 : List Blk, ((Go.Rx.Found 1 (Value.tuple { toList := [rsl (2 : Nat) (0 : Nat) q2 y0, vi (0 : Int)] }) ({ h := [((2 : Nat), Blk.row false [IntKind.i64] (3 : Nat) q2 y0 (lF q0)), q4, q3], next := (3 : Nat) }) (y1) (y2)) ∧ (K y1 y2))))))))))))))))))
theorem con25_rE (el nl cl : Nat) (fl : RF) (a : Int) (b : Int) (c : Int) (d : Int) (e : Int) (K : Value → List Blk → Prop) : con25_rV el nl cl fl a b c d e K = bodyX (mk X8) (callN (mk X8) 3) (con25_rA el nl cl fl a b c d e) Try.f25 [five' a b c d e, rsl 0 0 nl cl] (stOf [.row true [.i64, .i64] el nl cl fl]) (Fd 1 K) := by kernel_rfl
set_option tactic.hygienic false in
theorem con25_rP (el nl cl : Nat) (fl : RF) (a : Int) (b : Int) (c : Int) (d : Int) (e : Int) (K : Value → List Blk → Prop)  (hI : InC a b c d e) (hnl : nl ≤ 100000) (h : (¬ (ckF a b c d e nl fl).2 = 0 → K (.tuple ⟨[.slice none 0 0, .int .i64 (ckF a b c d e nl fl).2]⟩) []) ∧ ((ckF a b c d e nl fl).2 = 0 → ((sel (selE fl 0) nl) = [] → K (.tuple ⟨[.slice none 0 0, .int .i64 0]⟩) []) ∧ (¬ (sel (selE fl 0) nl) = [] → ∀ cp, List.length (sel (selE fl 0) nl) ≤ cp → K (.tuple ⟨[rsl 1 0 (List.length (sel (selE fl 0) nl)) cp, .int .i64 0]⟩) [.row false [.i64] 3 (List.length (sel (selE fl 0) nl)) cp (lF (sel (selE fl 0) nl))]))) : con25_rV el nl cl fl a b c d e K := by
  unfold con25_rV
  conv => zeta
  have E1 : ∀ g : RF, g 0 0 = 0 → sel (selB 1 g fl) nl = sel (selE fl 0) nl := fun g h => by rw [selB_one h]
  repeat' (first | (with_reducible first | exact rfl | exact trivial | refine And.intro ?_ ?_ | refine br_intro (fun hq => ?_) fun hq => ?_ | refine if_both (fun hz => ?_) fun hz => ?_) | (intro) | fail)
  all_goals first
    | omega
    | assumption
    | exact fin0 (by kernel_rfl) (by kernel_rfl) (h.1 (by assumption))
    | exact fin0 (by kernel_rfl) (by kernel_rfl) ((h.2 (by assumption)).1 (by assumption))
    | exact fin0 (by kernel_rfl) (by kernel_rfl) ((h.2 (by assumption)).1 ((E1 _ rfl).symm.trans (by assumption)))
    | (rw [E1 _ rfl] at *
       exact fin1t (by kernel_rfl) (fun _ _ _ _ => rfl) (by kernel_rfl) (by kernel_rfl) ((h.2 (by assumption)).2 (by assumption) _ (by assumption)))
    | exact fin1t (by kernel_rfl) (fun _ _ _ _ => rfl) (by kernel_rfl) (by kernel_rfl) ((h.2 (by assumption)).2 (by assumption) _ (by assumption))
theorem con25_ok : BodyOk (mk X8) 3 Try.f25 con25 := by
  intro vs bs K hh hro
  clear hro
  unfold con25 at hh
  split at hh
  · obtain ⟨a, b, c, d, e, rfl, hI, hh0⟩ := five_inv hh
    rcases parse_inv hh0 with ⟨rfl, hh1⟩ | ⟨el, nl, cl, fl, bs1, rfl, hnl, rfl, hh1⟩ <;> clear hh0
    · obtain ⟨rfl, hc⟩ := hh1
      exact ⟨_, _, cast (con25_nE a b c d e K) (con25_nP a b c d e K hI hc)⟩
    · obtain ⟨rfl, hc⟩ := hh1
      exact ⟨_, _, cast (con25_rE el nl cl fl a b c d e K) (con25_rP el nl cl fl a b c d e K hI hnl hc)⟩
  · exact hh.elim
theorem con25_told : Told 25 (specOf con25) := told (X := X8) (X8_told) (by kernel_rfl) (by kernel_rfl) (by kernel_rfl) con25_ok
def con27_nV (a : Int) (b : Int) (c : Int) (d : Int) (e : Int) (K : Value → List Blk → Prop) : Prop := let q0 := (ckF a b c d e (0 : Nat) zF); let q1 := (sel (selE zF (2 : Int)) (0 : Nat)); let q2 := (Prod.snd q0); let q3 := ((0 : Nat), Blk.cells [vi a, vi b, vi c, vi d, vi e] (23 : Nat)); (t5 ((InC a b c d e) ∧ (eB ∧ (((¬Prod.snd q0 = (0 : Int)) → (∃ y0 : Value, (∃ y1 : List Blk, ((Go.Rx.Found 0 (Value.tuple { toList := [vn, vi q2] }) ({ h := [q3], next := (1 : Nat) }) (y0) (y1)) ∧ (K y0 y1))))) ∧ ((@Eq Int q2 ((0 : Int))) → (((sel (selE zF (2 : Int)) (0 : Nat) = []) → (∃ y0 : Value, (∃ y1 : List Blk, ((Go.Rx.Found 0 (Value.tuple { toList := [vn, vi (0 : Int)] }) ({ h := [q3], next := (1 : Nat) }) (y0) (y1)) ∧ (K y0 y1))))) ∧ ((¬sel (selE zF (2 : Int)) (0 : Nat) = []) → (∀ y0 : Nat, ((List.length q1 ≤ y0) → (∃ y1 : Value, (∃ y2 : List Blk, ((Go.Rx.Found 0 (Value.tuple { toList := [rsl (1 : Nat) (0 : Nat) (0 : Nat) y0, vi (0 : Int)] }) ({ h := [((1 : Nat), Blk.row false [IntKind.i64] (3 : Nat) (0 : Nat) y0 (lF q1)), q3], next := (2 : Nat) }) (y1) (y2)) ∧ (K y1 y2)))))))))))))
theorem con27_nE (a : Int) (b : Int) (c : Int) (d : Int) (e : Int) (K : Value → List Blk → Prop) : con27_nV a b c d e K = bodyX (mk X8) (callN (mk X8) 3) (con27_nA a b c d e) Try.f27 [five' a b c d e, .slice none 0 0] (stOf []) (Fd 0 K) := by kernel_rfl
set_option tactic.hygienic false in
theorem con27_nP (a : Int) (b : Int) (c : Int) (d : Int) (e : Int) (K : Value → List Blk → Prop)  (hI : InC a b c d e) (h : (¬ (ckF a b c d e 0 zF).2 = 0 → K (.tuple ⟨[.slice none 0 0, .int .i64 (ckF a b c d e 0 zF).2]⟩) []) ∧ ((ckF a b c d e 0 zF).2 = 0 → ((sel (selE zF 2) 0) = [] → K (.tuple ⟨[.slice none 0 0, .int .i64 0]⟩) []) ∧ (¬ (sel (selE zF 2) 0) = [] → ∀ cp, List.length (sel (selE zF 2) 0) ≤ cp → K (.tuple ⟨[rsl 0 0 (List.length (sel (selE zF 2) 0)) cp, .int .i64 0]⟩) [.row false [.i64] 3 (List.length (sel (selE zF 2) 0)) cp (lF (sel (selE zF 2) 0))]))) : con27_nV a b c d e K := by
  unfold con27_nV
  conv => zeta
  have E1 : ∀ g : RF, g 0 0 = 2 → sel (selB 1 g zF) 0 = sel (selE zF 2) 0 := fun g h => by rw [selB_one h]
  repeat' (first | (with_reducible first | exact rfl | exact trivial | refine And.intro ?_ ?_ | refine br_intro (fun hq => ?_) fun hq => ?_ | refine if_both (fun hz => ?_) fun hz => ?_) | (intro) | fail)
  all_goals first
    | omega
    | assumption
    | exact fin0 (by kernel_rfl) (by kernel_rfl) (h.1 (by assumption))
    | exact fin0 (by kernel_rfl) (by kernel_rfl) ((h.2 (by assumption)).1 (by assumption))
    | exact fin0 (by kernel_rfl) (by kernel_rfl) ((h.2 (by assumption)).1 ((E1 _ rfl).symm.trans (by assumption)))
    | (rw [E1 _ rfl] at *
       exact fin1t (by kernel_rfl) (fun _ _ _ _ => rfl) (by kernel_rfl) (by kernel_rfl) ((h.2 (by assumption)).2 (by assumption) _ (by assumption)))
    | exact fin1t (by kernel_rfl) (fun _ _ _ _ => rfl) (by kernel_rfl) (by kernel_rfl) ((h.2 (by assumption)).2 (by assumption) _ (by assumption))
def con27_rV (el nl cl : Nat) (fl : RF) (a : Int) (b : Int) (c : Int) (d : Int) (e : Int) (K : Value → List Blk → Prop) : Prop := let q0 := (sel (selE fl (2 : Int)) nl); let q1 := (Prod.snd (ckF a b c d e nl fl)); let q2 := (List.length q0); let q3 := ((0 : Nat), rT el nl cl fl); let q4 := ((1 : Nat), Blk.cells [vi a, vi b, vi c, vi d, vi e] (23 : Nat)); (t3 (((0 : Nat) + nl ≤ nl) ∧ (T0 ∧ ((InC a b c d e) ∧ ((@Eq Nat ((0 : Nat)) ((0 : Nat))) ∧ ((nl ≤ (100000 : Nat)) ∧ ((eK ∧ ((@Eq Nat (nl) (nl)) ∧ (@Eq Nat (cl) (cl)))) ∧ (eB ∧ (((¬Prod.snd (ckF a b c d e nl fl) = (0 : Int)) → (∃ y0 : Value, (∃ y1 : List Blk, ((Go.Rx.Found 1 (Value.tuple { toList := [vn, vi q1] }) ({ h := [q4, q3], next := (2 : Nat) }) (y0) (y1)) ∧ (K y0 y1))))) ∧ ((@Eq Int q1 ((0 : Int))) → (((sel (selE fl (2 : Int)) nl = []) → (∃ y0 : Value, (∃ y1 : List Blk, ((Go.Rx.Found 1 (Value.tuple { toList := [vn, vi (0 : Int)] }) ({ h := [q4, q3], next := (2 : Nat) }) (y0) (y1)) ∧ (K y0 y1))))) ∧ ((¬sel (selE fl (2 : Int)) nl = []) → (∀ y0 : Nat, ((List.length q0 ≤ y0) → (∃ y1 : Value, (∃ y2 : List Blk, ((Go.Rx.Found 1 (Value.tuple { toList := [rsl (2 : Nat) (0 : Nat) q2 y0, vi (0 : Int)] }) ({ h := [((2 : Nat), Blk.row false [IntKind.i64] (3 : Nat) q2 y0 (lF q0)), q4, q3], next := (3 : Nat) }) (y1) (y2)) ∧ (K y1 y2))))))))))))))))))
theorem con27_rE (el nl cl : Nat) (fl : RF) (a : Int) (b : Int) (c : Int) (d : Int) (e : Int) (K : Value → List Blk → Prop) : con27_rV el nl cl fl a b c d e K = bodyX (mk X8) (callN (mk X8) 3) (con27_rA el nl cl fl a b c d e) Try.f27 [five' a b c d e, rsl 0 0 nl cl] (stOf [.row true [.i64, .i64] el nl cl fl]) (Fd 1 K) := by kernel_rfl
set_option tactic.hygienic false in
theorem con27_rP (el nl cl : Nat) (fl : RF) (a : Int) (b : Int) (c : Int) (d : Int) (e : Int) (K : Value → List Blk → Prop)  (hI : InC a b c d e) (hnl : nl ≤ 100000) (h : (¬ (ckF a b c d e nl fl).2 = 0 → K (.tuple ⟨[.slice none 0 0, .int .i64 (ckF a b c d e nl fl).2]⟩) []) ∧ ((ckF a b c d e nl fl).2 = 0 → ((sel (selE fl 2) nl) = [] → K (.tuple ⟨[.slice none 0 0, .int .i64 0]⟩) []) ∧ (¬ (sel (selE fl 2) nl) = [] → ∀ cp, List.length (sel (selE fl 2) nl) ≤ cp → K (.tuple ⟨[rsl 1 0 (List.length (sel (selE fl 2) nl)) cp, .int .i64 0]⟩) [.row false [.i64] 3 (List.length (sel (selE fl 2) nl)) cp (lF (sel (selE fl 2) nl))]))) : con27_rV el nl cl fl a b c d e K := by
  unfold con27_rV
  conv => zeta
  have E1 : ∀ g : RF, g 0 0 = 2 → sel (selB 1 g fl) nl = sel (selE fl 2) nl := fun g h => by rw [selB_one h]
  repeat' (first | (with_reducible first | exact rfl | exact trivial | refine And.intro ?_ ?_ | refine br_intro (fun hq => ?_) fun hq => ?_ | refine if_both (fun hz => ?_) fun hz => ?_) | (intro) | fail)
  all_goals first
    | omega
    | assumption
    | exact fin0 (by kernel_rfl) (by kernel_rfl) (h.1 (by assumption))
    | exact fin0 (by kernel_rfl) (by kernel_rfl) ((h.2 (by assumption)).1 (by assumption))
    | exact fin0 (by kernel_rfl) (by kernel_rfl) ((h.2 (by assumption)).1 ((E1 _ rfl).symm.trans (by assumption)))
    | (rw [E1 _ rfl] at *
       exact fin1t (by kernel_rfl) (fun _ _ _ _ => rfl) (by kernel_rfl) (by kernel_rfl) ((h.2 (by assumption)).2 (by assumption) _ (by assumption)))
    | exact fin1t (by kernel_rfl) (fun _ _ _ _ => rfl) (by kernel_rfl) (by kernel_rfl) ((h.2 (by assumption)).2 (by assumption) _ (by assumption))
theorem con27_ok : BodyOk (mk X8) 3 Try.f27 con27 := by
  intro vs bs K hh hro
  clear hro
  unfold con27 at hh
  split at hh
  · obtain ⟨a, b, c, d, e, rfl, hI, hh0⟩ := five_inv hh
    rcases parse_inv hh0 with ⟨rfl, hh1⟩ | ⟨el, nl, cl, fl, bs1, rfl, hnl, rfl, hh1⟩ <;> clear hh0
    · obtain ⟨rfl, hc⟩ := hh1
      exact ⟨_, _, cast (con27_nE a b c d e K) (con27_nP a b c d e K hI hc)⟩
    · obtain ⟨rfl, hc⟩ := hh1
      exact ⟨_, _, cast (con27_rE el nl cl fl a b c d e K) (con27_rP el nl cl fl a b c d e K hI hnl hc)⟩
  · exact hh.elim
theorem con27_told : Told 27 (specOf con27) := told (X := X8) (X8_told) (by kernel_rfl) (by kernel_rfl) (by kernel_rfl) con27_ok
end Go.Proofs.Ytkflmglpniebfaa.Fr
namespace Go.Proofs.Ytkflmglpniebfaa.Fr
set_option maxRecDepth 100000
set_option maxHeartbeats 4000000
open Go.Rx
open Go.RowKit (Below)
set_option linter.unusedVariables false
theorem lF_left {l : List Int} {x : Int} {k : Nat} (h : k < l.length) : lF (l ++ [x]) k 0 = lF l k 0 := by
  unfold lF
  simp [List.getD, List.getElem?_append_left h]
theorem lF_last {l : List Int} {x : Int} : lF (l ++ [x]) l.length 0 = x := by
  unfold lF
  simp
theorem sel_mem {p : Nat → Bool} : ∀ {n k : Nat}, k < (sel p n).length → ∃ i, i < n ∧ lF (sel p n) k 0 = (i : Int) ∧ p i = true
  | 0, k, h => by simp [sel] at h
  | n + 1, k, h => by
    by_cases hp : p n = true
    · rw [sel_yes hp] at h ⊢
      by_cases hk : k < (sel p n).length
      · obtain ⟨i, h1, h2, h3⟩ := sel_mem hk
        exact ⟨i, by omega, by rw [lF_left hk]; exact h2, h3⟩
      · have e : k = (sel p n).length := by simp at h; omega
        subst e
        exact ⟨n, by omega, lF_last, hp⟩
    · rw [sel_no hp] at h ⊢
      obtain ⟨i, h1, h2, h3⟩ := sel_mem h
      exact ⟨i, by omega, h2, h3⟩
/-- Used, or popular. -/
def P12 (f : RF) : Nat → Bool := selB 2 (litF 1 [1, 2]) f
theorem sel_len {p : Nat → Bool} : ∀ {n : Nat}, (sel p n).length ≤ n
  | 0 => by simp [sel]
  | n + 1 => by
    have := sel_len (p := p) (n := n)
    by_cases hp : p n = true
    · rw [sel_yes hp]; simp; omega
    · rw [sel_no hp]; omega
end Go.Proofs.Ytkflmglpniebfaa.Fr
namespace Go.Proofs.Ytkflmglpniebfaa.Fr
set_option maxRecDepth 100000
set_option maxHeartbeats 4000000
open Go.Rx
open Go.RowKit (Below)
set_option linter.unusedVariables false
theorem locA_mono {s : Rx.St} {c c' : List Value → List Blk → Prop} (h : ∀ us bs, c' us bs → c us bs) : ∀ (args : List Value) (k : Nat), locA s k args c' → locA s k args c := by
  intro args
  induction args generalizing c c' with
  | nil => exact fun k hc => h _ _ hc
  | cons v vs ih =>
    intro k hc
    unfold locA at hc ⊢
    split at hc
    · obtain ⟨o, ho, hc⟩ := kO_some hc
      show kO (Rx.look s.h _) _
      rw [ho]
      cases o with
      | cells cs e => exact hc.elim
      | row ro ks e n q f => exact ⟨hc.1, ih (fun us bs => h _ _) _ hc.2⟩
    · rename_i hne
      exact ⟨hc.1, ih (fun us bs => h _ _) _ hc.2⟩
/-- A narrower contract. -/
theorem Told.mono {f : Nat} {c c' : Con} (h : Told f (specOf c)) (hc : ∀ vs bs K, c' vs bs K → c vs bs K) : Told f (specOf c') :=
  ⟨h.1, fun args s K hk => h.2 args s K (locA_mono (fun us bs => hc us bs _) args 0 hk)⟩
abbrev KK := Value → List Blk → Prop
def onCF (O : Int → Int → Int → Int → Int → Nat → RF → Nat → KK → Prop) : Con := fun vs bs K => match vs with
  | [u, v] => five u fun a b c d e => parse [.i64, .i64] 0 v bs fun n f j bs => bs = [] ∧ O a b c d e n f j K
  | _ => False
theorem five_mono {v : Value} {k k' : Int → Int → Int → Int → Int → Prop} (h : ∀ a b c d e, k' a b c d e → k a b c d e) (x : five v k') : five v k := by
  unfold five at x ⊢
  split at x
  · exact ⟨x.1, h _ _ _ _ _ x.2⟩
  · exact x.elim
theorem parse_mono {ks : List IntKind} {j : Nat} {v : Value} {bs : List Blk} {k k' : Nat → RF → Nat → List Blk → Prop} (h : ∀ n f j bs, k' n f j bs → k n f j bs) (x : parse ks j v bs k') : parse ks j v bs k := by
  unfold parse at x ⊢
  split at x
  · exact h _ _ _ _ x
  · refine ⟨x.1, x.2.1, ?_⟩
    have y := x.2.2
    clear x
    split at y
    · exact ⟨y.1, h _ _ _ _ y.2⟩
    · exact y.elim
  · exact x.elim
theorem onCF_mono {O O' : Int → Int → Int → Int → Int → Nat → RF → Nat → KK → Prop} (h : ∀ a b c d e n f j K, O' a b c d e n f j K → O a b c d e n f j K) : ∀ vs bs K, onCF O' vs bs K → onCF O vs bs K := by
  intro vs bs K x
  unfold onCF at x ⊢
  split at x
  · exact five_mono (fun a b c d e => parse_mono fun n f j bs y => ⟨y.1, h _ _ _ _ _ _ _ _ _ y.2⟩) x
  · exact x.elim
def con25N : Con := onCF fun a b c d e n f j K => ((ckF a b c d e n f).2 = 0 ∧ (sel (selE f 0) n) = []) ∧ K (.tuple ⟨[.slice none 0 0, .int .i64 0]⟩) []
theorem con25N_told : Told 25 (specOf con25N) := con25_told.mono (onCF_mono fun a b c d e n f j K h => ⟨fun q => absurd h.1.1 q, fun _ => ⟨fun _ => h.2, fun q => absurd h.1.2 q⟩⟩)
def con25R : Con := onCF fun a b c d e n f j K => ((ckF a b c d e n f).2 = 0 ∧ ¬ (sel (selE f 0) n) = []) ∧ ∀ cp, List.length (sel (selE f 0) n) ≤ cp → K (.tuple ⟨[rsl j 0 (List.length (sel (selE f 0) n)) cp, .int .i64 0]⟩) [.row false [.i64] 3 (List.length (sel (selE f 0) n)) cp (lF (sel (selE f 0) n))]
theorem con25R_told : Told 25 (specOf con25R) := con25_told.mono (onCF_mono fun a b c d e n f j K h => ⟨fun q => absurd h.1.1 q, fun _ => ⟨fun q => absurd q h.1.2, fun _ => h.2⟩⟩)
def con27N : Con := onCF fun a b c d e n f j K => ((ckF a b c d e n f).2 = 0 ∧ (sel (selE f 2) n) = []) ∧ K (.tuple ⟨[.slice none 0 0, .int .i64 0]⟩) []
theorem con27N_told : Told 27 (specOf con27N) := con27_told.mono (onCF_mono fun a b c d e n f j K h => ⟨fun q => absurd h.1.1 q, fun _ => ⟨fun _ => h.2, fun q => absurd h.1.2 q⟩⟩)
def con27R : Con := onCF fun a b c d e n f j K => ((ckF a b c d e n f).2 = 0 ∧ ¬ (sel (selE f 2) n) = []) ∧ ∀ cp, List.length (sel (selE f 2) n) ≤ cp → K (.tuple ⟨[rsl j 0 (List.length (sel (selE f 2) n)) cp, .int .i64 0]⟩) [.row false [.i64] 3 (List.length (sel (selE f 2) n)) cp (lF (sel (selE f 2) n))]
theorem con27R_told : Told 27 (specOf con27R) := con27_told.mono (onCF_mono fun a b c d e n f j K h => ⟨fun q => absurd h.1.1 q, fun _ => ⟨fun q => absurd q h.1.2, fun _ => h.2⟩⟩)
def conIntsT : Con := fun vs bs K => match vs with
  | [u, v] => parse [.i64] 0 u bs fun n f j bs => parse [.i64] j v bs fun m g _ bs => bs = [] ∧ (n = m ∧ ∀ i, i < n → f i 0 = g i 0) ∧ K (.bool true) []
  | _ => False
theorem conIntsT_told : Told 28 (specOf conIntsT) := conInts_told.mono fun vs bs K x => by
  unfold conIntsT at x
  unfold conInts
  split at x
  · exact parse_mono (fun n f j bs => parse_mono fun m g j bs y => ⟨y.1, fun b hb => (by
      obtain rfl : b = true := hb.2 y.2.1
      exact y.2.2)⟩) x
  · exact x.elim
def conSameT : Con := fun vs bs K => match vs with
  | [u, v] => parse [.i64, .i64] 0 u bs fun n f j bs => parse [.i64, .i64] j v bs fun m g _ bs => bs = [] ∧ (n = m ∧ ∀ i, i < n → f i 0 = g i 0 ∧ f i 1 = g i 1) ∧ K (.bool true) []
  | _ => False
theorem conSameT_told : Told 23 (specOf conSameT) := conSame_told.mono fun vs bs K x => by
  unfold conSameT at x
  unfold conSame
  split at x
  · exact parse_mono (fun n f j bs => parse_mono fun m g j bs y => ⟨y.1, fun b hb => (by
      obtain rfl : b = true := hb.2 y.2.1
      exact y.2.2)⟩) x
  · exact x.elim
end Go.Proofs.Ytkflmglpniebfaa.Fr
namespace Go.Proofs.Ytkflmglpniebfaa.Fr
set_option maxRecDepth 100000
set_option maxHeartbeats 4000000
open Go.Rx
open Go.RowKit (Below)
set_option linter.unusedVariables false
@[reducible] def X3 : List (Nat × Rx.Spec) := [(66, sp66), (67, specOf con67), (21, specOf con21), (22, specOf con22)]
theorem X3_told : ∀ p ∈ X3, Told p.1 p.2 := by
  intro p hp
  simp only [List.mem_cons, List.not_mem_nil, or_false] at hp
  rcases hp with rfl | rfl | rfl | rfl
  · exact told66
  · exact con67_told
  · exact con21_told
  · exact con22_told
def askF (a b c d e : Int) (n : Nat) (f : RF) (x : Int) : Int := if (ckF a b c d e n f).2 = 0 then (if x < 0 ∨ b ≤ x then 7 else 0) else (ckF a b c d e n f).2
def roomF (a b c d e : Int) (n : Nat) (f : RF) (x : Int) : Int × Int := if askF a b c d e n f x = 0 then (if f x.toNat 0 = 0 then (0, 9) else (a - f x.toNat 1, 0)) else (0, askF a b c d e n f x)
def topF (a b c d e : Int) (n : Nat) (f : RF) (x : Int) : Int × Int := if askF a b c d e n f x = 0 then (1 + c + x * a + f x.toNat 1, 0) else (0, askF a b c d e n f x)
def halfF (a b c d e : Int) (n : Nat) (f : RF) (x : Int) : Bool × Int := if askF a b c d e n f x = 0 then (if f x.toNat 0 = 0 then (false, 0) else if a < 2 * f x.toNat 1 then (true, 0) else (false, 0)) else (false, askF a b c d e n f x)
theorem mul_bd {a b x : Int} (h : 8 ≤ a ∧ a ≤ 64) (h1 : 0 ≤ x) (h2 : x < b) (h3 : b ≤ 24) : 0 ≤ x * a ∧ x * a ≤ 1536 := by
  refine ⟨Int.mul_nonneg h1 (by omega), ?_⟩
  have := Int.mul_le_mul (show x ≤ 24 by omega) (show a ≤ 64 by omega) (by omega) (by omega)
  omega
end Go.Proofs.Ytkflmglpniebfaa.Fr
namespace Go.Proofs.Ytkflmglpniebfaa.Fr
set_option maxRecDepth 100000
set_option maxHeartbeats 4000000
open Go.Rx
open Go.RowKit (Below)
set_option linter.unusedVariables false
def con31 : Con := fun vs bs K => match vs with
  | [u, v, .int .i64 x] => five u fun a b c d e => parse [.i64, .i64] 0 v bs fun n f _ bs => bs = [] ∧ K (.tuple ⟨[.int .i64 (roomF a b c d e n f x).1, .int .i64 (roomF a b c d e n f x).2]⟩) []
  | _ => False

def con31_nA (a : Int) (b : Int) (c : Int) (d : Int) (e : Int) (x : Int) : Ann := fun _ _ _ => none
def con31_rA (el nl cl : Nat) (fl : RF) (a : Int) (b : Int) (c : Int) (d : Int) (e : Int) (x : Int) : Ann := fun _ _ _ => none
def con31_nV (a : Int) (b : Int) (c : Int) (d : Int) (e : Int) (x : Int) (K : Value → List Blk → Prop) : Prop := let q0 := (Prod.snd (ckF a b c d e (0 : Nat) zF)); let q1 := (T0 ∧ (∃ y0 : Value, (∃ y1 : List Blk, ((Go.Rx.Found 0 (Value.tuple { toList := [vi (0 : Int), vi (7 : Int)] }) ({ h := [((1 : Nat), Blk.cells [vi a, vi b, vi c, vi d, vi e] (23 : Nat)), ((0 : Nat), Blk.cells [vi a, vi b, vi c, vi d, vi e] (23 : Nat))], next := (2 : Nat) }) (y0) (y1)) ∧ (K y0 y1))))); (t6 ((InC a b c d e) ∧ (eB ∧ (T0 ∧ (if (@Eq Int q0 ((0 : Int))) then (T0 ∧ (if (x < (0 : Int)) then q1 else (t2 (if (b ≤ x) then q1 else (T0 ∧ (False)))))) else (T0 ∧ (if (@Eq Int q0 ((0 : Int))) then (False) else (∃ y0 : Value, (∃ y1 : List Blk, ((Go.Rx.Found 0 (Value.tuple { toList := [vi (0 : Int), vi q0] }) ({ h := [((1 : Nat), Blk.cells [vi a, vi b, vi c, vi d, vi e] (23 : Nat)), ((0 : Nat), Blk.cells [vi a, vi b, vi c, vi d, vi e] (23 : Nat))], next := (2 : Nat) }) (y0) (y1)) ∧ (K y0 y1)))))))))))
theorem con31_nE (a : Int) (b : Int) (c : Int) (d : Int) (e : Int) (x : Int) (K : Value → List Blk → Prop) : con31_nV a b c d e x K = bodyX (mk X3) (callN (mk X3) 4) (con31_nA a b c d e x) Try.f31 [five' a b c d e, .slice none 0 0, .int .i64 x] (stOf []) (Fd 0 K) := by kernel_rfl
set_option tactic.hygienic false in
theorem con31_nP (a : Int) (b : Int) (c : Int) (d : Int) (e : Int) (x : Int) (K : Value → List Blk → Prop)  (hI : InC a b c d e) (h : K (.tuple ⟨[.int .i64 (roomF a b c d e 0 zF x).1, .int .i64 (roomF a b c d e 0 zF x).2]⟩) []) : con31_nV a b c d e x K := by
  unfold con31_nV
  conv => zeta
  have G : (ckF a b c d e 0 zF).2 = 0 → good a b c d e ∧ ((0 : Nat) : Int) = b ∧ ∀ i, i < 0 → fok a zF i := ckF_zero
  unfold roomF askF at h
  repeat' (first | (with_reducible first | exact rfl | exact trivial | refine And.intro ?_ ?_ | refine br_intro (fun hq => ?_) fun hq => ?_ | refine if_both (fun hz => ?_) fun hz => ?_) | (intro) | fail)
  all_goals first
    | omega
    | assumption
    | (have g := G (by assumption)
       have g2 := g.2.2 x.toNat (by omega)
       unfold fok at g2
       have g3 := mul_bd ⟨g.1.1, g.1.2.1⟩ (x := x) (b := b) (by omega) (by omega) (by omega)
       omega)
    | (have g := G (by assumption); omega)
    | (have g := chk_good (by assumption); omega)
    | (refine fin0 (by kernel_rfl) (by kernel_rfl) ?_
       repeat' (split at h)
       all_goals first | exact h | omega | (rw [show (ckF a b c d e 0 zF).2 = 0 by assumption]; exact h))
    | (refine fin0 (by kernel_rfl) (by kernel_rfl) ?_
       have g := G (by assumption)
       repeat' (split at h)
       all_goals first | exact h | omega | (rw [show (ckF a b c d e 0 zF).2 = 0 by assumption]; exact h))
    | (have g := G (by assumption)
       have g4 : chk a b c d e = 0 := if_pos g.1
       omega)
def con31_rV (el nl cl : Nat) (fl : RF) (a : Int) (b : Int) (c : Int) (d : Int) (e : Int) (x : Int) (K : Value → List Blk → Prop) : Prop := let q0 := (Prod.snd (ckF a b c d e nl fl)); let q1 := (((0 : Int) ≤ x) ∧ (x < (↑nl : Int))); let q2 := (TS ∧ (@Eq Nat ((2 : Nat)) ((2 : Nat)))); let q3 := (T0 ∧ (∃ y0 : Value, (∃ y1 : List Blk, ((Go.Rx.Found 1 (Value.tuple { toList := [vi (0 : Int), vi (7 : Int)] }) ({ h := [((2 : Nat), Blk.cells [vi a, vi b, vi c, vi d, vi e] (23 : Nat)), ((1 : Nat), Blk.cells [vi a, vi b, vi c, vi d, vi e] (23 : Nat)), ((0 : Nat), rT el nl cl fl)], next := (3 : Nat) }) (y0) (y1)) ∧ (K y0 y1))))); let q4 := (q2 ∧ (q1 ∧ (T0 ∧ ((Int.toNat x < nl) ∧ (T0 ∧ (if (@Eq Int (fl (Int.toNat x) (0 : Nat)) ((0 : Int))) then (∃ y0 : Value, (∃ y1 : List Blk, ((Go.Rx.Found 1 (Value.tuple { toList := [vi (0 : Int), vi (9 : Int)] }) ({ h := [((2 : Nat), Blk.cells [vi a, vi b, vi c, vi d, vi e] (23 : Nat)), ((1 : Nat), Blk.cells [vi a, vi b, vi c, vi d, vi e] (23 : Nat)), ((0 : Nat), rT el nl cl fl)], next := (3 : Nat) }) (y0) (y1)) ∧ (K y0 y1)))) else (t7 (q2 ∧ (q1 ∧ (t3 ((Int.toNat x < nl) ∧ (t2 ((((-9223372036854775808 : Int) ≤ a - fl (Int.toNat x) (1 : Nat)) ∧ (a - fl (Int.toNat x) (1 : Nat) ≤ (9223372036854775807 : Int))) ∧ (t2 (∃ y0 : Value, (∃ y1 : List Blk, ((Go.Rx.Found 1 (Value.tuple { toList := [vi (a - fl (Int.toNat x) (1 : Nat)), vi (0 : Int)] }) ({ h := [((2 : Nat), Blk.cells [vi a, vi b, vi c, vi d, vi e] (23 : Nat)), ((1 : Nat), Blk.cells [vi a, vi b, vi c, vi d, vi e] (23 : Nat)), ((0 : Nat), rT el nl cl fl)], next := (3 : Nat) }) (y0) (y1)) ∧ (K y0 y1)))))))))))))))))); (t5 (((0 : Nat) + nl ≤ nl) ∧ ((InC a b c d e) ∧ ((@Eq Nat ((0 : Nat)) ((0 : Nat))) ∧ ((nl ≤ (100000 : Nat)) ∧ ((eK ∧ ((@Eq Nat (nl) (nl)) ∧ (@Eq Nat (cl) (cl)))) ∧ (eB ∧ (T0 ∧ (if (@Eq Int q0 ((0 : Int))) then (T0 ∧ (if (x < (0 : Int)) then q3 else (t2 (if (b ≤ x) then q3 else (T0 ∧ q4))))) else (T0 ∧ (if (@Eq Int q0 ((0 : Int))) then q4 else (∃ y0 : Value, (∃ y1 : List Blk, ((Go.Rx.Found 1 (Value.tuple { toList := [vi (0 : Int), vi q0] }) ({ h := [((2 : Nat), Blk.cells [vi a, vi b, vi c, vi d, vi e] (23 : Nat)), ((1 : Nat), Blk.cells [vi a, vi b, vi c, vi d, vi e] (23 : Nat)), ((0 : Nat), rT el nl cl fl)], next := (3 : Nat) }) (y0) (y1)) ∧ (K y0 y1)))))))))))))))
theorem con31_rE (el nl cl : Nat) (fl : RF) (a : Int) (b : Int) (c : Int) (d : Int) (e : Int) (x : Int) (K : Value → List Blk → Prop) : con31_rV el nl cl fl a b c d e x K = bodyX (mk X3) (callN (mk X3) 4) (con31_rA el nl cl fl a b c d e x) Try.f31 [five' a b c d e, rsl 0 0 nl cl, .int .i64 x] (stOf [.row true [.i64, .i64] el nl cl fl]) (Fd 1 K) := by kernel_rfl
set_option tactic.hygienic false in
theorem con31_rP (el nl cl : Nat) (fl : RF) (a : Int) (b : Int) (c : Int) (d : Int) (e : Int) (x : Int) (K : Value → List Blk → Prop)  (hI : InC a b c d e) (hnl : nl ≤ 100000) (h : K (.tuple ⟨[.int .i64 (roomF a b c d e nl fl x).1, .int .i64 (roomF a b c d e nl fl x).2]⟩) []) : con31_rV el nl cl fl a b c d e x K := by
  unfold con31_rV
  conv => zeta
  have G : (ckF a b c d e nl fl).2 = 0 → good a b c d e ∧ ((nl : Nat) : Int) = b ∧ ∀ i, i < nl → fok a fl i := ckF_zero
  unfold roomF askF at h
  repeat' (first | (with_reducible first | exact rfl | exact trivial | refine And.intro ?_ ?_ | refine br_intro (fun hq => ?_) fun hq => ?_ | refine if_both (fun hz => ?_) fun hz => ?_) | (intro) | fail)
  all_goals first
    | omega
    | assumption
    | (have g := G (by assumption)
       have g2 := g.2.2 x.toNat (by omega)
       unfold fok at g2
       have g3 := mul_bd ⟨g.1.1, g.1.2.1⟩ (x := x) (b := b) (by omega) (by omega) (by omega)
       omega)
    | (have g := G (by assumption); omega)
    | (have g := chk_good (by assumption); omega)
    | (refine fin0 (by kernel_rfl) (by kernel_rfl) ?_
       repeat' (split at h)
       all_goals first | exact h | omega | (rw [show (ckF a b c d e nl fl).2 = 0 by assumption]; exact h))
    | (refine fin0 (by kernel_rfl) (by kernel_rfl) ?_
       have g := G (by assumption)
       repeat' (split at h)
       all_goals first | exact h | omega | (rw [show (ckF a b c d e nl fl).2 = 0 by assumption]; exact h))
    | (have g := G (by assumption)
       have g4 : chk a b c d e = 0 := if_pos g.1
       omega)
theorem con31_ok : BodyOk (mk X3) 4 Try.f31 con31 := by
  intro vs bs K hh hro
  clear hro
  unfold con31 at hh
  split at hh
  · rename_i u v x
    obtain ⟨a, b, c, d, e, rfl, hI, hh0⟩ := five_inv hh
    rcases parse_inv hh0 with ⟨rfl, hh1⟩ | ⟨el, nl, cl, fl, bs1, rfl, hnl, rfl, hh1⟩ <;> clear hh0
    · obtain ⟨rfl, hc⟩ := hh1
      exact ⟨_, _, cast (con31_nE a b c d e x K) (con31_nP a b c d e x K hI hc)⟩
    · obtain ⟨rfl, hc⟩ := hh1
      exact ⟨_, _, cast (con31_rE el nl cl fl a b c d e x K) (con31_rP el nl cl fl a b c d e x K hI hnl hc)⟩
  · exact hh.elim
theorem con31_told : Told 31 (specOf con31) := told (X := X3) (X3_told) (by kernel_rfl) (by kernel_rfl) (by kernel_rfl) con31_ok
end Go.Proofs.Ytkflmglpniebfaa.Fr
namespace Go.Proofs.Ytkflmglpniebfaa.Fr
set_option maxRecDepth 100000
set_option maxHeartbeats 4000000
open Go.Rx
open Go.RowKit (Below)
set_option linter.unusedVariables false
def con32 : Con := fun vs bs K => match vs with
  | [u, v, .int .i64 x] => five u fun a b c d e => parse [.i64, .i64] 0 v bs fun n f _ bs => bs = [] ∧ K (.tuple ⟨[.int .i64 (roomF a b c d e n f x).1, .int .i64 (roomF a b c d e n f x).2]⟩) []
  | _ => False

def con32_nA (a : Int) (b : Int) (c : Int) (d : Int) (e : Int) (x : Int) : Ann := fun _ _ _ => none
def con32_rA (el nl cl : Nat) (fl : RF) (a : Int) (b : Int) (c : Int) (d : Int) (e : Int) (x : Int) : Ann := fun _ _ _ => none
def con32_nV (a : Int) (b : Int) (c : Int) (d : Int) (e : Int) (x : Int) (K : Value → List Blk → Prop) : Prop := let q0 := (Prod.snd (ckF a b c d e (0 : Nat) zF)); let q1 := (t2 (∃ y0 : Value, (∃ y1 : List Blk, ((Go.Rx.Found 0 (Value.tuple { toList := [vi (0 : Int), vi (7 : Int)] }) ({ h := [((1 : Nat), Blk.cells [vi a, vi b, vi c, vi d, vi e] (23 : Nat)), ((0 : Nat), Blk.cells [vi a, vi b, vi c, vi d, vi e] (23 : Nat))], next := (2 : Nat) }) (y0) (y1)) ∧ (K y0 y1))))); let q2 := (T0 ∧ (if (@Eq Int q0 ((0 : Int))) then (False) else (T0 ∧ (if (@Eq Int q0 ((0 : Int))) then (t7 (False)) else (∃ y0 : Value, (∃ y1 : List Blk, ((Go.Rx.Found 0 (Value.tuple { toList := [vi (0 : Int), vi q0] }) ({ h := [((1 : Nat), Blk.cells [vi a, vi b, vi c, vi d, vi e] (23 : Nat)), ((0 : Nat), Blk.cells [vi a, vi b, vi c, vi d, vi e] (23 : Nat))], next := (2 : Nat) }) (y0) (y1)) ∧ (K y0 y1)))))))); (t6 ((InC a b c d e) ∧ (eB ∧ (T0 ∧ (if (@Eq Int q0 ((0 : Int))) then (T0 ∧ (if (x < (0 : Int)) then q1 else (TS ∧ (T0 ∧ (if ((↑(0 : Nat) : Int) ≤ x) then q1 else q2))))) else q2)))))
theorem con32_nE (a : Int) (b : Int) (c : Int) (d : Int) (e : Int) (x : Int) (K : Value → List Blk → Prop) : con32_nV a b c d e x K = bodyX (mk X3) (callN (mk X3) 4) (con32_nA a b c d e x) Try.f32 [five' a b c d e, .slice none 0 0, .int .i64 x] (stOf []) (Fd 0 K) := by kernel_rfl
set_option tactic.hygienic false in
theorem con32_nP (a : Int) (b : Int) (c : Int) (d : Int) (e : Int) (x : Int) (K : Value → List Blk → Prop)  (hI : InC a b c d e) (h : K (.tuple ⟨[.int .i64 (roomF a b c d e 0 zF x).1, .int .i64 (roomF a b c d e 0 zF x).2]⟩) []) : con32_nV a b c d e x K := by
  unfold con32_nV
  conv => zeta
  have G : (ckF a b c d e 0 zF).2 = 0 → good a b c d e ∧ ((0 : Nat) : Int) = b ∧ ∀ i, i < 0 → fok a zF i := ckF_zero
  unfold roomF askF at h
  repeat' (first | (with_reducible first | exact rfl | exact trivial | refine And.intro ?_ ?_ | refine br_intro (fun hq => ?_) fun hq => ?_ | refine if_both (fun hz => ?_) fun hz => ?_) | (intro) | fail)
  all_goals first
    | omega
    | assumption
    | (have g := G (by assumption)
       have g2 := g.2.2 x.toNat (by omega)
       unfold fok at g2
       have g3 := mul_bd ⟨g.1.1, g.1.2.1⟩ (x := x) (b := b) (by omega) (by omega) (by omega)
       omega)
    | (have g := G (by assumption); omega)
    | (have g := chk_good (by assumption); omega)
    | (refine fin0 (by kernel_rfl) (by kernel_rfl) ?_
       repeat' (split at h)
       all_goals first | exact h | omega | (rw [show (ckF a b c d e 0 zF).2 = 0 by assumption]; exact h))
    | (refine fin0 (by kernel_rfl) (by kernel_rfl) ?_
       have g := G (by assumption)
       repeat' (split at h)
       all_goals first | exact h | omega | (rw [show (ckF a b c d e 0 zF).2 = 0 by assumption]; exact h))
    | (have g := G (by assumption)
       have g4 : chk a b c d e = 0 := if_pos g.1
       omega)
def con32_rV (el nl cl : Nat) (fl : RF) (a : Int) (b : Int) (c : Int) (d : Int) (e : Int) (x : Int) (K : Value → List Blk → Prop) : Prop := let q0 := (Prod.snd (ckF a b c d e nl fl)); let q1 := (((0 : Int) ≤ x) ∧ (x < (↑nl : Int))); let q2 := TS; let q3 := (q2 ∧ (@Eq Nat ((2 : Nat)) ((2 : Nat)))); let q4 := (t2 (∃ y0 : Value, (∃ y1 : List Blk, ((Go.Rx.Found 1 (Value.tuple { toList := [vi (0 : Int), vi (7 : Int)] }) ({ h := [((2 : Nat), Blk.cells [vi a, vi b, vi c, vi d, vi e] (23 : Nat)), ((1 : Nat), Blk.cells [vi a, vi b, vi c, vi d, vi e] (23 : Nat)), ((0 : Nat), rT el nl cl fl)], next := (3 : Nat) }) (y0) (y1)) ∧ (K y0 y1))))); let q5 := (T0 ∧ (if (@Eq Int q0 ((0 : Int))) then (t7 (q3 ∧ (q1 ∧ (t3 ((Int.toNat x < nl) ∧ (t2 ((((-9223372036854775808 : Int) ≤ a - fl (Int.toNat x) (1 : Nat)) ∧ (a - fl (Int.toNat x) (1 : Nat) ≤ (9223372036854775807 : Int))) ∧ (t2 (∃ y0 : Value, (∃ y1 : List Blk, ((Go.Rx.Found 1 (Value.tuple { toList := [vi (a - fl (Int.toNat x) (1 : Nat)), vi (0 : Int)] }) ({ h := [((2 : Nat), Blk.cells [vi a, vi b, vi c, vi d, vi e] (23 : Nat)), ((1 : Nat), Blk.cells [vi a, vi b, vi c, vi d, vi e] (23 : Nat)), ((0 : Nat), rT el nl cl fl)], next := (3 : Nat) }) (y0) (y1)) ∧ (K y0 y1)))))))))))) else (∃ y0 : Value, (∃ y1 : List Blk, ((Go.Rx.Found 1 (Value.tuple { toList := [vi (0 : Int), vi q0] }) ({ h := [((2 : Nat), Blk.cells [vi a, vi b, vi c, vi d, vi e] (23 : Nat)), ((1 : Nat), Blk.cells [vi a, vi b, vi c, vi d, vi e] (23 : Nat)), ((0 : Nat), rT el nl cl fl)], next := (3 : Nat) }) (y0) (y1)) ∧ (K y0 y1)))))); let q6 := (T0 ∧ (if (@Eq Int q0 ((0 : Int))) then (q3 ∧ (q1 ∧ (T0 ∧ ((Int.toNat x < nl) ∧ (T0 ∧ (if (@Eq Int (fl (Int.toNat x) (0 : Nat)) ((0 : Int))) then (T0 ∧ (∃ y0 : Value, (∃ y1 : List Blk, ((Go.Rx.Found 1 (Value.tuple { toList := [vi (0 : Int), vi (9 : Int)] }) ({ h := [((2 : Nat), Blk.cells [vi a, vi b, vi c, vi d, vi e] (23 : Nat)), ((1 : Nat), Blk.cells [vi a, vi b, vi c, vi d, vi e] (23 : Nat)), ((0 : Nat), rT el nl cl fl)], next := (3 : Nat) }) (y0) (y1)) ∧ (K y0 y1))))) else q5)))))) else q5)); (t5 (((0 : Nat) + nl ≤ nl) ∧ ((InC a b c d e) ∧ ((@Eq Nat ((0 : Nat)) ((0 : Nat))) ∧ ((nl ≤ (100000 : Nat)) ∧ ((eK ∧ ((@Eq Nat (nl) (nl)) ∧ (@Eq Nat (cl) (cl)))) ∧ (eB ∧ (T0 ∧ (if (@Eq Int q0 ((0 : Int))) then (T0 ∧ (if (x < (0 : Int)) then q4 else (q2 ∧ (T0 ∧ (if ((↑nl : Int) ≤ x) then q4 else q6))))) else q6)))))))))
theorem con32_rE (el nl cl : Nat) (fl : RF) (a : Int) (b : Int) (c : Int) (d : Int) (e : Int) (x : Int) (K : Value → List Blk → Prop) : con32_rV el nl cl fl a b c d e x K = bodyX (mk X3) (callN (mk X3) 4) (con32_rA el nl cl fl a b c d e x) Try.f32 [five' a b c d e, rsl 0 0 nl cl, .int .i64 x] (stOf [.row true [.i64, .i64] el nl cl fl]) (Fd 1 K) := by kernel_rfl
set_option tactic.hygienic false in
theorem con32_rP (el nl cl : Nat) (fl : RF) (a : Int) (b : Int) (c : Int) (d : Int) (e : Int) (x : Int) (K : Value → List Blk → Prop)  (hI : InC a b c d e) (hnl : nl ≤ 100000) (h : K (.tuple ⟨[.int .i64 (roomF a b c d e nl fl x).1, .int .i64 (roomF a b c d e nl fl x).2]⟩) []) : con32_rV el nl cl fl a b c d e x K := by
  unfold con32_rV
  conv => zeta
  have G : (ckF a b c d e nl fl).2 = 0 → good a b c d e ∧ ((nl : Nat) : Int) = b ∧ ∀ i, i < nl → fok a fl i := ckF_zero
  unfold roomF askF at h
  repeat' (first | (with_reducible first | exact rfl | exact trivial | refine And.intro ?_ ?_ | refine br_intro (fun hq => ?_) fun hq => ?_ | refine if_both (fun hz => ?_) fun hz => ?_) | (intro) | fail)
  all_goals first
    | omega
    | assumption
    | (have g := G (by assumption)
       have g2 := g.2.2 x.toNat (by omega)
       unfold fok at g2
       have g3 := mul_bd ⟨g.1.1, g.1.2.1⟩ (x := x) (b := b) (by omega) (by omega) (by omega)
       omega)
    | (have g := G (by assumption); omega)
    | (have g := chk_good (by assumption); omega)
    | (refine fin0 (by kernel_rfl) (by kernel_rfl) ?_
       repeat' (split at h)
       all_goals first | exact h | omega | (rw [show (ckF a b c d e nl fl).2 = 0 by assumption]; exact h))
    | (refine fin0 (by kernel_rfl) (by kernel_rfl) ?_
       have g := G (by assumption)
       repeat' (split at h)
       all_goals first | exact h | omega | (rw [show (ckF a b c d e nl fl).2 = 0 by assumption]; exact h))
    | (have g := G (by assumption)
       have g4 : chk a b c d e = 0 := if_pos g.1
       omega)
theorem con32_ok : BodyOk (mk X3) 4 Try.f32 con32 := by
  intro vs bs K hh hro
  clear hro
  unfold con32 at hh
  split at hh
  · rename_i u v x
    obtain ⟨a, b, c, d, e, rfl, hI, hh0⟩ := five_inv hh
    rcases parse_inv hh0 with ⟨rfl, hh1⟩ | ⟨el, nl, cl, fl, bs1, rfl, hnl, rfl, hh1⟩ <;> clear hh0
    · obtain ⟨rfl, hc⟩ := hh1
      exact ⟨_, _, cast (con32_nE a b c d e x K) (con32_nP a b c d e x K hI hc)⟩
    · obtain ⟨rfl, hc⟩ := hh1
      exact ⟨_, _, cast (con32_rE el nl cl fl a b c d e x K) (con32_rP el nl cl fl a b c d e x K hI hnl hc)⟩
  · exact hh.elim
theorem con32_told : Told 32 (specOf con32) := told (X := X3) (X3_told) (by kernel_rfl) (by kernel_rfl) (by kernel_rfl) con32_ok
end Go.Proofs.Ytkflmglpniebfaa.Fr
namespace Go.Proofs.Ytkflmglpniebfaa.Fr
set_option maxRecDepth 100000
set_option maxHeartbeats 4000000
open Go.Rx
open Go.RowKit (Below)
set_option linter.unusedVariables false
def con33 : Con := fun vs bs K => match vs with
  | [u, v, .int .i64 x] => five u fun a b c d e => parse [.i64, .i64] 0 v bs fun n f _ bs => bs = [] ∧ K (.tuple ⟨[.int .i64 (topF a b c d e n f x).1, .int .i64 (topF a b c d e n f x).2]⟩) []
  | _ => False

def con33_nA (a : Int) (b : Int) (c : Int) (d : Int) (e : Int) (x : Int) : Ann := fun _ _ _ => none
def con33_rA (el nl cl : Nat) (fl : RF) (a : Int) (b : Int) (c : Int) (d : Int) (e : Int) (x : Int) : Ann := fun _ _ _ => none
def con33_nV (a : Int) (b : Int) (c : Int) (d : Int) (e : Int) (x : Int) (K : Value → List Blk → Prop) : Prop := let q0 := (9223372036854775807 : Int); let q1 := (-9223372036854775808 : Int); let q2 := (Prod.snd (ckF a b c d e (0 : Nat) zF)); let q3 := (t3 (False)); let q4 := ((q1 ≤ (1 : Int) + c) ∧ ((1 : Int) + c ≤ q0)); let q5 := (T0 ∧ (∃ y0 : Value, (∃ y1 : List Blk, ((Go.Rx.Found 0 (Value.tuple { toList := [vi (0 : Int), vi (7 : Int)] }) ({ h := [((1 : Nat), Blk.cells [vi a, vi b, vi c, vi d, vi e] (23 : Nat)), ((0 : Nat), Blk.cells [vi a, vi b, vi c, vi d, vi e] (23 : Nat))], next := (2 : Nat) }) (y0) (y1)) ∧ (K y0 y1))))); let q6 := (t3 ((InC a b c d e) ∧ (T0 ∧ (if (@Eq Int (chk a b c d e) ((0 : Int))) then (T0 ∧ (if (x < (-1 : Int)) then (False) else (t2 (if (b ≤ x) then (False) else (T0 ∧ (if (@Eq Int (x) ((-1 : Int))) then (t6 (q4 ∧ q3)) else (t2 (q4 ∧ (t2 (((q1 ≤ x * a) ∧ (x * a ≤ q0)) ∧ (T0 ∧ (((q1 ≤ (1 : Int) + c + x * a) ∧ ((1 : Int) + c + x * a ≤ q0)) ∧ (t8 (((q1 ≤ (1 : Int) + c + x * a + a) ∧ ((1 : Int) + c + x * a + a ≤ q0)) ∧ q3)))))))))))))) else (False))))); (t6 ((InC a b c d e) ∧ (eB ∧ (T0 ∧ (if (@Eq Int q2 ((0 : Int))) then (T0 ∧ (if (x < (0 : Int)) then q5 else (t2 (if (b ≤ x) then q5 else (T0 ∧ q6))))) else (T0 ∧ (if (@Eq Int q2 ((0 : Int))) then q6 else (∃ y0 : Value, (∃ y1 : List Blk, ((Go.Rx.Found 0 (Value.tuple { toList := [vi (0 : Int), vi q2] }) ({ h := [((1 : Nat), Blk.cells [vi a, vi b, vi c, vi d, vi e] (23 : Nat)), ((0 : Nat), Blk.cells [vi a, vi b, vi c, vi d, vi e] (23 : Nat))], next := (2 : Nat) }) (y0) (y1)) ∧ (K y0 y1)))))))))))
theorem con33_nE (a : Int) (b : Int) (c : Int) (d : Int) (e : Int) (x : Int) (K : Value → List Blk → Prop) : con33_nV a b c d e x K = bodyX (mk X3) (callN (mk X3) 4) (con33_nA a b c d e x) Try.f33 [five' a b c d e, .slice none 0 0, .int .i64 x] (stOf []) (Fd 0 K) := by kernel_rfl
set_option tactic.hygienic false in
theorem con33_nP (a : Int) (b : Int) (c : Int) (d : Int) (e : Int) (x : Int) (K : Value → List Blk → Prop)  (hI : InC a b c d e) (h : K (.tuple ⟨[.int .i64 (topF a b c d e 0 zF x).1, .int .i64 (topF a b c d e 0 zF x).2]⟩) []) : con33_nV a b c d e x K := by
  unfold con33_nV
  conv => zeta
  have G : (ckF a b c d e 0 zF).2 = 0 → good a b c d e ∧ ((0 : Nat) : Int) = b ∧ ∀ i, i < 0 → fok a zF i := ckF_zero
  unfold topF askF at h
  repeat' (first | (with_reducible first | exact rfl | exact trivial | refine And.intro ?_ ?_ | refine br_intro (fun hq => ?_) fun hq => ?_ | refine if_both (fun hz => ?_) fun hz => ?_) | (intro) | fail)
  all_goals first
    | omega
    | assumption
    | (have g := G (by assumption)
       have g2 := g.2.2 x.toNat (by omega)
       unfold fok at g2
       have g3 := mul_bd ⟨g.1.1, g.1.2.1⟩ (x := x) (b := b) (by omega) (by omega) (by omega)
       omega)
    | (have g := G (by assumption); omega)
    | (have g := chk_good (by assumption); omega)
    | (refine fin0 (by kernel_rfl) (by kernel_rfl) ?_
       repeat' (split at h)
       all_goals first | exact h | omega | (rw [show (ckF a b c d e 0 zF).2 = 0 by assumption]; exact h))
    | (refine fin0 (by kernel_rfl) (by kernel_rfl) ?_
       have g := G (by assumption)
       repeat' (split at h)
       all_goals first | exact h | omega | (rw [show (ckF a b c d e 0 zF).2 = 0 by assumption]; exact h))
    | (have g := G (by assumption)
       have g4 : chk a b c d e = 0 := if_pos g.1
       omega)
def con33_rV (el nl cl : Nat) (fl : RF) (a : Int) (b : Int) (c : Int) (d : Int) (e : Int) (x : Int) (K : Value → List Blk → Prop) : Prop := let q0 := (9223372036854775807 : Int); let q1 := (-9223372036854775808 : Int); let q2 := (Prod.snd (ckF a b c d e nl fl)); let q3 := (((0 : Int) ≤ x) ∧ (x < (↑nl : Int))); let q4 := ((0 : Int) + fl (Int.toNat x) (1 : Nat)); let q5 := ((0 : Nat), rT el nl cl fl); let q6 := (TS ∧ (@Eq Nat ((2 : Nat)) ((2 : Nat)))); let q7 := ((q1 ≤ (1 : Int) + c) ∧ ((1 : Int) + c ≤ q0)); let q8 := ((q1 ≤ (0 : Int) + fl (Int.toNat x) (1 : Nat)) ∧ ((0 : Int) + fl (Int.toNat x) (1 : Nat) ≤ q0)); let q9 := ((2 : Nat), Blk.cells [vi a, vi b, vi c, vi d, vi e] (23 : Nat)); let q10 := ((1 : Nat), Blk.cells [vi a, vi b, vi c, vi d, vi e] (23 : Nat)); let q11 := (T0 ∧ (∃ y0 : Value, (∃ y1 : List Blk, ((Go.Rx.Found 1 (Value.tuple { toList := [vi (0 : Int), vi (7 : Int)] }) ({ h := [q9, q10, q5], next := (3 : Nat) }) (y0) (y1)) ∧ (K y0 y1))))); let q12 := (q6 ∧ (q3 ∧ (T0 ∧ ((Int.toNat x < nl) ∧ (T0 ∧ (q8 ∧ (∃ y0 : Value, (∃ y1 : List Blk, ((Go.Rx.Found 1 (Value.tuple { toList := [vi q4, vi (7 : Int)] }) ({ h := [((3 : Nat), Blk.cells [vi a, vi b, vi c, vi d, vi e] (23 : Nat)), q9, q10, q5], next := (4 : Nat) }) (y0) (y1)) ∧ (K y0 y1)))))))))); let q13 := (t3 ((InC a b c d e) ∧ (T0 ∧ (if (@Eq Int (chk a b c d e) ((0 : Int))) then (T0 ∧ (if (x < (-1 : Int)) then q12 else (t2 (if (b ≤ x) then q12 else (T0 ∧ (if (@Eq Int (x) ((-1 : Int))) then (t6 (q7 ∧ (t3 (q6 ∧ (q3 ∧ (T0 ∧ ((Int.toNat x < nl) ∧ (T0 ∧ (((q1 ≤ (1 : Int) + fl (Int.toNat x) (1 : Nat)) ∧ ((1 : Int) + fl (Int.toNat x) (1 : Nat) ≤ q0)) ∧ (∃ y0 : Value, (∃ y1 : List Blk, ((Go.Rx.Found 1 (Value.tuple { toList := [vi ((1 : Int) + fl (Int.toNat x) (1 : Nat)), vi (0 : Int)] }) ({ h := [((3 : Nat), Blk.cells [vi a, vi b, vi c, vi d, vi e] (23 : Nat)), q9, q10, q5], next := (4 : Nat) }) (y0) (y1)) ∧ (K y0 y1))))))))))))) else (t2 (q7 ∧ (t2 (((q1 ≤ x * a) ∧ (x * a ≤ q0)) ∧ (T0 ∧ (((q1 ≤ (1 : Int) + c + x * a) ∧ ((1 : Int) + c + x * a ≤ q0)) ∧ (t8 (((q1 ≤ (1 : Int) + c + x * a + a) ∧ ((1 : Int) + c + x * a + a ≤ q0)) ∧ (t3 (q6 ∧ (q3 ∧ (T0 ∧ ((Int.toNat x < nl) ∧ (T0 ∧ (((q1 ≤ (1 : Int) + c + x * a + fl (Int.toNat x) (1 : Nat)) ∧ ((1 : Int) + c + x * a + fl (Int.toNat x) (1 : Nat) ≤ q0)) ∧ (∃ y0 : Value, (∃ y1 : List Blk, ((Go.Rx.Found 1 (Value.tuple { toList := [vi ((1 : Int) + c + x * a + fl (Int.toNat x) (1 : Nat)), vi (0 : Int)] }) ({ h := [((3 : Nat), Blk.cells [vi a, vi b, vi c, vi d, vi e] (23 : Nat)), q9, q10, q5], next := (4 : Nat) }) (y0) (y1)) ∧ (K y0 y1))))))))))))))))))))))))) else (q6 ∧ (q3 ∧ (T0 ∧ ((Int.toNat x < nl) ∧ (T0 ∧ (q8 ∧ (∃ y0 : Value, (∃ y1 : List Blk, ((Go.Rx.Found 1 (Value.tuple { toList := [vi q4, vi (chk a b c d e)] }) ({ h := [((3 : Nat), Blk.cells [vi a, vi b, vi c, vi d, vi e] (23 : Nat)), q9, q10, q5], next := (4 : Nat) }) (y0) (y1)) ∧ (K y0 y1)))))))))))))); (t5 (((0 : Nat) + nl ≤ nl) ∧ ((InC a b c d e) ∧ ((@Eq Nat ((0 : Nat)) ((0 : Nat))) ∧ ((nl ≤ (100000 : Nat)) ∧ ((eK ∧ ((@Eq Nat (nl) (nl)) ∧ (@Eq Nat (cl) (cl)))) ∧ (eB ∧ (T0 ∧ (if (@Eq Int q2 ((0 : Int))) then (T0 ∧ (if (x < (0 : Int)) then q11 else (t2 (if (b ≤ x) then q11 else (T0 ∧ q13))))) else (T0 ∧ (if (@Eq Int q2 ((0 : Int))) then q13 else (∃ y0 : Value, (∃ y1 : List Blk, ((Go.Rx.Found 1 (Value.tuple { toList := [vi (0 : Int), vi q2] }) ({ h := [q9, q10, q5], next := (3 : Nat) }) (y0) (y1)) ∧ (K y0 y1)))))))))))))))
theorem con33_rE (el nl cl : Nat) (fl : RF) (a : Int) (b : Int) (c : Int) (d : Int) (e : Int) (x : Int) (K : Value → List Blk → Prop) : con33_rV el nl cl fl a b c d e x K = bodyX (mk X3) (callN (mk X3) 4) (con33_rA el nl cl fl a b c d e x) Try.f33 [five' a b c d e, rsl 0 0 nl cl, .int .i64 x] (stOf [.row true [.i64, .i64] el nl cl fl]) (Fd 1 K) := by kernel_rfl
set_option tactic.hygienic false in
theorem con33_rP (el nl cl : Nat) (fl : RF) (a : Int) (b : Int) (c : Int) (d : Int) (e : Int) (x : Int) (K : Value → List Blk → Prop)  (hI : InC a b c d e) (hnl : nl ≤ 100000) (h : K (.tuple ⟨[.int .i64 (topF a b c d e nl fl x).1, .int .i64 (topF a b c d e nl fl x).2]⟩) []) : con33_rV el nl cl fl a b c d e x K := by
  unfold con33_rV
  conv => zeta
  have G : (ckF a b c d e nl fl).2 = 0 → good a b c d e ∧ ((nl : Nat) : Int) = b ∧ ∀ i, i < nl → fok a fl i := ckF_zero
  unfold topF askF at h
  repeat' (first | (with_reducible first | exact rfl | exact trivial | refine And.intro ?_ ?_ | refine br_intro (fun hq => ?_) fun hq => ?_ | refine if_both (fun hz => ?_) fun hz => ?_) | (intro) | fail)
  all_goals first
    | omega
    | assumption
    | (have g := G (by assumption)
       have g2 := g.2.2 x.toNat (by omega)
       unfold fok at g2
       have g3 := mul_bd ⟨g.1.1, g.1.2.1⟩ (x := x) (b := b) (by omega) (by omega) (by omega)
       omega)
    | (have g := G (by assumption); omega)
    | (have g := chk_good (by assumption); omega)
    | (refine fin0 (by kernel_rfl) (by kernel_rfl) ?_
       repeat' (split at h)
       all_goals first | exact h | omega | (rw [show (ckF a b c d e nl fl).2 = 0 by assumption]; exact h))
    | (refine fin0 (by kernel_rfl) (by kernel_rfl) ?_
       have g := G (by assumption)
       repeat' (split at h)
       all_goals first | exact h | omega | (rw [show (ckF a b c d e nl fl).2 = 0 by assumption]; exact h))
    | (have g := G (by assumption)
       have g4 : chk a b c d e = 0 := if_pos g.1
       omega)
theorem con33_ok : BodyOk (mk X3) 4 Try.f33 con33 := by
  intro vs bs K hh hro
  clear hro
  unfold con33 at hh
  split at hh
  · rename_i u v x
    obtain ⟨a, b, c, d, e, rfl, hI, hh0⟩ := five_inv hh
    rcases parse_inv hh0 with ⟨rfl, hh1⟩ | ⟨el, nl, cl, fl, bs1, rfl, hnl, rfl, hh1⟩ <;> clear hh0
    · obtain ⟨rfl, hc⟩ := hh1
      exact ⟨_, _, cast (con33_nE a b c d e x K) (con33_nP a b c d e x K hI hc)⟩
    · obtain ⟨rfl, hc⟩ := hh1
      exact ⟨_, _, cast (con33_rE el nl cl fl a b c d e x K) (con33_rP el nl cl fl a b c d e x K hI hnl hc)⟩
  · exact hh.elim
theorem con33_told : Told 33 (specOf con33) := told (X := X3) (X3_told) (by kernel_rfl) (by kernel_rfl) (by kernel_rfl) con33_ok
end Go.Proofs.Ytkflmglpniebfaa.Fr
namespace Go.Proofs.Ytkflmglpniebfaa.Fr
set_option maxRecDepth 100000
set_option maxHeartbeats 4000000
open Go.Rx
open Go.RowKit (Below)
set_option linter.unusedVariables false
def con34 : Con := fun vs bs K => match vs with
  | [u, v, .int .i64 x] => five u fun a b c d e => parse [.i64, .i64] 0 v bs fun n f _ bs => bs = [] ∧ K (.tuple ⟨[.int .i64 (topF a b c d e n f x).1, .int .i64 (topF a b c d e n f x).2]⟩) []
  | _ => False

def con34_nA (a : Int) (b : Int) (c : Int) (d : Int) (e : Int) (x : Int) : Ann := fun _ _ _ => none
def con34_rA (el nl cl : Nat) (fl : RF) (a : Int) (b : Int) (c : Int) (d : Int) (e : Int) (x : Int) : Ann := fun _ _ _ => none
def con34_nV (a : Int) (b : Int) (c : Int) (d : Int) (e : Int) (x : Int) (K : Value → List Blk → Prop) : Prop := let q0 := (T0 ∧ (False)); let q1 := eB; let q2 := (9223372036854775807 : Int); let q3 := (-9223372036854775808 : Int); let q4 := (Prod.snd (ckF a b c d e (0 : Nat) zF)); let q5 := (t2 q0); let q6 := ((q3 ≤ (1 : Int) + c) ∧ ((1 : Int) + c ≤ q2)); let q7 := (T0 ∧ (∃ y0 : Value, (∃ y1 : List Blk, ((Go.Rx.Found 0 (Value.tuple { toList := [vi (0 : Int), vi (7 : Int)] }) ({ h := [((1 : Nat), Blk.cells [vi a, vi b, vi c, vi d, vi e] (23 : Nat)), ((0 : Nat), Blk.cells [vi a, vi b, vi c, vi d, vi e] (23 : Nat))], next := (2 : Nat) }) (y0) (y1)) ∧ (K y0 y1))))); let q8 := (T0 ∧ (if (@Eq Int (chk a b c d e) ((0 : Int))) then (T0 ∧ (if (x < (0 : Int)) then (t6 (q6 ∧ q5)) else (t2 (q6 ∧ (t2 (((q3 ≤ x * a) ∧ (x * a ≤ q2)) ∧ (T0 ∧ (((q3 ≤ (1 : Int) + c + x * a) ∧ ((1 : Int) + c + x * a ≤ q2)) ∧ (t8 (((q3 ≤ (1 : Int) + c + x * a + a) ∧ ((1 : Int) + c + x * a + a ≤ q2)) ∧ q5)))))))))) else (False))); let q9 := (T0 ∧ (if (@Eq Int q4 ((0 : Int))) then (t4 ((InC a b c d e) ∧ (q1 ∧ (T0 ∧ (if (@Eq Int (chk a b c d e) ((0 : Int))) then (t2 (((q3 ≤ b - (1 : Int)) ∧ (b - (1 : Int) ≤ q2)) ∧ (t2 (if ((-1 : Int) ≤ x) then (T0 ∧ (if (x ≤ b - (1 : Int)) then q8 else q0)) else q0)))) else q8))))) else (∃ y0 : Value, (∃ y1 : List Blk, ((Go.Rx.Found 0 (Value.tuple { toList := [vi (0 : Int), vi q4] }) ({ h := [((1 : Nat), Blk.cells [vi a, vi b, vi c, vi d, vi e] (23 : Nat)), ((0 : Nat), Blk.cells [vi a, vi b, vi c, vi d, vi e] (23 : Nat))], next := (2 : Nat) }) (y0) (y1)) ∧ (K y0 y1)))))); (t6 ((InC a b c d e) ∧ (q1 ∧ (T0 ∧ (if (@Eq Int q4 ((0 : Int))) then (T0 ∧ (if (x < (0 : Int)) then q7 else (TS ∧ (T0 ∧ (if ((↑(0 : Nat) : Int) ≤ x) then q7 else q9))))) else q9)))))
theorem con34_nE (a : Int) (b : Int) (c : Int) (d : Int) (e : Int) (x : Int) (K : Value → List Blk → Prop) : con34_nV a b c d e x K = bodyX (mk X3) (callN (mk X3) 4) (con34_nA a b c d e x) Try.f34 [five' a b c d e, .slice none 0 0, .int .i64 x] (stOf []) (Fd 0 K) := by kernel_rfl
set_option tactic.hygienic false in
theorem con34_nP (a : Int) (b : Int) (c : Int) (d : Int) (e : Int) (x : Int) (K : Value → List Blk → Prop)  (hI : InC a b c d e) (h : K (.tuple ⟨[.int .i64 (topF a b c d e 0 zF x).1, .int .i64 (topF a b c d e 0 zF x).2]⟩) []) : con34_nV a b c d e x K := by
  unfold con34_nV
  conv => zeta
  have G : (ckF a b c d e 0 zF).2 = 0 → good a b c d e ∧ ((0 : Nat) : Int) = b ∧ ∀ i, i < 0 → fok a zF i := ckF_zero
  unfold topF askF at h
  repeat' (first | (with_reducible first | exact rfl | exact trivial | refine And.intro ?_ ?_ | refine br_intro (fun hq => ?_) fun hq => ?_ | refine if_both (fun hz => ?_) fun hz => ?_) | (intro) | fail)
  all_goals first
    | omega
    | assumption
    | (have g := G (by assumption)
       have g2 := g.2.2 x.toNat (by omega)
       unfold fok at g2
       have g3 := mul_bd ⟨g.1.1, g.1.2.1⟩ (x := x) (b := b) (by omega) (by omega) (by omega)
       omega)
    | (have g := G (by assumption); omega)
    | (have g := chk_good (by assumption); omega)
    | (refine fin0 (by kernel_rfl) (by kernel_rfl) ?_
       repeat' (split at h)
       all_goals first | exact h | omega | (rw [show (ckF a b c d e 0 zF).2 = 0 by assumption]; exact h))
    | (refine fin0 (by kernel_rfl) (by kernel_rfl) ?_
       have g := G (by assumption)
       repeat' (split at h)
       all_goals first | exact h | omega | (rw [show (ckF a b c d e 0 zF).2 = 0 by assumption]; exact h))
    | (have g := G (by assumption)
       have g4 : chk a b c d e = 0 := if_pos g.1
       omega)
def con34_rV (el nl cl : Nat) (fl : RF) (a : Int) (b : Int) (c : Int) (d : Int) (e : Int) (x : Int) (K : Value → List Blk → Prop) : Prop := let q0 := eB; let q1 := (9223372036854775807 : Int); let q2 := (-9223372036854775808 : Int); let q3 := (Prod.snd (ckF a b c d e nl fl)); let q4 := (((0 : Int) ≤ x) ∧ (x < (↑nl : Int))); let q5 := TS; let q6 := ((0 : Nat), rT el nl cl fl); let q7 := (q5 ∧ (@Eq Nat ((2 : Nat)) ((2 : Nat)))); let q8 := ((q2 ≤ (1 : Int) + c) ∧ ((1 : Int) + c ≤ q1)); let q9 := ((2 : Nat), Blk.cells [vi a, vi b, vi c, vi d, vi e] (23 : Nat)); let q10 := ((1 : Nat), Blk.cells [vi a, vi b, vi c, vi d, vi e] (23 : Nat)); let q11 := (T0 ∧ (∃ y0 : Value, (∃ y1 : List Blk, ((Go.Rx.Found 1 (Value.tuple { toList := [vi (0 : Int), vi (7 : Int)] }) ({ h := [q9, q10, q6], next := (3 : Nat) }) (y0) (y1)) ∧ (K y0 y1))))); let q12 := (q7 ∧ (q4 ∧ (T0 ∧ ((Int.toNat x < nl) ∧ (T0 ∧ (((q2 ≤ (0 : Int) + fl (Int.toNat x) (1 : Nat)) ∧ ((0 : Int) + fl (Int.toNat x) (1 : Nat) ≤ q1)) ∧ (∃ y0 : Value, (∃ y1 : List Blk, ((Go.Rx.Found 1 (Value.tuple { toList := [vi ((0 : Int) + fl (Int.toNat x) (1 : Nat)), vi (0 : Int)] }) ({ h := [((3 : Nat), Blk.cells [vi a, vi b, vi c, vi d, vi e] (23 : Nat)), q9, q10, q6], next := (4 : Nat) }) (y0) (y1)) ∧ (K y0 y1)))))))))); let q13 := (T0 ∧ q12); let q14 := (T0 ∧ (if (@Eq Int (chk a b c d e) ((0 : Int))) then (T0 ∧ (if (x < (0 : Int)) then (t6 (q8 ∧ (t3 (q7 ∧ (q4 ∧ (T0 ∧ ((Int.toNat x < nl) ∧ (T0 ∧ (((q2 ≤ (1 : Int) + fl (Int.toNat x) (1 : Nat)) ∧ ((1 : Int) + fl (Int.toNat x) (1 : Nat) ≤ q1)) ∧ (∃ y0 : Value, (∃ y1 : List Blk, ((Go.Rx.Found 1 (Value.tuple { toList := [vi ((1 : Int) + fl (Int.toNat x) (1 : Nat)), vi (0 : Int)] }) ({ h := [((3 : Nat), Blk.cells [vi a, vi b, vi c, vi d, vi e] (23 : Nat)), q9, q10, q6], next := (4 : Nat) }) (y0) (y1)) ∧ (K y0 y1))))))))))))) else (t2 (q8 ∧ (t2 (((q2 ≤ x * a) ∧ (x * a ≤ q1)) ∧ (T0 ∧ (((q2 ≤ (1 : Int) + c + x * a) ∧ ((1 : Int) + c + x * a ≤ q1)) ∧ (t8 (((q2 ≤ (1 : Int) + c + x * a + a) ∧ ((1 : Int) + c + x * a + a ≤ q1)) ∧ (t3 (q7 ∧ (q4 ∧ (T0 ∧ ((Int.toNat x < nl) ∧ (T0 ∧ (((q2 ≤ (1 : Int) + c + x * a + fl (Int.toNat x) (1 : Nat)) ∧ ((1 : Int) + c + x * a + fl (Int.toNat x) (1 : Nat) ≤ q1)) ∧ (∃ y0 : Value, (∃ y1 : List Blk, ((Go.Rx.Found 1 (Value.tuple { toList := [vi ((1 : Int) + c + x * a + fl (Int.toNat x) (1 : Nat)), vi (0 : Int)] }) ({ h := [((3 : Nat), Blk.cells [vi a, vi b, vi c, vi d, vi e] (23 : Nat)), q9, q10, q6], next := (4 : Nat) }) (y0) (y1)) ∧ (K y0 y1))))))))))))))))))))) else q12)); let q15 := (T0 ∧ (if (@Eq Int q3 ((0 : Int))) then (t4 ((InC a b c d e) ∧ (q0 ∧ (T0 ∧ (if (@Eq Int (chk a b c d e) ((0 : Int))) then (t2 (((q2 ≤ b - (1 : Int)) ∧ (b - (1 : Int) ≤ q1)) ∧ (t2 (if ((-1 : Int) ≤ x) then (T0 ∧ (if (x ≤ b - (1 : Int)) then q14 else q13)) else q13)))) else q14))))) else (∃ y0 : Value, (∃ y1 : List Blk, ((Go.Rx.Found 1 (Value.tuple { toList := [vi (0 : Int), vi q3] }) ({ h := [q9, q10, q6], next := (3 : Nat) }) (y0) (y1)) ∧ (K y0 y1)))))); (t5 (((0 : Nat) + nl ≤ nl) ∧ ((InC a b c d e) ∧ ((@Eq Nat ((0 : Nat)) ((0 : Nat))) ∧ ((nl ≤ (100000 : Nat)) ∧ ((eK ∧ ((@Eq Nat (nl) (nl)) ∧ (@Eq Nat (cl) (cl)))) ∧ (q0 ∧ (T0 ∧ (if (@Eq Int q3 ((0 : Int))) then (T0 ∧ (if (x < (0 : Int)) then q11 else (q5 ∧ (T0 ∧ (if ((↑nl : Int) ≤ x) then q11 else q15))))) else q15)))))))))
theorem con34_rE (el nl cl : Nat) (fl : RF) (a : Int) (b : Int) (c : Int) (d : Int) (e : Int) (x : Int) (K : Value → List Blk → Prop) : con34_rV el nl cl fl a b c d e x K = bodyX (mk X3) (callN (mk X3) 4) (con34_rA el nl cl fl a b c d e x) Try.f34 [five' a b c d e, rsl 0 0 nl cl, .int .i64 x] (stOf [.row true [.i64, .i64] el nl cl fl]) (Fd 1 K) := by kernel_rfl
set_option tactic.hygienic false in
theorem con34_rP (el nl cl : Nat) (fl : RF) (a : Int) (b : Int) (c : Int) (d : Int) (e : Int) (x : Int) (K : Value → List Blk → Prop)  (hI : InC a b c d e) (hnl : nl ≤ 100000) (h : K (.tuple ⟨[.int .i64 (topF a b c d e nl fl x).1, .int .i64 (topF a b c d e nl fl x).2]⟩) []) : con34_rV el nl cl fl a b c d e x K := by
  unfold con34_rV
  conv => zeta
  have G : (ckF a b c d e nl fl).2 = 0 → good a b c d e ∧ ((nl : Nat) : Int) = b ∧ ∀ i, i < nl → fok a fl i := ckF_zero
  unfold topF askF at h
  repeat' (first | (with_reducible first | exact rfl | exact trivial | refine And.intro ?_ ?_ | refine br_intro (fun hq => ?_) fun hq => ?_ | refine if_both (fun hz => ?_) fun hz => ?_) | (intro) | fail)
  all_goals first
    | omega
    | assumption
    | (have g := G (by assumption)
       have g2 := g.2.2 x.toNat (by omega)
       unfold fok at g2
       have g3 := mul_bd ⟨g.1.1, g.1.2.1⟩ (x := x) (b := b) (by omega) (by omega) (by omega)
       omega)
    | (have g := G (by assumption); omega)
    | (have g := chk_good (by assumption); omega)
    | (refine fin0 (by kernel_rfl) (by kernel_rfl) ?_
       repeat' (split at h)
       all_goals first | exact h | omega | (rw [show (ckF a b c d e nl fl).2 = 0 by assumption]; exact h))
    | (refine fin0 (by kernel_rfl) (by kernel_rfl) ?_
       have g := G (by assumption)
       repeat' (split at h)
       all_goals first | exact h | omega | (rw [show (ckF a b c d e nl fl).2 = 0 by assumption]; exact h))
    | (have g := G (by assumption)
       have g4 : chk a b c d e = 0 := if_pos g.1
       omega)
theorem con34_ok : BodyOk (mk X3) 4 Try.f34 con34 := by
  intro vs bs K hh hro
  clear hro
  unfold con34 at hh
  split at hh
  · rename_i u v x
    obtain ⟨a, b, c, d, e, rfl, hI, hh0⟩ := five_inv hh
    rcases parse_inv hh0 with ⟨rfl, hh1⟩ | ⟨el, nl, cl, fl, bs1, rfl, hnl, rfl, hh1⟩ <;> clear hh0
    · obtain ⟨rfl, hc⟩ := hh1
      exact ⟨_, _, cast (con34_nE a b c d e x K) (con34_nP a b c d e x K hI hc)⟩
    · obtain ⟨rfl, hc⟩ := hh1
      exact ⟨_, _, cast (con34_rE el nl cl fl a b c d e x K) (con34_rP el nl cl fl a b c d e x K hI hnl hc)⟩
  · exact hh.elim
theorem con34_told : Told 34 (specOf con34) := told (X := X3) (X3_told) (by kernel_rfl) (by kernel_rfl) (by kernel_rfl) con34_ok
end Go.Proofs.Ytkflmglpniebfaa.Fr
namespace Go.Proofs.Ytkflmglpniebfaa.Fr
set_option maxRecDepth 100000
set_option maxHeartbeats 4000000
open Go.Rx
open Go.RowKit (Below)
set_option linter.unusedVariables false
/-- A slice of a row of these kinds. -/
def parseR (ks : List IntKind) (j : Nat) (v : Value) (bs : List Blk) (k : Nat → RF → Nat → List Blk → Prop) : Prop :=
  match v with
  | .slice (some ⟨b, 0, some 0⟩) n c => b = j ∧ n ≤ 100000 ∧ match bs with
    | .row true ks' _ n' c' f :: bs' => (ks' = ks ∧ n' = n ∧ c' = c) ∧ k n f (j + 1) bs'
    | _ => False
  | _ => False
theorem parseR_inv {ks : List IntKind} {j : Nat} {v : Value} {bs : List Blk} {k : Nat → RF → Nat → List Blk → Prop} (h : parseR ks j v bs k) : ∃ e n c f bs', v = rsl j 0 n c ∧ n ≤ 100000 ∧ bs = .row true ks e n c f :: bs' ∧ k n f (j + 1) bs' := by
  unfold parseR at h
  split at h
  · obtain ⟨rfl, hn, h⟩ := h
    split at h
    · obtain ⟨⟨rfl, rfl, rfl⟩, h⟩ := h
      exact ⟨_, _, _, _, _, rfl, hn, rfl, h⟩
    · exact h.elim
  · exact h.elim
theorem parseR_parse {ks : List IntKind} {j : Nat} {v : Value} {bs : List Blk} {k k' : Nat → RF → Nat → List Blk → Prop} (h : ∀ n f j bs, k' n f j bs → k n f j bs) (x : parseR ks j v bs k') : parse ks j v bs k := by
  obtain ⟨e, n, c, f, bs', rfl, hn, rfl, h'⟩ := parseR_inv x
  exact ⟨rfl, hn, ⟨rfl, rfl, rfl⟩, h _ _ _ _ h'⟩
theorem sel0_mem {f : RF} {x : Int} {n : Nat} (h : ¬ sel (selE f x) n = []) : ∃ i, i < n ∧ lF (sel (selE f x) n) 0 0 = (i : Int) ∧ f i 0 = x := by
  obtain ⟨i, h1, h2, h3⟩ := sel_mem (p := selE f x) (n := n) (k := 0) (List.length_pos_iff.2 h)
  exact ⟨i, h1, h2, of_decide_eq_true h3⟩
theorem bumpy {a b c d e : Int} {n : Nat} {f : RF} {x : Int} (h : askF a b c d e n f x = 0) : (ckF a b c d e n f).2 = 0 ∧ good a b c d e ∧ (n : Int) = b ∧ 0 ≤ x ∧ x < b ∧ x.toNat < n ∧ (∀ i, i < n → fok a f i) ∧ fok a f x.toNat := by
  unfold askF at h
  split at h
  · rename_i h0
    have g := ckF_zero h0
    split at h
    · cases h
    · exact ⟨h0, g.1, g.2.1, by omega, by omega, by omega, g.2.2, g.2.2 _ (by omega)⟩
  · exact absurd h (by assumption)
/-- Cars in a state, which are named one by one; are there free ones, popular ones? -/
def con68S (z t : Bool) : Con := fun vs bs K => match vs with
  | [u, v] => parseR [.i64, .i64] 0 u bs fun n f j bs => parseR [.i64] j v bs fun m g j2 bs => (bs = [] ∧ m = 1) ∧ match g 0 0 with
    | .ofNat 0 => bif z then sel (selE f 0) n = [] ∧ K (.slice none 0 0) [] else ¬ sel (selE f 0) n = [] ∧ ∀ cp, List.length (sel (selE f 0) n) ≤ cp → K (rsl j2 0 (List.length (sel (selE f 0) n)) cp) [.row false [.i64] 3 (List.length (sel (selE f 0) n)) cp (lF (sel (selE f 0) n))]
    | .ofNat 2 => bif t then sel (selE f 2) n = [] ∧ K (.slice none 0 0) [] else ¬ sel (selE f 2) n = [] ∧ ∀ cp, List.length (sel (selE f 2) n) ≤ cp → K (rsl j2 0 (List.length (sel (selE f 2) n)) cp) [.row false [.i64] 3 (List.length (sel (selE f 2) n)) cp (lF (sel (selE f 2) n))]
    | _ => False
  | _ => False
theorem con68S_told (z t : Bool) : Told 68 (specOf (con68S z t)) := con68_told.mono fun vs bs K x => by
  unfold con68S at x
  unfold con68
  split at x
  · refine parseR_parse (fun n f j bs y => parseR_parse (fun m g j2 bs y => ?_) y) x
    obtain ⟨⟨h1, rfl⟩, y⟩ := y
    refine ⟨h1, ?_⟩
    split at y
    · rename_i h0
      have e1 : sel (selB 1 g f) n = sel (selE f 0) n := congrArg (fun p => sel p n) (selB_one h0)
      rw [e1]
      cases z with
      | true => exact ⟨fun _ => y.2, fun q => absurd y.1 q⟩
      | false => exact ⟨fun q => absurd q y.1, fun _ => y.2⟩
    · rename_i h0
      have e1 : sel (selB 1 g f) n = sel (selE f 2) n := congrArg (fun p => sel p n) (selB_one h0)
      rw [e1]
      cases t with
      | true => exact ⟨fun _ => y.2, fun q => absurd y.1 q⟩
      | false => exact ⟨fun q => absurd q y.1, fun _ => y.2⟩
    · exact y.elim
  · exact x.elim
def con27W : Con := onCF fun a b c d e n f j K => (ckF a b c d e n f).2 = 0 ∧ ((sel (selE f 2) n) = [] → K (.tuple ⟨[.slice none 0 0, .int .i64 0]⟩) []) ∧ (¬ (sel (selE f 2) n) = [] → ∀ cp, List.length (sel (selE f 2) n) ≤ cp → K (.tuple ⟨[rsl j 0 (List.length (sel (selE f 2) n)) cp, .int .i64 0]⟩) [.row false [.i64] 3 (List.length (sel (selE f 2) n)) cp (lF (sel (selE f 2) n))])
theorem con27W_told : Told 27 (specOf con27W) := con27_told.mono (onCF_mono fun a b c d e n f j K h => ⟨fun q => absurd h.1 q, fun _ => h.2⟩)
@[reducible] def X37EF : List (Nat × Rx.Spec) := [(21, specOf con21), (68, specOf (con68S true false))]
theorem X37EF_told : ∀ p ∈ X37EF, Told p.1 p.2 := by
  intro p hp
  simp only [List.mem_cons, List.not_mem_nil, or_false] at hp
  rcases hp with rfl | rfl
  · exact con21_told
  · exact con68S_told true false
@[reducible] def X38EF : List (Nat × Rx.Spec) := [(25, specOf con25N), (27, specOf con27W)]
theorem X38EF_told : ∀ p ∈ X38EF, Told p.1 p.2 := by
  intro p hp
  simp only [List.mem_cons, List.not_mem_nil, or_false] at hp
  rcases hp with rfl | rfl
  · exact con25N_told
  · exact con27W_told
@[reducible] def X37ET : List (Nat × Rx.Spec) := [(21, specOf con21), (68, specOf (con68S true false))]
theorem X37ET_told : ∀ p ∈ X37ET, Told p.1 p.2 := by
  intro p hp
  simp only [List.mem_cons, List.not_mem_nil, or_false] at hp
  rcases hp with rfl | rfl
  · exact con21_told
  · exact con68S_told true false
@[reducible] def X38ET : List (Nat × Rx.Spec) := [(25, specOf con25N), (27, specOf con27W)]
theorem X38ET_told : ∀ p ∈ X38ET, Told p.1 p.2 := by
  intro p hp
  simp only [List.mem_cons, List.not_mem_nil, or_false] at hp
  rcases hp with rfl | rfl
  · exact con25N_told
  · exact con27W_told
@[reducible] def X37GF : List (Nat × Rx.Spec) := [(21, specOf con21), (68, specOf (con68S false false))]
theorem X37GF_told : ∀ p ∈ X37GF, Told p.1 p.2 := by
  intro p hp
  simp only [List.mem_cons, List.not_mem_nil, or_false] at hp
  rcases hp with rfl | rfl
  · exact con21_told
  · exact con68S_told false false
@[reducible] def X38GF : List (Nat × Rx.Spec) := [(25, specOf con25R), (27, specOf con27W)]
theorem X38GF_told : ∀ p ∈ X38GF, Told p.1 p.2 := by
  intro p hp
  simp only [List.mem_cons, List.not_mem_nil, or_false] at hp
  rcases hp with rfl | rfl
  · exact con25R_told
  · exact con27W_told
@[reducible] def X37FT : List (Nat × Rx.Spec) := [(21, specOf con21), (68, specOf (con68S false false))]
theorem X37FT_told : ∀ p ∈ X37FT, Told p.1 p.2 := by
  intro p hp
  simp only [List.mem_cons, List.not_mem_nil, or_false] at hp
  rcases hp with rfl | rfl
  · exact con21_told
  · exact con68S_told false false
@[reducible] def X38FT : List (Nat × Rx.Spec) := [(25, specOf con25R), (27, specOf con27R)]
theorem X38FT_told : ∀ p ∈ X38FT, Told p.1 p.2 := by
  intro p hp
  simp only [List.mem_cons, List.not_mem_nil, or_false] at hp
  rcases hp with rfl | rfl
  · exact con25R_told
  · exact con27R_told
@[reducible] def X37GT : List (Nat × Rx.Spec) := [(21, specOf con21), (68, specOf (con68S false false))]
theorem X37GT_told : ∀ p ∈ X37GT, Told p.1 p.2 := by
  intro p hp
  simp only [List.mem_cons, List.not_mem_nil, or_false] at hp
  rcases hp with rfl | rfl
  · exact con21_told
  · exact con68S_told false false
@[reducible] def X38GT : List (Nat × Rx.Spec) := [(25, specOf con25R), (27, specOf con27R)]
theorem X38GT_told : ∀ p ∈ X38GT, Told p.1 p.2 := by
  intro p hp
  simp only [List.mem_cons, List.not_mem_nil, or_false] at hp
  rcases hp with rfl | rfl
  · exact con25R_told
  · exact con27R_told
@[reducible] def X37HT : List (Nat × Rx.Spec) := [(21, specOf con21), (68, specOf (con68S false true))]
theorem X37HT_told : ∀ p ∈ X37HT, Told p.1 p.2 := by
  intro p hp
  simp only [List.mem_cons, List.not_mem_nil, or_false] at hp
  rcases hp with rfl | rfl
  · exact con21_told
  · exact con68S_told false true
@[reducible] def X38HT : List (Nat × Rx.Spec) := [(25, specOf con25R), (27, specOf con27N)]
theorem X38HT_told : ∀ p ∈ X38HT, Told p.1 p.2 := by
  intro p hp
  simp only [List.mem_cons, List.not_mem_nil, or_false] at hp
  rcases hp with rfl | rfl
  · exact con25R_told
  · exact con27N_told
end Go.Proofs.Ytkflmglpniebfaa.Fr
namespace Go.Proofs.Ytkflmglpniebfaa.Fr
set_option maxRecDepth 100000
set_option maxHeartbeats 4000000
open Go.Rx
open Go.RowKit (Below)
set_option linter.unusedVariables false
def onCFX (O : Int → Int → Int → Int → Int → Nat → RF → Nat → Int → KK → Prop) : Con := fun vs bs K => match vs with
  | [u, v, .int .i64 x] => five u fun a b c d e => parse [.i64, .i64] 0 v bs fun n f j bs => bs = [] ∧ O a b c d e n f j x K
  | _ => False
theorem onCFX_mono {O O' : Int → Int → Int → Int → Int → Nat → RF → Nat → Int → KK → Prop} (h : ∀ a b c d e n f j x K, O' a b c d e n f j x K → O a b c d e n f j x K) : ∀ vs bs K, onCFX O' vs bs K → onCFX O vs bs K := by
  intro vs bs K x
  unfold onCFX at x ⊢
  split at x
  · exact five_mono (fun a b c d e => parse_mono fun n f j bs y => ⟨y.1, h _ _ _ _ _ _ _ _ _ _ y.2⟩) x
  · exact x.elim
theorem topF_ok {a b c d e : Int} {n : Nat} {f : RF} {x : Int} (h : askF a b c d e n f x = 0) : topF a b c d e n f x = (1 + c + x * a + f x.toNat 1, 0) := if_pos h
theorem roomF_ok {a b c d e : Int} {n : Nat} {f : RF} {x : Int} (h : askF a b c d e n f x = 0) (h' : ¬ f x.toNat 0 = 0) : roomF a b c d e n f x = (a - f x.toNat 1, 0) := by unfold roomF; rw [if_pos h, if_neg h']
def con33G : Con := onCFX fun a b c d e n f j x K => askF a b c d e n f x = 0 ∧ K (.tuple ⟨[.int .i64 (1 + c + x * a + f x.toNat 1), .int .i64 0]⟩) []
theorem con33G_told : Told 33 (specOf con33G) := con33_told.mono (onCFX_mono fun a b c d e n f j x K h => (topF_ok h.1).symm ▸ h.2)
def con34G : Con := onCFX fun a b c d e n f j x K => askF a b c d e n f x = 0 ∧ K (.tuple ⟨[.int .i64 (1 + c + x * a + f x.toNat 1), .int .i64 0]⟩) []
theorem con34G_told : Told 34 (specOf con34G) := con34_told.mono (onCFX_mono fun a b c d e n f j x K h => (topF_ok h.1).symm ▸ h.2)
def con31G : Con := onCFX fun a b c d e n f j x K => (askF a b c d e n f x = 0 ∧ ¬ f x.toNat 0 = 0) ∧ K (.tuple ⟨[.int .i64 (a - f x.toNat 1), .int .i64 0]⟩) []
theorem con31G_told : Told 31 (specOf con31G) := con31_told.mono (onCFX_mono fun a b c d e n f j x K h => (roomF_ok h.1.1 h.1.2).symm ▸ h.2)
def con32G : Con := onCFX fun a b c d e n f j x K => (askF a b c d e n f x = 0 ∧ ¬ f x.toNat 0 = 0) ∧ K (.tuple ⟨[.int .i64 (a - f x.toNat 1), .int .i64 0]⟩) []
theorem con32G_told : Told 32 (specOf con32G) := con32_told.mono (onCFX_mono fun a b c d e n f j x K h => (roomF_ok h.1.1 h.1.2).symm ▸ h.2)
@[reducible] def X71 : List (Nat × Rx.Spec) := [(22, specOf con22)]
theorem X71_told : ∀ p ∈ X71, Told p.1 p.2 := by
  intro p hp
  simp only [List.mem_cons, List.not_mem_nil, or_false] at hp
  rcases hp with rfl
  · exact con22_told
def con71 : Con := fun vs bs K => match vs with
  | [u, vl, .int .i64 x] => five u fun a b c d e => parse [.i64, .i64] 0 vl bs fun nl fl j0 bs0 => bs0 = [] ∧ (True) ∧ (K (.int .i64 (askF a b c d e nl fl x)) [])
  | _ => False

def con71_nA (a b c d e : Int) (x : Int) : Ann := fun _ _ _ => none
def con71_rA (a b c d e : Int) (el nl cl : Nat) (fl : RF) (x : Int) : Ann := fun _ _ _ => none
def con71_nV (a b c d e : Int) (x : Int) (K : Value → List Blk → Prop) : Prop := let q0 := (Prod.snd (ckF a b c d e (0 : Nat) zF)); let q1 := (∃ y0 : Value, (∃ y1 : List Blk, ((Go.Rx.Found 0 (vi (7 : Int)) ({ h := [((0 : Nat), Blk.cells [vi a, vi b, vi c, vi d, vi e] (23 : Nat))], next := (1 : Nat) }) (y0) (y1)) ∧ (K y0 y1)))); let q2 := (∃ y0 : Value, (∃ y1 : List Blk, ((Go.Rx.Found 0 (vi q0) ({ h := [((0 : Nat), Blk.cells [vi a, vi b, vi c, vi d, vi e] (23 : Nat))], next := (1 : Nat) }) (y0) (y1)) ∧ (K y0 y1)))); (t4 ((InC a b c d e) ∧ (eB ∧ (T0 ∧ (if (@Eq Int q0 ((0 : Int))) then (T0 ∧ (if (x < (0 : Int)) then q1 else (TS ∧ (T0 ∧ (if ((↑(0 : Nat) : Int) ≤ x) then q1 else q2))))) else q2)))))
theorem con71_nE (a b c d e : Int) (x : Int) (K : Value → List Blk → Prop) : con71_nV a b c d e x K = bodyX (mk X71) (callN (mk X71) 4) (con71_nA a b c d e x) Try.f71 [five' a b c d e, .slice none 0 0, .int .i64 x] (stOf []) (Fd 0 K) := by kernel_rfl
set_option tactic.hygienic false in
theorem con71_nP (a b c d e : Int) (x : Int) (K : Value → List Blk → Prop)  (hI : InC a b c d e) (h : K (.int .i64 (askF a b c d e 0 zF x)) []) : con71_nV a b c d e x K := by
  unfold con71_nV
  conv => zeta
  unfold askF at h
  have G : (ckF a b c d e 0 zF).2 = 0 → good a b c d e ∧ ((0 : Nat) : Int) = b ∧ ∀ i, i < 0 → fok a zF i := ckF_zero
  repeat' (first | (with_reducible first | exact rfl | exact trivial | refine And.intro ?_ ?_ | refine br_intro (fun hq => ?_) fun hq => ?_ | refine if_both (fun hz => ?_) fun hz => ?_) | (intro) | fail)

  all_goals first
    | omega
    | assumption
    | (refine fin0 (by kernel_rfl) (by kernel_rfl) ?_
       repeat' (split at h)
       all_goals first | exact h | omega | (have g := G (by assumption); omega) | (rw [show (ckF _ _ _ _ _ _ _).2 = 0 by assumption]; exact h))
def con71_rV (a b c d e : Int) (el nl cl : Nat) (fl : RF) (x : Int) (K : Value → List Blk → Prop) : Prop := let q0 := (Prod.snd (ckF a b c d e nl fl)); let q1 := (∃ y0 : Value, (∃ y1 : List Blk, ((Go.Rx.Found 1 (vi (7 : Int)) ({ h := [((1 : Nat), Blk.cells [vi a, vi b, vi c, vi d, vi e] (23 : Nat)), ((0 : Nat), rT el nl cl fl)], next := (2 : Nat) }) (y0) (y1)) ∧ (K y0 y1)))); let q2 := (∃ y0 : Value, (∃ y1 : List Blk, ((Go.Rx.Found 1 (vi q0) ({ h := [((1 : Nat), Blk.cells [vi a, vi b, vi c, vi d, vi e] (23 : Nat)), ((0 : Nat), rT el nl cl fl)], next := (2 : Nat) }) (y0) (y1)) ∧ (K y0 y1)))); (t3 (((0 : Nat) + nl ≤ nl) ∧ ((InC a b c d e) ∧ ((@Eq Nat ((0 : Nat)) ((0 : Nat))) ∧ ((nl ≤ (100000 : Nat)) ∧ ((eK ∧ ((@Eq Nat (nl) (nl)) ∧ (@Eq Nat (cl) (cl)))) ∧ (eB ∧ (T0 ∧ (if (@Eq Int q0 ((0 : Int))) then (T0 ∧ (if (x < (0 : Int)) then q1 else (TS ∧ (T0 ∧ (if ((↑nl : Int) ≤ x) then q1 else q2))))) else q2)))))))))
theorem con71_rE (a b c d e : Int) (el nl cl : Nat) (fl : RF) (x : Int) (K : Value → List Blk → Prop) : con71_rV a b c d e el nl cl fl x K = bodyX (mk X71) (callN (mk X71) 4) (con71_rA a b c d e el nl cl fl x) Try.f71 [five' a b c d e, rsl 0 0 nl cl, .int .i64 x] (stOf [.row true [.i64, .i64] el nl cl fl]) (Fd 1 K) := by kernel_rfl
set_option tactic.hygienic false in
theorem con71_rP (a b c d e : Int) (el nl cl : Nat) (fl : RF) (x : Int) (K : Value → List Blk → Prop)  (hI : InC a b c d e) (hnl : nl ≤ 100000) (h : K (.int .i64 (askF a b c d e nl fl x)) []) : con71_rV a b c d e el nl cl fl x K := by
  unfold con71_rV
  conv => zeta
  unfold askF at h
  have G : (ckF a b c d e nl fl).2 = 0 → good a b c d e ∧ ((nl : Nat) : Int) = b ∧ ∀ i, i < nl → fok a fl i := ckF_zero
  repeat' (first | (with_reducible first | exact rfl | exact trivial | refine And.intro ?_ ?_ | refine br_intro (fun hq => ?_) fun hq => ?_ | refine if_both (fun hz => ?_) fun hz => ?_) | (intro) | fail)

  all_goals first
    | omega
    | assumption
    | (refine fin0 (by kernel_rfl) (by kernel_rfl) ?_
       repeat' (split at h)
       all_goals first | exact h | omega | (have g := G (by assumption); omega) | (rw [show (ckF _ _ _ _ _ _ _).2 = 0 by assumption]; exact h))
theorem con71_ok : BodyOk (mk X71) 4 Try.f71 con71 := by
  intro vs bs K hh hro
  clear hro
  unfold con71 at hh
  split at hh
  · rename_i u vl x
    obtain ⟨a, b, c, d, e, rfl, hI, hh0⟩ := five_inv hh
    rcases parse_inv hh0 with ⟨rfl, hh1⟩ | ⟨el, nl, cl, fl, btl, rfl, hnl, rfl, hh1⟩ <;> clear hh0
    · obtain ⟨rfl, -, hc⟩ := hh1
      exact ⟨_, _, cast (con71_nE a b c d e  x K) (con71_nP a b c d e  x K hI   hc)⟩
    · obtain ⟨rfl, -, hc⟩ := hh1
      exact ⟨_, _, cast (con71_rE a b c d e el nl cl fl x K) (con71_rP a b c d e el nl cl fl x K hI hnl  hc)⟩
  · exact hh.elim
theorem con71_told : Told 71 (specOf con71) := told (X := X71) X71_told (by kernel_rfl) (by kernel_rfl) (by kernel_rfl) con71_ok
end Go.Proofs.Ytkflmglpniebfaa.Fr
namespace Go.Proofs.Ytkflmglpniebfaa.Fr
set_option maxRecDepth 100000
set_option maxHeartbeats 4000000
open Go.Rx
open Go.RowKit (Below)
set_option linter.unusedVariables false
@[reducible] def X39G : List (Nat × Rx.Spec) := [(33, specOf con33G), (31, specOf con31G)]
theorem X39G_told : ∀ p ∈ X39G, Told p.1 p.2 := by
  intro p hp
  simp only [List.mem_cons, List.not_mem_nil, or_false] at hp
  rcases hp with rfl | rfl
  · exact con33G_told
  · exact con31G_told
@[reducible] def X40G : List (Nat × Rx.Spec) := [(71, specOf con71), (34, specOf con34G), (32, specOf con32G)]
theorem X40G_told : ∀ p ∈ X40G, Told p.1 p.2 := by
  intro p hp
  simp only [List.mem_cons, List.not_mem_nil, or_false] at hp
  rcases hp with rfl | rfl | rfl
  · exact con71_told
  · exact con34G_told
  · exact con32G_told
end Go.Proofs.Ytkflmglpniebfaa.Fr
namespace Go.Proofs.Ytkflmglpniebfaa.Fr
set_option maxRecDepth 100000
set_option maxHeartbeats 4000000
open Go.Rx
open Go.RowKit (Below)
set_option linter.unusedVariables false
def con37EF : Con := fun vs bs K => match vs with
  | [u, vl, .bool false] => five u fun a b c d e => parseR [.i64, .i64] 0 vl bs fun nl fl j0 bs0 => bs0 = [] ∧ (((ckF a b c d e nl fl).2 = 0) ∧ (sel (selE fl 0) nl = [])) ∧ (K (.tuple ⟨[.slice none 0 0, .int .i64 0, .int .i64 5]⟩) [])
  | _ => False

def con37EF_rA (a b c d e : Int) (el nl cl : Nat) (fl : RF) : Ann := fun _ _ _ => none
def con37ET : Con := fun vs bs K => match vs with
  | [u, vl, .bool true] => five u fun a b c d e => parseR [.i64, .i64] 0 vl bs fun nl fl j0 bs0 => bs0 = [] ∧ (((ckF a b c d e nl fl).2 = 0) ∧ (sel (selE fl 0) nl = [])) ∧ (K (.tuple ⟨[.slice none 0 0, .int .i64 0, .int .i64 5]⟩) [])
  | _ => False

def con37ET_rA (a b c d e : Int) (el nl cl : Nat) (fl : RF) : Ann := fun _ _ _ => none
def con37GF : Con := fun vs bs K => match vs with
  | [u, vl, .bool false] => five u fun a b c d e => parseR [.i64, .i64] 0 vl bs fun nl fl j0 bs0 => bs0 = [] ∧ (((ckF a b c d e nl fl).2 = 0) ∧ (¬ sel (selE fl 0) nl = [])) ∧ (∀ cp, nl ≤ cp → K (.tuple ⟨[rsl j0 0 nl cp, .int .i64 (lF (sel (selE fl 0) nl) 0 0), .int .i64 0]⟩) [.row false [.i64, .i64] 54 nl cp (putE fl (lF (sel (selE fl 0) nl) 0 0).toNat [1, 0])])
  | _ => False

def con37GF_rA (a b c d e : Int) (el nl cl : Nat) (fl : RF) : Ann := fun _ _ _ => none
def con37FT : Con := fun vs bs K => match vs with
  | [u, vl, .bool true] => five u fun a b c d e => parseR [.i64, .i64] 0 vl bs fun nl fl j0 bs0 => bs0 = [] ∧ (((ckF a b c d e nl fl).2 = 0) ∧ (¬ sel (selE fl 0) nl = []) ∧ (¬ sel (selE fl 2) nl = []) ∧ (List.length (sel (selE fl 2) nl) = 2)) ∧ (K (.tuple ⟨[.slice none 0 0, .int .i64 0, .int .i64 5]⟩) [])
  | _ => False

def con37FT_rA (a b c d e : Int) (el nl cl : Nat) (fl : RF) : Ann := fun _ _ _ => none
def con37GT : Con := fun vs bs K => match vs with
  | [u, vl, .bool true] => five u fun a b c d e => parseR [.i64, .i64] 0 vl bs fun nl fl j0 bs0 => bs0 = [] ∧ (((ckF a b c d e nl fl).2 = 0) ∧ (¬ sel (selE fl 0) nl = []) ∧ (¬ sel (selE fl 2) nl = []) ∧ (¬ List.length (sel (selE fl 2) nl) = 2)) ∧ (∀ cp, nl ≤ cp → K (.tuple ⟨[rsl j0 0 nl cp, .int .i64 (lF (sel (selE fl 0) nl) 0 0), .int .i64 0]⟩) [.row false [.i64, .i64] 54 nl cp (putE fl (lF (sel (selE fl 0) nl) 0 0).toNat [2, 0])])
  | _ => False

def con37GT_rA (a b c d e : Int) (el nl cl : Nat) (fl : RF) : Ann := fun _ _ _ => none
def con37HT : Con := fun vs bs K => match vs with
  | [u, vl, .bool true] => five u fun a b c d e => parseR [.i64, .i64] 0 vl bs fun nl fl j0 bs0 => bs0 = [] ∧ (((ckF a b c d e nl fl).2 = 0) ∧ (¬ sel (selE fl 0) nl = []) ∧ (sel (selE fl 2) nl = [])) ∧ (∀ cp, nl ≤ cp → K (.tuple ⟨[rsl j0 0 nl cp, .int .i64 (lF (sel (selE fl 0) nl) 0 0), .int .i64 0]⟩) [.row false [.i64, .i64] 54 nl cp (putE fl (lF (sel (selE fl 0) nl) 0 0).toNat [2, 0])])
  | _ => False

def con37HT_rA (a b c d e : Int) (el nl cl : Nat) (fl : RF) : Ann := fun _ _ _ => none
def con37EF_rV (a b c d e : Int) (el nl cl : Nat) (fl : RF) (K : Value → List Blk → Prop) : Prop := let q0 := ((0 : Nat) + nl ≤ nl); let q1 := (nl ≤ (100000 : Nat)); let q2 := eB; let q3 := (Prod.snd (ckF a b c d e nl fl)); let q4 := (@Eq Nat ((0 : Nat)) ((0 : Nat))); let q5 := (@Eq Nat ((1 : Nat)) ((1 : Nat))); let q6 := TS; let q7 := ((0 : Nat), rT el nl cl fl); let q8 := (eK ∧ ((@Eq Nat (nl) (nl)) ∧ (@Eq Nat (cl) (cl)))); let q9 := ((1 : Nat), Blk.cells [vi a, vi b, vi c, vi d, vi e] (23 : Nat)); (t3 (q0 ∧ ((InC a b c d e) ∧ (q4 ∧ (q1 ∧ (q8 ∧ (q2 ∧ (T0 ∧ (if (@Eq Int q3 ((0 : Int))) then (t2 (q6 ∧ (t4 (q0 ∧ (((1 : Nat) ≤ (1 : Nat)) ∧ (q4 ∧ (q1 ∧ (q8 ∧ (q5 ∧ (((1 : Nat) ≤ (100000 : Nat)) ∧ (((@Eq (List IntKind) ([IntKind.i64]) ([IntKind.i64])) ∧ (q5 ∧ q5)) ∧ ((q2 ∧ q5) ∧ ((sel (selE fl (0 : Int)) nl = []) ∧ (q6 ∧ (T0 ∧ (∃ y0 : Value, (∃ y1 : List Blk, ((Go.Rx.Found 1 (Value.tuple { toList := [vn, vi (0 : Int), vi (5 : Int)] }) ({ h := [((3 : Nat), Blk.row false [IntKind.i64] (3 : Nat) (1 : Nat) (1 : Nat) (litF (List.length [IntKind.i64]) ([(0 : Int)] ++ []))), ((2 : Nat), Blk.cells [vi (1 : Int)] (3 : Nat)), q9, q7], next := (4 : Nat) }) (y0) (y1)) ∧ (K y0 y1))))))))))))))))))) else (∃ y0 : Value, (∃ y1 : List Blk, ((Go.Rx.Found 1 (Value.tuple { toList := [vn, vi (0 : Int), vi q3] }) ({ h := [q9, q7], next := (2 : Nat) }) (y0) (y1)) ∧ (K y0 y1)))))))))))))
theorem con37EF_rE (a b c d e : Int) (el nl cl : Nat) (fl : RF) (K : Value → List Blk → Prop) : con37EF_rV a b c d e el nl cl fl K = bodyX (mk X37EF) (callN (mk X37EF) 4) (con37EF_rA a b c d e el nl cl fl) Try.f37 [five' a b c d e, rsl 0 0 nl cl, .bool false] (stOf [.row true [.i64, .i64] el nl cl fl]) (Fd 1 K) := by kernel_rfl
set_option tactic.hygienic false in
theorem con37EF_rP (a b c d e : Int) (el nl cl : Nat) (fl : RF) (K : Value → List Blk → Prop)  (hI : InC a b c d e) (hnl : nl ≤ 100000) (h1 : (ckF a b c d e nl fl).2 = 0) (h2 : sel (selE fl 0) nl = []) (h : K (.tuple ⟨[.slice none 0 0, .int .i64 0, .int .i64 5]⟩) []) : con37EF_rV a b c d e el nl cl fl K := by
  unfold con37EF_rV
  conv => zeta
  have G : (ckF a b c d e nl fl).2 = 0 → good a b c d e ∧ ((nl : Nat) : Int) = b ∧ ∀ i, i < nl → fok a fl i := ckF_zero
  have SL0 := sel_len (p := selE fl 0) (n := nl)
  have SL2 := sel_len (p := selE fl 2) (n := nl)
  repeat' (first | (with_reducible first | exact rfl | exact trivial | refine And.intro ?_ ?_ | refine br_intro (fun hq => ?_) fun hq => ?_ | refine if_both (fun hz => ?_) fun hz => ?_) | (intro) | fail)

  all_goals first
    | omega
    | assumption
    | contradiction
    | exact fin0 (by kernel_rfl) (by kernel_rfl) (by first | exact h | simpa using h)
    | (simp only [Int.toNat_zero, hi4, hi2]; first | done | omega | rfl)
    | (refine fin1t rfl ?_ (by kernel_rfl) (by kernel_rfl) (h _ (by omega)); (intro i j hi hj; have hj' : j = 0 ∨ j = 1 := (by simp at hj; omega); simp only [putE, putF, cpyF, appF, shiftF, zF, Nat.min_self, Nat.sub_zero, Nat.add_zero, Nat.zero_add, Int.toNat_natCast, Int.toNat_zero]; rcases hj' with rfl | rfl <;> (repeat' split) <;> first | rfl | omega | (simp_all; done) | (simp_all; omega)))
    | (exfalso; simp at hq; omega)
theorem con37EF_ok : BodyOk (mk X37EF) 4 Try.f37 con37EF := by
  intro vs bs K hh hro
  clear hro
  unfold con37EF at hh
  split at hh
  · rename_i u vl
    obtain ⟨a, b, c, d, e, rfl, hI, hh0⟩ := five_inv hh
    obtain ⟨el, nl, cl, fl, btl, rfl, hnl, rfl, hh1⟩ := parseR_inv hh0
    obtain ⟨rfl, ⟨h1, h2⟩, hc⟩ := hh1
    exact ⟨_, _, cast (con37EF_rE a b c d e el nl cl fl  K) (con37EF_rP a b c d e el nl cl fl  K hI hnl h1 h2 hc)⟩
  · exact hh.elim
theorem con37EF_told : Told 37 (specOf con37EF) := told (X := X37EF) X37EF_told (by kernel_rfl) (by kernel_rfl) (by kernel_rfl) con37EF_ok
def con37ET_rV (a b c d e : Int) (el nl cl : Nat) (fl : RF) (K : Value → List Blk → Prop) : Prop := let q0 := ((0 : Nat) + nl ≤ nl); let q1 := (nl ≤ (100000 : Nat)); let q2 := eB; let q3 := (Prod.snd (ckF a b c d e nl fl)); let q4 := (@Eq Nat ((0 : Nat)) ((0 : Nat))); let q5 := (@Eq Nat ((1 : Nat)) ((1 : Nat))); let q6 := TS; let q7 := ((0 : Nat), rT el nl cl fl); let q8 := (eK ∧ ((@Eq Nat (nl) (nl)) ∧ (@Eq Nat (cl) (cl)))); let q9 := ((1 : Nat), Blk.cells [vi a, vi b, vi c, vi d, vi e] (23 : Nat)); (t3 (q0 ∧ ((InC a b c d e) ∧ (q4 ∧ (q1 ∧ (q8 ∧ (q2 ∧ (T0 ∧ (if (@Eq Int q3 ((0 : Int))) then (t4 (q6 ∧ (t4 (q0 ∧ (((1 : Nat) ≤ (1 : Nat)) ∧ (q4 ∧ (q1 ∧ (q8 ∧ (q5 ∧ (((1 : Nat) ≤ (100000 : Nat)) ∧ (((@Eq (List IntKind) ([IntKind.i64]) ([IntKind.i64])) ∧ (q5 ∧ q5)) ∧ ((q2 ∧ q5) ∧ ((sel (selE fl (0 : Int)) nl = []) ∧ (q6 ∧ (T0 ∧ (∃ y0 : Value, (∃ y1 : List Blk, ((Go.Rx.Found 1 (Value.tuple { toList := [vn, vi (0 : Int), vi (5 : Int)] }) ({ h := [((3 : Nat), Blk.row false [IntKind.i64] (3 : Nat) (1 : Nat) (1 : Nat) (litF (List.length [IntKind.i64]) ([(0 : Int)] ++ []))), ((2 : Nat), Blk.cells [vi (2 : Int)] (3 : Nat)), q9, q7], next := (4 : Nat) }) (y0) (y1)) ∧ (K y0 y1))))))))))))))))))) else (∃ y0 : Value, (∃ y1 : List Blk, ((Go.Rx.Found 1 (Value.tuple { toList := [vn, vi (0 : Int), vi q3] }) ({ h := [q9, q7], next := (2 : Nat) }) (y0) (y1)) ∧ (K y0 y1)))))))))))))
theorem con37ET_rE (a b c d e : Int) (el nl cl : Nat) (fl : RF) (K : Value → List Blk → Prop) : con37ET_rV a b c d e el nl cl fl K = bodyX (mk X37ET) (callN (mk X37ET) 4) (con37ET_rA a b c d e el nl cl fl) Try.f37 [five' a b c d e, rsl 0 0 nl cl, .bool true] (stOf [.row true [.i64, .i64] el nl cl fl]) (Fd 1 K) := by kernel_rfl
set_option tactic.hygienic false in
theorem con37ET_rP (a b c d e : Int) (el nl cl : Nat) (fl : RF) (K : Value → List Blk → Prop)  (hI : InC a b c d e) (hnl : nl ≤ 100000) (h1 : (ckF a b c d e nl fl).2 = 0) (h2 : sel (selE fl 0) nl = []) (h : K (.tuple ⟨[.slice none 0 0, .int .i64 0, .int .i64 5]⟩) []) : con37ET_rV a b c d e el nl cl fl K := by
  unfold con37ET_rV
  conv => zeta
  have G : (ckF a b c d e nl fl).2 = 0 → good a b c d e ∧ ((nl : Nat) : Int) = b ∧ ∀ i, i < nl → fok a fl i := ckF_zero
  have SL0 := sel_len (p := selE fl 0) (n := nl)
  have SL2 := sel_len (p := selE fl 2) (n := nl)
  repeat' (first | (with_reducible first | exact rfl | exact trivial | refine And.intro ?_ ?_ | refine br_intro (fun hq => ?_) fun hq => ?_ | refine if_both (fun hz => ?_) fun hz => ?_) | (intro) | fail)

  all_goals first
    | omega
    | assumption
    | contradiction
    | exact fin0 (by kernel_rfl) (by kernel_rfl) (by first | exact h | simpa using h)
    | (simp only [Int.toNat_zero, hi4, hi2]; first | done | omega | rfl)
    | (refine fin1t rfl ?_ (by kernel_rfl) (by kernel_rfl) (h _ (by omega)); (intro i j hi hj; have hj' : j = 0 ∨ j = 1 := (by simp at hj; omega); simp only [putE, putF, cpyF, appF, shiftF, zF, Nat.min_self, Nat.sub_zero, Nat.add_zero, Nat.zero_add, Int.toNat_natCast, Int.toNat_zero]; rcases hj' with rfl | rfl <;> (repeat' split) <;> first | rfl | omega | (simp_all; done) | (simp_all; omega)))
    | (exfalso; simp at hq; omega)
theorem con37ET_ok : BodyOk (mk X37ET) 4 Try.f37 con37ET := by
  intro vs bs K hh hro
  clear hro
  unfold con37ET at hh
  split at hh
  · rename_i u vl
    obtain ⟨a, b, c, d, e, rfl, hI, hh0⟩ := five_inv hh
    obtain ⟨el, nl, cl, fl, btl, rfl, hnl, rfl, hh1⟩ := parseR_inv hh0
    obtain ⟨rfl, ⟨h1, h2⟩, hc⟩ := hh1
    exact ⟨_, _, cast (con37ET_rE a b c d e el nl cl fl  K) (con37ET_rP a b c d e el nl cl fl  K hI hnl h1 h2 hc)⟩
  · exact hh.elim
theorem con37ET_told : Told 37 (specOf con37ET) := told (X := X37ET) X37ET_told (by kernel_rfl) (by kernel_rfl) (by kernel_rfl) con37ET_ok
def con37GF_rV (a b c d e : Int) (el nl cl : Nat) (fl : RF) (K : Value → List Blk → Prop) : Prop := let q0 := ((0 : Nat) + nl ≤ nl); let q1 := (nl ≤ (100000 : Nat)); let q2 := eB; let q3 := (sel (selE fl (0 : Int)) nl); let q4 := (Prod.snd (ckF a b c d e nl fl)); let q5 := (@Eq Nat ((0 : Nat)) ((0 : Nat))); let q6 := (@Eq Nat ((1 : Nat)) ((1 : Nat))); let q7 := (lF q3); let q8 := (@Eq Nat ((2 : Nat)) ((2 : Nat))); let q9 := TS; let q10 := (List.length q3); let q11 := (↑q10 : Int); let q12 := (litF (List.length [IntKind.i64]) ([(0 : Int)] ++ [])); let q13 := (some (rT el nl cl fl)); let q14 := (some (Blk.cells [vi (1 : Int)] (3 : Nat))); let q15 := ((0 : Nat), rT el nl cl fl); let q16 := (Int.toNat (0 : Int) < List.length q3); let q17 := (lF q3 (Int.toNat (0 : Int)) (0 : Nat)); let q18 := ((2 : Nat), Blk.cells [vi (1 : Int)] (3 : Nat)); let q19 := (q9 ∧ q6); let q20 := (((0 : Int) ≤ (0 : Int)) ∧ ((0 : Int) < q11)); let q21 := (some (Blk.row false [IntKind.i64] (3 : Nat) (1 : Nat) (1 : Nat) q12)); let q22 := ((3 : Nat), Blk.row false [IntKind.i64] (3 : Nat) (1 : Nat) (1 : Nat) q12); let q23 := (eK ∧ ((@Eq Nat (nl) (nl)) ∧ (@Eq Nat (cl) (cl)))); let q24 := (some (Blk.cells [vi a, vi b, vi c, vi d, vi e] (23 : Nat))); let q25 := ((1 : Nat), Blk.cells [vi a, vi b, vi c, vi d, vi e] (23 : Nat)); (t3 (q0 ∧ ((InC a b c d e) ∧ (q5 ∧ (q1 ∧ (q23 ∧ (q2 ∧ (T0 ∧ (if (@Eq Int q4 ((0 : Int))) then (t2 (q9 ∧ (t4 (q0 ∧ (((1 : Nat) ≤ (1 : Nat)) ∧ (q5 ∧ (q1 ∧ (q23 ∧ (q6 ∧ (((1 : Nat) ≤ (100000 : Nat)) ∧ (((@Eq (List IntKind) ([IntKind.i64]) ([IntKind.i64])) ∧ (q6 ∧ q6)) ∧ ((q2 ∧ q6) ∧ ((¬sel (selE fl (0 : Int)) nl = []) ∧ (∀ y0 : Nat, let q26 := (some (Blk.row false [IntKind.i64] (3 : Nat) q10 y0 q7)); let q27 := ((4 : Nat), Blk.row false [IntKind.i64] (3 : Nat) q10 y0 q7); ((List.length q3 ≤ y0) → (q9 ∧ (T0 ∧ (if (@Eq Int (q11) ((0 : Int))) then (∃ y1 : Value, (∃ y2 : List Blk, ((Go.Rx.Found 1 (Value.tuple { toList := [vn, vi (0 : Int), vi (5 : Int)] }) ({ h := [q27, q22, q18, q25, q15], next := (5 : Nat) }) (y1) (y2)) ∧ (K y1 y2)))) else (t4 (q19 ∧ (q20 ∧ (T0 ∧ (q16 ∧ (t3 (q19 ∧ (q20 ∧ (T0 ∧ (q16 ∧ (T0 ∧ (q9 ∧ (q9 ∧ (t3 ((((0 : Int) ≤ (↑nl : Int)) ∧ (((↑nl : Int) ≤ (↑nl : Int)) ∧ ((↑nl : Int) ≤ (100000 : Int)))) ∧ (q9 ∧ (q9 ∧ (t4 (q0 ∧ (((false = false) ∧ (T0 ∧ q0)) ∧ ((q9 ∧ q8) ∧ ((((0 : Int) ≤ lF q3 (Int.toNat (0 : Int)) (0 : Nat)) ∧ (lF q3 (Int.toNat (0 : Int)) (0 : Nat) < (↑nl : Int))) ∧ (T0 ∧ ((false = false) ∧ ((Int.toNat q17 < nl) ∧ ((q5 ∧ q8) ∧ (((@Eq (Option Blk) q26 q26) ∧ ((@Eq (Option Blk) q21 q21) ∧ ((@Eq (Option Blk) q14 q14) ∧ ((@Eq (Option Blk) q24 q24) ∧ ((@Eq (Option Blk) q13 q13) ∧ (True)))))) ∧ (T0 ∧ (∃ y1 : Value, (∃ y2 : List Blk, ((Go.Rx.Found 1 (Value.tuple { toList := [rsl (5 : Nat) (0 : Nat) nl nl, vi q17, vi (0 : Int)] }) ({ h := [((5 : Nat), rF (54 : Nat) nl nl (putE (cpyF (fun x x_1 ↦ (0 : Int)) (0 : Nat) (Nat.min nl nl) fl (0 : Nat)) (Int.toNat q17) [(1 : Int), Int.ofNat (0 : Nat)])), q27, q22, q18, q25, q15], next := (6 : Nat) }) (y1) (y2)) ∧ (K y1 y2)))))))))))))))))))))))))))))))))))))))))))))))))) else (∃ y0 : Value, (∃ y1 : List Blk, ((Go.Rx.Found 1 (Value.tuple { toList := [vn, vi (0 : Int), vi q4] }) ({ h := [q25, q15], next := (2 : Nat) }) (y0) (y1)) ∧ (K y0 y1)))))))))))))
theorem con37GF_rE (a b c d e : Int) (el nl cl : Nat) (fl : RF) (K : Value → List Blk → Prop) : con37GF_rV a b c d e el nl cl fl K = bodyX (mk X37GF) (callN (mk X37GF) 4) (con37GF_rA a b c d e el nl cl fl) Try.f37 [five' a b c d e, rsl 0 0 nl cl, .bool false] (stOf [.row true [.i64, .i64] el nl cl fl]) (Fd 1 K) := by kernel_rfl
set_option tactic.hygienic false in
theorem con37GF_rP (a b c d e : Int) (el nl cl : Nat) (fl : RF) (K : Value → List Blk → Prop)  (hI : InC a b c d e) (hnl : nl ≤ 100000) (h1 : (ckF a b c d e nl fl).2 = 0) (h2 : ¬ sel (selE fl 0) nl = []) (h : ∀ cp, nl ≤ cp → K (.tuple ⟨[rsl 1 0 nl cp, .int .i64 (lF (sel (selE fl 0) nl) 0 0), .int .i64 0]⟩) [.row false [.i64, .i64] 54 nl cp (putE fl (lF (sel (selE fl 0) nl) 0 0).toNat [1, 0])]) : con37GF_rV a b c d e el nl cl fl K := by
  unfold con37GF_rV
  conv => zeta
  have G : (ckF a b c d e nl fl).2 = 0 → good a b c d e ∧ ((nl : Nat) : Int) = b ∧ ∀ i, i < nl → fok a fl i := ckF_zero
  have SL0 := sel_len (p := selE fl 0) (n := nl)
  have SL2 := sel_len (p := selE fl 2) (n := nl)
  obtain ⟨i0, hi1, hi2, hi3⟩ := sel0_mem h2
  have hi4 : (lF (sel (selE fl 0) nl) 0 0).toNat = i0 := (by rw [hi2]; rfl)
  have L0 : 0 < List.length (sel (selE fl 0) nl) := List.length_pos_iff.2 h2
  repeat' (first | (with_reducible first | exact rfl | exact trivial | refine And.intro ?_ ?_ | refine br_intro (fun hq => ?_) fun hq => ?_ | refine if_both (fun hz => ?_) fun hz => ?_) | (intro) | fail)

  all_goals first
    | omega
    | assumption
    | contradiction
    | exact fin0 (by kernel_rfl) (by kernel_rfl) (by first | exact h | simpa using h)
    | (simp only [Int.toNat_zero, hi4, hi2]; first | done | omega | rfl)
    | (refine fin1t rfl ?_ (by kernel_rfl) (by kernel_rfl) (h _ (by omega)); (intro i j hi hj; have hj' : j = 0 ∨ j = 1 := (by simp at hj; omega); simp only [putE, putF, cpyF, appF, shiftF, zF, Nat.min_self, Nat.sub_zero, Nat.add_zero, Nat.zero_add, Int.toNat_natCast, Int.toNat_zero]; rcases hj' with rfl | rfl <;> (repeat' split) <;> first | rfl | omega | (simp_all; done) | (simp_all; omega)))
    | (exfalso; simp at hq; omega)
theorem con37GF_ok : BodyOk (mk X37GF) 4 Try.f37 con37GF := by
  intro vs bs K hh hro
  clear hro
  unfold con37GF at hh
  split at hh
  · rename_i u vl
    obtain ⟨a, b, c, d, e, rfl, hI, hh0⟩ := five_inv hh
    obtain ⟨el, nl, cl, fl, btl, rfl, hnl, rfl, hh1⟩ := parseR_inv hh0
    obtain ⟨rfl, ⟨h1, h2⟩, hc⟩ := hh1
    exact ⟨_, _, cast (con37GF_rE a b c d e el nl cl fl  K) (con37GF_rP a b c d e el nl cl fl  K hI hnl h1 h2 hc)⟩
  · exact hh.elim
theorem con37GF_told : Told 37 (specOf con37GF) := told (X := X37GF) X37GF_told (by kernel_rfl) (by kernel_rfl) (by kernel_rfl) con37GF_ok
def con37FT_rV (a b c d e : Int) (el nl cl : Nat) (fl : RF) (K : Value → List Blk → Prop) : Prop := let q0 := ((0 : Nat) + nl ≤ nl); let q1 := (nl ≤ (100000 : Nat)); let q2 := ((1 : Nat) ≤ (1 : Nat)); let q3 := eB; let q4 := (List.length [IntKind.i64]); let q5 := ((1 : Nat) ≤ (100000 : Nat)); let q6 := (sel (selE fl (0 : Int)) nl); let q7 := (sel (selE fl (2 : Int)) nl); let q8 := (Prod.snd (ckF a b c d e nl fl)); let q9 := (@Eq Nat ((0 : Nat)) ((0 : Nat))); let q10 := (@Eq Nat ((1 : Nat)) ((1 : Nat))); let q11 := (lF q6); let q12 := (lF q7); let q13 := (@Eq Nat ((2 : Nat)) ((2 : Nat))); let q14 := TS; let q15 := (List.length q6); let q16 := (List.length q7); let q17 := (↑q15 : Int); let q18 := (litF q4 ([(0 : Int)] ++ [])); let q19 := (litF q4 ([(2 : Int)] ++ [])); let q20 := (some (rT el nl cl fl)); let q21 := (some (Blk.cells [vi (2 : Int)] (3 : Nat))); let q22 := ((0 : Nat), rT el nl cl fl); let q23 := (q3 ∧ q10); let q24 := (Int.toNat (0 : Int) < List.length q6); let q25 := (lF q6 (Int.toNat (0 : Int)) (0 : Nat)); let q26 := ((2 : Nat), Blk.cells [vi (2 : Int)] (3 : Nat)); let q27 := (q14 ∧ q10); let q28 := (((0 : Int) ≤ (0 : Int)) ∧ ((0 : Int) < q17)); let q29 := (some (Blk.row false [IntKind.i64] (3 : Nat) (1 : Nat) (1 : Nat) q18)); let q30 := (some (Blk.row false [IntKind.i64] (3 : Nat) (1 : Nat) (1 : Nat) q19)); let q31 := ((5 : Nat), Blk.row false [IntKind.i64] (3 : Nat) (1 : Nat) (1 : Nat) q19); let q32 := ((3 : Nat), Blk.row false [IntKind.i64] (3 : Nat) (1 : Nat) (1 : Nat) q18); let q33 := (eK ∧ ((@Eq Nat (nl) (nl)) ∧ (@Eq Nat (cl) (cl)))); let q34 := ((@Eq (List IntKind) ([IntKind.i64]) ([IntKind.i64])) ∧ (q10 ∧ q10)); let q35 := (some (Blk.cells [vi a, vi b, vi c, vi d, vi e] (23 : Nat))); let q36 := ((1 : Nat), Blk.cells [vi a, vi b, vi c, vi d, vi e] (23 : Nat)); (t3 (q0 ∧ ((InC a b c d e) ∧ (q9 ∧ (q1 ∧ (q33 ∧ (q3 ∧ (T0 ∧ (if (@Eq Int q8 ((0 : Int))) then (t4 (q14 ∧ (t4 (q0 ∧ (q2 ∧ (q9 ∧ (q1 ∧ (q33 ∧ (q10 ∧ (q5 ∧ (q34 ∧ (q23 ∧ ((¬sel (selE fl (0 : Int)) nl = []) ∧ (∀ y0 : Nat, let q39 := (some (Blk.row false [IntKind.i64] (3 : Nat) q15 y0 q11)); let q40 := ((4 : Nat), Blk.row false [IntKind.i64] (3 : Nat) q15 y0 q11); ((List.length q6 ≤ y0) → (q14 ∧ (T0 ∧ (if (@Eq Int (q17) ((0 : Int))) then (∃ y1 : Value, (∃ y2 : List Blk, ((Go.Rx.Found 1 (Value.tuple { toList := [vn, vi (0 : Int), vi (5 : Int)] }) ({ h := [q40, q32, q26, q36, q22], next := (5 : Nat) }) (y1) (y2)) ∧ (K y1 y2)))) else (q14 ∧ (t4 (q0 ∧ (q2 ∧ (q9 ∧ (q1 ∧ (q33 ∧ (q10 ∧ (q5 ∧ (q34 ∧ (q23 ∧ ((¬sel (selE fl (2 : Int)) nl = []) ∧ (∀ y1 : Nat, let q37 := (some (Blk.row false [IntKind.i64] (3 : Nat) q16 y1 q12)); let q38 := ((6 : Nat), Blk.row false [IntKind.i64] (3 : Nat) q16 y1 q12); ((List.length q7 ≤ y1) → (q14 ∧ (T0 ∧ (if (@Eq Int ((↑q16 : Int)) ((2 : Int))) then (∃ y2 : Value, (∃ y3 : List Blk, ((Go.Rx.Found 1 (Value.tuple { toList := [vn, vi (0 : Int), vi (5 : Int)] }) ({ h := [q38, q31, q40, q32, q26, q36, q22], next := (7 : Nat) }) (y2) (y3)) ∧ (K y2 y3)))) else (t4 (q27 ∧ (q28 ∧ (T0 ∧ (q24 ∧ (t3 (q27 ∧ (q28 ∧ (T0 ∧ (q24 ∧ (T0 ∧ (q14 ∧ (q14 ∧ (t3 ((((0 : Int) ≤ (↑nl : Int)) ∧ (((↑nl : Int) ≤ (↑nl : Int)) ∧ ((↑nl : Int) ≤ (100000 : Int)))) ∧ (q14 ∧ (q14 ∧ (t4 (q0 ∧ (((false = false) ∧ (T0 ∧ q0)) ∧ ((q14 ∧ q13) ∧ ((((0 : Int) ≤ lF q6 (Int.toNat (0 : Int)) (0 : Nat)) ∧ (lF q6 (Int.toNat (0 : Int)) (0 : Nat) < (↑nl : Int))) ∧ (T0 ∧ ((false = false) ∧ ((Int.toNat q25 < nl) ∧ ((q9 ∧ q13) ∧ (((@Eq (Option Blk) q37 q37) ∧ ((@Eq (Option Blk) q30 q30) ∧ ((@Eq (Option Blk) q39 q39) ∧ ((@Eq (Option Blk) q29 q29) ∧ ((@Eq (Option Blk) q21 q21) ∧ ((@Eq (Option Blk) q35 q35) ∧ ((@Eq (Option Blk) q20 q20) ∧ (True)))))))) ∧ (T0 ∧ (∃ y2 : Value, (∃ y3 : List Blk, ((Go.Rx.Found 1 (Value.tuple { toList := [rsl (7 : Nat) (0 : Nat) nl nl, vi q25, vi (0 : Int)] }) ({ h := [((7 : Nat), rF (54 : Nat) nl nl (putE (cpyF (fun x x_1 ↦ (0 : Int)) (0 : Nat) (Nat.min nl nl) fl (0 : Nat)) (Int.toNat q25) [(2 : Int), Int.ofNat (0 : Nat)])), q38, q31, q40, q32, q26, q36, q22], next := (8 : Nat) }) (y2) (y3)) ∧ (K y2 y3))))))))))))))))))))))))))))))))))))))))))))))))))))))))))))))))))) else (∃ y0 : Value, (∃ y1 : List Blk, ((Go.Rx.Found 1 (Value.tuple { toList := [vn, vi (0 : Int), vi q8] }) ({ h := [q36, q22], next := (2 : Nat) }) (y0) (y1)) ∧ (K y0 y1)))))))))))))
theorem con37FT_rE (a b c d e : Int) (el nl cl : Nat) (fl : RF) (K : Value → List Blk → Prop) : con37FT_rV a b c d e el nl cl fl K = bodyX (mk X37FT) (callN (mk X37FT) 4) (con37FT_rA a b c d e el nl cl fl) Try.f37 [five' a b c d e, rsl 0 0 nl cl, .bool true] (stOf [.row true [.i64, .i64] el nl cl fl]) (Fd 1 K) := by kernel_rfl
set_option tactic.hygienic false in
theorem con37FT_rP (a b c d e : Int) (el nl cl : Nat) (fl : RF) (K : Value → List Blk → Prop)  (hI : InC a b c d e) (hnl : nl ≤ 100000) (h1 : (ckF a b c d e nl fl).2 = 0) (h2 : ¬ sel (selE fl 0) nl = []) (h3 : ¬ sel (selE fl 2) nl = []) (h4 : List.length (sel (selE fl 2) nl) = 2) (h : K (.tuple ⟨[.slice none 0 0, .int .i64 0, .int .i64 5]⟩) []) : con37FT_rV a b c d e el nl cl fl K := by
  unfold con37FT_rV
  conv => zeta
  have G : (ckF a b c d e nl fl).2 = 0 → good a b c d e ∧ ((nl : Nat) : Int) = b ∧ ∀ i, i < nl → fok a fl i := ckF_zero
  have SL0 := sel_len (p := selE fl 0) (n := nl)
  have SL2 := sel_len (p := selE fl 2) (n := nl)
  obtain ⟨i0, hi1, hi2, hi3⟩ := sel0_mem h2
  have hi4 : (lF (sel (selE fl 0) nl) 0 0).toNat = i0 := (by rw [hi2]; rfl)
  have L0 : 0 < List.length (sel (selE fl 0) nl) := List.length_pos_iff.2 h2
  repeat' (first | (with_reducible first | exact rfl | exact trivial | refine And.intro ?_ ?_ | refine br_intro (fun hq => ?_) fun hq => ?_ | refine if_both (fun hz => ?_) fun hz => ?_) | (intro) | fail)

  all_goals first
    | omega
    | assumption
    | contradiction
    | exact fin0 (by kernel_rfl) (by kernel_rfl) (by first | exact h | simpa using h)
    | (simp only [Int.toNat_zero, hi4, hi2]; first | done | omega | rfl)
    | (refine fin1t rfl ?_ (by kernel_rfl) (by kernel_rfl) (h _ (by omega)); (intro i j hi hj; have hj' : j = 0 ∨ j = 1 := (by simp at hj; omega); simp only [putE, putF, cpyF, appF, shiftF, zF, Nat.min_self, Nat.sub_zero, Nat.add_zero, Nat.zero_add, Int.toNat_natCast, Int.toNat_zero]; rcases hj' with rfl | rfl <;> (repeat' split) <;> first | rfl | omega | (simp_all; done) | (simp_all; omega)))
    | (exfalso; simp at hq; omega)
theorem con37FT_ok : BodyOk (mk X37FT) 4 Try.f37 con37FT := by
  intro vs bs K hh hro
  clear hro
  unfold con37FT at hh
  split at hh
  · rename_i u vl
    obtain ⟨a, b, c, d, e, rfl, hI, hh0⟩ := five_inv hh
    obtain ⟨el, nl, cl, fl, btl, rfl, hnl, rfl, hh1⟩ := parseR_inv hh0
    obtain ⟨rfl, ⟨h1, h2, h3, h4⟩, hc⟩ := hh1
    exact ⟨_, _, cast (con37FT_rE a b c d e el nl cl fl  K) (con37FT_rP a b c d e el nl cl fl  K hI hnl h1 h2 h3 h4 hc)⟩
  · exact hh.elim
theorem con37FT_told : Told 37 (specOf con37FT) := told (X := X37FT) X37FT_told (by kernel_rfl) (by kernel_rfl) (by kernel_rfl) con37FT_ok
def con37GT_rV (a b c d e : Int) (el nl cl : Nat) (fl : RF) (K : Value → List Blk → Prop) : Prop := let q0 := ((0 : Nat) + nl ≤ nl); let q1 := (nl ≤ (100000 : Nat)); let q2 := ((1 : Nat) ≤ (1 : Nat)); let q3 := eB; let q4 := (List.length [IntKind.i64]); let q5 := ((1 : Nat) ≤ (100000 : Nat)); let q6 := (sel (selE fl (0 : Int)) nl); let q7 := (sel (selE fl (2 : Int)) nl); let q8 := (Prod.snd (ckF a b c d e nl fl)); let q9 := (@Eq Nat ((0 : Nat)) ((0 : Nat))); let q10 := (@Eq Nat ((1 : Nat)) ((1 : Nat))); let q11 := (lF q6); let q12 := (lF q7); let q13 := (@Eq Nat ((2 : Nat)) ((2 : Nat))); let q14 := TS; let q15 := (List.length q6); let q16 := (List.length q7); let q17 := (↑q15 : Int); let q18 := (litF q4 ([(0 : Int)] ++ [])); let q19 := (litF q4 ([(2 : Int)] ++ [])); let q20 := (some (rT el nl cl fl)); let q21 := (some (Blk.cells [vi (2 : Int)] (3 : Nat))); let q22 := ((0 : Nat), rT el nl cl fl); let q23 := (q3 ∧ q10); let q24 := (Int.toNat (0 : Int) < List.length q6); let q25 := (lF q6 (Int.toNat (0 : Int)) (0 : Nat)); let q26 := ((2 : Nat), Blk.cells [vi (2 : Int)] (3 : Nat)); let q27 := (q14 ∧ q10); let q28 := (((0 : Int) ≤ (0 : Int)) ∧ ((0 : Int) < q17)); let q29 := (some (Blk.row false [IntKind.i64] (3 : Nat) (1 : Nat) (1 : Nat) q18)); let q30 := (some (Blk.row false [IntKind.i64] (3 : Nat) (1 : Nat) (1 : Nat) q19)); let q31 := ((5 : Nat), Blk.row false [IntKind.i64] (3 : Nat) (1 : Nat) (1 : Nat) q19); let q32 := ((3 : Nat), Blk.row false [IntKind.i64] (3 : Nat) (1 : Nat) (1 : Nat) q18); let q33 := (eK ∧ ((@Eq Nat (nl) (nl)) ∧ (@Eq Nat (cl) (cl)))); let q34 := ((@Eq (List IntKind) ([IntKind.i64]) ([IntKind.i64])) ∧ (q10 ∧ q10)); let q35 := (some (Blk.cells [vi a, vi b, vi c, vi d, vi e] (23 : Nat))); let q36 := ((1 : Nat), Blk.cells [vi a, vi b, vi c, vi d, vi e] (23 : Nat)); (t3 (q0 ∧ ((InC a b c d e) ∧ (q9 ∧ (q1 ∧ (q33 ∧ (q3 ∧ (T0 ∧ (if (@Eq Int q8 ((0 : Int))) then (t4 (q14 ∧ (t4 (q0 ∧ (q2 ∧ (q9 ∧ (q1 ∧ (q33 ∧ (q10 ∧ (q5 ∧ (q34 ∧ (q23 ∧ ((¬sel (selE fl (0 : Int)) nl = []) ∧ (∀ y0 : Nat, let q39 := (some (Blk.row false [IntKind.i64] (3 : Nat) q15 y0 q11)); let q40 := ((4 : Nat), Blk.row false [IntKind.i64] (3 : Nat) q15 y0 q11); ((List.length q6 ≤ y0) → (q14 ∧ (T0 ∧ (if (@Eq Int (q17) ((0 : Int))) then (∃ y1 : Value, (∃ y2 : List Blk, ((Go.Rx.Found 1 (Value.tuple { toList := [vn, vi (0 : Int), vi (5 : Int)] }) ({ h := [q40, q32, q26, q36, q22], next := (5 : Nat) }) (y1) (y2)) ∧ (K y1 y2)))) else (q14 ∧ (t4 (q0 ∧ (q2 ∧ (q9 ∧ (q1 ∧ (q33 ∧ (q10 ∧ (q5 ∧ (q34 ∧ (q23 ∧ ((¬sel (selE fl (2 : Int)) nl = []) ∧ (∀ y1 : Nat, let q37 := (some (Blk.row false [IntKind.i64] (3 : Nat) q16 y1 q12)); let q38 := ((6 : Nat), Blk.row false [IntKind.i64] (3 : Nat) q16 y1 q12); ((List.length q7 ≤ y1) → (q14 ∧ (T0 ∧ (if (@Eq Int ((↑q16 : Int)) ((2 : Int))) then (∃ y2 : Value, (∃ y3 : List Blk, ((Go.Rx.Found 1 (Value.tuple { toList := [vn, vi (0 : Int), vi (5 : Int)] }) ({ h := [q38, q31, q40, q32, q26, q36, q22], next := (7 : Nat) }) (y2) (y3)) ∧ (K y2 y3)))) else (t4 (q27 ∧ (q28 ∧ (T0 ∧ (q24 ∧ (t3 (q27 ∧ (q28 ∧ (T0 ∧ (q24 ∧ (T0 ∧ (q14 ∧ (q14 ∧ (t3 ((((0 : Int) ≤ (↑nl : Int)) ∧ (((↑nl : Int) ≤ (↑nl : Int)) ∧ ((↑nl : Int) ≤ (100000 : Int)))) ∧ (q14 ∧ (q14 ∧ (t4 (q0 ∧ (((false = false) ∧ (T0 ∧ q0)) ∧ ((q14 ∧ q13) ∧ ((((0 : Int) ≤ lF q6 (Int.toNat (0 : Int)) (0 : Nat)) ∧ (lF q6 (Int.toNat (0 : Int)) (0 : Nat) < (↑nl : Int))) ∧ (T0 ∧ ((false = false) ∧ ((Int.toNat q25 < nl) ∧ ((q9 ∧ q13) ∧ (((@Eq (Option Blk) q37 q37) ∧ ((@Eq (Option Blk) q30 q30) ∧ ((@Eq (Option Blk) q39 q39) ∧ ((@Eq (Option Blk) q29 q29) ∧ ((@Eq (Option Blk) q21 q21) ∧ ((@Eq (Option Blk) q35 q35) ∧ ((@Eq (Option Blk) q20 q20) ∧ (True)))))))) ∧ (T0 ∧ (∃ y2 : Value, (∃ y3 : List Blk, ((Go.Rx.Found 1 (Value.tuple { toList := [rsl (7 : Nat) (0 : Nat) nl nl, vi q25, vi (0 : Int)] }) ({ h := [((7 : Nat), rF (54 : Nat) nl nl (putE (cpyF (fun x x_1 ↦ (0 : Int)) (0 : Nat) (Nat.min nl nl) fl (0 : Nat)) (Int.toNat q25) [(2 : Int), Int.ofNat (0 : Nat)])), q38, q31, q40, q32, q26, q36, q22], next := (8 : Nat) }) (y2) (y3)) ∧ (K y2 y3))))))))))))))))))))))))))))))))))))))))))))))))))))))))))))))))))) else (∃ y0 : Value, (∃ y1 : List Blk, ((Go.Rx.Found 1 (Value.tuple { toList := [vn, vi (0 : Int), vi q8] }) ({ h := [q36, q22], next := (2 : Nat) }) (y0) (y1)) ∧ (K y0 y1)))))))))))))
theorem con37GT_rE (a b c d e : Int) (el nl cl : Nat) (fl : RF) (K : Value → List Blk → Prop) : con37GT_rV a b c d e el nl cl fl K = bodyX (mk X37GT) (callN (mk X37GT) 4) (con37GT_rA a b c d e el nl cl fl) Try.f37 [five' a b c d e, rsl 0 0 nl cl, .bool true] (stOf [.row true [.i64, .i64] el nl cl fl]) (Fd 1 K) := by kernel_rfl
set_option tactic.hygienic false in
theorem con37GT_rP (a b c d e : Int) (el nl cl : Nat) (fl : RF) (K : Value → List Blk → Prop)  (hI : InC a b c d e) (hnl : nl ≤ 100000) (h1 : (ckF a b c d e nl fl).2 = 0) (h2 : ¬ sel (selE fl 0) nl = []) (h3 : ¬ sel (selE fl 2) nl = []) (h4 : ¬ List.length (sel (selE fl 2) nl) = 2) (h : ∀ cp, nl ≤ cp → K (.tuple ⟨[rsl 1 0 nl cp, .int .i64 (lF (sel (selE fl 0) nl) 0 0), .int .i64 0]⟩) [.row false [.i64, .i64] 54 nl cp (putE fl (lF (sel (selE fl 0) nl) 0 0).toNat [2, 0])]) : con37GT_rV a b c d e el nl cl fl K := by
  unfold con37GT_rV
  conv => zeta
  have G : (ckF a b c d e nl fl).2 = 0 → good a b c d e ∧ ((nl : Nat) : Int) = b ∧ ∀ i, i < nl → fok a fl i := ckF_zero
  have SL0 := sel_len (p := selE fl 0) (n := nl)
  have SL2 := sel_len (p := selE fl 2) (n := nl)
  obtain ⟨i0, hi1, hi2, hi3⟩ := sel0_mem h2
  have hi4 : (lF (sel (selE fl 0) nl) 0 0).toNat = i0 := (by rw [hi2]; rfl)
  have L0 : 0 < List.length (sel (selE fl 0) nl) := List.length_pos_iff.2 h2
  repeat' (first | (with_reducible first | exact rfl | exact trivial | refine And.intro ?_ ?_ | refine br_intro (fun hq => ?_) fun hq => ?_ | refine if_both (fun hz => ?_) fun hz => ?_) | (intro) | fail)

  all_goals first
    | omega
    | assumption
    | contradiction
    | exact fin0 (by kernel_rfl) (by kernel_rfl) (by first | exact h | simpa using h)
    | (simp only [Int.toNat_zero, hi4, hi2]; first | done | omega | rfl)
    | (refine fin1t rfl ?_ (by kernel_rfl) (by kernel_rfl) (h _ (by omega)); (intro i j hi hj; have hj' : j = 0 ∨ j = 1 := (by simp at hj; omega); simp only [putE, putF, cpyF, appF, shiftF, zF, Nat.min_self, Nat.sub_zero, Nat.add_zero, Nat.zero_add, Int.toNat_natCast, Int.toNat_zero]; rcases hj' with rfl | rfl <;> (repeat' split) <;> first | rfl | omega | (simp_all; done) | (simp_all; omega)))
    | (exfalso; simp at hq; omega)
theorem con37GT_ok : BodyOk (mk X37GT) 4 Try.f37 con37GT := by
  intro vs bs K hh hro
  clear hro
  unfold con37GT at hh
  split at hh
  · rename_i u vl
    obtain ⟨a, b, c, d, e, rfl, hI, hh0⟩ := five_inv hh
    obtain ⟨el, nl, cl, fl, btl, rfl, hnl, rfl, hh1⟩ := parseR_inv hh0
    obtain ⟨rfl, ⟨h1, h2, h3, h4⟩, hc⟩ := hh1
    exact ⟨_, _, cast (con37GT_rE a b c d e el nl cl fl  K) (con37GT_rP a b c d e el nl cl fl  K hI hnl h1 h2 h3 h4 hc)⟩
  · exact hh.elim
theorem con37GT_told : Told 37 (specOf con37GT) := told (X := X37GT) X37GT_told (by kernel_rfl) (by kernel_rfl) (by kernel_rfl) con37GT_ok
def con37HT_rV (a b c d e : Int) (el nl cl : Nat) (fl : RF) (K : Value → List Blk → Prop) : Prop := let q0 := ((0 : Nat) + nl ≤ nl); let q1 := (nl ≤ (100000 : Nat)); let q2 := ((1 : Nat) ≤ (1 : Nat)); let q3 := eB; let q4 := (List.length [IntKind.i64]); let q5 := ((1 : Nat) ≤ (100000 : Nat)); let q6 := (sel (selE fl (0 : Int)) nl); let q7 := (Prod.snd (ckF a b c d e nl fl)); let q8 := (@Eq Nat ((0 : Nat)) ((0 : Nat))); let q9 := (@Eq Nat ((1 : Nat)) ((1 : Nat))); let q10 := (lF q6); let q11 := (@Eq Nat ((2 : Nat)) ((2 : Nat))); let q12 := TS; let q13 := (List.length q6); let q14 := (↑q13 : Int); let q15 := (litF q4 ([(0 : Int)] ++ [])); let q16 := (litF q4 ([(2 : Int)] ++ [])); let q17 := (some (rT el nl cl fl)); let q18 := (some (Blk.cells [vi (2 : Int)] (3 : Nat))); let q19 := ((0 : Nat), rT el nl cl fl); let q20 := (q3 ∧ q9); let q21 := (Int.toNat (0 : Int) < List.length q6); let q22 := (lF q6 (Int.toNat (0 : Int)) (0 : Nat)); let q23 := ((2 : Nat), Blk.cells [vi (2 : Int)] (3 : Nat)); let q24 := (q12 ∧ q9); let q25 := (((0 : Int) ≤ (0 : Int)) ∧ ((0 : Int) < q14)); let q26 := (some (Blk.row false [IntKind.i64] (3 : Nat) (1 : Nat) (1 : Nat) q15)); let q27 := (some (Blk.row false [IntKind.i64] (3 : Nat) (1 : Nat) (1 : Nat) q16)); let q28 := ((3 : Nat), Blk.row false [IntKind.i64] (3 : Nat) (1 : Nat) (1 : Nat) q15); let q29 := (eK ∧ ((@Eq Nat (nl) (nl)) ∧ (@Eq Nat (cl) (cl)))); let q30 := ((@Eq (List IntKind) ([IntKind.i64]) ([IntKind.i64])) ∧ (q9 ∧ q9)); let q31 := (some (Blk.cells [vi a, vi b, vi c, vi d, vi e] (23 : Nat))); let q32 := ((1 : Nat), Blk.cells [vi a, vi b, vi c, vi d, vi e] (23 : Nat)); (t3 (q0 ∧ ((InC a b c d e) ∧ (q8 ∧ (q1 ∧ (q29 ∧ (q3 ∧ (T0 ∧ (if (@Eq Int q7 ((0 : Int))) then (t4 (q12 ∧ (t4 (q0 ∧ (q2 ∧ (q8 ∧ (q1 ∧ (q29 ∧ (q9 ∧ (q5 ∧ (q30 ∧ (q20 ∧ ((¬sel (selE fl (0 : Int)) nl = []) ∧ (∀ y0 : Nat, let q33 := (some (Blk.row false [IntKind.i64] (3 : Nat) q13 y0 q10)); let q34 := ((4 : Nat), Blk.row false [IntKind.i64] (3 : Nat) q13 y0 q10); ((List.length q6 ≤ y0) → (q12 ∧ (T0 ∧ (if (@Eq Int (q14) ((0 : Int))) then (∃ y1 : Value, (∃ y2 : List Blk, ((Go.Rx.Found 1 (Value.tuple { toList := [vn, vi (0 : Int), vi (5 : Int)] }) ({ h := [q34, q28, q23, q32, q19], next := (5 : Nat) }) (y1) (y2)) ∧ (K y1 y2)))) else (q12 ∧ (t4 (q0 ∧ (q2 ∧ (q8 ∧ (q1 ∧ (q29 ∧ (q9 ∧ (q5 ∧ (q30 ∧ (q20 ∧ ((sel (selE fl (2 : Int)) nl = []) ∧ (q12 ∧ (t5 (q24 ∧ (q25 ∧ (T0 ∧ (q21 ∧ (t3 (q24 ∧ (q25 ∧ (T0 ∧ (q21 ∧ (T0 ∧ (q12 ∧ (q12 ∧ (t3 ((((0 : Int) ≤ (↑nl : Int)) ∧ (((↑nl : Int) ≤ (↑nl : Int)) ∧ ((↑nl : Int) ≤ (100000 : Int)))) ∧ (q12 ∧ (q12 ∧ (t4 (q0 ∧ (((false = false) ∧ (T0 ∧ q0)) ∧ ((q12 ∧ q11) ∧ ((((0 : Int) ≤ lF q6 (Int.toNat (0 : Int)) (0 : Nat)) ∧ (lF q6 (Int.toNat (0 : Int)) (0 : Nat) < (↑nl : Int))) ∧ (T0 ∧ ((false = false) ∧ ((Int.toNat q22 < nl) ∧ ((q8 ∧ q11) ∧ (((@Eq (Option Blk) q27 q27) ∧ ((@Eq (Option Blk) q33 q33) ∧ ((@Eq (Option Blk) q26 q26) ∧ ((@Eq (Option Blk) q18 q18) ∧ ((@Eq (Option Blk) q31 q31) ∧ ((@Eq (Option Blk) q17 q17) ∧ (True))))))) ∧ (T0 ∧ (∃ y1 : Value, (∃ y2 : List Blk, ((Go.Rx.Found 1 (Value.tuple { toList := [rsl (6 : Nat) (0 : Nat) nl nl, vi q22, vi (0 : Int)] }) ({ h := [((6 : Nat), rF (54 : Nat) nl nl (putE (cpyF (fun x x_1 ↦ (0 : Int)) (0 : Nat) (Nat.min nl nl) fl (0 : Nat)) (Int.toNat q22) [(2 : Int), Int.ofNat (0 : Nat)])), ((5 : Nat), Blk.row false [IntKind.i64] (3 : Nat) (1 : Nat) (1 : Nat) q16), q34, q28, q23, q32, q19], next := (7 : Nat) }) (y1) (y2)) ∧ (K y1 y2))))))))))))))))))))))))))))))))))))))))))))))))))))))))))))))) else (∃ y0 : Value, (∃ y1 : List Blk, ((Go.Rx.Found 1 (Value.tuple { toList := [vn, vi (0 : Int), vi q7] }) ({ h := [q32, q19], next := (2 : Nat) }) (y0) (y1)) ∧ (K y0 y1)))))))))))))
theorem con37HT_rE (a b c d e : Int) (el nl cl : Nat) (fl : RF) (K : Value → List Blk → Prop) : con37HT_rV a b c d e el nl cl fl K = bodyX (mk X37HT) (callN (mk X37HT) 4) (con37HT_rA a b c d e el nl cl fl) Try.f37 [five' a b c d e, rsl 0 0 nl cl, .bool true] (stOf [.row true [.i64, .i64] el nl cl fl]) (Fd 1 K) := by kernel_rfl
set_option tactic.hygienic false in
theorem con37HT_rP (a b c d e : Int) (el nl cl : Nat) (fl : RF) (K : Value → List Blk → Prop)  (hI : InC a b c d e) (hnl : nl ≤ 100000) (h1 : (ckF a b c d e nl fl).2 = 0) (h2 : ¬ sel (selE fl 0) nl = []) (h3 : sel (selE fl 2) nl = []) (h : ∀ cp, nl ≤ cp → K (.tuple ⟨[rsl 1 0 nl cp, .int .i64 (lF (sel (selE fl 0) nl) 0 0), .int .i64 0]⟩) [.row false [.i64, .i64] 54 nl cp (putE fl (lF (sel (selE fl 0) nl) 0 0).toNat [2, 0])]) : con37HT_rV a b c d e el nl cl fl K := by
  unfold con37HT_rV
  conv => zeta
  have G : (ckF a b c d e nl fl).2 = 0 → good a b c d e ∧ ((nl : Nat) : Int) = b ∧ ∀ i, i < nl → fok a fl i := ckF_zero
  have SL0 := sel_len (p := selE fl 0) (n := nl)
  have SL2 := sel_len (p := selE fl 2) (n := nl)
  obtain ⟨i0, hi1, hi2, hi3⟩ := sel0_mem h2
  have hi4 : (lF (sel (selE fl 0) nl) 0 0).toNat = i0 := (by rw [hi2]; rfl)
  have L0 : 0 < List.length (sel (selE fl 0) nl) := List.length_pos_iff.2 h2
  repeat' (first | (with_reducible first | exact rfl | exact trivial | refine And.intro ?_ ?_ | refine br_intro (fun hq => ?_) fun hq => ?_ | refine if_both (fun hz => ?_) fun hz => ?_) | (intro) | fail)

  all_goals first
    | omega
    | assumption
    | contradiction
    | exact fin0 (by kernel_rfl) (by kernel_rfl) (by first | exact h | simpa using h)
    | (simp only [Int.toNat_zero, hi4, hi2]; first | done | omega | rfl)
    | (refine fin1t rfl ?_ (by kernel_rfl) (by kernel_rfl) (h _ (by omega)); (intro i j hi hj; have hj' : j = 0 ∨ j = 1 := (by simp at hj; omega); simp only [putE, putF, cpyF, appF, shiftF, zF, Nat.min_self, Nat.sub_zero, Nat.add_zero, Nat.zero_add, Int.toNat_natCast, Int.toNat_zero]; rcases hj' with rfl | rfl <;> (repeat' split) <;> first | rfl | omega | (simp_all; done) | (simp_all; omega)))
    | (exfalso; simp at hq; omega)
theorem con37HT_ok : BodyOk (mk X37HT) 4 Try.f37 con37HT := by
  intro vs bs K hh hro
  clear hro
  unfold con37HT at hh
  split at hh
  · rename_i u vl
    obtain ⟨a, b, c, d, e, rfl, hI, hh0⟩ := five_inv hh
    obtain ⟨el, nl, cl, fl, btl, rfl, hnl, rfl, hh1⟩ := parseR_inv hh0
    obtain ⟨rfl, ⟨h1, h2, h3⟩, hc⟩ := hh1
    exact ⟨_, _, cast (con37HT_rE a b c d e el nl cl fl  K) (con37HT_rP a b c d e el nl cl fl  K hI hnl h1 h2 h3 hc)⟩
  · exact hh.elim
theorem con37HT_told : Told 37 (specOf con37HT) := told (X := X37HT) X37HT_told (by kernel_rfl) (by kernel_rfl) (by kernel_rfl) con37HT_ok
end Go.Proofs.Ytkflmglpniebfaa.Fr
namespace Go.Proofs.Ytkflmglpniebfaa.Fr
set_option maxRecDepth 100000
set_option maxHeartbeats 4000000
open Go.Rx
open Go.RowKit (Below)
set_option linter.unusedVariables false
theorem locA_or {s : Rx.St} {c c1 c2 : List Value → List Blk → Prop} (h : ∀ us bs, c us bs → c1 us bs ∨ c2 us bs) : ∀ (args : List Value) (k : Nat), locA s k args c → locA s k args c1 ∨ locA s k args c2 := by
  intro args
  induction args generalizing c c1 c2 with
  | nil => exact fun k hc => h _ _ hc
  | cons v vs ih =>
    intro k hc
    unfold locA at hc ⊢
    split at hc
    · obtain ⟨o, ho, hc⟩ := kO_some hc
      show kO (Rx.look s.h _) _ ∨ kO (Rx.look s.h _) _
      rw [ho]
      cases o with
      | cells cs e => exact hc.elim
      | row ro ks e n q f => exact (ih (fun us bs => h _ _) _ hc.2).imp (fun x => ⟨hc.1, x⟩) fun x => ⟨hc.1, x⟩
    · rename_i hne
      exact (ih (fun us bs => h _ _) _ hc.2).imp (fun x => ⟨hc.1, x⟩) fun x => ⟨hc.1, x⟩
theorem Told.or {f : Nat} {c1 c2 c : Con} (h1 : Told f (specOf c1)) (h2 : Told f (specOf c2)) (h : ∀ vs bs K, c vs bs K → c1 vs bs K ∨ c2 vs bs K) : Told f (specOf c) :=
  ⟨h1.1, fun args s K hk => (locA_or (fun us bs => h us bs _) args 0 hk).elim (fun x => h1.2 args s K x) fun x => h2.2 args s K x⟩
theorem pc_len {f : RF} : ∀ n : Nat, pc f n = (List.length (sel (selE f 2) n) : Int)
  | 0 => rfl
  | n + 1 => by
    have ih := pc_len (f := f) n
    by_cases h : f n 0 = 2
    · rw [sel_yes (selE_yes h), List.length_append]
      simp only [pc, if_pos h, ih, List.length_singleton]
      omega
    · rw [sel_no (selE_no h)]
      simp only [pc, if_neg h, ih]
theorem pc_mono {f : RF} (k : Nat) : ∀ l : Nat, pc f k ≤ pc f (k + l)
  | 0 => by simp
  | l + 1 => by
    have := pc_mono (f := f) k l
    show _ ≤ pc f ((k + l) + 1)
    simp only [pc]
    split <;> omega
theorem ck_of (a : Int) (f : RF) : ∀ (l k : Nat), (∀ i, k ≤ i → i < k + l → fok a f i) → pc f (k + l) ≤ 2 → ck a f l k = (0, 0)
  | 0, k, _, _ => rfl
  | l + 1, k, h, hp => by
    have h0 := h k (by omega) (by omega)
    unfold fok at h0
    have hm := pc_mono (f := f) (k + 1) l
    rw [show k + 1 + l = k + (l + 1) by omega] at hm
    have h1 : pc f (k + 1) = if f k 0 = 2 then pc f k + 1 else pc f k := rfl
    unfold ck
    rw [if_neg (by omega), if_neg (by omega), if_neg (by split at h1 <;> omega)]
    exact ck_of a f l (k + 1) (fun i h2 h3 => h i (by omega) (by omega)) (by rw [show k + 1 + l = k + (l + 1) by omega]; exact hp)
theorem ck_pc (a : Int) (f : RF) : ∀ (l k : Nat), (ck a f l k).2 = 0 → pc f k ≤ 2 → pc f (k + l) ≤ 2
  | 0, k, _, hp => hp
  | l + 1, k, h, hp => by
    unfold ck at h
    have h1 : pc f (k + 1) = if f k 0 = 2 then pc f k + 1 else pc f k := rfl
    split at h
    · cases h
    · split at h
      · cases h
      · split at h
        · cases h
        · have := ck_pc a f l (k + 1) h (by split at h1 <;> omega)
          rw [show k + (l + 1) = k + 1 + l by omega]
          exact this
theorem ckF_of {a b c d e : Int} {n : Nat} {f : RF} (h : good a b c d e) (hn : (n : Int) = b) (hf : ∀ i, i < n → fok a f i) (hp : pc f n ≤ 2) : (ckF a b c d e n f).2 = 0 := by
  rw [ckF_go (if_pos h) hn, ck_of a f n 0 (fun i _ hi => hf i (by omega)) (by simpa using hp)]
theorem ckF_pc {a b c d e : Int} {n : Nat} {f : RF} (h : (ckF a b c d e n f).2 = 0) : pc f n ≤ 2 := by
  obtain ⟨h1, h2, -⟩ := ckF_zero h
  rw [ckF_go (if_pos h1) h2] at h
  have := ck_pc a f n 0 h (by simp [pc])
  simpa using this
/-- The least one comes first. -/
theorem sel_head {p : Nat → Bool} : ∀ {n : Nat}, ¬ sel p n = [] → ∃ i, i < n ∧ p i = true ∧ sel p n = (i : Int) :: sel (fun j => p j && !decide (j = i)) n
  | 0, h => by simp [sel] at h
  | n + 1, h => by
    by_cases h0 : sel p n = []
    · by_cases hp : p n = true
      · have none : ∀ k, k ≤ n → sel (fun j => p j && !decide (j = n)) k = [] := fun k hk => by
          have hz : ∀ k, k ≤ n → sel p k = [] := fun k hk => by
            have : ∀ d k, k + d = n → sel p k = [] := fun d => by
              induction d with
              | zero => intro k hk; rw [show k = n by omega]; exact h0
              | succ d ih =>
                intro k hk
                have := ih (k + 1) (by omega)
                by_cases hq : p k = true
                · rw [sel_yes hq] at this; simp at this
                · rwa [sel_no hq] at this
            exact this (n - k) k (by omega)
          induction k with
          | zero => rfl
          | succ k ih =>
            have hk1 := hz (k + 1) hk
            have hq : ¬ p k = true := fun hq => by rw [sel_yes hq] at hk1; simp at hk1
            rw [sel_no (by simp [hq])]
            exact ih (by omega)
        refine ⟨n, by omega, hp, ?_⟩
        rw [sel_yes hp, h0, sel_no (by simp), none n (Nat.le_refl _)]
        rfl
      · rw [sel_no hp] at h
        exact absurd h0 h
    · obtain ⟨i, h1, h2, h3⟩ := sel_head h0
      refine ⟨i, by omega, h2, ?_⟩
      by_cases hp : p n = true
      · rw [sel_yes hp, sel_yes (by simp [hp]; omega), h3]
        rfl
      · rw [sel_no hp, sel_no (by simp [hp])]
        exact h3
theorem sel_congr {p q : Nat → Bool} : ∀ {n : Nat}, (∀ i, i < n → p i = q i) → sel p n = sel q n
  | 0, _ => rfl
  | n + 1, h => by
    have ih := sel_congr (n := n) fun i hi => h i (by omega)
    simp only [sel]
    rw [ih, h n (by omega)]
theorem lF_zero {x : Int} {l : List Int} {j : Nat} : lF (x :: l) 0 j = x := by simp [lF]
/-- A free car is taken. -/
structure Taken (a b c d e : Int) (n : Nat) (f : RF) (st : Int) (i : Nat) (g : RF) : Prop where
  lt : i < n
  at0 : f i 0 = 0
  at1 : f i 1 = 0
  first : lF (sel (selE f 0) n) 0 0 = (i : Int)
  now0 : g i 0 = st
  now1 : g i 1 = 0
  free : sel (selE f 0) n = (i : Int) :: sel (selE g 0) n
  some : List.length (sel (selE g 2) n) = List.length (sel (selE f 2) n) + (if st = 2 then 1 else 0)
  ok : (ckF a b c d e n g).2 = 0
  ask : askF a b c d e n g (i : Int) = 0
  rest : ∀ j, j ≠ i → ∀ q, g j q = f j q
theorem taken {a b c d e : Int} {n : Nat} {f : RF} (h : (ckF a b c d e n f).2 = 0) (h0 : ¬ sel (selE f 0) n = []) {st : Int} (hst : st = 1 ∨ (st = 2 ∧ ¬ List.length (sel (selE f 2) n) = 2)) : ∃ i : Nat, Taken a b c d e n f st i (putE f (lF (sel (selE f 0) n) 0 0).toNat [st, 0]) := by
  obtain ⟨i, h1, h2, h3⟩ := sel_head h0
  have e0 : f i 0 = 0 := of_decide_eq_true h2
  obtain ⟨g1, g2, g3⟩ := ckF_zero h
  have gi := g3 i h1
  unfold fok at gi
  have hf : lF (sel (selE f 0) n) 0 0 = (i : Int) := by rw [h3]; exact lF_zero
  have hi : (lF (sel (selE f 0) n) 0 0).toNat = i := by rw [hf]; rfl
  rw [hi]
  have p0 : ∀ j q, putE f i [st, 0] j q = if j = i then ([st, 0][q]?).getD 0 else f j q := fun j q => rfl
  have hsome : ∀ m, pc (putE f i [st, 0]) m = pc f m + (if i < m ∧ st = 2 then 1 else 0) := fun m => by
    induction m with
    | zero => simp [pc]
    | succ m ih =>
      simp only [pc, ih, p0]
      by_cases hm : m = i
      · subst hm
        simp [e0]
        (repeat' split) <;> first | rfl | omega
      · simp only [if_neg hm]
        by_cases h2 : f m 0 = 2
        · simp only [if_pos h2]
          (repeat' split) <;> first | rfl | omega
        · simp only [if_neg h2]
          (repeat' split) <;> first | rfl | omega
  have hsn := hsome n
  have hl1 := pc_len (f := f) n
  have hl2 := pc_len (f := putE f i [st, 0]) n
  have hpc := ckF_pc h
  have ok : (ckF a b c d e n (putE f i [st, 0])).2 = 0 := by
    refine ckF_of g1 g2 (fun j hj => ?_) ?_
    · have gj := g3 j hj
      unfold fok at gj ⊢
      simp only [p0]
      by_cases hm : j = i
      · simp [hm]; omega
      · simp only [if_neg hm]; exact gj
    · rw [hsn]; split <;> omega
  refine ⟨i, h1, e0, gi.2.2.1 e0, hf, by simp [putE], by simp [putE], ?_, ?_, ok, ?_, fun j hj q => by rw [p0, if_neg hj]⟩
  · rw [h3]
    congr 1
    refine sel_congr fun j hj => ?_
    unfold selE
    simp only [p0]
    by_cases hm : j = i
    · simp [hm, e0]; omega
    · simp [hm]
  · have : ((List.length (sel (selE (putE f i [st, 0]) 2) n) : Nat) : Int) = List.length (sel (selE f 2) n) + (if st = 2 then 1 else 0) := by
      rw [← hl2, hsn, hl1]
      simp [h1]
    split at this <;> simp_all <;> omega
  · unfold askF
    rw [if_pos ok, if_neg (by omega)]
theorem parseR_mono {ks : List IntKind} {j : Nat} {v : Value} {bs : List Blk} {k k' : Nat → RF → Nat → List Blk → Prop} (h : ∀ n f j bs, k' n f j bs → k n f j bs) (x : parseR ks j v bs k') : parseR ks j v bs k := by
  obtain ⟨e, n, c, f, bs', rfl, hn, rfl, h'⟩ := parseR_inv x
  exact ⟨rfl, hn, ⟨rfl, rfl, rfl⟩, h _ _ _ _ h'⟩
def con37GFa : Con := fun vs bs K => match vs with
  | [u, v, .bool false] => five u fun a b c d e => parseR [.i64, .i64] 0 v bs fun n f j bs => bs = [] ∧ ((ckF a b c d e n f).2 = 0 ∧ ¬ sel (selE f 0) n = []) ∧ ∀ (i : Nat) (g : RF), Taken a b c d e n f 1 i g → ∀ cp, n ≤ cp → K (.tuple ⟨[rsl j 0 n cp, .int .i64 (i : Int), .int .i64 0]⟩) [.row false [.i64, .i64] 54 n cp g]
  | _ => False
theorem con37GFa_told : Told 37 (specOf con37GFa) := con37GF_told.mono fun vs bs K x => by
  unfold con37GFa at x
  unfold con37GF
  split at x
  · refine five_mono (fun a b c d e => parseR_mono fun n f j bs y => ?_) x
    obtain ⟨y1, y2, y4⟩ := y
    refine ⟨y1, y2, fun cp hcp => ?_⟩
    obtain ⟨i, T⟩ := taken y2.1 (by first | exact y2.2 | exact y2.2.1) (st := 1) (.inl rfl)
    have := y4 i _ T cp hcp
    rw [← T.first] at this
    exact this
  · exact x.elim
def con37GTa : Con := fun vs bs K => match vs with
  | [u, v, .bool true] => five u fun a b c d e => parseR [.i64, .i64] 0 v bs fun n f j bs => bs = [] ∧ ((ckF a b c d e n f).2 = 0 ∧ ¬ sel (selE f 0) n = [] ∧ ¬ sel (selE f 2) n = [] ∧ ¬ List.length (sel (selE f 2) n) = 2) ∧ ∀ (i : Nat) (g : RF), Taken a b c d e n f 2 i g → ∀ cp, n ≤ cp → K (.tuple ⟨[rsl j 0 n cp, .int .i64 (i : Int), .int .i64 0]⟩) [.row false [.i64, .i64] 54 n cp g]
  | _ => False
theorem con37GTa_told : Told 37 (specOf con37GTa) := con37GT_told.mono fun vs bs K x => by
  unfold con37GTa at x
  unfold con37GT
  split at x
  · refine five_mono (fun a b c d e => parseR_mono fun n f j bs y => ?_) x
    obtain ⟨y1, y2, y4⟩ := y
    refine ⟨y1, y2, fun cp hcp => ?_⟩
    obtain ⟨i, T⟩ := taken y2.1 (by first | exact y2.2 | exact y2.2.1) (st := 2) (.inr ⟨rfl, y2.2.2.2⟩)
    have := y4 i _ T cp hcp
    rw [← T.first] at this
    exact this
  · exact x.elim
def con37HTa : Con := fun vs bs K => match vs with
  | [u, v, .bool true] => five u fun a b c d e => parseR [.i64, .i64] 0 v bs fun n f j bs => bs = [] ∧ ((ckF a b c d e n f).2 = 0 ∧ ¬ sel (selE f 0) n = [] ∧ sel (selE f 2) n = []) ∧ ∀ (i : Nat) (g : RF), Taken a b c d e n f 2 i g → ∀ cp, n ≤ cp → K (.tuple ⟨[rsl j 0 n cp, .int .i64 (i : Int), .int .i64 0]⟩) [.row false [.i64, .i64] 54 n cp g]
  | _ => False
theorem con37HTa_told : Told 37 (specOf con37HTa) := con37HT_told.mono fun vs bs K x => by
  unfold con37HTa at x
  unfold con37HT
  split at x
  · refine five_mono (fun a b c d e => parseR_mono fun n f j bs y => ?_) x
    obtain ⟨y1, y2, y4⟩ := y
    refine ⟨y1, y2, fun cp hcp => ?_⟩
    obtain ⟨i, T⟩ := taken y2.1 (by first | exact y2.2 | exact y2.2.1) (st := 2) (.inr ⟨rfl, by rw [y2.2.2]; simp⟩)
    have := y4 i _ T cp hcp
    rw [← T.first] at this
    exact this
  · exact x.elim

end Go.Proofs.Ytkflmglpniebfaa.Fr
