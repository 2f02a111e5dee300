/-
  Frames: equality of rows. No project text.
-/
import Derived.Test.YtkflmglpniebfaaFr0
namespace Go.Proofs.Ytkflmglpniebfaa.Fr
open Go.Rx
open Go.RowKit (Below)
set_option linter.unusedVariables false
def conInts : Con := fun vs bs K => match vs with
  | [u, v] => parse [.i64] 0 u bs fun n f j bs => parse [.i64] j v bs fun m g _ bs => bs = [] ∧ ∀ b, (b = true ↔ n = m ∧ ∀ i, i < n → f i 0 = g i 0) → K (.bool b) []
  | _ => False

def conInts_nnA  : Ann := fun k => bif Nat.beq k 4 then some [{ α := Nat, T := fun k => ⟨26, [(0, .slice none 0 0), (1, .slice none 0 0), (5, .int .i64 (k : Int))]⟩, S := fun _ => ⟨[], 0⟩, I := fun k => k ≤ 0 ∧ ∀ i, i < k → (zF i 0 = zF i 0), m := fun k => 0 - k, ρ0 := [], ρ1 := [[]] }] else none
def conInts_nrA (eb nb cb : Nat) (fb : RF) : Ann := fun k => bif Nat.beq k 4 then some [{ α := Nat, T := fun k => ⟨26, [(0, .slice none 0 0), (1, rsl 0 0 nb cb), (5, .int .i64 (k : Int))]⟩, S := fun _ => ⟨[(0, .row true [.i64] eb nb cb fb)], 1⟩, I := fun k => k ≤ 0 ∧ ∀ i, i < k → (zF i 0 = fb i 0), m := fun k => 0 - k, ρ0 := [], ρ1 := [[]] }] else none
def conInts_rnA (ea na ca : Nat) (fa : RF) : Ann := fun k => bif Nat.beq k 4 then some [{ α := Nat, T := fun k => ⟨26, [(0, rsl 0 0 na ca), (1, .slice none 0 0), (5, .int .i64 (k : Int))]⟩, S := fun _ => ⟨[(0, .row true [.i64] ea na ca fa)], 1⟩, I := fun k => k ≤ na ∧ ∀ i, i < k → (fa i 0 = zF i 0), m := fun k => na - k, ρ0 := [], ρ1 := [[]] }] else none
def conInts_rrA (ea na ca : Nat) (fa : RF) (eb nb cb : Nat) (fb : RF) : Ann := fun k => bif Nat.beq k 4 then some [{ α := Nat, T := fun k => ⟨26, [(0, rsl 0 0 na ca), (1, rsl 1 0 nb cb), (5, .int .i64 (k : Int))]⟩, S := fun _ => ⟨[(0, .row true [.i64] ea na ca fa), (1, .row true [.i64] eb nb cb fb)], 2⟩, I := fun k => k ≤ na ∧ ∀ i, i < k → (fa i 0 = fb i 0), m := fun k => na - k, ρ0 := [], ρ1 := [[]] }] else none
def conSame : Con := fun vs bs K => match vs with
  | [u, v] => parse [.i64, .i64] 0 u bs fun n f j bs => parse [.i64, .i64] j v bs fun m g _ bs => bs = [] ∧ ∀ b, (b = true ↔ n = m ∧ ∀ i, i < n → f i 0 = g i 0 ∧ f i 1 = g i 1) → K (.bool b) []
  | _ => False

def conSame_nnA  : Ann := fun k => bif Nat.beq k 4 then some [{ α := Nat, T := fun k => ⟨26, [(0, .slice none 0 0), (1, .slice none 0 0), (5, .int .i64 (k : Int))]⟩, S := fun _ => ⟨[], 0⟩, I := fun k => k ≤ 0 ∧ ∀ i, i < k → (zF i 0 = zF i 0 ∧ zF i 1 = zF i 1), m := fun k => 0 - k, ρ0 := [], ρ1 := [[]] }] else none
def conSame_nrA (eb nb cb : Nat) (fb : RF) : Ann := fun k => bif Nat.beq k 4 then some [{ α := Nat, T := fun k => ⟨26, [(0, .slice none 0 0), (1, rsl 0 0 nb cb), (5, .int .i64 (k : Int))]⟩, S := fun _ => ⟨[(0, .row true [.i64, .i64] eb nb cb fb)], 1⟩, I := fun k => k ≤ 0 ∧ ∀ i, i < k → (zF i 0 = fb i 0 ∧ zF i 1 = fb i 1), m := fun k => 0 - k, ρ0 := [], ρ1 := [[]] }] else none
def conSame_rnA (ea na ca : Nat) (fa : RF) : Ann := fun k => bif Nat.beq k 4 then some [{ α := Nat, T := fun k => ⟨26, [(0, rsl 0 0 na ca), (1, .slice none 0 0), (5, .int .i64 (k : Int))]⟩, S := fun _ => ⟨[(0, .row true [.i64, .i64] ea na ca fa)], 1⟩, I := fun k => k ≤ na ∧ ∀ i, i < k → (fa i 0 = zF i 0 ∧ fa i 1 = zF i 1), m := fun k => na - k, ρ0 := [], ρ1 := [[]] }] else none
def conSame_rrA (ea na ca : Nat) (fa : RF) (eb nb cb : Nat) (fb : RF) : Ann := fun k => bif Nat.beq k 4 then some [{ α := Nat, T := fun k => ⟨26, [(0, rsl 0 0 na ca), (1, rsl 1 0 nb cb), (5, .int .i64 (k : Int))]⟩, S := fun _ => ⟨[(0, .row true [.i64, .i64] ea na ca fa), (1, .row true [.i64, .i64] eb nb cb fb)], 2⟩, I := fun k => k ≤ na ∧ ∀ i, i < k → (fa i 0 = fb i 0 ∧ fa i 1 = fb i 1), m := fun k => na - k, ρ0 := [], ρ1 := [[]] }] else none
def conInts_nnV  (K : Value → List Blk → Prop) : Prop := (T0 ∧ (TS ∧ (TS ∧ (T0 ∧ ((∃ y0 : Nat, ((Go.Rx.Sub 0 [] ⟨26, [(5, vi 0), (0, vn), (1, vn)]⟩ ⟨[], 0⟩ ({ n := 26, m := [(0, vn), (1, vn), (5, vi (↑y0 : Int))] }) ({ h := [], next := 0 })) ∧ ((y0 ≤ 0) ∧ (∀ y1 : Nat, ((y1 < y0) → (@Eq Int (zF y1 0) (zF y1 0))))))) ∧ (∀ y0 : Nat, (((y0 ≤ 0) ∧ (∀ y1 : Nat, ((y1 < y0) → (@Eq Int (zF y1 0) (zF y1 0))))) → (TS ∧ (T0 ∧ (∃ y1 : Value, (∃ y2 : List Blk, ((Go.Rx.Found 0 (Value.bool true) ({ h := [], next := 0 }) (y1) (y2)) ∧ (K y1 y2)))))))))))))
theorem conInts_nnE  (K : Value → List Blk → Prop) : conInts_nnV  K = bodyX (mk []) (callN (mk []) 3) (conInts_nnA ) Try.f28 [.slice none 0 0, .slice none 0 0] (stOf []) fun v s' => ∃ v1 news, Rx.Found 0 v s' v1 news ∧ K v1 news := by kernel_rfl
set_option maxHeartbeats 4000000 in
set_option tactic.hygienic false in
theorem conInts_nnP  (K : Value → List Blk → Prop)  (h : ∀ b, (b = true ↔ 0 = 0 ∧ ∀ i, i < 0 → (zF i 0 = zF i 0)) → K (.bool b) []) : conInts_nnV  K := by
  unfold conInts_nnV
  repeat' (first | (with_reducible exact rfl) | (with_reducible exact trivial) | (with_reducible refine And.intro ?_ ?_) | (intro) | (with_reducible refine br_intro (fun hq => ?_) (fun hq => ?_)) | (with_reducible refine if_both (fun hz => ?_) (fun hz => ?_)) | fail)
  all_goals first
    | omega
    | assumption
    | exact ⟨0, (by (refine And.intro (And.intro rfl (And.intro rfl (And.intro rfl rfl))) ?_; repeat' (first | exact trivial | exact rfl | exact fun _ _ _ _ => rfl | refine And.intro ?_ ?_ | omega | fail))), by omega, fun i hi => by omega⟩
    | (refine ⟨y0 + 1, (by (refine And.intro (And.intro rfl (And.intro rfl (And.intro rfl rfl))) ?_; repeat' (first | exact trivial | exact rfl | exact fun _ _ _ _ => rfl | refine And.intro ?_ ?_ | omega | fail))), ⟨by omega, fun i hi => ?_⟩, by omega⟩
       rcases Nat.lt_or_ge i y0 with q | q
       · exact ‹y0 ≤ 0 ∧ ∀ i : Nat, i < y0 → (zF i 0 = zF i 0)›.2 i q
       · obtain rfl : i = y0 := by omega
         assumption)
    | exact fin0 (by kernel_rfl) (by kernel_rfl) (h true ⟨fun _ => ⟨by omega, fun i hi => ‹y0 ≤ 0 ∧ ∀ i : Nat, i < y0 → (zF i 0 = zF i 0)›.2 i (by omega)⟩, fun _ => rfl⟩)
    | exact fin0 (by kernel_rfl) (by kernel_rfl) (h false ⟨fun e => (by cases e), fun e => (by have := e.2 y0 (by omega); omega)⟩)
    | exact fin0 (by kernel_rfl) (by kernel_rfl) (h false ⟨fun e => (by cases e), fun e => (by omega)⟩)
    | exact fin0 (by kernel_rfl) (by kernel_rfl) (h false ⟨fun e => (by cases e), fun e => absurd (e.2 y0 (by omega)) (show ¬ eqL [zF y0 0, zF y0 1] [zF y0 0, zF y0 1] by assumption)⟩)
def conInts_nrV (eb nb cb : Nat) (fb : RF) (K : Value → List Blk → Prop) : Prop := (T0 ∧ (TS ∧ (TS ∧ (T0 ∧ (if (@Eq Int (0) ((↑nb : Int))) then ((∃ y0 : Nat, ((Go.Rx.Sub 1 [] ⟨26, [(5, vi 0), (0, vn), (1, rsl 0 0 nb cb)]⟩ ⟨[(0, Blk.row true [IntKind.i64] eb nb cb fb)], 1⟩ ({ n := 26, m := [(0, vn), (1, rsl 0 0 nb cb), (5, vi (↑y0 : Int))] }) ({ h := [(0, Blk.row true [IntKind.i64] eb nb cb fb)], next := 1 })) ∧ ((y0 ≤ 0) ∧ (∀ y1 : Nat, ((y1 < y0) → (@Eq Int (zF y1 0) (fb y1 0))))))) ∧ (∀ y0 : Nat, (((y0 ≤ 0) ∧ (∀ y1 : Nat, ((y1 < y0) → (@Eq Int (zF y1 0) (fb y1 0))))) → (TS ∧ (T0 ∧ (∃ y1 : Value, (∃ y2 : List Blk, ((Go.Rx.Found 1 (Value.bool true) ({ h := [(0, Blk.row true [IntKind.i64] eb nb cb fb)], next := 1 }) (y1) (y2)) ∧ (K y1 y2))))))))) else (∃ y0 : Value, (∃ y1 : List Blk, ((Go.Rx.Found 1 (Value.bool false) ({ h := [(0, Blk.row true [IntKind.i64] eb nb cb fb)], next := 1 }) (y0) (y1)) ∧ (K y0 y1)))))))))
theorem conInts_nrE (eb nb cb : Nat) (fb : RF) (K : Value → List Blk → Prop) : conInts_nrV eb nb cb fb K = bodyX (mk []) (callN (mk []) 3) (conInts_nrA eb nb cb fb) Try.f28 [.slice none 0 0, rsl 0 0 nb cb] (stOf [.row true [.i64] eb nb cb fb]) fun v s' => ∃ v1 news, Rx.Found 1 v s' v1 news ∧ K v1 news := by kernel_rfl
set_option maxHeartbeats 4000000 in
set_option tactic.hygienic false in
theorem conInts_nrP (eb nb cb : Nat) (fb : RF) (K : Value → List Blk → Prop)  (hnb : nb ≤ 100000) (h : ∀ b, (b = true ↔ 0 = nb ∧ ∀ i, i < 0 → (zF i 0 = fb i 0)) → K (.bool b) []) : conInts_nrV eb nb cb fb K := by
  unfold conInts_nrV
  repeat' (first | (with_reducible exact rfl) | (with_reducible exact trivial) | (with_reducible refine And.intro ?_ ?_) | (intro) | (with_reducible refine br_intro (fun hq => ?_) (fun hq => ?_)) | (with_reducible refine if_both (fun hz => ?_) (fun hz => ?_)) | fail)
  all_goals first
    | omega
    | assumption
    | exact ⟨0, (by (refine And.intro (And.intro rfl (And.intro rfl (And.intro rfl rfl))) ?_; repeat' (first | exact trivial | exact rfl | exact fun _ _ _ _ => rfl | refine And.intro ?_ ?_ | omega | fail))), by omega, fun i hi => by omega⟩
    | (refine ⟨y0 + 1, (by (refine And.intro (And.intro rfl (And.intro rfl (And.intro rfl rfl))) ?_; repeat' (first | exact trivial | exact rfl | exact fun _ _ _ _ => rfl | refine And.intro ?_ ?_ | omega | fail))), ⟨by omega, fun i hi => ?_⟩, by omega⟩
       rcases Nat.lt_or_ge i y0 with q | q
       · exact ‹y0 ≤ 0 ∧ ∀ i : Nat, i < y0 → (zF i 0 = fb i 0)›.2 i q
       · obtain rfl : i = y0 := by omega
         assumption)
    | exact fin0 (by kernel_rfl) (by kernel_rfl) (h true ⟨fun _ => ⟨by omega, fun i hi => ‹y0 ≤ 0 ∧ ∀ i : Nat, i < y0 → (zF i 0 = fb i 0)›.2 i (by omega)⟩, fun _ => rfl⟩)
    | exact fin0 (by kernel_rfl) (by kernel_rfl) (h false ⟨fun e => (by cases e), fun e => (by have := e.2 y0 (by omega); omega)⟩)
    | exact fin0 (by kernel_rfl) (by kernel_rfl) (h false ⟨fun e => (by cases e), fun e => (by omega)⟩)
    | exact fin0 (by kernel_rfl) (by kernel_rfl) (h false ⟨fun e => (by cases e), fun e => absurd (e.2 y0 (by omega)) (show ¬ eqL [zF y0 0, zF y0 1] [fb y0 0, fb y0 1] by assumption)⟩)
def conInts_rnV (ea na ca : Nat) (fa : RF) (K : Value → List Blk → Prop) : Prop := (T0 ∧ (TS ∧ (TS ∧ (T0 ∧ (if (@Eq Int ((↑na : Int)) (0)) then ((∃ y0 : Nat, ((Go.Rx.Sub 1 [] ⟨26, [(5, vi 0), (0, rsl 0 0 na ca), (1, vn)]⟩ ⟨[(0, Blk.row true [IntKind.i64] ea na ca fa)], 1⟩ ({ n := 26, m := [(0, rsl 0 0 na ca), (1, vn), (5, vi (↑y0 : Int))] }) ({ h := [(0, Blk.row true [IntKind.i64] ea na ca fa)], next := 1 })) ∧ ((y0 ≤ na) ∧ (∀ y1 : Nat, ((y1 < y0) → (@Eq Int (fa y1 0) (zF y1 0))))))) ∧ (∀ y0 : Nat, (((y0 ≤ na) ∧ (∀ y1 : Nat, ((y1 < y0) → (@Eq Int (fa y1 0) (zF y1 0))))) → (TS ∧ (T0 ∧ (if ((↑y0 : Int) < (↑na : Int)) then (T0 ∧ (T0 ∧ (T0 ∧ (T0 ∧ ((TS ∧ (eN 1)) ∧ (((0 ≤ (↑y0 : Int)) ∧ ((↑y0 : Int) < (↑na : Int))) ∧ (T0 ∧ ((y0 < na) ∧ (T0 ∧ (T0 ∧ (T0 ∧ (False)))))))))))) else (∃ y1 : Value, (∃ y2 : List Blk, ((Go.Rx.Found 1 (Value.bool true) ({ h := [(0, Blk.row true [IntKind.i64] ea na ca fa)], next := 1 }) (y1) (y2)) ∧ (K y1 y2)))))))))) else (∃ y0 : Value, (∃ y1 : List Blk, ((Go.Rx.Found 1 (Value.bool false) ({ h := [(0, Blk.row true [IntKind.i64] ea na ca fa)], next := 1 }) (y0) (y1)) ∧ (K y0 y1)))))))))
theorem conInts_rnE (ea na ca : Nat) (fa : RF) (K : Value → List Blk → Prop) : conInts_rnV ea na ca fa K = bodyX (mk []) (callN (mk []) 3) (conInts_rnA ea na ca fa) Try.f28 [rsl 0 0 na ca, .slice none 0 0] (stOf [.row true [.i64] ea na ca fa]) fun v s' => ∃ v1 news, Rx.Found 1 v s' v1 news ∧ K v1 news := by kernel_rfl
set_option maxHeartbeats 4000000 in
set_option tactic.hygienic false in
theorem conInts_rnP (ea na ca : Nat) (fa : RF) (K : Value → List Blk → Prop)  (hna : na ≤ 100000) (h : ∀ b, (b = true ↔ na = 0 ∧ ∀ i, i < na → (fa i 0 = zF i 0)) → K (.bool b) []) : conInts_rnV ea na ca fa K := by
  unfold conInts_rnV
  repeat' (first | (with_reducible exact rfl) | (with_reducible exact trivial) | (with_reducible refine And.intro ?_ ?_) | (intro) | (with_reducible refine br_intro (fun hq => ?_) (fun hq => ?_)) | (with_reducible refine if_both (fun hz => ?_) (fun hz => ?_)) | fail)
  all_goals first
    | omega
    | assumption
    | exact ⟨0, (by (refine And.intro (And.intro rfl (And.intro rfl (And.intro rfl rfl))) ?_; repeat' (first | exact trivial | exact rfl | exact fun _ _ _ _ => rfl | refine And.intro ?_ ?_ | omega | fail))), by omega, fun i hi => by omega⟩
    | (refine ⟨y0 + 1, (by (refine And.intro (And.intro rfl (And.intro rfl (And.intro rfl rfl))) ?_; repeat' (first | exact trivial | exact rfl | exact fun _ _ _ _ => rfl | refine And.intro ?_ ?_ | omega | fail))), ⟨by omega, fun i hi => ?_⟩, by omega⟩
       rcases Nat.lt_or_ge i y0 with q | q
       · exact ‹y0 ≤ na ∧ ∀ i : Nat, i < y0 → (fa i 0 = zF i 0)›.2 i q
       · obtain rfl : i = y0 := by omega
         assumption)
    | exact fin0 (by kernel_rfl) (by kernel_rfl) (h true ⟨fun _ => ⟨by omega, fun i hi => ‹y0 ≤ na ∧ ∀ i : Nat, i < y0 → (fa i 0 = zF i 0)›.2 i (by omega)⟩, fun _ => rfl⟩)
    | exact fin0 (by kernel_rfl) (by kernel_rfl) (h false ⟨fun e => (by cases e), fun e => (by have := e.2 y0 (by omega); omega)⟩)
    | exact fin0 (by kernel_rfl) (by kernel_rfl) (h false ⟨fun e => (by cases e), fun e => (by omega)⟩)
    | exact fin0 (by kernel_rfl) (by kernel_rfl) (h false ⟨fun e => (by cases e), fun e => absurd (e.2 y0 (by omega)) (show ¬ eqL [fa y0 0, fa y0 1] [zF y0 0, zF y0 1] by assumption)⟩)
def conInts_rrV (ea na ca : Nat) (fa : RF) (eb nb cb : Nat) (fb : RF) (K : Value → List Blk → Prop) : Prop := (T0 ∧ (TS ∧ (TS ∧ (T0 ∧ (if (@Eq Int ((↑na : Int)) ((↑nb : Int))) then ((∃ y0 : Nat, ((Go.Rx.Sub 2 [] ⟨26, [(5, vi 0), (0, rsl 0 0 na ca), (1, rsl 1 0 nb cb)]⟩ ⟨[(0, Blk.row true [IntKind.i64] ea na ca fa), (1, Blk.row true [IntKind.i64] eb nb cb fb)], 2⟩ ({ n := 26, m := [(0, rsl 0 0 na ca), (1, rsl 1 0 nb cb), (5, vi (↑y0 : Int))] }) ({ h := [(0, Blk.row true [IntKind.i64] ea na ca fa), (1, Blk.row true [IntKind.i64] eb nb cb fb)], next := 2 })) ∧ ((y0 ≤ na) ∧ (∀ y1 : Nat, ((y1 < y0) → (@Eq Int (fa y1 0) (fb y1 0))))))) ∧ (∀ y0 : Nat, (((y0 ≤ na) ∧ (∀ y1 : Nat, ((y1 < y0) → (@Eq Int (fa y1 0) (fb y1 0))))) → (TS ∧ (T0 ∧ (if ((↑y0 : Int) < (↑na : Int)) then (T0 ∧ (T0 ∧ (T0 ∧ (T0 ∧ ((TS ∧ (eN 1)) ∧ (((0 ≤ (↑y0 : Int)) ∧ ((↑y0 : Int) < (↑na : Int))) ∧ (T0 ∧ ((y0 < na) ∧ (T0 ∧ (T0 ∧ (T0 ∧ ((TS ∧ (eN 1)) ∧ (((0 ≤ (↑y0 : Int)) ∧ ((↑y0 : Int) < (↑nb : Int))) ∧ (T0 ∧ ((y0 < nb) ∧ (T0 ∧ (T0 ∧ (if (@Eq Int (fa y0 0) (fb y0 0)) then (T0 ∧ ((((-9223372036854775808 : Int) ≤ (↑y0 : Int) + 1) ∧ ((↑y0 : Int) + (1 : Int) ≤ 9223372036854775807)) ∧ (∃ y1 : Nat, ((Go.Rx.Sub 2 [] ⟨26, [(5, vi ((↑y0 : Int) + 1)), (0, rsl 0 0 na ca), (1, rsl 1 0 nb cb)]⟩ ⟨[(0, Blk.row true [IntKind.i64] ea na ca fa), (1, Blk.row true [IntKind.i64] eb nb cb fb)], 2⟩ ({ n := 26, m := [(0, rsl 0 0 na ca), (1, rsl 1 0 nb cb), (5, vi (↑y1 : Int))] }) ({ h := [(0, Blk.row true [IntKind.i64] ea na ca fa), (1, Blk.row true [IntKind.i64] eb nb cb fb)], next := 2 })) ∧ (((y1 ≤ na) ∧ (∀ y2 : Nat, ((y2 < y1) → (@Eq Int (fa y2 0) (fb y2 0))))) ∧ (na - y1 < na - y0)))))) else (∃ y1 : Value, (∃ y2 : List Blk, ((Go.Rx.Found 2 (Value.bool false) ({ h := [(0, Blk.row true [IntKind.i64] ea na ca fa), (1, Blk.row true [IntKind.i64] eb nb cb fb)], next := 2 }) (y1) (y2)) ∧ (K y1 y2)))))))))))))))))))))) else (∃ y1 : Value, (∃ y2 : List Blk, ((Go.Rx.Found 2 (Value.bool true) ({ h := [(0, Blk.row true [IntKind.i64] ea na ca fa), (1, Blk.row true [IntKind.i64] eb nb cb fb)], next := 2 }) (y1) (y2)) ∧ (K y1 y2)))))))))) else (∃ y0 : Value, (∃ y1 : List Blk, ((Go.Rx.Found 2 (Value.bool false) ({ h := [(0, Blk.row true [IntKind.i64] ea na ca fa), (1, Blk.row true [IntKind.i64] eb nb cb fb)], next := 2 }) (y0) (y1)) ∧ (K y0 y1)))))))))
theorem conInts_rrE (ea na ca : Nat) (fa : RF) (eb nb cb : Nat) (fb : RF) (K : Value → List Blk → Prop) : conInts_rrV ea na ca fa eb nb cb fb K = bodyX (mk []) (callN (mk []) 3) (conInts_rrA ea na ca fa eb nb cb fb) Try.f28 [rsl 0 0 na ca, rsl 1 0 nb cb] (stOf [.row true [.i64] ea na ca fa, .row true [.i64] eb nb cb fb]) fun v s' => ∃ v1 news, Rx.Found 2 v s' v1 news ∧ K v1 news := by kernel_rfl
set_option maxHeartbeats 4000000 in
set_option tactic.hygienic false in
theorem conInts_rrP (ea na ca : Nat) (fa : RF) (eb nb cb : Nat) (fb : RF) (K : Value → List Blk → Prop)  (hna : na ≤ 100000) (hnb : nb ≤ 100000) (h : ∀ b, (b = true ↔ na = nb ∧ ∀ i, i < na → (fa i 0 = fb i 0)) → K (.bool b) []) : conInts_rrV ea na ca fa eb nb cb fb K := by
  unfold conInts_rrV
  repeat' (first | (with_reducible exact rfl) | (with_reducible exact trivial) | (with_reducible refine And.intro ?_ ?_) | (intro) | (with_reducible refine br_intro (fun hq => ?_) (fun hq => ?_)) | (with_reducible refine if_both (fun hz => ?_) (fun hz => ?_)) | fail)
  all_goals first
    | omega
    | assumption
    | exact ⟨0, (by (refine And.intro (And.intro rfl (And.intro rfl (And.intro rfl rfl))) ?_; repeat' (first | exact trivial | exact rfl | exact fun _ _ _ _ => rfl | refine And.intro ?_ ?_ | omega | fail))), by omega, fun i hi => by omega⟩
    | (refine ⟨y0 + 1, (by (refine And.intro (And.intro rfl (And.intro rfl (And.intro rfl rfl))) ?_; repeat' (first | exact trivial | exact rfl | exact fun _ _ _ _ => rfl | refine And.intro ?_ ?_ | omega | fail))), ⟨by omega, fun i hi => ?_⟩, by omega⟩
       rcases Nat.lt_or_ge i y0 with q | q
       · exact ‹y0 ≤ na ∧ ∀ i : Nat, i < y0 → (fa i 0 = fb i 0)›.2 i q
       · obtain rfl : i = y0 := by omega
         assumption)
    | exact fin0 (by kernel_rfl) (by kernel_rfl) (h true ⟨fun _ => ⟨by omega, fun i hi => ‹y0 ≤ na ∧ ∀ i : Nat, i < y0 → (fa i 0 = fb i 0)›.2 i (by omega)⟩, fun _ => rfl⟩)
    | exact fin0 (by kernel_rfl) (by kernel_rfl) (h false ⟨fun e => (by cases e), fun e => (by have := e.2 y0 (by omega); omega)⟩)
    | exact fin0 (by kernel_rfl) (by kernel_rfl) (h false ⟨fun e => (by cases e), fun e => (by omega)⟩)
    | exact fin0 (by kernel_rfl) (by kernel_rfl) (h false ⟨fun e => (by cases e), fun e => absurd (e.2 y0 (by omega)) (show ¬ eqL [fa y0 0, fa y0 1] [fb y0 0, fb y0 1] by assumption)⟩)
theorem conInts_ok : BodyOk (mk []) 3 Try.f28 conInts := by
  intro vs bs K hh hro
  clear hro
  unfold conInts at hh
  split at hh
  · rcases parse_inv hh with ⟨rfl, hh0⟩ | ⟨ea, na, ca, fa, bs0, rfl, hna, rfl, hh0⟩ <;> clear hh
    · rcases parse_inv hh0 with ⟨rfl, hh1⟩ | ⟨eb, nb, cb, fb, bs1, rfl, hnb, rfl, hh1⟩ <;> clear hh0
      · obtain ⟨rfl, hc⟩ := hh1
        exact ⟨_, cast (conInts_nnE  K) (conInts_nnP  K  hc)⟩
      · obtain ⟨rfl, hc⟩ := hh1
        exact ⟨_, cast (conInts_nrE eb nb cb fb K) (conInts_nrP eb nb cb fb K hnb hc)⟩
    · rcases parse_inv hh0 with ⟨rfl, hh1⟩ | ⟨eb, nb, cb, fb, bs1, rfl, hnb, rfl, hh1⟩ <;> clear hh0
      · obtain ⟨rfl, hc⟩ := hh1
        exact ⟨_, cast (conInts_rnE ea na ca fa K) (conInts_rnP ea na ca fa K hna hc)⟩
      · obtain ⟨rfl, hc⟩ := hh1
        exact ⟨_, cast (conInts_rrE ea na ca fa eb nb cb fb K) (conInts_rrP ea na ca fa eb nb cb fb K hna hnb hc)⟩
  · exact hh.elim
theorem conInts_told : Told 28 (specOf conInts) := told (X := []) (fun _ h => by cases h) (by kernel_rfl) (by kernel_rfl) (by kernel_rfl) conInts_ok
def conSame_nnV  (K : Value → List Blk → Prop) : Prop := (T0 ∧ (TS ∧ (TS ∧ (T0 ∧ ((∃ y0 : Nat, ((Go.Rx.Sub 0 [] ⟨26, [(5, vi 0), (0, vn), (1, vn)]⟩ ⟨[], 0⟩ ({ n := 26, m := [(0, vn), (1, vn), (5, vi (↑y0 : Int))] }) ({ h := [], next := 0 })) ∧ ((y0 ≤ 0) ∧ (∀ y1 : Nat, ((y1 < y0) → ((@Eq Int (zF y1 0) (zF y1 0)) ∧ (@Eq Int (zF y1 1) (zF y1 1)))))))) ∧ (∀ y0 : Nat, (((y0 ≤ 0) ∧ (∀ y1 : Nat, ((y1 < y0) → ((@Eq Int (zF y1 0) (zF y1 0)) ∧ (@Eq Int (zF y1 1) (zF y1 1)))))) → (TS ∧ (T0 ∧ (∃ y1 : Value, (∃ y2 : List Blk, ((Go.Rx.Found 0 (Value.bool true) ({ h := [], next := 0 }) (y1) (y2)) ∧ (K y1 y2)))))))))))))
theorem conSame_nnE  (K : Value → List Blk → Prop) : conSame_nnV  K = bodyX (mk []) (callN (mk []) 3) (conSame_nnA ) Try.f23 [.slice none 0 0, .slice none 0 0] (stOf []) fun v s' => ∃ v1 news, Rx.Found 0 v s' v1 news ∧ K v1 news := by kernel_rfl
set_option maxHeartbeats 4000000 in
set_option tactic.hygienic false in
theorem conSame_nnP  (K : Value → List Blk → Prop)  (h : ∀ b, (b = true ↔ 0 = 0 ∧ ∀ i, i < 0 → (zF i 0 = zF i 0 ∧ zF i 1 = zF i 1)) → K (.bool b) []) : conSame_nnV  K := by
  unfold conSame_nnV
  repeat' (first | (with_reducible exact rfl) | (with_reducible exact trivial) | (with_reducible refine And.intro ?_ ?_) | (intro) | (with_reducible refine br_intro (fun hq => ?_) (fun hq => ?_)) | (with_reducible refine if_both (fun hz => ?_) (fun hz => ?_)) | fail)
  all_goals first
    | omega
    | assumption
    | exact ⟨0, (by (refine And.intro (And.intro rfl (And.intro rfl (And.intro rfl rfl))) ?_; repeat' (first | exact trivial | exact rfl | exact fun _ _ _ _ => rfl | refine And.intro ?_ ?_ | omega | fail))), by omega, fun i hi => by omega⟩
    | (refine ⟨y0 + 1, (by (refine And.intro (And.intro rfl (And.intro rfl (And.intro rfl rfl))) ?_; repeat' (first | exact trivial | exact rfl | exact fun _ _ _ _ => rfl | refine And.intro ?_ ?_ | omega | fail))), ⟨by omega, fun i hi => ?_⟩, by omega⟩
       rcases Nat.lt_or_ge i y0 with q | q
       · exact ‹y0 ≤ 0 ∧ ∀ i : Nat, i < y0 → (zF i 0 = zF i 0 ∧ zF i 1 = zF i 1)›.2 i q
       · obtain rfl : i = y0 := by omega
         assumption)
    | exact fin0 (by kernel_rfl) (by kernel_rfl) (h true ⟨fun _ => ⟨by omega, fun i hi => ‹y0 ≤ 0 ∧ ∀ i : Nat, i < y0 → (zF i 0 = zF i 0 ∧ zF i 1 = zF i 1)›.2 i (by omega)⟩, fun _ => rfl⟩)
    | exact fin0 (by kernel_rfl) (by kernel_rfl) (h false ⟨fun e => (by cases e), fun e => (by have := e.2 y0 (by omega); omega)⟩)
    | exact fin0 (by kernel_rfl) (by kernel_rfl) (h false ⟨fun e => (by cases e), fun e => (by omega)⟩)
    | exact fin0 (by kernel_rfl) (by kernel_rfl) (h false ⟨fun e => (by cases e), fun e => absurd (e.2 y0 (by omega)) (show ¬ eqL [zF y0 0, zF y0 1] [zF y0 0, zF y0 1] by assumption)⟩)
def conSame_nrV (eb nb cb : Nat) (fb : RF) (K : Value → List Blk → Prop) : Prop := (T0 ∧ (TS ∧ (TS ∧ (T0 ∧ (if (@Eq Int (0) ((↑nb : Int))) then ((∃ y0 : Nat, ((Go.Rx.Sub 1 [] ⟨26, [(5, vi 0), (0, vn), (1, rsl 0 0 nb cb)]⟩ ⟨[(0, rT eb nb cb fb)], 1⟩ ({ n := 26, m := [(0, vn), (1, rsl 0 0 nb cb), (5, vi (↑y0 : Int))] }) ({ h := [(0, rT eb nb cb fb)], next := 1 })) ∧ ((y0 ≤ 0) ∧ (∀ y1 : Nat, ((y1 < y0) → ((@Eq Int (zF y1 0) (fb y1 0)) ∧ (@Eq Int (zF y1 1) (fb y1 1)))))))) ∧ (∀ y0 : Nat, (((y0 ≤ 0) ∧ (∀ y1 : Nat, ((y1 < y0) → ((@Eq Int (zF y1 0) (fb y1 0)) ∧ (@Eq Int (zF y1 1) (fb y1 1)))))) → (TS ∧ (T0 ∧ (∃ y1 : Value, (∃ y2 : List Blk, ((Go.Rx.Found 1 (Value.bool true) ({ h := [(0, rT eb nb cb fb)], next := 1 }) (y1) (y2)) ∧ (K y1 y2))))))))) else (∃ y0 : Value, (∃ y1 : List Blk, ((Go.Rx.Found 1 (Value.bool false) ({ h := [(0, rT eb nb cb fb)], next := 1 }) (y0) (y1)) ∧ (K y0 y1)))))))))
theorem conSame_nrE (eb nb cb : Nat) (fb : RF) (K : Value → List Blk → Prop) : conSame_nrV eb nb cb fb K = bodyX (mk []) (callN (mk []) 3) (conSame_nrA eb nb cb fb) Try.f23 [.slice none 0 0, rsl 0 0 nb cb] (stOf [.row true [.i64, .i64] eb nb cb fb]) fun v s' => ∃ v1 news, Rx.Found 1 v s' v1 news ∧ K v1 news := by kernel_rfl
set_option maxHeartbeats 4000000 in
set_option tactic.hygienic false in
theorem conSame_nrP (eb nb cb : Nat) (fb : RF) (K : Value → List Blk → Prop)  (hnb : nb ≤ 100000) (h : ∀ b, (b = true ↔ 0 = nb ∧ ∀ i, i < 0 → (zF i 0 = fb i 0 ∧ zF i 1 = fb i 1)) → K (.bool b) []) : conSame_nrV eb nb cb fb K := by
  unfold conSame_nrV
  repeat' (first | (with_reducible exact rfl) | (with_reducible exact trivial) | (with_reducible refine And.intro ?_ ?_) | (intro) | (with_reducible refine br_intro (fun hq => ?_) (fun hq => ?_)) | (with_reducible refine if_both (fun hz => ?_) (fun hz => ?_)) | fail)
  all_goals first
    | omega
    | assumption
    | exact ⟨0, (by (refine And.intro (And.intro rfl (And.intro rfl (And.intro rfl rfl))) ?_; repeat' (first | exact trivial | exact rfl | exact fun _ _ _ _ => rfl | refine And.intro ?_ ?_ | omega | fail))), by omega, fun i hi => by omega⟩
    | (refine ⟨y0 + 1, (by (refine And.intro (And.intro rfl (And.intro rfl (And.intro rfl rfl))) ?_; repeat' (first | exact trivial | exact rfl | exact fun _ _ _ _ => rfl | refine And.intro ?_ ?_ | omega | fail))), ⟨by omega, fun i hi => ?_⟩, by omega⟩
       rcases Nat.lt_or_ge i y0 with q | q
       · exact ‹y0 ≤ 0 ∧ ∀ i : Nat, i < y0 → (zF i 0 = fb i 0 ∧ zF i 1 = fb i 1)›.2 i q
       · obtain rfl : i = y0 := by omega
         assumption)
    | exact fin0 (by kernel_rfl) (by kernel_rfl) (h true ⟨fun _ => ⟨by omega, fun i hi => ‹y0 ≤ 0 ∧ ∀ i : Nat, i < y0 → (zF i 0 = fb i 0 ∧ zF i 1 = fb i 1)›.2 i (by omega)⟩, fun _ => rfl⟩)
    | exact fin0 (by kernel_rfl) (by kernel_rfl) (h false ⟨fun e => (by cases e), fun e => (by have := e.2 y0 (by omega); omega)⟩)
    | exact fin0 (by kernel_rfl) (by kernel_rfl) (h false ⟨fun e => (by cases e), fun e => (by omega)⟩)
    | exact fin0 (by kernel_rfl) (by kernel_rfl) (h false ⟨fun e => (by cases e), fun e => absurd (e.2 y0 (by omega)) (show ¬ eqL [zF y0 0, zF y0 1] [fb y0 0, fb y0 1] by assumption)⟩)
def conSame_rnV (ea na ca : Nat) (fa : RF) (K : Value → List Blk → Prop) : Prop := (T0 ∧ (TS ∧ (TS ∧ (T0 ∧ (if (@Eq Int ((↑na : Int)) (0)) then ((∃ y0 : Nat, ((Go.Rx.Sub 1 [] ⟨26, [(5, vi 0), (0, rsl 0 0 na ca), (1, vn)]⟩ ⟨[(0, rT ea na ca fa)], 1⟩ ({ n := 26, m := [(0, rsl 0 0 na ca), (1, vn), (5, vi (↑y0 : Int))] }) ({ h := [(0, rT ea na ca fa)], next := 1 })) ∧ ((y0 ≤ na) ∧ (∀ y1 : Nat, ((y1 < y0) → ((@Eq Int (fa y1 0) (zF y1 0)) ∧ (@Eq Int (fa y1 1) (zF y1 1)))))))) ∧ (∀ y0 : Nat, (((y0 ≤ na) ∧ (∀ y1 : Nat, ((y1 < y0) → ((@Eq Int (fa y1 0) (zF y1 0)) ∧ (@Eq Int (fa y1 1) (zF y1 1)))))) → (TS ∧ (T0 ∧ (if ((↑y0 : Int) < (↑na : Int)) then (T0 ∧ (T0 ∧ (T0 ∧ (T0 ∧ ((TS ∧ (eN 2)) ∧ (((0 ≤ (↑y0 : Int)) ∧ ((↑y0 : Int) < (↑na : Int))) ∧ (T0 ∧ ((y0 < na) ∧ (((eN 0) ∧ (eN 2)) ∧ (T0 ∧ (T0 ∧ (T0 ∧ (False))))))))))))) else (∃ y1 : Value, (∃ y2 : List Blk, ((Go.Rx.Found 1 (Value.bool true) ({ h := [(0, rT ea na ca fa)], next := 1 }) (y1) (y2)) ∧ (K y1 y2)))))))))) else (∃ y0 : Value, (∃ y1 : List Blk, ((Go.Rx.Found 1 (Value.bool false) ({ h := [(0, rT ea na ca fa)], next := 1 }) (y0) (y1)) ∧ (K y0 y1)))))))))
theorem conSame_rnE (ea na ca : Nat) (fa : RF) (K : Value → List Blk → Prop) : conSame_rnV ea na ca fa K = bodyX (mk []) (callN (mk []) 3) (conSame_rnA ea na ca fa) Try.f23 [rsl 0 0 na ca, .slice none 0 0] (stOf [.row true [.i64, .i64] ea na ca fa]) fun v s' => ∃ v1 news, Rx.Found 1 v s' v1 news ∧ K v1 news := by kernel_rfl
set_option maxHeartbeats 4000000 in
set_option tactic.hygienic false in
theorem conSame_rnP (ea na ca : Nat) (fa : RF) (K : Value → List Blk → Prop)  (hna : na ≤ 100000) (h : ∀ b, (b = true ↔ na = 0 ∧ ∀ i, i < na → (fa i 0 = zF i 0 ∧ fa i 1 = zF i 1)) → K (.bool b) []) : conSame_rnV ea na ca fa K := by
  unfold conSame_rnV
  repeat' (first | (with_reducible exact rfl) | (with_reducible exact trivial) | (with_reducible refine And.intro ?_ ?_) | (intro) | (with_reducible refine br_intro (fun hq => ?_) (fun hq => ?_)) | (with_reducible refine if_both (fun hz => ?_) (fun hz => ?_)) | fail)
  all_goals first
    | omega
    | assumption
    | exact ⟨0, (by (refine And.intro (And.intro rfl (And.intro rfl (And.intro rfl rfl))) ?_; repeat' (first | exact trivial | exact rfl | exact fun _ _ _ _ => rfl | refine And.intro ?_ ?_ | omega | fail))), by omega, fun i hi => by omega⟩
    | (refine ⟨y0 + 1, (by (refine And.intro (And.intro rfl (And.intro rfl (And.intro rfl rfl))) ?_; repeat' (first | exact trivial | exact rfl | exact fun _ _ _ _ => rfl | refine And.intro ?_ ?_ | omega | fail))), ⟨by omega, fun i hi => ?_⟩, by omega⟩
       rcases Nat.lt_or_ge i y0 with q | q
       · exact ‹y0 ≤ na ∧ ∀ i : Nat, i < y0 → (fa i 0 = zF i 0 ∧ fa i 1 = zF i 1)›.2 i q
       · obtain rfl : i = y0 := by omega
         assumption)
    | exact fin0 (by kernel_rfl) (by kernel_rfl) (h true ⟨fun _ => ⟨by omega, fun i hi => ‹y0 ≤ na ∧ ∀ i : Nat, i < y0 → (fa i 0 = zF i 0 ∧ fa i 1 = zF i 1)›.2 i (by omega)⟩, fun _ => rfl⟩)
    | exact fin0 (by kernel_rfl) (by kernel_rfl) (h false ⟨fun e => (by cases e), fun e => (by have := e.2 y0 (by omega); omega)⟩)
    | exact fin0 (by kernel_rfl) (by kernel_rfl) (h false ⟨fun e => (by cases e), fun e => (by omega)⟩)
    | exact fin0 (by kernel_rfl) (by kernel_rfl) (h false ⟨fun e => (by cases e), fun e => absurd (e.2 y0 (by omega)) (show ¬ eqL [fa y0 0, fa y0 1] [zF y0 0, zF y0 1] by assumption)⟩)
def conSame_rrV (ea na ca : Nat) (fa : RF) (eb nb cb : Nat) (fb : RF) (K : Value → List Blk → Prop) : Prop := (T0 ∧ (TS ∧ (TS ∧ (T0 ∧ (if (@Eq Int ((↑na : Int)) ((↑nb : Int))) then ((∃ y0 : Nat, ((Go.Rx.Sub 2 [] ⟨26, [(5, vi 0), (0, rsl 0 0 na ca), (1, rsl 1 0 nb cb)]⟩ ⟨[(0, rT ea na ca fa), (1, rT eb nb cb fb)], 2⟩ ({ n := 26, m := [(0, rsl 0 0 na ca), (1, rsl 1 0 nb cb), (5, vi (↑y0 : Int))] }) ({ h := [(0, rT ea na ca fa), (1, rT eb nb cb fb)], next := 2 })) ∧ ((y0 ≤ na) ∧ (∀ y1 : Nat, ((y1 < y0) → ((@Eq Int (fa y1 0) (fb y1 0)) ∧ (@Eq Int (fa y1 1) (fb y1 1)))))))) ∧ (∀ y0 : Nat, (((y0 ≤ na) ∧ (∀ y1 : Nat, ((y1 < y0) → ((@Eq Int (fa y1 0) (fb y1 0)) ∧ (@Eq Int (fa y1 1) (fb y1 1)))))) → (TS ∧ (T0 ∧ (if ((↑y0 : Int) < (↑na : Int)) then (T0 ∧ (T0 ∧ (T0 ∧ (T0 ∧ ((TS ∧ (eN 2)) ∧ (((0 ≤ (↑y0 : Int)) ∧ ((↑y0 : Int) < (↑na : Int))) ∧ (T0 ∧ ((y0 < na) ∧ (((eN 0) ∧ (eN 2)) ∧ (T0 ∧ (T0 ∧ (T0 ∧ ((TS ∧ (eN 2)) ∧ (((0 ≤ (↑y0 : Int)) ∧ ((↑y0 : Int) < (↑nb : Int))) ∧ (T0 ∧ ((y0 < nb) ∧ (((eN 0) ∧ (eN 2)) ∧ (T0 ∧ (if (eqL [fa y0 0, fa y0 1] [fb y0 0, fb y0 1]) then (T0 ∧ ((((-9223372036854775808 : Int) ≤ (↑y0 : Int) + 1) ∧ ((↑y0 : Int) + (1 : Int) ≤ 9223372036854775807)) ∧ (∃ y1 : Nat, ((Go.Rx.Sub 2 [] ⟨26, [(5, vi ((↑y0 : Int) + 1)), (0, rsl 0 0 na ca), (1, rsl 1 0 nb cb)]⟩ ⟨[(0, rT ea na ca fa), (1, rT eb nb cb fb)], 2⟩ ({ n := 26, m := [(0, rsl 0 0 na ca), (1, rsl 1 0 nb cb), (5, vi (↑y1 : Int))] }) ({ h := [(0, rT ea na ca fa), (1, rT eb nb cb fb)], next := 2 })) ∧ (((y1 ≤ na) ∧ (∀ y2 : Nat, ((y2 < y1) → ((@Eq Int (fa y2 0) (fb y2 0)) ∧ (@Eq Int (fa y2 1) (fb y2 1)))))) ∧ (na - y1 < na - y0)))))) else (∃ y1 : Value, (∃ y2 : List Blk, ((Go.Rx.Found 2 (Value.bool false) ({ h := [(0, rT ea na ca fa), (1, rT eb nb cb fb)], next := 2 }) (y1) (y2)) ∧ (K y1 y2))))))))))))))))))))))) else (∃ y1 : Value, (∃ y2 : List Blk, ((Go.Rx.Found 2 (Value.bool true) ({ h := [(0, rT ea na ca fa), (1, rT eb nb cb fb)], next := 2 }) (y1) (y2)) ∧ (K y1 y2)))))))))) else (∃ y0 : Value, (∃ y1 : List Blk, ((Go.Rx.Found 2 (Value.bool false) ({ h := [(0, rT ea na ca fa), (1, rT eb nb cb fb)], next := 2 }) (y0) (y1)) ∧ (K y0 y1)))))))))
theorem conSame_rrE (ea na ca : Nat) (fa : RF) (eb nb cb : Nat) (fb : RF) (K : Value → List Blk → Prop) : conSame_rrV ea na ca fa eb nb cb fb K = bodyX (mk []) (callN (mk []) 3) (conSame_rrA ea na ca fa eb nb cb fb) Try.f23 [rsl 0 0 na ca, rsl 1 0 nb cb] (stOf [.row true [.i64, .i64] ea na ca fa, .row true [.i64, .i64] eb nb cb fb]) fun v s' => ∃ v1 news, Rx.Found 2 v s' v1 news ∧ K v1 news := by kernel_rfl
set_option maxHeartbeats 4000000 in
set_option tactic.hygienic false in
theorem conSame_rrP (ea na ca : Nat) (fa : RF) (eb nb cb : Nat) (fb : RF) (K : Value → List Blk → Prop)  (hna : na ≤ 100000) (hnb : nb ≤ 100000) (h : ∀ b, (b = true ↔ na = nb ∧ ∀ i, i < na → (fa i 0 = fb i 0 ∧ fa i 1 = fb i 1)) → K (.bool b) []) : conSame_rrV ea na ca fa eb nb cb fb K := by
  unfold conSame_rrV
  repeat' (first | (with_reducible exact rfl) | (with_reducible exact trivial) | (with_reducible refine And.intro ?_ ?_) | (intro) | (with_reducible refine br_intro (fun hq => ?_) (fun hq => ?_)) | (with_reducible refine if_both (fun hz => ?_) (fun hz => ?_)) | fail)
  all_goals first
    | omega
    | assumption
    | exact ⟨0, (by (refine And.intro (And.intro rfl (And.intro rfl (And.intro rfl rfl))) ?_; repeat' (first | exact trivial | exact rfl | exact fun _ _ _ _ => rfl | refine And.intro ?_ ?_ | omega | fail))), by omega, fun i hi => by omega⟩
    | (refine ⟨y0 + 1, (by (refine And.intro (And.intro rfl (And.intro rfl (And.intro rfl rfl))) ?_; repeat' (first | exact trivial | exact rfl | exact fun _ _ _ _ => rfl | refine And.intro ?_ ?_ | omega | fail))), ⟨by omega, fun i hi => ?_⟩, by omega⟩
       rcases Nat.lt_or_ge i y0 with q | q
       · exact ‹y0 ≤ na ∧ ∀ i : Nat, i < y0 → (fa i 0 = fb i 0 ∧ fa i 1 = fb i 1)›.2 i q
       · obtain rfl : i = y0 := by omega
         assumption)
    | exact fin0 (by kernel_rfl) (by kernel_rfl) (h true ⟨fun _ => ⟨by omega, fun i hi => ‹y0 ≤ na ∧ ∀ i : Nat, i < y0 → (fa i 0 = fb i 0 ∧ fa i 1 = fb i 1)›.2 i (by omega)⟩, fun _ => rfl⟩)
    | exact fin0 (by kernel_rfl) (by kernel_rfl) (h false ⟨fun e => (by cases e), fun e => (by have := e.2 y0 (by omega); omega)⟩)
    | exact fin0 (by kernel_rfl) (by kernel_rfl) (h false ⟨fun e => (by cases e), fun e => (by omega)⟩)
    | exact fin0 (by kernel_rfl) (by kernel_rfl) (h false ⟨fun e => (by cases e), fun e => absurd (e.2 y0 (by omega)) (show ¬ eqL [fa y0 0, fa y0 1] [fb y0 0, fb y0 1] by assumption)⟩)
theorem conSame_ok : BodyOk (mk []) 3 Try.f23 conSame := by
  intro vs bs K hh hro
  clear hro
  unfold conSame at hh
  split at hh
  · rcases parse_inv hh with ⟨rfl, hh0⟩ | ⟨ea, na, ca, fa, bs0, rfl, hna, rfl, hh0⟩ <;> clear hh
    · rcases parse_inv hh0 with ⟨rfl, hh1⟩ | ⟨eb, nb, cb, fb, bs1, rfl, hnb, rfl, hh1⟩ <;> clear hh0
      · obtain ⟨rfl, hc⟩ := hh1
        exact ⟨_, cast (conSame_nnE  K) (conSame_nnP  K  hc)⟩
      · obtain ⟨rfl, hc⟩ := hh1
        exact ⟨_, cast (conSame_nrE eb nb cb fb K) (conSame_nrP eb nb cb fb K hnb hc)⟩
    · rcases parse_inv hh0 with ⟨rfl, hh1⟩ | ⟨eb, nb, cb, fb, bs1, rfl, hnb, rfl, hh1⟩ <;> clear hh0
      · obtain ⟨rfl, hc⟩ := hh1
        exact ⟨_, cast (conSame_rnE ea na ca fa K) (conSame_rnP ea na ca fa K hna hc)⟩
      · obtain ⟨rfl, hc⟩ := hh1
        exact ⟨_, cast (conSame_rrE ea na ca fa eb nb cb fb K) (conSame_rrP ea na ca fa eb nb cb fb K hna hnb hc)⟩
  · exact hh.elim
theorem conSame_told : Told 23 (specOf conSame) := told (X := []) (fun _ h => by cases h) (by kernel_rfl) (by kernel_rfl) (by kernel_rfl) conSame_ok
end Go.Proofs.Ytkflmglpniebfaa.Fr
