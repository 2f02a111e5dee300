/-
  Equal rows. No project text.
-/
import Derived.Test.YtfgeoglegebncaaZ5
import Derived.Test.YtfgeoglegebncaaZ6
namespace Go.Proofs.Ytfgeoglegebncaa.Fr
set_option maxRecDepth 100000
set_option maxHeartbeats 4000000
open Go.Rx
open Go.RowKit (Below)
set_option linter.unusedVariables false
def inK : Con := fun vs bs K => match vs with
  | [va, vb] => parse [.i64] 0 va bs fun na fa j0 bs0 => parse [.i64] j0 vb bs0 fun nb fb j1 bs1 => bs1 = [] ∧ ((na = nb) ∧ (∀ i, i < na → fa i 0 = fb i 0)) ∧ (K (.bool true) [])
  | _ => False

def inK_nnA  : Ann := fun k tt ss => bif Nat.beq k 4 then some [{ α := Nat, T := fun k => ⟨26, [(0, .slice none 0 0), (1, .slice none 0 0), (5, .int .i64 (k : Int))]⟩, S := fun _ => ⟨[], 0⟩, I := fun k => k ≤ 0 ∧ 0 ≤ k, m := fun k => 0 - k, ρ0 := [], ρ1 := [[]] }] else none
def inK_nrA (eb nb cb : Nat) (fb : RF) : Ann := fun k tt ss => bif Nat.beq k 4 then some [{ α := Nat, T := fun k => ⟨26, [(0, .slice none 0 0), (1, rsl 0 0 nb cb), (5, .int .i64 (k : Int))]⟩, S := fun _ => ⟨[(0, .row true [.i64] eb nb cb fb)], 1⟩, I := fun k => k ≤ 0 ∧ 0 ≤ k, m := fun k => 0 - k, ρ0 := [], ρ1 := [[]] }] else none
def inK_rnA (ea na ca : Nat) (fa : RF) : Ann := fun k tt ss => bif Nat.beq k 4 then some [{ α := Nat, T := fun k => ⟨26, [(0, rsl 0 0 na ca), (1, .slice none 0 0), (5, .int .i64 (k : Int))]⟩, S := fun _ => ⟨[(0, .row true [.i64] ea na ca fa)], 1⟩, I := fun k => k ≤ na ∧ 0 ≤ k, m := fun k => na - k, ρ0 := [], ρ1 := [[]] }] else none
def inK_rrA (ea na ca : Nat) (fa : RF) (eb nb cb : Nat) (fb : RF) : Ann := fun k tt ss => bif Nat.beq k 4 then some [{ α := Nat, T := fun k => ⟨26, [(0, rsl 0 0 na ca), (1, rsl 1 0 nb cb), (5, .int .i64 (k : Int))]⟩, S := fun _ => ⟨[(0, .row true [.i64] ea na ca fa), (1, .row true [.i64] eb nb cb fb)], 2⟩, I := fun k => k ≤ na ∧ 0 ≤ k, m := fun k => na - k, ρ0 := [], ρ1 := [[]] }] else none
def eqO : Con := fun vs bs K => match vs with
  | [va, vb] => parseQ [.u64] 0 va bs fun na fa j0 bs0 => parseQ [.u64] j0 vb bs0 fun nb fb j1 bs1 => bs1 = [] ∧ (True) ∧ (∀ bb : Bool, (bb = true ↔ (na = nb ∧ ∀ i, i < na → fa i 0 = fb i 0)) → K (.bool bb) [])
  | _ => False

def eqO_nnA  : Ann := fun k tt ss => bif Nat.beq k 4 then some [{ α := Nat, T := fun k => ⟨26, [(0, .slice none 0 0), (1, .slice none 0 0), (12, .int .i64 (0 : Nat)), (13, .int .i64 (k : Int))]⟩, S := fun _ => ⟨[], 0⟩, I := fun k => (k ≤ 0 ∧ 0 = 0) ∧ ∀ i, i < k → zF i 0 = zF i 0, m := fun k => 0 - k, ρ0 := [], ρ1 := [[]] }] else none
def eqO_nrA (eb nb cb : Nat) (fb : RF) : Ann := fun k tt ss => bif Nat.beq k 4 then some [{ α := Nat, T := fun k => ⟨26, [(0, .slice none 0 0), (1, rsl 0 0 nb cb), (12, .int .i64 (0 : Nat)), (13, .int .i64 (k : Int))]⟩, S := fun _ => ⟨[(0, .row true [.u64] eb nb cb fb)], 1⟩, I := fun k => (k ≤ 0 ∧ 0 = nb) ∧ ∀ i, i < k → zF i 0 = fb i 0, m := fun k => 0 - k, ρ0 := [], ρ1 := [[]] }] else none
def eqO_rnA (ea na ca : Nat) (fa : RF) : Ann := fun k tt ss => bif Nat.beq k 4 then some [{ α := Nat, T := fun k => ⟨26, [(0, rsl 0 0 na ca), (1, .slice none 0 0), (12, .int .i64 (na : Nat)), (13, .int .i64 (k : Int))]⟩, S := fun _ => ⟨[(0, .row true [.u64] ea na ca fa)], 1⟩, I := fun k => (k ≤ na ∧ na = 0) ∧ ∀ i, i < k → fa i 0 = zF i 0, m := fun k => na - k, ρ0 := [], ρ1 := [[]] }] else none
def eqO_rrA (ea na ca : Nat) (fa : RF) (eb nb cb : Nat) (fb : RF) : Ann := fun k tt ss => bif Nat.beq k 4 then some [{ α := Nat, T := fun k => ⟨26, [(0, rsl 0 0 na ca), (1, rsl 1 0 nb cb), (12, .int .i64 (na : Nat)), (13, .int .i64 (k : Int))]⟩, S := fun _ => ⟨[(0, .row true [.u64] ea na ca fa), (1, .row true [.u64] eb nb cb fb)], 2⟩, I := fun k => (k ≤ na ∧ na = nb) ∧ ∀ i, i < k → fa i 0 = fb i 0, m := fun k => na - k, ρ0 := [], ρ1 := [[]] }] else none
def inK_nnV  (K : Value → List Blk → Prop) : Prop := let q0 := TS; (T0 ∧ (q0 ∧ (q0 ∧ (T0 ∧ ((∃ y0 : Nat, ((Go.Rx.Sub 0 [] ⟨26, [(5, vi (0 : Int)), (0, vn), (1, vn)]⟩ ⟨[], 0⟩ ({ n := (26 : Nat), m := [((0 : Nat), vn), ((1 : Nat), vn), ((5 : Nat), vi (↑y0 : Int))] }) ({ h := [], next := (0 : Nat) })) ∧ ((y0 ≤ (0 : Nat)) ∧ ((0 : Nat) ≤ y0)))) ∧ (∀ y0 : Nat, (((y0 ≤ (0 : Nat)) ∧ ((0 : Nat) ≤ y0)) → (q0 ∧ (T0 ∧ (∃ y1 : Value, (∃ y2 : List Blk, ((Go.Rx.Found 0 (Value.bool true) ({ h := [], next := (0 : Nat) }) (y1) (y2)) ∧ (K y1 y2)))))))))))))
theorem inK_nnE  (K : Value → List Blk → Prop) : inK_nnV  K = bodyX (mk XZ) (callN (mk XZ) 4) (inK_nnA ) Try.f38 [.slice none 0 0, .slice none 0 0] (stOf []) (Fd 0 K) := by kernel_rfl
set_option tactic.hygienic false in
theorem inK_nnP  (K : Value → List Blk → Prop)  (h1 : 0 = 0) (h2 : ∀ i, i < 0 → zF i 0 = zF i 0) (h : K (.bool true) []) : inK_nnV  K := by
  unfold inK_nnV
  conv => zeta

  repeat' (first | (with_reducible exact rfl) | (with_reducible exact trivial) | (with_reducible refine And.intro ?_ ?_) | (intro) | (with_reducible refine br_d (fun hq => ?_) (fun hq => ?_)) | (with_reducible refine br_nd (fun hq => ?_) (fun hq => ?_)) | (with_reducible refine br_intro (fun hq => ?_) (fun hq => ?_)) | (with_reducible refine if_both (fun hz => ?_) (fun hz => ?_)) | fail)

  all_goals first
    | omega
    | assumption
    | contradiction
    | exact ⟨0, (by (refine And.intro (And.intro rfl (And.intro rfl (And.intro rfl rfl))) ?_; (repeat' (first | exact trivial | exact rfl | exact fun _ _ _ _ => rfl | refine And.intro ?_ ?_ | omega | fail)); done)), by omega, by omega⟩
    | exact ⟨y0 + 1, (by (refine And.intro (And.intro rfl (And.intro rfl (And.intro rfl rfl))) ?_; (repeat' (first | exact trivial | exact rfl | exact fun _ _ _ _ => rfl | refine And.intro ?_ ?_ | omega | fail)); done)), ⟨by omega, by omega⟩, by omega⟩
    | exact fin0 (by kernel_rfl) (by kernel_rfl) (by first | exact h | simpa using h)
    | (exfalso; have q := h2 y0 (by omega); omega)
def inK_nrV (eb nb cb : Nat) (fb : RF) (K : Value → List Blk → Prop) : Prop := let q0 := TS; (T0 ∧ (q0 ∧ (q0 ∧ (T0 ∧ (if (@Eq Int ((0 : Int)) ((↑nb : Int))) then ((∃ y0 : Nat, ((Go.Rx.Sub 1 [] ⟨26, [(5, vi (0 : Int)), (0, vn), (1, rsl (0 : Nat) (0 : Nat) nb cb)]⟩ ⟨[(0, Blk.row true [IntKind.i64] eb nb cb fb)], 1⟩ ({ n := (26 : Nat), m := [((0 : Nat), vn), ((1 : Nat), rsl (0 : Nat) (0 : Nat) nb cb), ((5 : Nat), vi (↑y0 : Int))] }) ({ h := [((0 : Nat), Blk.row true [IntKind.i64] eb nb cb fb)], next := (1 : Nat) })) ∧ ((y0 ≤ (0 : Nat)) ∧ ((0 : Nat) ≤ y0)))) ∧ (∀ y0 : Nat, (((y0 ≤ (0 : Nat)) ∧ ((0 : Nat) ≤ y0)) → (q0 ∧ (T0 ∧ (∃ y1 : Value, (∃ y2 : List Blk, ((Go.Rx.Found 1 (Value.bool true) ({ h := [((0 : Nat), Blk.row true [IntKind.i64] eb nb cb fb)], next := (1 : Nat) }) (y1) (y2)) ∧ (K y1 y2))))))))) else (∃ y0 : Value, (∃ y1 : List Blk, ((Go.Rx.Found 1 (Value.bool false) ({ h := [((0 : Nat), Blk.row true [IntKind.i64] eb nb cb fb)], next := (1 : Nat) }) (y0) (y1)) ∧ (K y0 y1)))))))))
theorem inK_nrE (eb nb cb : Nat) (fb : RF) (K : Value → List Blk → Prop) : inK_nrV eb nb cb fb K = bodyX (mk XZ) (callN (mk XZ) 4) (inK_nrA eb nb cb fb) Try.f38 [.slice none 0 0, rsl 0 0 nb cb] (stOf [.row true [.i64] eb nb cb fb]) (Fd 1 K) := by kernel_rfl
set_option tactic.hygienic false in
theorem inK_nrP (eb nb cb : Nat) (fb : RF) (K : Value → List Blk → Prop)  (hnb : nb ≤ 100000) (h1 : 0 = nb) (h2 : ∀ i, i < 0 → zF i 0 = fb i 0) (h : K (.bool true) []) : inK_nrV eb nb cb fb K := by
  unfold inK_nrV
  conv => zeta

  repeat' (first | (with_reducible exact rfl) | (with_reducible exact trivial) | (with_reducible refine And.intro ?_ ?_) | (intro) | (with_reducible refine br_d (fun hq => ?_) (fun hq => ?_)) | (with_reducible refine br_nd (fun hq => ?_) (fun hq => ?_)) | (with_reducible refine br_intro (fun hq => ?_) (fun hq => ?_)) | (with_reducible refine if_both (fun hz => ?_) (fun hz => ?_)) | fail)

  all_goals first
    | omega
    | assumption
    | contradiction
    | exact ⟨0, (by (refine And.intro (And.intro rfl (And.intro rfl (And.intro rfl rfl))) ?_; (repeat' (first | exact trivial | exact rfl | exact fun _ _ _ _ => rfl | refine And.intro ?_ ?_ | omega | fail)); done)), by omega, by omega⟩
    | exact ⟨y0 + 1, (by (refine And.intro (And.intro rfl (And.intro rfl (And.intro rfl rfl))) ?_; (repeat' (first | exact trivial | exact rfl | exact fun _ _ _ _ => rfl | refine And.intro ?_ ?_ | omega | fail)); done)), ⟨by omega, by omega⟩, by omega⟩
    | exact fin0 (by kernel_rfl) (by kernel_rfl) (by first | exact h | simpa using h)
    | (exfalso; have q := h2 y0 (by omega); omega)
def inK_rnV (ea na ca : Nat) (fa : RF) (K : Value → List Blk → Prop) : Prop := let q0 := TS; (T0 ∧ (q0 ∧ (q0 ∧ (T0 ∧ (if (@Eq Int ((↑na : Int)) ((0 : Int))) then ((∃ y0 : Nat, ((Go.Rx.Sub 1 [] ⟨26, [(5, vi (0 : Int)), (0, rsl (0 : Nat) (0 : Nat) na ca), (1, vn)]⟩ ⟨[(0, Blk.row true [IntKind.i64] ea na ca fa)], 1⟩ ({ n := (26 : Nat), m := [((0 : Nat), rsl (0 : Nat) (0 : Nat) na ca), ((1 : Nat), vn), ((5 : Nat), vi (↑y0 : Int))] }) ({ h := [((0 : Nat), Blk.row true [IntKind.i64] ea na ca fa)], next := (1 : Nat) })) ∧ ((y0 ≤ na) ∧ ((0 : Nat) ≤ y0)))) ∧ (∀ y0 : Nat, (((y0 ≤ na) ∧ ((0 : Nat) ≤ y0)) → (q0 ∧ (T0 ∧ (if ((↑y0 : Int) < (↑na : Int)) then (t4 ((q0 ∧ (@Eq Nat ((1 : Nat)) ((1 : Nat)))) ∧ ((((0 : Int) ≤ (↑y0 : Int)) ∧ ((↑y0 : Int) < (↑na : Int))) ∧ (T0 ∧ ((y0 < na) ∧ (t3 (False))))))) else (∃ y1 : Value, (∃ y2 : List Blk, ((Go.Rx.Found 1 (Value.bool true) ({ h := [((0 : Nat), Blk.row true [IntKind.i64] ea na ca fa)], next := (1 : Nat) }) (y1) (y2)) ∧ (K y1 y2)))))))))) else (∃ y0 : Value, (∃ y1 : List Blk, ((Go.Rx.Found 1 (Value.bool false) ({ h := [((0 : Nat), Blk.row true [IntKind.i64] ea na ca fa)], next := (1 : Nat) }) (y0) (y1)) ∧ (K y0 y1)))))))))
theorem inK_rnE (ea na ca : Nat) (fa : RF) (K : Value → List Blk → Prop) : inK_rnV ea na ca fa K = bodyX (mk XZ) (callN (mk XZ) 4) (inK_rnA ea na ca fa) Try.f38 [rsl 0 0 na ca, .slice none 0 0] (stOf [.row true [.i64] ea na ca fa]) (Fd 1 K) := by kernel_rfl
set_option tactic.hygienic false in
theorem inK_rnP (ea na ca : Nat) (fa : RF) (K : Value → List Blk → Prop)  (hna : na ≤ 100000) (h1 : na = 0) (h2 : ∀ i, i < na → fa i 0 = zF i 0) (h : K (.bool true) []) : inK_rnV ea na ca fa K := by
  unfold inK_rnV
  conv => zeta

  repeat' (first | (with_reducible exact rfl) | (with_reducible exact trivial) | (with_reducible refine And.intro ?_ ?_) | (intro) | (with_reducible refine br_d (fun hq => ?_) (fun hq => ?_)) | (with_reducible refine br_nd (fun hq => ?_) (fun hq => ?_)) | (with_reducible refine br_intro (fun hq => ?_) (fun hq => ?_)) | (with_reducible refine if_both (fun hz => ?_) (fun hz => ?_)) | fail)

  all_goals first
    | omega
    | assumption
    | contradiction
    | exact ⟨0, (by (refine And.intro (And.intro rfl (And.intro rfl (And.intro rfl rfl))) ?_; (repeat' (first | exact trivial | exact rfl | exact fun _ _ _ _ => rfl | refine And.intro ?_ ?_ | omega | fail)); done)), by omega, by omega⟩
    | exact ⟨y0 + 1, (by (refine And.intro (And.intro rfl (And.intro rfl (And.intro rfl rfl))) ?_; (repeat' (first | exact trivial | exact rfl | exact fun _ _ _ _ => rfl | refine And.intro ?_ ?_ | omega | fail)); done)), ⟨by omega, by omega⟩, by omega⟩
    | exact fin0 (by kernel_rfl) (by kernel_rfl) (by first | exact h | simpa using h)
    | (exfalso; have q := h2 y0 (by omega); omega)
def inK_rrV (ea na ca : Nat) (fa : RF) (eb nb cb : Nat) (fb : RF) (K : Value → List Blk → Prop) : Prop := let q0 := (0, rsl (0 : Nat) (0 : Nat) na ca); let q1 := (1, rsl (1 : Nat) (0 : Nat) nb cb); let q2 := TS; let q3 := ((0 : Nat), rsl (0 : Nat) (0 : Nat) na ca); let q4 := ((1 : Nat), rsl (1 : Nat) (0 : Nat) nb cb); let q5 := (0, Blk.row true [IntKind.i64] ea na ca fa); let q6 := (1, Blk.row true [IntKind.i64] eb nb cb fb); let q7 := (q2 ∧ (@Eq Nat ((1 : Nat)) ((1 : Nat)))); (T0 ∧ (q2 ∧ (q2 ∧ (T0 ∧ (if (@Eq Int ((↑na : Int)) ((↑nb : Int))) then ((∃ y0 : Nat, ((Go.Rx.Sub 2 [] ⟨26, [(5, vi (0 : Int)), q0, q1]⟩ ⟨[q5, q6], 2⟩ ({ n := (26 : Nat), m := [q3, q4, ((5 : Nat), vi (↑y0 : Int))] }) ({ h := [((0 : Nat), Blk.row true [IntKind.i64] ea na ca fa), ((1 : Nat), Blk.row true [IntKind.i64] eb nb cb fb)], next := (2 : Nat) })) ∧ ((y0 ≤ na) ∧ ((0 : Nat) ≤ y0)))) ∧ (∀ y0 : Nat, let q8 := ((0 : Int) ≤ (↑y0 : Int)); (((y0 ≤ na) ∧ ((0 : Nat) ≤ y0)) → (q2 ∧ (T0 ∧ (if ((↑y0 : Int) < (↑na : Int)) then (t4 (q7 ∧ ((q8 ∧ ((↑y0 : Int) < (↑na : Int))) ∧ (T0 ∧ ((y0 < na) ∧ (t3 (q7 ∧ ((q8 ∧ ((↑y0 : Int) < (↑nb : Int))) ∧ (T0 ∧ ((y0 < nb) ∧ (t2 (if (@Eq Int (fa y0 (0 : Nat)) (fb y0 (0 : Nat))) then (T0 ∧ ((((-9223372036854775808 : Int) ≤ (↑y0 : Int) + (1 : Int)) ∧ ((↑y0 : Int) + (1 : Int) ≤ (9223372036854775807 : Int))) ∧ (∃ y1 : Nat, ((Go.Rx.Sub 2 [] ⟨26, [(5, vi ((↑y0 : Int) + (1 : Int))), q0, q1]⟩ ⟨[q5, q6], 2⟩ ({ n := (26 : Nat), m := [q3, q4, ((5 : Nat), vi (↑y1 : Int))] }) ({ h := [((0 : Nat), Blk.row true [IntKind.i64] ea na ca fa), ((1 : Nat), Blk.row true [IntKind.i64] eb nb cb fb)], next := (2 : Nat) })) ∧ (((y1 ≤ na) ∧ ((0 : Nat) ≤ y1)) ∧ (na - y1 < na - y0)))))) else (∃ y1 : Value, (∃ y2 : List Blk, ((Go.Rx.Found 2 (Value.bool false) ({ h := [((0 : Nat), Blk.row true [IntKind.i64] ea na ca fa), ((1 : Nat), Blk.row true [IntKind.i64] eb nb cb fb)], next := (2 : Nat) }) (y1) (y2)) ∧ (K y1 y2)))))))))))))))) else (∃ y1 : Value, (∃ y2 : List Blk, ((Go.Rx.Found 2 (Value.bool true) ({ h := [((0 : Nat), Blk.row true [IntKind.i64] ea na ca fa), ((1 : Nat), Blk.row true [IntKind.i64] eb nb cb fb)], next := (2 : Nat) }) (y1) (y2)) ∧ (K y1 y2)))))))))) else (∃ y0 : Value, (∃ y1 : List Blk, ((Go.Rx.Found 2 (Value.bool false) ({ h := [((0 : Nat), Blk.row true [IntKind.i64] ea na ca fa), ((1 : Nat), Blk.row true [IntKind.i64] eb nb cb fb)], next := (2 : Nat) }) (y0) (y1)) ∧ (K y0 y1)))))))))
theorem inK_rrE (ea na ca : Nat) (fa : RF) (eb nb cb : Nat) (fb : RF) (K : Value → List Blk → Prop) : inK_rrV ea na ca fa eb nb cb fb K = bodyX (mk XZ) (callN (mk XZ) 4) (inK_rrA ea na ca fa eb nb cb fb) Try.f38 [rsl 0 0 na ca, rsl 1 0 nb cb] (stOf [.row true [.i64] ea na ca fa, .row true [.i64] eb nb cb fb]) (Fd 2 K) := by kernel_rfl
set_option tactic.hygienic false in
theorem inK_rrP (ea na ca : Nat) (fa : RF) (eb nb cb : Nat) (fb : RF) (K : Value → List Blk → Prop)  (hna : na ≤ 100000) (hnb : nb ≤ 100000) (h1 : na = nb) (h2 : ∀ i, i < na → fa i 0 = fb i 0) (h : K (.bool true) []) : inK_rrV ea na ca fa eb nb cb fb K := by
  unfold inK_rrV
  conv => zeta

  repeat' (first | (with_reducible exact rfl) | (with_reducible exact trivial) | (with_reducible refine And.intro ?_ ?_) | (intro) | (with_reducible refine br_d (fun hq => ?_) (fun hq => ?_)) | (with_reducible refine br_nd (fun hq => ?_) (fun hq => ?_)) | (with_reducible refine br_intro (fun hq => ?_) (fun hq => ?_)) | (with_reducible refine if_both (fun hz => ?_) (fun hz => ?_)) | fail)

  all_goals first
    | omega
    | assumption
    | contradiction
    | exact ⟨0, (by (refine And.intro (And.intro rfl (And.intro rfl (And.intro rfl rfl))) ?_; (repeat' (first | exact trivial | exact rfl | exact fun _ _ _ _ => rfl | refine And.intro ?_ ?_ | omega | fail)); done)), by omega, by omega⟩
    | exact ⟨y0 + 1, (by (refine And.intro (And.intro rfl (And.intro rfl (And.intro rfl rfl))) ?_; (repeat' (first | exact trivial | exact rfl | exact fun _ _ _ _ => rfl | refine And.intro ?_ ?_ | omega | fail)); done)), ⟨by omega, by omega⟩, by omega⟩
    | exact fin0 (by kernel_rfl) (by kernel_rfl) (by first | exact h | simpa using h)
    | (exfalso; have q := h2 y0 (by omega); omega)
theorem inK_ok : BodyOk (mk XZ) 4 Try.f38 inK := by
  intro vs bs K hh hro
  clear hro
  unfold inK at hh
  split at hh
  · rename_i va vb
    rcases parse_inv hh with ⟨rfl, hh0⟩ | ⟨ea, na, ca, fa, bta, rfl, hna, rfl, hh0⟩ <;> clear hh
    · rcases parse_inv hh0 with ⟨rfl, hh1⟩ | ⟨eb, nb, cb, fb, btb, rfl, hnb, rfl, hh1⟩ <;> clear hh0
      · obtain ⟨rfl, ⟨h1, h2⟩, hc⟩ := hh1
        exact ⟨_, _, cast (inK_nnE   K) (inK_nnP   K  h1 h2 hc)⟩
      · obtain ⟨rfl, ⟨h1, h2⟩, hc⟩ := hh1
        exact ⟨_, _, cast (inK_nrE eb nb cb fb  K) (inK_nrP eb nb cb fb  K hnb h1 h2 hc)⟩
    · rcases parse_inv hh0 with ⟨rfl, hh1⟩ | ⟨eb, nb, cb, fb, btb, rfl, hnb, rfl, hh1⟩ <;> clear hh0
      · obtain ⟨rfl, ⟨h1, h2⟩, hc⟩ := hh1
        exact ⟨_, _, cast (inK_rnE ea na ca fa  K) (inK_rnP ea na ca fa  K hna h1 h2 hc)⟩
      · obtain ⟨rfl, ⟨h1, h2⟩, hc⟩ := hh1
        exact ⟨_, _, cast (inK_rrE ea na ca fa eb nb cb fb  K) (inK_rrP ea na ca fa eb nb cb fb  K hna hnb h1 h2 hc)⟩
  · exact hh.elim
theorem inK_told : Told 38 (specOf inK) := told (X := XZ) XZ_told (by kernel_rfl) (by kernel_rfl) (by kernel_rfl) inK_ok
def eqO_nnV  (K : Value → List Blk → Prop) : Prop := let q0 := (@Eq Nat ((0 : Nat)) ((0 : Nat))); let q1 := TS; (T0 ∧ (q1 ∧ (q1 ∧ (T0 ∧ (q1 ∧ ((∃ y0 : Nat, ((Go.Rx.Sub 0 [] ⟨26, [(13, vi (0 : Int)), (12, vi (0 : Int)), (0, vn), (1, vn)]⟩ ⟨[], 0⟩ ({ n := (26 : Nat), m := [((0 : Nat), vn), ((1 : Nat), vn), ((12 : Nat), vi (0 : Int)), ((13 : Nat), vi (↑y0 : Int))] }) ({ h := [], next := (0 : Nat) })) ∧ (((y0 ≤ (0 : Nat)) ∧ q0) ∧ (∀ y1 : Nat, ((y1 < y0) → (@Eq Int (zF y1 (0 : Nat)) (zF y1 (0 : Nat)))))))) ∧ (∀ y0 : Nat, ((((y0 ≤ (0 : Nat)) ∧ q0) ∧ (∀ y1 : Nat, ((y1 < y0) → (@Eq Int (zF y1 (0 : Nat)) (zF y1 (0 : Nat)))))) → (T0 ∧ (∃ y1 : Value, (∃ y2 : List Blk, ((Go.Rx.Found 0 (Value.bool true) ({ h := [], next := (0 : Nat) }) (y1) (y2)) ∧ (K y1 y2)))))))))))))
theorem eqO_nnE  (K : Value → List Blk → Prop) : eqO_nnV  K = bodyX (mk XZ) (callN (mk XZ) 4) (eqO_nnA ) Try.f99 [.slice none 0 0, .slice none 0 0] (stOf []) (Fd 0 K) := by kernel_rfl
set_option tactic.hygienic false in
theorem eqO_nnP  (K : Value → List Blk → Prop)  (h : ∀ bb : Bool, (bb = true ↔ (0 = 0 ∧ ∀ i, i < 0 → zF i 0 = zF i 0)) → K (.bool bb) []) : eqO_nnV  K := by
  unfold eqO_nnV
  conv => zeta

  repeat' (first | (with_reducible exact rfl) | (with_reducible exact trivial) | (with_reducible refine And.intro ?_ ?_) | (intro) | (with_reducible refine br_d (fun hq => ?_) (fun hq => ?_)) | (with_reducible refine br_nd (fun hq => ?_) (fun hq => ?_)) | (with_reducible refine br_intro (fun hq => ?_) (fun hq => ?_)) | (with_reducible refine if_both (fun hz => ?_) (fun hz => ?_)) | fail)

  all_goals first
    | omega
    | assumption
    | contradiction
    | exact ⟨0, (by (refine And.intro (And.intro rfl (And.intro rfl (And.intro rfl rfl))) ?_; (repeat' (first | exact trivial | exact rfl | exact fun _ _ _ _ => rfl | refine And.intro ?_ ?_ | omega | fail)); done)), ⟨by omega, by omega⟩, fun i hi => absurd hi (by omega)⟩
    | (rename _ ∧ (∀ _ : Nat, _) => I
       exact ⟨y0 + 1, (by (refine And.intro (And.intro rfl (And.intro rfl (And.intro rfl rfl))) ?_; (repeat' (first | exact trivial | exact rfl | exact fun _ _ _ _ => rfl | refine And.intro ?_ ?_ | omega | fail)); done)), ⟨⟨by omega, by omega⟩, fun i hi => (by
         rcases Nat.lt_or_ge i y0 with q | q
         · exact I.2 i q
         · obtain rfl : i = y0 := by omega
           omega)⟩, by omega⟩)
    | exact fin0 (by kernel_rfl) (by kernel_rfl) (h false ⟨fun e => (by cases e), fun e => absurd e.1 (by omega)⟩)
    | (rename _ ∧ (∀ _ : Nat, _) => I
       exact fin0 (by kernel_rfl) (by kernel_rfl) (h false ⟨fun e => (by cases e), fun e => absurd (e.2 y0 (by omega)) (by assumption)⟩))
    | (rename _ ∧ (∀ _ : Nat, _) => I
       exact fin0 (by kernel_rfl) (by kernel_rfl) (h true ⟨fun _ => ⟨by omega, fun i hi => I.2 i (by omega)⟩, fun _ => rfl⟩))
    | exact fin0 (by kernel_rfl) (by kernel_rfl) (h true ⟨fun _ => ⟨by omega, fun i hi => absurd hi (by omega)⟩, fun _ => rfl⟩)
def eqO_nrV (eb nb cb : Nat) (fb : RF) (K : Value → List Blk → Prop) : Prop := let q0 := (@Eq Nat ((0 : Nat)) (nb)); let q1 := TS; (T0 ∧ (q1 ∧ (q1 ∧ (T0 ∧ (if (@Eq Int ((0 : Int)) ((↑nb : Int))) then (q1 ∧ ((∃ y0 : Nat, ((Go.Rx.Sub 1 [] ⟨26, [(13, vi (0 : Int)), (12, vi (0 : Int)), (0, vn), (1, rsl (0 : Nat) (0 : Nat) nb cb)]⟩ ⟨[(0, Blk.row true [IntKind.u64] eb nb cb fb)], 1⟩ ({ n := (26 : Nat), m := [((0 : Nat), vn), ((1 : Nat), rsl (0 : Nat) (0 : Nat) nb cb), ((12 : Nat), vi (0 : Int)), ((13 : Nat), vi (↑y0 : Int))] }) ({ h := [((0 : Nat), Blk.row true [IntKind.u64] eb nb cb fb)], next := (1 : Nat) })) ∧ (((y0 ≤ (0 : Nat)) ∧ q0) ∧ (∀ y1 : Nat, ((y1 < y0) → (@Eq Int (zF y1 (0 : Nat)) (fb y1 (0 : Nat)))))))) ∧ (∀ y0 : Nat, ((((y0 ≤ (0 : Nat)) ∧ q0) ∧ (∀ y1 : Nat, ((y1 < y0) → (@Eq Int (zF y1 (0 : Nat)) (fb y1 (0 : Nat)))))) → (T0 ∧ (∃ y1 : Value, (∃ y2 : List Blk, ((Go.Rx.Found 1 (Value.bool true) ({ h := [((0 : Nat), Blk.row true [IntKind.u64] eb nb cb fb)], next := (1 : Nat) }) (y1) (y2)) ∧ (K y1 y2))))))))) else (∃ y0 : Value, (∃ y1 : List Blk, ((Go.Rx.Found 1 (Value.bool false) ({ h := [((0 : Nat), Blk.row true [IntKind.u64] eb nb cb fb)], next := (1 : Nat) }) (y0) (y1)) ∧ (K y0 y1)))))))))
theorem eqO_nrE (eb nb cb : Nat) (fb : RF) (K : Value → List Blk → Prop) : eqO_nrV eb nb cb fb K = bodyX (mk XZ) (callN (mk XZ) 4) (eqO_nrA eb nb cb fb) Try.f99 [.slice none 0 0, rsl 0 0 nb cb] (stOf [.row true [.u64] eb nb cb fb]) (Fd 1 K) := by kernel_rfl
set_option tactic.hygienic false in
theorem eqO_nrP (eb nb cb : Nat) (fb : RF) (K : Value → List Blk → Prop)  (hnb : nb ≤ 100000) (hcb : nb ≤ cb) (h : ∀ bb : Bool, (bb = true ↔ (0 = nb ∧ ∀ i, i < 0 → zF i 0 = fb i 0)) → K (.bool bb) []) : eqO_nrV eb nb cb fb K := by
  unfold eqO_nrV
  conv => zeta

  repeat' (first | (with_reducible exact rfl) | (with_reducible exact trivial) | (with_reducible refine And.intro ?_ ?_) | (intro) | (with_reducible refine br_d (fun hq => ?_) (fun hq => ?_)) | (with_reducible refine br_nd (fun hq => ?_) (fun hq => ?_)) | (with_reducible refine br_intro (fun hq => ?_) (fun hq => ?_)) | (with_reducible refine if_both (fun hz => ?_) (fun hz => ?_)) | fail)

  all_goals first
    | omega
    | assumption
    | contradiction
    | exact ⟨0, (by (refine And.intro (And.intro rfl (And.intro rfl (And.intro rfl rfl))) ?_; (repeat' (first | exact trivial | exact rfl | exact fun _ _ _ _ => rfl | refine And.intro ?_ ?_ | omega | fail)); done)), ⟨by omega, by omega⟩, fun i hi => absurd hi (by omega)⟩
    | (rename _ ∧ (∀ _ : Nat, _) => I
       exact ⟨y0 + 1, (by (refine And.intro (And.intro rfl (And.intro rfl (And.intro rfl rfl))) ?_; (repeat' (first | exact trivial | exact rfl | exact fun _ _ _ _ => rfl | refine And.intro ?_ ?_ | omega | fail)); done)), ⟨⟨by omega, by omega⟩, fun i hi => (by
         rcases Nat.lt_or_ge i y0 with q | q
         · exact I.2 i q
         · obtain rfl : i = y0 := by omega
           omega)⟩, by omega⟩)
    | exact fin0 (by kernel_rfl) (by kernel_rfl) (h false ⟨fun e => (by cases e), fun e => absurd e.1 (by omega)⟩)
    | (rename _ ∧ (∀ _ : Nat, _) => I
       exact fin0 (by kernel_rfl) (by kernel_rfl) (h false ⟨fun e => (by cases e), fun e => absurd (e.2 y0 (by omega)) (by assumption)⟩))
    | (rename _ ∧ (∀ _ : Nat, _) => I
       exact fin0 (by kernel_rfl) (by kernel_rfl) (h true ⟨fun _ => ⟨by omega, fun i hi => I.2 i (by omega)⟩, fun _ => rfl⟩))
    | exact fin0 (by kernel_rfl) (by kernel_rfl) (h true ⟨fun _ => ⟨by omega, fun i hi => absurd hi (by omega)⟩, fun _ => rfl⟩)
def eqO_rnV (ea na ca : Nat) (fa : RF) (K : Value → List Blk → Prop) : Prop := let q0 := (@Eq Nat (na) ((0 : Nat))); let q1 := TS; (T0 ∧ (q1 ∧ (q1 ∧ (T0 ∧ (if (@Eq Int ((↑na : Int)) ((0 : Int))) then (q1 ∧ ((∃ y0 : Nat, ((Go.Rx.Sub 1 [] ⟨26, [(13, vi (0 : Int)), (12, vi (↑na : Int)), (0, rsl (0 : Nat) (0 : Nat) na ca), (1, vn)]⟩ ⟨[(0, Blk.row true [IntKind.u64] ea na ca fa)], 1⟩ ({ n := (26 : Nat), m := [((0 : Nat), rsl (0 : Nat) (0 : Nat) na ca), ((1 : Nat), vn), ((12 : Nat), vi (↑na : Int)), ((13 : Nat), vi (↑y0 : Int))] }) ({ h := [((0 : Nat), Blk.row true [IntKind.u64] ea na ca fa)], next := (1 : Nat) })) ∧ (((y0 ≤ na) ∧ q0) ∧ (∀ y1 : Nat, ((y1 < y0) → (@Eq Int (fa y1 (0 : Nat)) (zF y1 (0 : Nat)))))))) ∧ (∀ y0 : Nat, ((((y0 ≤ na) ∧ q0) ∧ (∀ y1 : Nat, ((y1 < y0) → (@Eq Int (fa y1 (0 : Nat)) (zF y1 (0 : Nat)))))) → (T0 ∧ (if ((↑y0 : Int) < (↑na : Int)) then (t4 ((q1 ∧ (@Eq Nat ((1 : Nat)) ((1 : Nat)))) ∧ ((((0 : Int) ≤ (↑y0 : Int)) ∧ ((↑y0 : Int) < (↑na : Int))) ∧ (T0 ∧ ((y0 < na) ∧ (t3 (False))))))) else (∃ y1 : Value, (∃ y2 : List Blk, ((Go.Rx.Found 1 (Value.bool true) ({ h := [((0 : Nat), Blk.row true [IntKind.u64] ea na ca fa)], next := (1 : Nat) }) (y1) (y2)) ∧ (K y1 y2)))))))))) else (∃ y0 : Value, (∃ y1 : List Blk, ((Go.Rx.Found 1 (Value.bool false) ({ h := [((0 : Nat), Blk.row true [IntKind.u64] ea na ca fa)], next := (1 : Nat) }) (y0) (y1)) ∧ (K y0 y1)))))))))
theorem eqO_rnE (ea na ca : Nat) (fa : RF) (K : Value → List Blk → Prop) : eqO_rnV ea na ca fa K = bodyX (mk XZ) (callN (mk XZ) 4) (eqO_rnA ea na ca fa) Try.f99 [rsl 0 0 na ca, .slice none 0 0] (stOf [.row true [.u64] ea na ca fa]) (Fd 1 K) := by kernel_rfl
set_option tactic.hygienic false in
theorem eqO_rnP (ea na ca : Nat) (fa : RF) (K : Value → List Blk → Prop)  (hna : na ≤ 100000) (hca : na ≤ ca) (h : ∀ bb : Bool, (bb = true ↔ (na = 0 ∧ ∀ i, i < na → fa i 0 = zF i 0)) → K (.bool bb) []) : eqO_rnV ea na ca fa K := by
  unfold eqO_rnV
  conv => zeta

  repeat' (first | (with_reducible exact rfl) | (with_reducible exact trivial) | (with_reducible refine And.intro ?_ ?_) | (intro) | (with_reducible refine br_d (fun hq => ?_) (fun hq => ?_)) | (with_reducible refine br_nd (fun hq => ?_) (fun hq => ?_)) | (with_reducible refine br_intro (fun hq => ?_) (fun hq => ?_)) | (with_reducible refine if_both (fun hz => ?_) (fun hz => ?_)) | fail)

  all_goals first
    | omega
    | assumption
    | contradiction
    | exact ⟨0, (by (refine And.intro (And.intro rfl (And.intro rfl (And.intro rfl rfl))) ?_; (repeat' (first | exact trivial | exact rfl | exact fun _ _ _ _ => rfl | refine And.intro ?_ ?_ | omega | fail)); done)), ⟨by omega, by omega⟩, fun i hi => absurd hi (by omega)⟩
    | (rename _ ∧ (∀ _ : Nat, _) => I
       exact ⟨y0 + 1, (by (refine And.intro (And.intro rfl (And.intro rfl (And.intro rfl rfl))) ?_; (repeat' (first | exact trivial | exact rfl | exact fun _ _ _ _ => rfl | refine And.intro ?_ ?_ | omega | fail)); done)), ⟨⟨by omega, by omega⟩, fun i hi => (by
         rcases Nat.lt_or_ge i y0 with q | q
         · exact I.2 i q
         · obtain rfl : i = y0 := by omega
           omega)⟩, by omega⟩)
    | exact fin0 (by kernel_rfl) (by kernel_rfl) (h false ⟨fun e => (by cases e), fun e => absurd e.1 (by omega)⟩)
    | (rename _ ∧ (∀ _ : Nat, _) => I
       exact fin0 (by kernel_rfl) (by kernel_rfl) (h false ⟨fun e => (by cases e), fun e => absurd (e.2 y0 (by omega)) (by assumption)⟩))
    | (rename _ ∧ (∀ _ : Nat, _) => I
       exact fin0 (by kernel_rfl) (by kernel_rfl) (h true ⟨fun _ => ⟨by omega, fun i hi => I.2 i (by omega)⟩, fun _ => rfl⟩))
    | exact fin0 (by kernel_rfl) (by kernel_rfl) (h true ⟨fun _ => ⟨by omega, fun i hi => absurd hi (by omega)⟩, fun _ => rfl⟩)
def eqO_rrV (ea na ca : Nat) (fa : RF) (eb nb cb : Nat) (fb : RF) (K : Value → List Blk → Prop) : Prop := let q0 := (0, rsl (0 : Nat) (0 : Nat) na ca); let q1 := (1, rsl (1 : Nat) (0 : Nat) nb cb); let q2 := (12, vi (↑na : Int)); let q3 := TS; let q4 := ((0 : Nat), rsl (0 : Nat) (0 : Nat) na ca); let q5 := ((1 : Nat), rsl (1 : Nat) (0 : Nat) nb cb); let q6 := (0, Blk.row true [IntKind.u64] ea na ca fa); let q7 := (1, Blk.row true [IntKind.u64] eb nb cb fb); let q8 := ((12 : Nat), vi (↑na : Int)); let q9 := (q3 ∧ (@Eq Nat ((1 : Nat)) ((1 : Nat)))); (T0 ∧ (q3 ∧ (q3 ∧ (T0 ∧ (if (@Eq Int ((↑na : Int)) ((↑nb : Int))) then (q3 ∧ ((∃ y0 : Nat, ((Go.Rx.Sub 2 [] ⟨26, [(13, vi (0 : Int)), q2, q0, q1]⟩ ⟨[q6, q7], 2⟩ ({ n := (26 : Nat), m := [q4, q5, q8, ((13 : Nat), vi (↑y0 : Int))] }) ({ h := [((0 : Nat), Blk.row true [IntKind.u64] ea na ca fa), ((1 : Nat), Blk.row true [IntKind.u64] eb nb cb fb)], next := (2 : Nat) })) ∧ (((y0 ≤ na) ∧ (@Eq Nat (na) (nb))) ∧ (∀ y1 : Nat, ((y1 < y0) → (@Eq Int (fa y1 (0 : Nat)) (fb y1 (0 : Nat)))))))) ∧ (∀ y0 : Nat, let q10 := ((0 : Int) ≤ (↑y0 : Int)); ((((y0 ≤ na) ∧ (@Eq Nat (na) (nb))) ∧ (∀ y1 : Nat, ((y1 < y0) → (@Eq Int (fa y1 (0 : Nat)) (fb y1 (0 : Nat)))))) → (T0 ∧ (if ((↑y0 : Int) < (↑na : Int)) then (t4 (q9 ∧ ((q10 ∧ ((↑y0 : Int) < (↑na : Int))) ∧ (T0 ∧ ((y0 < na) ∧ (t3 (q9 ∧ ((q10 ∧ ((↑y0 : Int) < (↑nb : Int))) ∧ (T0 ∧ ((y0 < nb) ∧ (t2 (if (@Eq Int (fa y0 (0 : Nat)) (fb y0 (0 : Nat))) then (T0 ∧ ((((-9223372036854775808 : Int) ≤ (↑y0 : Int) + (1 : Int)) ∧ ((↑y0 : Int) + (1 : Int) ≤ (9223372036854775807 : Int))) ∧ (∃ y1 : Nat, ((Go.Rx.Sub 2 [] ⟨26, [(13, vi ((↑y0 : Int) + (1 : Int))), q0, q1, q2]⟩ ⟨[q6, q7], 2⟩ ({ n := (26 : Nat), m := [q4, q5, q8, ((13 : Nat), vi (↑y1 : Int))] }) ({ h := [((0 : Nat), Blk.row true [IntKind.u64] ea na ca fa), ((1 : Nat), Blk.row true [IntKind.u64] eb nb cb fb)], next := (2 : Nat) })) ∧ ((((y1 ≤ na) ∧ (@Eq Nat (na) (nb))) ∧ (∀ y2 : Nat, ((y2 < y1) → (@Eq Int (fa y2 (0 : Nat)) (fb y2 (0 : Nat)))))) ∧ (na - y1 < na - y0)))))) else (∃ y1 : Value, (∃ y2 : List Blk, ((Go.Rx.Found 2 (Value.bool false) ({ h := [((0 : Nat), Blk.row true [IntKind.u64] ea na ca fa), ((1 : Nat), Blk.row true [IntKind.u64] eb nb cb fb)], next := (2 : Nat) }) (y1) (y2)) ∧ (K y1 y2)))))))))))))))) else (∃ y1 : Value, (∃ y2 : List Blk, ((Go.Rx.Found 2 (Value.bool true) ({ h := [((0 : Nat), Blk.row true [IntKind.u64] ea na ca fa), ((1 : Nat), Blk.row true [IntKind.u64] eb nb cb fb)], next := (2 : Nat) }) (y1) (y2)) ∧ (K y1 y2)))))))))) else (∃ y0 : Value, (∃ y1 : List Blk, ((Go.Rx.Found 2 (Value.bool false) ({ h := [((0 : Nat), Blk.row true [IntKind.u64] ea na ca fa), ((1 : Nat), Blk.row true [IntKind.u64] eb nb cb fb)], next := (2 : Nat) }) (y0) (y1)) ∧ (K y0 y1)))))))))
theorem eqO_rrE (ea na ca : Nat) (fa : RF) (eb nb cb : Nat) (fb : RF) (K : Value → List Blk → Prop) : eqO_rrV ea na ca fa eb nb cb fb K = bodyX (mk XZ) (callN (mk XZ) 4) (eqO_rrA ea na ca fa eb nb cb fb) Try.f99 [rsl 0 0 na ca, rsl 1 0 nb cb] (stOf [.row true [.u64] ea na ca fa, .row true [.u64] eb nb cb fb]) (Fd 2 K) := by kernel_rfl
set_option tactic.hygienic false in
theorem eqO_rrP (ea na ca : Nat) (fa : RF) (eb nb cb : Nat) (fb : RF) (K : Value → List Blk → Prop)  (hna : na ≤ 100000) (hca : na ≤ ca) (hnb : nb ≤ 100000) (hcb : nb ≤ cb) (h : ∀ bb : Bool, (bb = true ↔ (na = nb ∧ ∀ i, i < na → fa i 0 = fb i 0)) → K (.bool bb) []) : eqO_rrV ea na ca fa eb nb cb fb K := by
  unfold eqO_rrV
  conv => zeta

  repeat' (first | (with_reducible exact rfl) | (with_reducible exact trivial) | (with_reducible refine And.intro ?_ ?_) | (intro) | (with_reducible refine br_d (fun hq => ?_) (fun hq => ?_)) | (with_reducible refine br_nd (fun hq => ?_) (fun hq => ?_)) | (with_reducible refine br_intro (fun hq => ?_) (fun hq => ?_)) | (with_reducible refine if_both (fun hz => ?_) (fun hz => ?_)) | fail)

  all_goals first
    | omega
    | assumption
    | contradiction
    | exact ⟨0, (by (refine And.intro (And.intro rfl (And.intro rfl (And.intro rfl rfl))) ?_; (repeat' (first | exact trivial | exact rfl | exact fun _ _ _ _ => rfl | refine And.intro ?_ ?_ | omega | fail)); done)), ⟨by omega, by omega⟩, fun i hi => absurd hi (by omega)⟩
    | (rename _ ∧ (∀ _ : Nat, _) => I
       exact ⟨y0 + 1, (by (refine And.intro (And.intro rfl (And.intro rfl (And.intro rfl rfl))) ?_; (repeat' (first | exact trivial | exact rfl | exact fun _ _ _ _ => rfl | refine And.intro ?_ ?_ | omega | fail)); done)), ⟨⟨by omega, by omega⟩, fun i hi => (by
         rcases Nat.lt_or_ge i y0 with q | q
         · exact I.2 i q
         · obtain rfl : i = y0 := by omega
           omega)⟩, by omega⟩)
    | exact fin0 (by kernel_rfl) (by kernel_rfl) (h false ⟨fun e => (by cases e), fun e => absurd e.1 (by omega)⟩)
    | (rename _ ∧ (∀ _ : Nat, _) => I
       exact fin0 (by kernel_rfl) (by kernel_rfl) (h false ⟨fun e => (by cases e), fun e => absurd (e.2 y0 (by omega)) (by assumption)⟩))
    | (rename _ ∧ (∀ _ : Nat, _) => I
       exact fin0 (by kernel_rfl) (by kernel_rfl) (h true ⟨fun _ => ⟨by omega, fun i hi => I.2 i (by omega)⟩, fun _ => rfl⟩))
    | exact fin0 (by kernel_rfl) (by kernel_rfl) (h true ⟨fun _ => ⟨by omega, fun i hi => absurd hi (by omega)⟩, fun _ => rfl⟩)
theorem eqO_ok : BodyOk (mk XZ) 4 Try.f99 eqO := by
  intro vs bs K hh hro
  clear hro
  unfold eqO at hh
  split at hh
  · rename_i va vb
    rcases parseQ_inv hh with ⟨rfl, hh0⟩ | ⟨ea, na, ca, fa, bta, rfl, hna, hca, rfl, hh0⟩ <;> clear hh
    · rcases parseQ_inv hh0 with ⟨rfl, hh1⟩ | ⟨eb, nb, cb, fb, btb, rfl, hnb, hcb, rfl, hh1⟩ <;> clear hh0
      · obtain ⟨rfl, -, hc⟩ := hh1
        exact ⟨_, _, cast (eqO_nnE   K) (eqO_nnP   K   hc)⟩
      · obtain ⟨rfl, -, hc⟩ := hh1
        exact ⟨_, _, cast (eqO_nrE eb nb cb fb  K) (eqO_nrP eb nb cb fb  K hnb hcb  hc)⟩
    · rcases parseQ_inv hh0 with ⟨rfl, hh1⟩ | ⟨eb, nb, cb, fb, btb, rfl, hnb, hcb, rfl, hh1⟩ <;> clear hh0
      · obtain ⟨rfl, -, hc⟩ := hh1
        exact ⟨_, _, cast (eqO_rnE ea na ca fa  K) (eqO_rnP ea na ca fa  K hna hca  hc)⟩
      · obtain ⟨rfl, -, hc⟩ := hh1
        exact ⟨_, _, cast (eqO_rrE ea na ca fa eb nb cb fb  K) (eqO_rrP ea na ca fa eb nb cb fb  K hna hca hnb hcb  hc)⟩
  · exact hh.elim
theorem eqO_told : Told 99 (specOf eqO) := told (X := XZ) XZ_told (by kernel_rfl) (by kernel_rfl) (by kernel_rfl) eqO_ok
end Go.Proofs.Ytfgeoglegebncaa.Fr
namespace Go.Proofs.Ytfgeoglegebncaa.Fr
set_option maxRecDepth 100000
set_option maxHeartbeats 4000000
open Go.Rx
open Go.RowKit (Below)
set_option linter.unusedVariables false
@[reducible] def XAL : List (Nat × Rx.Spec) := [(24, specOf arC), (120, specOf hdS), (99, specOf eqO)]
theorem XAL_told : ∀ p ∈ XAL, Told p.1 p.2 := by
  intro p hp
  simp only [List.mem_cons, List.not_mem_nil, or_false] at hp
  rcases hp with rfl | rfl | rfl
  · exact arC_told
  · exact hdS_told
  · exact eqO_told
def alOB : Con := fun vs bs K => match vs with
  | [vw, .int .i64 a, .int .i64 b] => parseQ [.u64] 0 vw bs fun nw fw j0 bs0 => bs0 = [] ∧ ((Ok64 nw fw) ∧ (¬ alE nw fw a b = 0)) ∧ (K (.tuple ⟨[.bool false, .int .i64 (alE nw fw a b)]⟩) [])
  | _ => False

def alOB_nA (a : Int) (b : Int) : Ann := fun _ _ _ => none
def alOB_rA (ew nw cw : Nat) (fw : RF) (a : Int) (b : Int) : Ann := fun _ _ _ => none
def alOG : Con := fun vs bs K => match vs with
  | [vw, .int .i64 a, .int .i64 b] => parseRQ [.u64] 0 vw bs fun nw fw j0 bs0 => bs0 = [] ∧ ((Ok64 nw fw) ∧ (alE nw fw a b = 0)) ∧ (∀ bb : Bool, (bb = true ↔ alP fw a b) → K (.tuple ⟨[.bool bb, .int .i64 0]⟩) [])
  | _ => False

def alOG_rA (ew nw cw : Nat) (fw : RF) (a : Int) (b : Int) : Ann := fun _ _ _ => none
def alOB_nV (a : Int) (b : Int) (K : Value → List Blk → Prop) : Prop := (t3 (eB ∧ ((True) ∧ (t7 (∃ y0 : Value, (∃ y1 : List Blk, ((Go.Rx.Found 0 (Value.tuple { toList := [Value.bool false, vi (3 : Int)] }) ({ h := [((1 : Nat), Blk.cells [vi (0 : Int), vi (0 : Int), vn, vi (0 : Int), vn] (118 : Nat)), ((0 : Nat), Blk.cells [vi (0 : Int), vi (0 : Int), vn, vi (0 : Int), vn] (118 : Nat))], next := (2 : Nat) }) (y0) (y1)) ∧ (K y0 y1))))))))
theorem alOB_nE (a : Int) (b : Int) (K : Value → List Blk → Prop) : alOB_nV a b K = bodyX (mk XAL) (callN (mk XAL) 9) (alOB_nA a b) Try.f58 [.slice none 0 0, .int .i64 a, .int .i64 b] (stOf []) (Fd 0 K) := by kernel_rfl
set_option tactic.hygienic false in
theorem alOB_nP (a : Int) (b : Int) (K : Value → List Blk → Prop)  (hU : Ok64 0 zF) (h1 : ¬ alE 0 zF a b = 0) (h : K (.tuple ⟨[.bool false, .int .i64 (alE 0 zF a b)]⟩) []) : alOB_nV a b K := by
  unfold alOB_nV
  have z0 := ob_cases hU a
  have z1 := fun (h1 : 0 ≤ a) (h2 : a < 0) => hU.at h1 h2
  have z2 := fun (h1 : 0 ≤ a) (h2 : a < 0) => hs_bd (hU.at h1 h2).1
  have z3 := ob_cases hU b
  have z4 := fun (h1 : 0 ≤ b) (h2 : b < 0) => hU.at h1 h2
  have z5 := fun (h1 : 0 ≤ b) (h2 : b < 0) => hs_bd (hU.at h1 h2).1
  have z6 := al_cases 0 zF a b
  repeat' (first | (with_reducible exact rfl) | (with_reducible exact trivial) | (with_reducible refine And.intro ?_ ?_) | (intro) | (with_reducible refine br_d (fun hq => ?_) (fun hq => ?_)) | (with_reducible refine br_nd (fun hq => ?_) (fun hq => ?_)) | (with_reducible refine br_intro (fun hq => ?_) (fun hq => ?_)) | (with_reducible refine if_both (fun hz => ?_) (fun hz => ?_)) | fail)

  all_goals first
    | (with_reducible assumption)
    | (refine (id ?_ : ∃ (v1 : Value) (news : List Blk), _)
       first
        | contradiction
        | exact fin0 (by kernel_rfl) (by kernel_rfl) h
        | (have e : alE 0 zF a b = obE 0 zF a := (by omega)
           rw [e] at h
           exact fin0 (by kernel_rfl) (by kernel_rfl) h)
        | (have e : alE 0 zF a b = obE 0 zF b := (by omega)
           rw [e] at h
           exact fin0 (by kernel_rfl) (by kernel_rfl) h)
        | (have e : alE 0 zF a b = arE 0 zF := (by omega)
           rw [e] at h
           exact fin0 (by kernel_rfl) (by kernel_rfl) h)
        | (have e : alE 0 zF a b = 7 := (by omega)
           rw [e] at h
           exact fin0 (by kernel_rfl) (by kernel_rfl) h)
        | (have e : alE 0 zF a b = 6 := (by omega)
           rw [e] at h
           exact fin0 (by kernel_rfl) (by kernel_rfl) h)
        | (exfalso; omega)
       )
    | omega
    | contradiction
    | exact fin0 (by kernel_rfl) (by kernel_rfl) h
    | (have e : alE 0 zF a b = obE 0 zF a := (by omega)
       rw [e] at h
       exact fin0 (by kernel_rfl) (by kernel_rfl) h)
    | (have e : alE 0 zF a b = obE 0 zF b := (by omega)
       rw [e] at h
       exact fin0 (by kernel_rfl) (by kernel_rfl) h)
    | (have e : alE 0 zF a b = arE 0 zF := (by omega)
       rw [e] at h
       exact fin0 (by kernel_rfl) (by kernel_rfl) h)
    | (have e : alE 0 zF a b = 7 := (by omega)
       rw [e] at h
       exact fin0 (by kernel_rfl) (by kernel_rfl) h)
    | (have e : alE 0 zF a b = 6 := (by omega)
       rw [e] at h
       exact fin0 (by kernel_rfl) (by kernel_rfl) h)
    | (exfalso; omega)
def alOB_rV (ew nw cw : Nat) (fw : RF) (a : Int) (b : Int) (K : Value → List Blk → Prop) : Prop := let q0 := ((0 : Nat) + nw ≤ nw); let q1 := eB; let q2 := (9223372036854775807 : Int); let q3 := (fw (Int.toNat b) (0 : Nat)); let q4 := (-9223372036854775808 : Int); let q5 := (18446744073709551615 : Int); let q6 := (fw (Int.toNat a) (0 : Nat)); let q7 := (@Eq Nat ((1 : Nat)) ((1 : Nat))); let q8 := (@Eq Nat ((0 : Nat)) ((0 : Nat))); let q9 := (hsP q3); let q10 := (hsR q3); let q11 := (hsP q6); let q12 := (hsR q6); let q13 := (((0 : Int) ≤ b) ∧ (b < (↑nw : Int))); let q14 := TS; let q15 := (b + (1 : Int) + hsP q3); let q16 := (a + (1 : Int) + hsP q6); let q17 := ((0 : Nat), Blk.row true [IntKind.u64] ew nw cw fw); let q18 := (@Eq (List IntKind) ([IntKind.u64]) ([IntKind.u64])); let q19 := (Int.toNat q15); let q20 := (Int.toNat q16); let q21 := (q8 ∧ ((nw ≤ (100000 : Nat)) ∧ (nw ≤ cw))); let q22 := (q14 ∧ q7); let q23 := (Int.toNat (b + (1 : Int) + hsP q3 - (b + (1 : Int)))); let q24 := (Int.toNat (a + (1 : Int) + hsP q6 - (a + (1 : Int)))); let q25 := (b + (1 : Int) + hsP q3 + hsR q3); let q26 := (a + (1 : Int) + hsP q6 + hsR q6); let q27 := ((q4 ≤ b + (1 : Int)) ∧ (b + (1 : Int) ≤ q2)); let q28 := (q18 ∧ ((@Eq Nat (nw) (nw)) ∧ (@Eq Nat (cw) (cw)))); let q29 := ((q4 ≤ (↑nw : Int) - b) ∧ ((↑nw : Int) - b ≤ q2)); let q30 := (((0 : Int) ≤ fw (Int.toNat b) (0 : Nat)) ∧ (fw (Int.toNat b) (0 : Nat) ≤ q5)); let q31 := (@Eq Int q15 q15); let q32 := (b + (1 : Int) + hsP q3 + hsR q3 - q15); let q33 := (a + (1 : Int) + hsP q6 + hsR q6 - q16); let q34 := ((5 : Nat), Blk.cells [vi q9, vi q10] (60 : Nat)); let q35 := (Int.toNat q32); let q36 := ((3 : Nat), Blk.cells [vi q11, vi q12] (60 : Nat)); let q37 := (Int.toNat q33); let q38 := ((7 : Nat), Blk.cells [vi q9, vi q10] (60 : Nat)); let q39 := ((q4 ≤ b + (1 : Int) + hsP q3) ∧ (b + (1 : Int) + hsP q3 ≤ q2)); let q40 := (@Eq Int q25 q25); let q41 := ((q4 ≤ hsP q3 + hsR q3) ∧ (hsP q3 + hsR q3 ≤ q2)); let q42 := ((2 : Nat), Blk.cells [vi (0 : Int), vi (0 : Int), vn, vi (0 : Int), vn] (118 : Nat)); let q43 := ((1 : Nat), Blk.cells [vi (0 : Int), vi (0 : Int), vn, vi (0 : Int), vn] (118 : Nat)); let q44 := ((4 : Nat), Blk.cells [vi (0 : Int), vi (0 : Int), vn, vi (0 : Int), vn] (118 : Nat)); let q45 := ((3 : Nat), Blk.cells [vi (0 : Int), vi (0 : Int), vn, vi (0 : Int), vn] (118 : Nat)); let q46 := ((6 : Nat), Blk.cells [vi (0 : Int), vi (0 : Int), vn, vi (0 : Int), vn] (118 : Nat)); let q47 := ((5 : Nat), Blk.cells [vi (0 : Int), vi (0 : Int), vn, vi (0 : Int), vn] (118 : Nat)); let q48 := ((q4 ≤ b + (1 : Int) + hsP q3 + hsR q3) ∧ (b + (1 : Int) + hsP q3 + hsR q3 ≤ q2)); let q49 := (((0 : Int) ≤ b + (1 : Int)) ∧ ((b + (1 : Int) ≤ b + (1 : Int) + hsP q3) ∧ ((b + (1 : Int) + hsP q3 ≤ b + (1 : Int) + hsP q3) ∧ (b + (1 : Int) + hsP q3 ≤ (↑cw : Int))))); let q50 := (@Eq Nat q35 q35); let q51 := (@Eq Nat q37 q37); let q52 := ((Int.toNat q32 ≤ (100000 : Nat)) ∧ (Int.toNat q32 ≤ Int.toNat q32)); let q53 := (((0 : Int) ≤ b + (1 : Int) + hsP q3) ∧ ((b + (1 : Int) + hsP q3 ≤ b + (1 : Int) + hsP q3 + hsR q3) ∧ ((b + (1 : Int) + hsP q3 + hsR q3 ≤ b + (1 : Int) + hsP q3 + hsR q3) ∧ (b + (1 : Int) + hsP q3 + hsR q3 ≤ (↑cw : Int))))); let q54 := (q8 ∧ ((Int.toNat q33 ≤ (100000 : Nat)) ∧ (Int.toNat q33 ≤ Int.toNat q33))); let q55 := ((Int.toNat q15 + Int.toNat q32 ≤ nw) ∧ q50); let q56 := ((Int.toNat q16 + Int.toNat q33 ≤ nw) ∧ q51); let q57 := (q18 ∧ (q50 ∧ q50)); let q58 := (q18 ∧ (q51 ∧ q51)); let q59 := ((6 : Nat), Blk.cells [vi q9, vi q10, Value.slice (some { block := (0 : Nat), off := (0 : Nat), spot := some (Nat.succ (Nat.succ (Int.toNat (b + (1 : Int))))) }) q23 q23, vi (b + (1 : Int)), Value.slice (some { block := (0 : Nat), off := (0 : Nat), spot := some (Nat.succ (Nat.succ q19)) }) q35 q35] (118 : Nat)); let q60 := ((4 : Nat), Blk.cells [vi q11, vi q12, Value.slice (some { block := (0 : Nat), off := (0 : Nat), spot := some (Nat.succ (Nat.succ (Int.toNat (a + (1 : Int))))) }) q24 q24, vi (a + (1 : Int)), Value.slice (some { block := (0 : Nat), off := (0 : Nat), spot := some (Nat.succ (Nat.succ q20)) }) q37 q37] (118 : Nat)); let q61 := ((2 : Nat), Blk.cells [vi q11, vi q12, Value.slice (some { block := (0 : Nat), off := (0 : Nat), spot := some (Nat.succ (Nat.succ (Int.toNat (a + (1 : Int))))) }) q24 q24, vi (a + (1 : Int)), Value.slice (some { block := (0 : Nat), off := (0 : Nat), spot := some (Nat.succ (Nat.succ q20)) }) q37 q37] (118 : Nat)); let q62 := ((1 : Nat), Blk.cells [vi q11, vi q12, Value.slice (some { block := (0 : Nat), off := (0 : Nat), spot := some (Nat.succ (Nat.succ (Int.toNat (a + (1 : Int))))) }) q24 q24, vi (a + (1 : Int)), Value.slice (some { block := (0 : Nat), off := (0 : Nat), spot := some (Nat.succ (Nat.succ q20)) }) q37 q37] (118 : Nat)); let q63 := (t9 (∃ y0 : Value, (∃ y1 : List Blk, ((Go.Rx.Found 1 (Value.tuple { toList := [Value.bool false, vi (7 : Int)] }) ({ h := [q45, q42, q43, q17], next := (4 : Nat) }) (y0) (y1)) ∧ (K y0 y1))))); let q64 := (t9 (∃ y0 : Value, (∃ y1 : List Blk, ((Go.Rx.Found 1 (Value.tuple { toList := [Value.bool false, vi (6 : Int)] }) ({ h := [q44, q36, q42, q43, q17], next := (5 : Nat) }) (y0) (y1)) ∧ (K y0 y1))))); let q65 := (t9 (∃ y0 : Value, (∃ y1 : List Blk, ((Go.Rx.Found 1 (Value.tuple { toList := [Value.bool false, vi (7 : Int)] }) ({ h := [q47, q44, q45, q42, q43, q17], next := (6 : Nat) }) (y0) (y1)) ∧ (K y0 y1))))); let q66 := (t9 (∃ y0 : Value, (∃ y1 : List Blk, ((Go.Rx.Found 1 (Value.tuple { toList := [Value.bool false, vi (6 : Int)] }) ({ h := [q46, q34, q44, q45, q42, q43, q17], next := (7 : Nat) }) (y0) (y1)) ∧ (K y0 y1))))); let q67 := (t9 (∃ y0 : Value, (∃ y1 : List Blk, ((Go.Rx.Found 1 (Value.tuple { toList := [Value.bool false, vi (7 : Int)] }) ({ h := [((7 : Nat), Blk.cells [vi (0 : Int), vi (0 : Int), vn, vi (0 : Int), vn] (118 : Nat)), q46, q47, q60, q36, q61, q62, q17], next := (8 : Nat) }) (y0) (y1)) ∧ (K y0 y1))))); let q68 := (t9 (∃ y0 : Value, (∃ y1 : List Blk, ((Go.Rx.Found 1 (Value.tuple { toList := [Value.bool false, vi (6 : Int)] }) ({ h := [((8 : Nat), Blk.cells [vi (0 : Int), vi (0 : Int), vn, vi (0 : Int), vn] (118 : Nat)), q38, q46, q47, q60, q36, q61, q62, q17], next := (9 : Nat) }) (y0) (y1)) ∧ (K y0 y1))))); (t2 (q0 ∧ (q21 ∧ (q28 ∧ (q1 ∧ ((True) ∧ (T0 ∧ (if (@Eq Int (arE nw fw) ((0 : Int))) then (t2 (if (a < (1 : Int)) then q63 else (q14 ∧ (T0 ∧ (if ((↑nw : Int) ≤ a) then q63 else (q22 ∧ ((((0 : Int) ≤ a) ∧ (a < (↑nw : Int))) ∧ ((Int.toNat a < nw) ∧ (T0 ∧ (q1 ∧ ((((0 : Int) ≤ fw (Int.toNat a) (0 : Nat)) ∧ (fw (Int.toNat a) (0 : Nat) ≤ q5)) ∧ (t3 (if (@Eq Int (hsE q6) ((0 : Int))) then (t3 (((q4 ≤ hsP q6 + hsR q6) ∧ (hsP q6 + hsR q6 ≤ q2)) ∧ (q14 ∧ (T0 ∧ (((q4 ≤ (↑nw : Int) - a) ∧ ((↑nw : Int) - a ≤ q2)) ∧ (T0 ∧ (if ((↑nw : Int) - a ≤ hsP q6 + hsR q6) then q64 else (T0 ∧ (((q4 ≤ a + (1 : Int)) ∧ (a + (1 : Int) ≤ q2)) ∧ (t2 (((q4 ≤ a + (1 : Int) + hsP q6) ∧ (a + (1 : Int) + hsP q6 ≤ q2)) ∧ (t2 (((q4 ≤ a + (1 : Int) + hsP q6 + hsR q6) ∧ (a + (1 : Int) + hsP q6 + hsR q6 ≤ q2)) ∧ (t8 (q14 ∧ (t4 (q7 ∧ ((((0 : Int) ≤ a + (1 : Int)) ∧ ((a + (1 : Int) ≤ a + (1 : Int) + hsP q6) ∧ ((a + (1 : Int) + hsP q6 ≤ a + (1 : Int) + hsP q6) ∧ (a + (1 : Int) + hsP q6 ≤ (↑cw : Int))))) ∧ ((@Eq Int q16 q16) ∧ (t8 (q14 ∧ (t4 (q7 ∧ ((((0 : Int) ≤ a + (1 : Int) + hsP q6) ∧ ((a + (1 : Int) + hsP q6 ≤ a + (1 : Int) + hsP q6 + hsR q6) ∧ ((a + (1 : Int) + hsP q6 + hsR q6 ≤ a + (1 : Int) + hsP q6 + hsR q6) ∧ (a + (1 : Int) + hsP q6 + hsR q6 ≤ (↑cw : Int))))) ∧ ((@Eq Int q26 q26) ∧ (t9 (t4 (q0 ∧ (q21 ∧ (q28 ∧ (q1 ∧ ((True) ∧ (T0 ∧ (if (@Eq Int (arE nw fw) ((0 : Int))) then (t2 (if (b < (1 : Int)) then q67 else (q14 ∧ (T0 ∧ (if ((↑nw : Int) ≤ b) then q67 else (q22 ∧ (q13 ∧ ((Int.toNat b < nw) ∧ (T0 ∧ (q1 ∧ (q30 ∧ (t3 (if (@Eq Int (hsE q3) ((0 : Int))) then (t3 (q41 ∧ (q14 ∧ (T0 ∧ (q29 ∧ (T0 ∧ (if ((↑nw : Int) - b ≤ hsP q3 + hsR q3) then q68 else (T0 ∧ (q27 ∧ (t2 (q39 ∧ (t2 (q48 ∧ (t8 (q14 ∧ (t4 (q7 ∧ (q49 ∧ (q31 ∧ (t8 (q14 ∧ (t4 (q7 ∧ (q53 ∧ (q40 ∧ (t9 (t7 (if (eqL [hsP q6, hsR q6] [hsP q3, hsR q3]) then (t6 (q56 ∧ (q55 ∧ (q54 ∧ (q58 ∧ ((q7 ∧ q52) ∧ (q57 ∧ (q1 ∧ ((True) ∧ (∀ y0 : Bool, ((y0 = true ↔ Int.toNat q33 = Int.toNat q32 ∧ ∀ (i : Nat), i < Int.toNat q33 → shiftF fw q20 i (0 : Nat) = shiftF fw q19 i (0 : Nat)) → (∃ y1 : Value, (∃ y2 : List Blk, ((Go.Rx.Found 1 (Value.tuple { toList := [Value.bool y0, vi (0 : Int)] }) ({ h := [((8 : Nat), Blk.cells [vi q9, vi q10, Value.slice (some { block := (0 : Nat), off := (0 : Nat), spot := some (Nat.succ (Nat.succ (Int.toNat (b + (1 : Int))))) }) q23 q23, vi (b + (1 : Int)), Value.slice (some { block := (0 : Nat), off := (0 : Nat), spot := some (Nat.succ (Nat.succ q19)) }) q35 q35] (118 : Nat)), q38, q59, ((5 : Nat), Blk.cells [vi q9, vi q10, Value.slice (some { block := (0 : Nat), off := (0 : Nat), spot := some (Nat.succ (Nat.succ (Int.toNat (b + (1 : Int))))) }) q23 q23, vi (b + (1 : Int)), Value.slice (some { block := (0 : Nat), off := (0 : Nat), spot := some (Nat.succ (Nat.succ q19)) }) q35 q35] (118 : Nat)), q60, q36, q61, q62, q17], next := (9 : Nat) }) (y1) (y2)) ∧ (K y1 y2))))))))))))))) else (∃ y0 : Value, (∃ y1 : List Blk, ((Go.Rx.Found 1 (Value.tuple { toList := [Value.bool false, vi (0 : Int)] }) ({ h := [((8 : Nat), Blk.cells [vi q9, vi q10, Value.slice (some { block := (0 : Nat), off := (0 : Nat), spot := some (Nat.succ (Nat.succ (Int.toNat (b + (1 : Int))))) }) q23 q23, vi (b + (1 : Int)), Value.slice (some { block := (0 : Nat), off := (0 : Nat), spot := some (Nat.succ (Nat.succ q19)) }) q35 q35] (118 : Nat)), q38, q59, ((5 : Nat), Blk.cells [vi q9, vi q10, Value.slice (some { block := (0 : Nat), off := (0 : Nat), spot := some (Nat.succ (Nat.succ (Int.toNat (b + (1 : Int))))) }) q23 q23, vi (b + (1 : Int)), Value.slice (some { block := (0 : Nat), off := (0 : Nat), spot := some (Nat.succ (Nat.succ q19)) }) q35 q35] (118 : Nat)), q60, q36, q61, q62, q17], next := (9 : Nat) }) (y0) (y1)) ∧ (K y0 y1)))))))))))))))))))))))))))))))) else q68))))))))))))) else (t6 (if (@Eq Int (arE nw fw) ((0 : Int))) then (t4 (if (eqL [hsP q6, hsR q6] [(0 : Int), (0 : Int)]) then (t6 (q56 ∧ (T0 ∧ (q54 ∧ (q58 ∧ (q1 ∧ ((True) ∧ (∀ y0 : Bool, ((y0 = true ↔ Int.toNat q33 = (0 : Nat) ∧ ∀ (i : Nat), i < Int.toNat q33 → shiftF fw q20 i (0 : Nat) = zF i (0 : Nat)) → (∃ y1 : Value, (∃ y2 : List Blk, ((Go.Rx.Found 1 (Value.tuple { toList := [Value.bool y0, vi (0 : Int)] }) ({ h := [q46, q47, q60, q36, q61, q62, q17], next := (7 : Nat) }) (y1) (y2)) ∧ (K y1 y2))))))))))))) else (∃ y0 : Value, (∃ y1 : List Blk, ((Go.Rx.Found 1 (Value.tuple { toList := [Value.bool false, vi (0 : Int)] }) ({ h := [q46, q47, q60, q36, q61, q62, q17], next := (7 : Nat) }) (y0) (y1)) ∧ (K y0 y1)))))) else (∃ y0 : Value, (∃ y1 : List Blk, ((Go.Rx.Found 1 (Value.tuple { toList := [Value.bool false, vi (arE nw fw)] }) ({ h := [q46, q47, q60, q36, q61, q62, q17], next := (7 : Nat) }) (y0) (y1)) ∧ (K y0 y1)))))))))))))))))))))))))))))))))))))))) else q64))))))))))))) else (t6 (if (@Eq Int (arE nw fw) ((0 : Int))) then (T0 ∧ (q0 ∧ (q21 ∧ (q28 ∧ (q1 ∧ ((True) ∧ (T0 ∧ (if (@Eq Int (arE nw fw) ((0 : Int))) then (t2 (if (b < (1 : Int)) then q65 else (q14 ∧ (T0 ∧ (if ((↑nw : Int) ≤ b) then q65 else (q22 ∧ (q13 ∧ ((Int.toNat b < nw) ∧ (T0 ∧ (q1 ∧ (q30 ∧ (t3 (if (@Eq Int (hsE q3) ((0 : Int))) then (t3 (q41 ∧ (q14 ∧ (T0 ∧ (q29 ∧ (T0 ∧ (if ((↑nw : Int) - b ≤ hsP q3 + hsR q3) then q66 else (T0 ∧ (q27 ∧ (t2 (q39 ∧ (t2 (q48 ∧ (t8 (q14 ∧ (t4 (q7 ∧ (q49 ∧ (q31 ∧ (t8 (q14 ∧ (t4 (q7 ∧ (q53 ∧ (q40 ∧ (t9 (t7 (if (eqL [(0 : Int), (0 : Int)] [hsP q3, hsR q3]) then (t7 (q55 ∧ ((q8 ∧ q52) ∧ (q57 ∧ (q1 ∧ ((True) ∧ (∀ y0 : Bool, ((y0 = true ↔ (0 : Nat) = Int.toNat q32 ∧ ∀ (i : Nat), i < (0 : Nat) → zF i (0 : Nat) = shiftF fw q19 i (0 : Nat)) → (∃ y1 : Value, (∃ y2 : List Blk, ((Go.Rx.Found 1 (Value.tuple { toList := [Value.bool y0, vi (0 : Int)] }) ({ h := [q59, q34, ((4 : Nat), Blk.cells [vi q9, vi q10, Value.slice (some { block := (0 : Nat), off := (0 : Nat), spot := some (Nat.succ (Nat.succ (Int.toNat (b + (1 : Int))))) }) q23 q23, vi (b + (1 : Int)), Value.slice (some { block := (0 : Nat), off := (0 : Nat), spot := some (Nat.succ (Nat.succ q19)) }) q35 q35] (118 : Nat)), ((3 : Nat), Blk.cells [vi q9, vi q10, Value.slice (some { block := (0 : Nat), off := (0 : Nat), spot := some (Nat.succ (Nat.succ (Int.toNat (b + (1 : Int))))) }) q23 q23, vi (b + (1 : Int)), Value.slice (some { block := (0 : Nat), off := (0 : Nat), spot := some (Nat.succ (Nat.succ q19)) }) q35 q35] (118 : Nat)), q42, q43, q17], next := (7 : Nat) }) (y1) (y2)) ∧ (K y1 y2)))))))))))) else (∃ y0 : Value, (∃ y1 : List Blk, ((Go.Rx.Found 1 (Value.tuple { toList := [Value.bool false, vi (0 : Int)] }) ({ h := [q59, q34, ((4 : Nat), Blk.cells [vi q9, vi q10, Value.slice (some { block := (0 : Nat), off := (0 : Nat), spot := some (Nat.succ (Nat.succ (Int.toNat (b + (1 : Int))))) }) q23 q23, vi (b + (1 : Int)), Value.slice (some { block := (0 : Nat), off := (0 : Nat), spot := some (Nat.succ (Nat.succ q19)) }) q35 q35] (118 : Nat)), ((3 : Nat), Blk.cells [vi q9, vi q10, Value.slice (some { block := (0 : Nat), off := (0 : Nat), spot := some (Nat.succ (Nat.succ (Int.toNat (b + (1 : Int))))) }) q23 q23, vi (b + (1 : Int)), Value.slice (some { block := (0 : Nat), off := (0 : Nat), spot := some (Nat.succ (Nat.succ q19)) }) q35 q35] (118 : Nat)), q42, q43, q17], next := (7 : Nat) }) (y0) (y1)) ∧ (K y0 y1)))))))))))))))))))))))))))))))) else q66))))))))))))) else (t6 (if (@Eq Int (arE nw fw) ((0 : Int))) then (t9 (t3 (q1 ∧ ((True) ∧ (∀ y0 : Bool, ((y0 = true ↔ (0 : Nat) = (0 : Nat) ∧ ∀ (i : Nat), i < (0 : Nat) → zF i (0 : Nat) = zF i (0 : Nat)) → (∃ y1 : Value, (∃ y2 : List Blk, ((Go.Rx.Found 1 (Value.tuple { toList := [Value.bool y0, vi (0 : Int)] }) ({ h := [q44, q45, q42, q43, q17], next := (5 : Nat) }) (y1) (y2)) ∧ (K y1 y2)))))))))) else (∃ y0 : Value, (∃ y1 : List Blk, ((Go.Rx.Found 1 (Value.tuple { toList := [Value.bool false, vi (arE nw fw)] }) ({ h := [q44, q45, q42, q43, q17], next := (5 : Nat) }) (y0) (y1)) ∧ (K y0 y1)))))))))))))) else (∃ y0 : Value, (∃ y1 : List Blk, ((Go.Rx.Found 1 (Value.tuple { toList := [Value.bool false, vi (arE nw fw)] }) ({ h := [q42, q43, q17], next := (3 : Nat) }) (y0) (y1)) ∧ (K y0 y1))))))))))))))
theorem alOB_rE (ew nw cw : Nat) (fw : RF) (a : Int) (b : Int) (K : Value → List Blk → Prop) : alOB_rV ew nw cw fw a b K = bodyX (mk XAL) (callN (mk XAL) 9) (alOB_rA ew nw cw fw a b) Try.f58 [rsl 0 0 nw cw, .int .i64 a, .int .i64 b] (stOf [.row true [.u64] ew nw cw fw]) (Fd 1 K) := by kernel_rfl
set_option tactic.hygienic false in
theorem alOB_rP (ew nw cw : Nat) (fw : RF) (a : Int) (b : Int) (K : Value → List Blk → Prop)  (hnw : nw ≤ 100000) (hcw : nw ≤ cw) (hU : Ok64 nw fw) (h1 : ¬ alE nw fw a b = 0) (h : K (.tuple ⟨[.bool false, .int .i64 (alE nw fw a b)]⟩) []) : alOB_rV ew nw cw fw a b K := by
  unfold alOB_rV
  conv => zeta
  have z0 := ob_cases hU a
  have z1 := fun (h1 : 0 ≤ a) (h2 : a < nw) => hU.at h1 h2
  have z2 := fun (h1 : 0 ≤ a) (h2 : a < nw) => hs_bd (hU.at h1 h2).1
  have z3 := ob_cases hU b
  have z4 := fun (h1 : 0 ≤ b) (h2 : b < nw) => hU.at h1 h2
  have z5 := fun (h1 : 0 ≤ b) (h2 : b < nw) => hs_bd (hU.at h1 h2).1
  have z6 := al_cases nw fw a b
  repeat' (first | (with_reducible exact rfl) | (with_reducible exact trivial) | (with_reducible refine And.intro ?_ ?_) | (intro) | (with_reducible refine br_d (fun hq => ?_) (fun hq => ?_)) | (with_reducible refine br_nd (fun hq => ?_) (fun hq => ?_)) | (with_reducible refine br_intro (fun hq => ?_) (fun hq => ?_)) | (with_reducible refine if_both (fun hz => ?_) (fun hz => ?_)) | fail)

  all_goals first
    | (with_reducible assumption)
    | (refine (id ?_ : ∃ (v1 : Value) (news : List Blk), _)
       first
        | contradiction
        | exact fin0 (by kernel_rfl) (by kernel_rfl) h
        | (have e : alE nw fw a b = obE nw fw a := (by omega)
           rw [e] at h
           exact fin0 (by kernel_rfl) (by kernel_rfl) h)
        | (have e : alE nw fw a b = obE nw fw b := (by omega)
           rw [e] at h
           exact fin0 (by kernel_rfl) (by kernel_rfl) h)
        | (have e : alE nw fw a b = arE nw fw := (by omega)
           rw [e] at h
           exact fin0 (by kernel_rfl) (by kernel_rfl) h)
        | (have e : alE nw fw a b = 7 := (by omega)
           rw [e] at h
           exact fin0 (by kernel_rfl) (by kernel_rfl) h)
        | (have e : alE nw fw a b = 6 := (by omega)
           rw [e] at h
           exact fin0 (by kernel_rfl) (by kernel_rfl) h)
        | (exfalso; omega)
       )
    | omega
    | contradiction
    | exact fin0 (by kernel_rfl) (by kernel_rfl) h
    | (have e : alE nw fw a b = obE nw fw a := (by omega)
       rw [e] at h
       exact fin0 (by kernel_rfl) (by kernel_rfl) h)
    | (have e : alE nw fw a b = obE nw fw b := (by omega)
       rw [e] at h
       exact fin0 (by kernel_rfl) (by kernel_rfl) h)
    | (have e : alE nw fw a b = arE nw fw := (by omega)
       rw [e] at h
       exact fin0 (by kernel_rfl) (by kernel_rfl) h)
    | (have e : alE nw fw a b = 7 := (by omega)
       rw [e] at h
       exact fin0 (by kernel_rfl) (by kernel_rfl) h)
    | (have e : alE nw fw a b = 6 := (by omega)
       rw [e] at h
       exact fin0 (by kernel_rfl) (by kernel_rfl) h)
    | (exfalso; omega)
theorem alOB_ok : BodyOk (mk XAL) 9 Try.f58 alOB := by
  intro vs bs K hh hro
  clear hro
  unfold alOB at hh
  split at hh
  · rename_i vw a b
    rcases parseQ_inv hh with ⟨rfl, hh0⟩ | ⟨ew, nw, cw, fw, btw, rfl, hnw, hcw, rfl, hh0⟩ <;> clear hh
    · obtain ⟨rfl, ⟨hU, h1⟩, hc⟩ := hh0
      exact ⟨_, _, cast (alOB_nE  a b K) (alOB_nP  a b K  hU h1 hc)⟩
    · obtain ⟨rfl, ⟨hU, h1⟩, hc⟩ := hh0
      exact ⟨_, _, cast (alOB_rE ew nw cw fw a b K) (alOB_rP ew nw cw fw a b K hnw hcw hU h1 hc)⟩
  · exact hh.elim
theorem alOB_told : Told 58 (specOf alOB) := told (X := XAL) XAL_told (by kernel_rfl) (by kernel_rfl) (by kernel_rfl) alOB_ok
def alOG_rV (ew nw cw : Nat) (fw : RF) (a : Int) (b : Int) (K : Value → List Blk → Prop) : Prop := let q0 := ((0 : Nat) + nw ≤ nw); let q1 := eB; let q2 := (9223372036854775807 : Int); let q3 := (fw (Int.toNat b) (0 : Nat)); let q4 := (-9223372036854775808 : Int); let q5 := (18446744073709551615 : Int); let q6 := (fw (Int.toNat a) (0 : Nat)); let q7 := (@Eq Nat ((1 : Nat)) ((1 : Nat))); let q8 := (@Eq Nat ((0 : Nat)) ((0 : Nat))); let q9 := (hsP q3); let q10 := (hsR q3); let q11 := (hsP q6); let q12 := (hsR q6); let q13 := (((0 : Int) ≤ b) ∧ (b < (↑nw : Int))); let q14 := TS; let q15 := (b + (1 : Int) + hsP q3); let q16 := (a + (1 : Int) + hsP q6); let q17 := ((0 : Nat), Blk.row true [IntKind.u64] ew nw cw fw); let q18 := (@Eq (List IntKind) ([IntKind.u64]) ([IntKind.u64])); let q19 := (Int.toNat q15); let q20 := (Int.toNat q16); let q21 := (q8 ∧ ((nw ≤ (100000 : Nat)) ∧ (nw ≤ cw))); let q22 := (q14 ∧ q7); let q23 := (Int.toNat (b + (1 : Int) + hsP q3 - (b + (1 : Int)))); let q24 := (Int.toNat (a + (1 : Int) + hsP q6 - (a + (1 : Int)))); let q25 := (b + (1 : Int) + hsP q3 + hsR q3); let q26 := (a + (1 : Int) + hsP q6 + hsR q6); let q27 := ((q4 ≤ b + (1 : Int)) ∧ (b + (1 : Int) ≤ q2)); let q28 := (q18 ∧ ((@Eq Nat (nw) (nw)) ∧ (@Eq Nat (cw) (cw)))); let q29 := ((q4 ≤ (↑nw : Int) - b) ∧ ((↑nw : Int) - b ≤ q2)); let q30 := (((0 : Int) ≤ fw (Int.toNat b) (0 : Nat)) ∧ (fw (Int.toNat b) (0 : Nat) ≤ q5)); let q31 := (@Eq Int q15 q15); let q32 := (b + (1 : Int) + hsP q3 + hsR q3 - q15); let q33 := (a + (1 : Int) + hsP q6 + hsR q6 - q16); let q34 := ((5 : Nat), Blk.cells [vi q9, vi q10] (60 : Nat)); let q35 := (Int.toNat q32); let q36 := ((3 : Nat), Blk.cells [vi q11, vi q12] (60 : Nat)); let q37 := (Int.toNat q33); let q38 := ((7 : Nat), Blk.cells [vi q9, vi q10] (60 : Nat)); let q39 := ((q4 ≤ b + (1 : Int) + hsP q3) ∧ (b + (1 : Int) + hsP q3 ≤ q2)); let q40 := (@Eq Int q25 q25); let q41 := ((q4 ≤ hsP q3 + hsR q3) ∧ (hsP q3 + hsR q3 ≤ q2)); let q42 := ((2 : Nat), Blk.cells [vi (0 : Int), vi (0 : Int), vn, vi (0 : Int), vn] (118 : Nat)); let q43 := ((1 : Nat), Blk.cells [vi (0 : Int), vi (0 : Int), vn, vi (0 : Int), vn] (118 : Nat)); let q44 := ((4 : Nat), Blk.cells [vi (0 : Int), vi (0 : Int), vn, vi (0 : Int), vn] (118 : Nat)); let q45 := ((3 : Nat), Blk.cells [vi (0 : Int), vi (0 : Int), vn, vi (0 : Int), vn] (118 : Nat)); let q46 := ((6 : Nat), Blk.cells [vi (0 : Int), vi (0 : Int), vn, vi (0 : Int), vn] (118 : Nat)); let q47 := ((5 : Nat), Blk.cells [vi (0 : Int), vi (0 : Int), vn, vi (0 : Int), vn] (118 : Nat)); let q48 := ((q4 ≤ b + (1 : Int) + hsP q3 + hsR q3) ∧ (b + (1 : Int) + hsP q3 + hsR q3 ≤ q2)); let q49 := (((0 : Int) ≤ b + (1 : Int)) ∧ ((b + (1 : Int) ≤ b + (1 : Int) + hsP q3) ∧ ((b + (1 : Int) + hsP q3 ≤ b + (1 : Int) + hsP q3) ∧ (b + (1 : Int) + hsP q3 ≤ (↑cw : Int))))); let q50 := (@Eq Nat q35 q35); let q51 := (@Eq Nat q37 q37); let q52 := ((Int.toNat q32 ≤ (100000 : Nat)) ∧ (Int.toNat q32 ≤ Int.toNat q32)); let q53 := (((0 : Int) ≤ b + (1 : Int) + hsP q3) ∧ ((b + (1 : Int) + hsP q3 ≤ b + (1 : Int) + hsP q3 + hsR q3) ∧ ((b + (1 : Int) + hsP q3 + hsR q3 ≤ b + (1 : Int) + hsP q3 + hsR q3) ∧ (b + (1 : Int) + hsP q3 + hsR q3 ≤ (↑cw : Int))))); let q54 := (q8 ∧ ((Int.toNat q33 ≤ (100000 : Nat)) ∧ (Int.toNat q33 ≤ Int.toNat q33))); let q55 := ((Int.toNat q15 + Int.toNat q32 ≤ nw) ∧ q50); let q56 := ((Int.toNat q16 + Int.toNat q33 ≤ nw) ∧ q51); let q57 := (q18 ∧ (q50 ∧ q50)); let q58 := (q18 ∧ (q51 ∧ q51)); let q59 := ((6 : Nat), Blk.cells [vi q9, vi q10, Value.slice (some { block := (0 : Nat), off := (0 : Nat), spot := some (Nat.succ (Nat.succ (Int.toNat (b + (1 : Int))))) }) q23 q23, vi (b + (1 : Int)), Value.slice (some { block := (0 : Nat), off := (0 : Nat), spot := some (Nat.succ (Nat.succ q19)) }) q35 q35] (118 : Nat)); let q60 := ((4 : Nat), Blk.cells [vi q11, vi q12, Value.slice (some { block := (0 : Nat), off := (0 : Nat), spot := some (Nat.succ (Nat.succ (Int.toNat (a + (1 : Int))))) }) q24 q24, vi (a + (1 : Int)), Value.slice (some { block := (0 : Nat), off := (0 : Nat), spot := some (Nat.succ (Nat.succ q20)) }) q37 q37] (118 : Nat)); let q61 := ((2 : Nat), Blk.cells [vi q11, vi q12, Value.slice (some { block := (0 : Nat), off := (0 : Nat), spot := some (Nat.succ (Nat.succ (Int.toNat (a + (1 : Int))))) }) q24 q24, vi (a + (1 : Int)), Value.slice (some { block := (0 : Nat), off := (0 : Nat), spot := some (Nat.succ (Nat.succ q20)) }) q37 q37] (118 : Nat)); let q62 := ((1 : Nat), Blk.cells [vi q11, vi q12, Value.slice (some { block := (0 : Nat), off := (0 : Nat), spot := some (Nat.succ (Nat.succ (Int.toNat (a + (1 : Int))))) }) q24 q24, vi (a + (1 : Int)), Value.slice (some { block := (0 : Nat), off := (0 : Nat), spot := some (Nat.succ (Nat.succ q20)) }) q37 q37] (118 : Nat)); let q63 := (t9 (∃ y0 : Value, (∃ y1 : List Blk, ((Go.Rx.Found 1 (Value.tuple { toList := [Value.bool false, vi (7 : Int)] }) ({ h := [q45, q42, q43, q17], next := (4 : Nat) }) (y0) (y1)) ∧ (K y0 y1))))); let q64 := (t9 (∃ y0 : Value, (∃ y1 : List Blk, ((Go.Rx.Found 1 (Value.tuple { toList := [Value.bool false, vi (6 : Int)] }) ({ h := [q44, q36, q42, q43, q17], next := (5 : Nat) }) (y0) (y1)) ∧ (K y0 y1))))); let q65 := (t9 (∃ y0 : Value, (∃ y1 : List Blk, ((Go.Rx.Found 1 (Value.tuple { toList := [Value.bool false, vi (7 : Int)] }) ({ h := [q47, q44, q45, q42, q43, q17], next := (6 : Nat) }) (y0) (y1)) ∧ (K y0 y1))))); let q66 := (t9 (∃ y0 : Value, (∃ y1 : List Blk, ((Go.Rx.Found 1 (Value.tuple { toList := [Value.bool false, vi (6 : Int)] }) ({ h := [q46, q34, q44, q45, q42, q43, q17], next := (7 : Nat) }) (y0) (y1)) ∧ (K y0 y1))))); let q67 := (t9 (∃ y0 : Value, (∃ y1 : List Blk, ((Go.Rx.Found 1 (Value.tuple { toList := [Value.bool false, vi (7 : Int)] }) ({ h := [((7 : Nat), Blk.cells [vi (0 : Int), vi (0 : Int), vn, vi (0 : Int), vn] (118 : Nat)), q46, q47, q60, q36, q61, q62, q17], next := (8 : Nat) }) (y0) (y1)) ∧ (K y0 y1))))); let q68 := (t9 (∃ y0 : Value, (∃ y1 : List Blk, ((Go.Rx.Found 1 (Value.tuple { toList := [Value.bool false, vi (6 : Int)] }) ({ h := [((8 : Nat), Blk.cells [vi (0 : Int), vi (0 : Int), vn, vi (0 : Int), vn] (118 : Nat)), q38, q46, q47, q60, q36, q61, q62, q17], next := (9 : Nat) }) (y0) (y1)) ∧ (K y0 y1))))); (t2 (q0 ∧ (q21 ∧ (q28 ∧ (q1 ∧ ((True) ∧ (T0 ∧ (if (@Eq Int (arE nw fw) ((0 : Int))) then (t2 (if (a < (1 : Int)) then q63 else (q14 ∧ (T0 ∧ (if ((↑nw : Int) ≤ a) then q63 else (q22 ∧ ((((0 : Int) ≤ a) ∧ (a < (↑nw : Int))) ∧ ((Int.toNat a < nw) ∧ (T0 ∧ (q1 ∧ ((((0 : Int) ≤ fw (Int.toNat a) (0 : Nat)) ∧ (fw (Int.toNat a) (0 : Nat) ≤ q5)) ∧ (t3 (if (@Eq Int (hsE q6) ((0 : Int))) then (t3 (((q4 ≤ hsP q6 + hsR q6) ∧ (hsP q6 + hsR q6 ≤ q2)) ∧ (q14 ∧ (T0 ∧ (((q4 ≤ (↑nw : Int) - a) ∧ ((↑nw : Int) - a ≤ q2)) ∧ (T0 ∧ (if ((↑nw : Int) - a ≤ hsP q6 + hsR q6) then q64 else (T0 ∧ (((q4 ≤ a + (1 : Int)) ∧ (a + (1 : Int) ≤ q2)) ∧ (t2 (((q4 ≤ a + (1 : Int) + hsP q6) ∧ (a + (1 : Int) + hsP q6 ≤ q2)) ∧ (t2 (((q4 ≤ a + (1 : Int) + hsP q6 + hsR q6) ∧ (a + (1 : Int) + hsP q6 + hsR q6 ≤ q2)) ∧ (t8 (q14 ∧ (t4 (q7 ∧ ((((0 : Int) ≤ a + (1 : Int)) ∧ ((a + (1 : Int) ≤ a + (1 : Int) + hsP q6) ∧ ((a + (1 : Int) + hsP q6 ≤ a + (1 : Int) + hsP q6) ∧ (a + (1 : Int) + hsP q6 ≤ (↑cw : Int))))) ∧ ((@Eq Int q16 q16) ∧ (t8 (q14 ∧ (t4 (q7 ∧ ((((0 : Int) ≤ a + (1 : Int) + hsP q6) ∧ ((a + (1 : Int) + hsP q6 ≤ a + (1 : Int) + hsP q6 + hsR q6) ∧ ((a + (1 : Int) + hsP q6 + hsR q6 ≤ a + (1 : Int) + hsP q6 + hsR q6) ∧ (a + (1 : Int) + hsP q6 + hsR q6 ≤ (↑cw : Int))))) ∧ ((@Eq Int q26 q26) ∧ (t9 (t4 (q0 ∧ (q21 ∧ (q28 ∧ (q1 ∧ ((True) ∧ (T0 ∧ (if (@Eq Int (arE nw fw) ((0 : Int))) then (t2 (if (b < (1 : Int)) then q67 else (q14 ∧ (T0 ∧ (if ((↑nw : Int) ≤ b) then q67 else (q22 ∧ (q13 ∧ ((Int.toNat b < nw) ∧ (T0 ∧ (q1 ∧ (q30 ∧ (t3 (if (@Eq Int (hsE q3) ((0 : Int))) then (t3 (q41 ∧ (q14 ∧ (T0 ∧ (q29 ∧ (T0 ∧ (if ((↑nw : Int) - b ≤ hsP q3 + hsR q3) then q68 else (T0 ∧ (q27 ∧ (t2 (q39 ∧ (t2 (q48 ∧ (t8 (q14 ∧ (t4 (q7 ∧ (q49 ∧ (q31 ∧ (t8 (q14 ∧ (t4 (q7 ∧ (q53 ∧ (q40 ∧ (t9 (t7 (if (eqL [hsP q6, hsR q6] [hsP q3, hsR q3]) then (t6 (q56 ∧ (q55 ∧ (q54 ∧ (q58 ∧ ((q7 ∧ q52) ∧ (q57 ∧ (q1 ∧ ((True) ∧ (∀ y0 : Bool, ((y0 = true ↔ Int.toNat q33 = Int.toNat q32 ∧ ∀ (i : Nat), i < Int.toNat q33 → shiftF fw q20 i (0 : Nat) = shiftF fw q19 i (0 : Nat)) → (∃ y1 : Value, (∃ y2 : List Blk, ((Go.Rx.Found 1 (Value.tuple { toList := [Value.bool y0, vi (0 : Int)] }) ({ h := [((8 : Nat), Blk.cells [vi q9, vi q10, Value.slice (some { block := (0 : Nat), off := (0 : Nat), spot := some (Nat.succ (Nat.succ (Int.toNat (b + (1 : Int))))) }) q23 q23, vi (b + (1 : Int)), Value.slice (some { block := (0 : Nat), off := (0 : Nat), spot := some (Nat.succ (Nat.succ q19)) }) q35 q35] (118 : Nat)), q38, q59, ((5 : Nat), Blk.cells [vi q9, vi q10, Value.slice (some { block := (0 : Nat), off := (0 : Nat), spot := some (Nat.succ (Nat.succ (Int.toNat (b + (1 : Int))))) }) q23 q23, vi (b + (1 : Int)), Value.slice (some { block := (0 : Nat), off := (0 : Nat), spot := some (Nat.succ (Nat.succ q19)) }) q35 q35] (118 : Nat)), q60, q36, q61, q62, q17], next := (9 : Nat) }) (y1) (y2)) ∧ (K y1 y2))))))))))))))) else (∃ y0 : Value, (∃ y1 : List Blk, ((Go.Rx.Found 1 (Value.tuple { toList := [Value.bool false, vi (0 : Int)] }) ({ h := [((8 : Nat), Blk.cells [vi q9, vi q10, Value.slice (some { block := (0 : Nat), off := (0 : Nat), spot := some (Nat.succ (Nat.succ (Int.toNat (b + (1 : Int))))) }) q23 q23, vi (b + (1 : Int)), Value.slice (some { block := (0 : Nat), off := (0 : Nat), spot := some (Nat.succ (Nat.succ q19)) }) q35 q35] (118 : Nat)), q38, q59, ((5 : Nat), Blk.cells [vi q9, vi q10, Value.slice (some { block := (0 : Nat), off := (0 : Nat), spot := some (Nat.succ (Nat.succ (Int.toNat (b + (1 : Int))))) }) q23 q23, vi (b + (1 : Int)), Value.slice (some { block := (0 : Nat), off := (0 : Nat), spot := some (Nat.succ (Nat.succ q19)) }) q35 q35] (118 : Nat)), q60, q36, q61, q62, q17], next := (9 : Nat) }) (y0) (y1)) ∧ (K y0 y1)))))))))))))))))))))))))))))))) else q68))))))))))))) else (t6 (if (@Eq Int (arE nw fw) ((0 : Int))) then (t4 (if (eqL [hsP q6, hsR q6] [(0 : Int), (0 : Int)]) then (t6 (q56 ∧ (T0 ∧ (q54 ∧ (q58 ∧ (q1 ∧ ((True) ∧ (∀ y0 : Bool, ((y0 = true ↔ Int.toNat q33 = (0 : Nat) ∧ ∀ (i : Nat), i < Int.toNat q33 → shiftF fw q20 i (0 : Nat) = zF i (0 : Nat)) → (∃ y1 : Value, (∃ y2 : List Blk, ((Go.Rx.Found 1 (Value.tuple { toList := [Value.bool y0, vi (0 : Int)] }) ({ h := [q46, q47, q60, q36, q61, q62, q17], next := (7 : Nat) }) (y1) (y2)) ∧ (K y1 y2))))))))))))) else (∃ y0 : Value, (∃ y1 : List Blk, ((Go.Rx.Found 1 (Value.tuple { toList := [Value.bool false, vi (0 : Int)] }) ({ h := [q46, q47, q60, q36, q61, q62, q17], next := (7 : Nat) }) (y0) (y1)) ∧ (K y0 y1)))))) else (∃ y0 : Value, (∃ y1 : List Blk, ((Go.Rx.Found 1 (Value.tuple { toList := [Value.bool false, vi (arE nw fw)] }) ({ h := [q46, q47, q60, q36, q61, q62, q17], next := (7 : Nat) }) (y0) (y1)) ∧ (K y0 y1)))))))))))))))))))))))))))))))))))))))) else q64))))))))))))) else (t6 (if (@Eq Int (arE nw fw) ((0 : Int))) then (T0 ∧ (q0 ∧ (q21 ∧ (q28 ∧ (q1 ∧ ((True) ∧ (T0 ∧ (if (@Eq Int (arE nw fw) ((0 : Int))) then (t2 (if (b < (1 : Int)) then q65 else (q14 ∧ (T0 ∧ (if ((↑nw : Int) ≤ b) then q65 else (q22 ∧ (q13 ∧ ((Int.toNat b < nw) ∧ (T0 ∧ (q1 ∧ (q30 ∧ (t3 (if (@Eq Int (hsE q3) ((0 : Int))) then (t3 (q41 ∧ (q14 ∧ (T0 ∧ (q29 ∧ (T0 ∧ (if ((↑nw : Int) - b ≤ hsP q3 + hsR q3) then q66 else (T0 ∧ (q27 ∧ (t2 (q39 ∧ (t2 (q48 ∧ (t8 (q14 ∧ (t4 (q7 ∧ (q49 ∧ (q31 ∧ (t8 (q14 ∧ (t4 (q7 ∧ (q53 ∧ (q40 ∧ (t9 (t7 (if (eqL [(0 : Int), (0 : Int)] [hsP q3, hsR q3]) then (t7 (q55 ∧ ((q8 ∧ q52) ∧ (q57 ∧ (q1 ∧ ((True) ∧ (∀ y0 : Bool, ((y0 = true ↔ (0 : Nat) = Int.toNat q32 ∧ ∀ (i : Nat), i < (0 : Nat) → zF i (0 : Nat) = shiftF fw q19 i (0 : Nat)) → (∃ y1 : Value, (∃ y2 : List Blk, ((Go.Rx.Found 1 (Value.tuple { toList := [Value.bool y0, vi (0 : Int)] }) ({ h := [q59, q34, ((4 : Nat), Blk.cells [vi q9, vi q10, Value.slice (some { block := (0 : Nat), off := (0 : Nat), spot := some (Nat.succ (Nat.succ (Int.toNat (b + (1 : Int))))) }) q23 q23, vi (b + (1 : Int)), Value.slice (some { block := (0 : Nat), off := (0 : Nat), spot := some (Nat.succ (Nat.succ q19)) }) q35 q35] (118 : Nat)), ((3 : Nat), Blk.cells [vi q9, vi q10, Value.slice (some { block := (0 : Nat), off := (0 : Nat), spot := some (Nat.succ (Nat.succ (Int.toNat (b + (1 : Int))))) }) q23 q23, vi (b + (1 : Int)), Value.slice (some { block := (0 : Nat), off := (0 : Nat), spot := some (Nat.succ (Nat.succ q19)) }) q35 q35] (118 : Nat)), q42, q43, q17], next := (7 : Nat) }) (y1) (y2)) ∧ (K y1 y2)))))))))))) else (∃ y0 : Value, (∃ y1 : List Blk, ((Go.Rx.Found 1 (Value.tuple { toList := [Value.bool false, vi (0 : Int)] }) ({ h := [q59, q34, ((4 : Nat), Blk.cells [vi q9, vi q10, Value.slice (some { block := (0 : Nat), off := (0 : Nat), spot := some (Nat.succ (Nat.succ (Int.toNat (b + (1 : Int))))) }) q23 q23, vi (b + (1 : Int)), Value.slice (some { block := (0 : Nat), off := (0 : Nat), spot := some (Nat.succ (Nat.succ q19)) }) q35 q35] (118 : Nat)), ((3 : Nat), Blk.cells [vi q9, vi q10, Value.slice (some { block := (0 : Nat), off := (0 : Nat), spot := some (Nat.succ (Nat.succ (Int.toNat (b + (1 : Int))))) }) q23 q23, vi (b + (1 : Int)), Value.slice (some { block := (0 : Nat), off := (0 : Nat), spot := some (Nat.succ (Nat.succ q19)) }) q35 q35] (118 : Nat)), q42, q43, q17], next := (7 : Nat) }) (y0) (y1)) ∧ (K y0 y1)))))))))))))))))))))))))))))))) else q66))))))))))))) else (t6 (if (@Eq Int (arE nw fw) ((0 : Int))) then (t9 (t3 (q1 ∧ ((True) ∧ (∀ y0 : Bool, ((y0 = true ↔ (0 : Nat) = (0 : Nat) ∧ ∀ (i : Nat), i < (0 : Nat) → zF i (0 : Nat) = zF i (0 : Nat)) → (∃ y1 : Value, (∃ y2 : List Blk, ((Go.Rx.Found 1 (Value.tuple { toList := [Value.bool y0, vi (0 : Int)] }) ({ h := [q44, q45, q42, q43, q17], next := (5 : Nat) }) (y1) (y2)) ∧ (K y1 y2)))))))))) else (∃ y0 : Value, (∃ y1 : List Blk, ((Go.Rx.Found 1 (Value.tuple { toList := [Value.bool false, vi (arE nw fw)] }) ({ h := [q44, q45, q42, q43, q17], next := (5 : Nat) }) (y0) (y1)) ∧ (K y0 y1)))))))))))))) else (∃ y0 : Value, (∃ y1 : List Blk, ((Go.Rx.Found 1 (Value.tuple { toList := [Value.bool false, vi (arE nw fw)] }) ({ h := [q42, q43, q17], next := (3 : Nat) }) (y0) (y1)) ∧ (K y0 y1))))))))))))))
theorem alOG_rE (ew nw cw : Nat) (fw : RF) (a : Int) (b : Int) (K : Value → List Blk → Prop) : alOG_rV ew nw cw fw a b K = bodyX (mk XAL) (callN (mk XAL) 9) (alOG_rA ew nw cw fw a b) Try.f58 [rsl 0 0 nw cw, .int .i64 a, .int .i64 b] (stOf [.row true [.u64] ew nw cw fw]) (Fd 1 K) := by kernel_rfl
set_option tactic.hygienic false in
theorem alOG_rP (ew nw cw : Nat) (fw : RF) (a : Int) (b : Int) (K : Value → List Blk → Prop)  (hnw : nw ≤ 100000) (hcw : nw ≤ cw) (hU : Ok64 nw fw) (h1 : alE nw fw a b = 0) (h : ∀ bb : Bool, (bb = true ↔ alP fw a b) → K (.tuple ⟨[.bool bb, .int .i64 0]⟩) []) : alOG_rV ew nw cw fw a b K := by
  unfold alOG_rV
  conv => zeta
  have z0 := ob_cases hU a
  have z1 := fun (h1 : 0 ≤ a) (h2 : a < nw) => hU.at h1 h2
  have z2 := fun (h1 : 0 ≤ a) (h2 : a < nw) => hs_bd (hU.at h1 h2).1
  have z3 := ob_cases hU b
  have z4 := fun (h1 : 0 ≤ b) (h2 : b < nw) => hU.at h1 h2
  have z5 := fun (h1 : 0 ≤ b) (h2 : b < nw) => hs_bd (hU.at h1 h2).1
  have z6 := al_cases nw fw a b
  repeat' (first | (with_reducible exact rfl) | (with_reducible exact trivial) | (with_reducible refine And.intro ?_ ?_) | (intro) | (with_reducible refine br_d (fun hq => ?_) (fun hq => ?_)) | (with_reducible refine br_nd (fun hq => ?_) (fun hq => ?_)) | (with_reducible refine br_intro (fun hq => ?_) (fun hq => ?_)) | (with_reducible refine if_both (fun hz => ?_) (fun hz => ?_)) | fail)
  all_goals try simp only [eqL] at *
  all_goals first
    | (with_reducible assumption)
    | (refine (id ?_ : ∃ (v1 : Value) (news : List Blk), _)
       first
        | contradiction
        | (rename (_ = true ↔ _) => hb
           exact fin0 (by kernel_rfl) (by kernel_rfl) (h _ (hb.trans ⟨fun e => ⟨by omega, by omega, fun i hi => (by
             have q := e.2 i (by omega)
             simpa only [shiftF_eq] using q)⟩, fun e => ⟨by omega, fun i hi => (by
             have q := e.2.2 i (by omega)
             simpa only [shiftF_eq] using q)⟩⟩)))
        | exact fin0 (by kernel_rfl) (by kernel_rfl) (h false ⟨fun e => (by cases e), fun e => absurd (And.intro e.1 e.2.1) (by assumption)⟩)
        | exact fin0 (by kernel_rfl) (by kernel_rfl) (h false ⟨fun e => (by cases e), fun e => (by have q1 := e.1; have q2 := e.2.1; omega)⟩)
        | (exfalso; omega)
       )
    | omega
    | contradiction
    | (rename (_ = true ↔ _) => hb
       exact fin0 (by kernel_rfl) (by kernel_rfl) (h _ (hb.trans ⟨fun e => ⟨by omega, by omega, fun i hi => (by
         have q := e.2 i (by omega)
         simpa only [shiftF_eq] using q)⟩, fun e => ⟨by omega, fun i hi => (by
         have q := e.2.2 i (by omega)
         simpa only [shiftF_eq] using q)⟩⟩)))
    | exact fin0 (by kernel_rfl) (by kernel_rfl) (h false ⟨fun e => (by cases e), fun e => absurd (And.intro e.1 e.2.1) (by assumption)⟩)
    | exact fin0 (by kernel_rfl) (by kernel_rfl) (h false ⟨fun e => (by cases e), fun e => (by have q1 := e.1; have q2 := e.2.1; omega)⟩)
    | (exfalso; omega)
theorem alOG_ok : BodyOk (mk XAL) 9 Try.f58 alOG := by
  intro vs bs K hh hro
  clear hro
  unfold alOG at hh
  split at hh
  · rename_i vw a b
    obtain ⟨ew, nw, cw, fw, btw, rfl, hnw, hcw, rfl, hh0⟩ := parseRQ_inv hh
    obtain ⟨rfl, ⟨hU, h1⟩, hc⟩ := hh0
    exact ⟨_, _, cast (alOG_rE ew nw cw fw a b K) (alOG_rP ew nw cw fw a b K hnw hcw hU h1 hc)⟩
  · exact hh.elim
theorem alOG_told : Told 58 (specOf alOG) := told (X := XAL) XAL_told (by kernel_rfl) (by kernel_rfl) (by kernel_rfl) alOG_ok
end Go.Proofs.Ytfgeoglegebncaa.Fr
namespace Go.Proofs.Ytfgeoglegebncaa.Fr
set_option maxRecDepth 100000
set_option maxHeartbeats 4000000
open Go.Rx
open Go.RowKit (Below)
set_option linter.unusedVariables false
def alKB : Con := fun vs bs K => match vs with
  | [vw, .int .i64 a, .int .i64 b] => parseQ [.u64] 0 vw bs fun nw fw j0 bs0 => bs0 = [] ∧ ((Ok64 nw fw) ∧ (¬ alE nw fw a b = 0)) ∧ (K (.tuple ⟨[.bool false, .int .i64 (alE nw fw a b)]⟩) [])
  | _ => False

def alKB_nA (a : Int) (b : Int) : Ann := fun k tt ss => bif Nat.beq k 10 then some [{ α := Nat, T := fun _ => tt, S := fun _ => ss, I := fun _ => False, m := fun k => 0, ρ0 := [], ρ1 := [[]] }] else none
def alKB_rA (ew nw cw : Nat) (fw : RF) (a : Int) (b : Int) : Ann := fun k tt ss => bif Nat.beq k 10 then some [{ α := Nat, T := fun _ => tt, S := fun _ => ss, I := fun _ => False, m := fun k => 0, ρ0 := [], ρ1 := [[]] }] else none
def alKG : Con := fun vs bs K => match vs with
  | [vw, .int .i64 a, .int .i64 b] => parseRQ [.u64] 0 vw bs fun nw fw j0 bs0 => bs0 = [] ∧ ((Ok64 nw fw) ∧ (alE nw fw a b = 0)) ∧ (∀ bb : Bool, (bb = true ↔ alP fw a b) → K (.tuple ⟨[.bool bb, .int .i64 0]⟩) [])
  | _ => False

def alKG_rA (ew nw cw : Nat) (fw : RF) (a : Int) (b : Int) : Ann := fun k tt ss => bif Nat.beq k 10 then some [{ α := Nat, T := fun k => ⟨tt.n, (11, .int .i64 (k : Int)) :: Rx.del tt.m 11⟩, S := fun _ => ss, I := fun k => k ≤ (obR nw fw a).toNat ∧ ∀ i : Nat, i < k → fw (Int.toNat (a + 1 + obP nw fw a + (i : Int))) 0 = fw (Int.toNat (b + 1 + obP nw fw a + (i : Int))) 0, m := fun k => (obR nw fw a).toNat - k, ρ0 := idR 1 ss.next, ρ1 := [idR 1 ss.next] }] else none
def alKB_nV (a : Int) (b : Int) (K : Value → List Blk → Prop) : Prop := (t3 (eB ∧ ((Ok64 (0 : Nat) zF) ∧ (t3 (∃ y0 : Value, (∃ y1 : List Blk, ((Go.Rx.Found 0 (Value.tuple { toList := [Value.bool false, vi (obE (0 : Nat) zF a)] }) ({ h := [((0 : Nat), Blk.cells [vi (obP (0 : Nat) zF a), vi (obR (0 : Nat) zF a)] (60 : Nat))], next := (1 : Nat) }) (y0) (y1)) ∧ (K y0 y1))))))))
theorem alKB_nE (a : Int) (b : Int) (K : Value → List Blk → Prop) : alKB_nV a b K = bodyX (mk XS) (callN (mk XS) 6) (alKB_nA a b) Try.f59 [.slice none 0 0, .int .i64 a, .int .i64 b] (stOf []) (Fd 0 K) := by kernel_rfl
set_option tactic.hygienic false in
theorem alKB_nP (a : Int) (b : Int) (K : Value → List Blk → Prop)  (hU : Ok64 0 zF) (h1 : ¬ alE 0 zF a b = 0) (h : K (.tuple ⟨[.bool false, .int .i64 (alE 0 zF a b)]⟩) []) : alKB_nV a b K := by
  unfold alKB_nV
  have z0 := ob_cases hU a
  have z1 := fun (h1 : 0 ≤ a) (h2 : a < 0) => hU.at h1 h2
  have z2 := fun (h1 : 0 ≤ a) (h2 : a < 0) => hs_bd (hU.at h1 h2).1
  have z3 := ob_cases hU b
  have z4 := fun (h1 : 0 ≤ b) (h2 : b < 0) => hU.at h1 h2
  have z5 := fun (h1 : 0 ≤ b) (h2 : b < 0) => hs_bd (hU.at h1 h2).1
  have z6 := al_cases 0 zF a b
  repeat' (first | (with_reducible exact rfl) | (with_reducible exact trivial) | (with_reducible refine And.intro ?_ ?_) | (intro) | (with_reducible refine br_d (fun hq => ?_) (fun hq => ?_)) | (with_reducible refine br_nd (fun hq => ?_) (fun hq => ?_)) | (with_reducible refine br_intro (fun hq => ?_) (fun hq => ?_)) | (with_reducible refine if_both (fun hz => ?_) (fun hz => ?_)) | fail)

  all_goals first
    | (with_reducible assumption)
    | (refine (id ?_ : ∃ (v1 : Value) (news : List Blk), _)
       first
        | contradiction
        | exact fin0 (by kernel_rfl) (by kernel_rfl) h
        | (have e : alE 0 zF a b = obE 0 zF a := (by omega)
           rw [e] at h
           exact fin0 (by kernel_rfl) (by kernel_rfl) h)
        | (have e : alE 0 zF a b = obE 0 zF b := (by omega)
           rw [e] at h
           exact fin0 (by kernel_rfl) (by kernel_rfl) h)
        | (have e : alE 0 zF a b = arE 0 zF := (by omega)
           rw [e] at h
           exact fin0 (by kernel_rfl) (by kernel_rfl) h)
        | (have e : alE 0 zF a b = 7 := (by omega)
           rw [e] at h
           exact fin0 (by kernel_rfl) (by kernel_rfl) h)
        | (have e : alE 0 zF a b = 6 := (by omega)
           rw [e] at h
           exact fin0 (by kernel_rfl) (by kernel_rfl) h)
        | (exfalso; omega)
       )
    | omega
    | contradiction
    | exact fin0 (by kernel_rfl) (by kernel_rfl) h
    | (have e : alE 0 zF a b = obE 0 zF a := (by omega)
       rw [e] at h
       exact fin0 (by kernel_rfl) (by kernel_rfl) h)
    | (have e : alE 0 zF a b = obE 0 zF b := (by omega)
       rw [e] at h
       exact fin0 (by kernel_rfl) (by kernel_rfl) h)
    | (have e : alE 0 zF a b = arE 0 zF := (by omega)
       rw [e] at h
       exact fin0 (by kernel_rfl) (by kernel_rfl) h)
    | (have e : alE 0 zF a b = 7 := (by omega)
       rw [e] at h
       exact fin0 (by kernel_rfl) (by kernel_rfl) h)
    | (have e : alE 0 zF a b = 6 := (by omega)
       rw [e] at h
       exact fin0 (by kernel_rfl) (by kernel_rfl) h)
    | (exfalso; omega)
def alKB_rV (ew nw cw : Nat) (fw : RF) (a : Int) (b : Int) (K : Value → List Blk → Prop) : Prop := let q0 := ((0 : Nat) + nw ≤ nw); let q1 := (32, Value.bool false); let q2 := (28, Value.bool false); let q3 := (19, Value.bool false); let q4 := eB; let q5 := (9223372036854775807 : Int); let q6 := (1, vi a); let q7 := (2, vi b); let q8 := (-9223372036854775808 : Int); let q9 := (23, vi b); let q10 := (14, vi a); let q11 := (0, rsl (0 : Nat) (0 : Nat) nw cw); let q12 := (22, rsl (0 : Nat) (0 : Nat) nw cw); let q13 := (13, rsl (0 : Nat) (0 : Nat) nw cw); let q14 := (7, vi (0 : Int)); let q15 := (9, vi (obE nw fw b)); let q16 := (27, vi (obE nw fw b)); let q17 := (26, vi (obE nw fw b)); let q18 := (18, vi (obE nw fw a)); let q19 := (17, vi (obE nw fw a)); let q20 := (b + (1 : Int) + obP nw fw a + (0 : Int)); let q21 := (a + (1 : Int) + obP nw fw a + (0 : Int)); let q22 := (0, Blk.row true [IntKind.u64] ew nw cw fw); let q23 := ((0 : Nat), Blk.row true [IntKind.u64] ew nw cw fw); let q24 := (8, Value.pointer (some { block := (1 : Nat), off := (0 : Nat) })); let q25 := (10, Value.pointer (some { block := (2 : Nat), off := (0 : Nat) })); let q26 := ((@Eq Nat ((0 : Nat)) ((0 : Nat))) ∧ ((nw ≤ (100000 : Nat)) ∧ (nw ≤ cw))); let q27 := (TS ∧ (@Eq Nat ((1 : Nat)) ((1 : Nat)))); let q28 := ((@Eq (List IntKind) ([IntKind.u64]) ([IntKind.u64])) ∧ ((@Eq Nat (nw) (nw)) ∧ (@Eq Nat (cw) (cw)))); let q29 := ((1 : Nat), Blk.cells [vi (obP nw fw a), vi (obR nw fw a)] (60 : Nat)); (T0 ∧ (q0 ∧ (T0 ∧ (q26 ∧ (q28 ∧ (q4 ∧ ((Ok64 nw fw) ∧ (t3 (if (@Eq Int (obE nw fw a) ((0 : Int))) then (q0 ∧ (T0 ∧ (q26 ∧ (q28 ∧ (q4 ∧ ((Ok64 nw fw) ∧ (t3 (if (@Eq Int (obE nw fw b) ((0 : Int))) then (t2 (if (eqL [obP nw fw a, obR nw fw a] [obP nw fw b, obR nw fw b]) then ((∃ y0 : Nat, ((Go.Rx.Sub 1 [] ⟨60, [(11, vi (0 : Int)), q1, (31, Value.agg { toList := [vi (obP nw fw b), vi (obR nw fw b)] }), (30, Value.agg { toList := [vi (obP nw fw a), vi (obR nw fw a)] }), q2, q16, q15, q25, q17, (25, Value.agg { toList := [vi (obP nw fw b), vi (obR nw fw b)] }), (21, Value.tuple { toList := [Value.agg { toList := [vi (obP nw fw b), vi (obR nw fw b)] }, vi (obE nw fw b)] }), (24, Value.tuple { toList := [Value.agg { toList := [vi (obP nw fw b), vi (obR nw fw b)] }, vi (obE nw fw b)] }), q9, q12, q3, q18, q24, q19, (16, Value.agg { toList := [vi (obP nw fw a), vi (obR nw fw a)] }), (12, Value.tuple { toList := [Value.agg { toList := [vi (obP nw fw a), vi (obR nw fw a)] }, vi (obE nw fw a)] }), (15, Value.tuple { toList := [Value.agg { toList := [vi (obP nw fw a), vi (obR nw fw a)] }, vi (obE nw fw a)] }), q10, q13, q14, (6, Value.bool false), q11, q6, q7]⟩ ⟨[q22], 3⟩ ({ n := (60 : Nat), m := [((11 : Nat), vi (0 : Int)), ((32 : Nat), Value.bool false), ((31 : Nat), Value.agg { toList := [vi (obP nw fw b), vi (obR nw fw b)] }), ((30 : Nat), Value.agg { toList := [vi (obP nw fw a), vi (obR nw fw a)] }), ((28 : Nat), Value.bool false), ((27 : Nat), vi (obE nw fw b)), ((9 : Nat), vi (obE nw fw b)), ((10 : Nat), Value.pointer (some { block := (2 : Nat), off := (0 : Nat) })), ((26 : Nat), vi (obE nw fw b)), ((25 : Nat), Value.agg { toList := [vi (obP nw fw b), vi (obR nw fw b)] }), ((21 : Nat), Value.tuple { toList := [Value.agg { toList := [vi (obP nw fw b), vi (obR nw fw b)] }, vi (obE nw fw b)] }), ((24 : Nat), Value.tuple { toList := [Value.agg { toList := [vi (obP nw fw b), vi (obR nw fw b)] }, vi (obE nw fw b)] }), ((23 : Nat), vi b), ((22 : Nat), rsl (0 : Nat) (0 : Nat) nw cw), ((19 : Nat), Value.bool false), ((18 : Nat), vi (obE nw fw a)), ((8 : Nat), Value.pointer (some { block := (1 : Nat), off := (0 : Nat) })), ((17 : Nat), vi (obE nw fw a)), ((16 : Nat), Value.agg { toList := [vi (obP nw fw a), vi (obR nw fw a)] }), ((12 : Nat), Value.tuple { toList := [Value.agg { toList := [vi (obP nw fw a), vi (obR nw fw a)] }, vi (obE nw fw a)] }), ((15 : Nat), Value.tuple { toList := [Value.agg { toList := [vi (obP nw fw a), vi (obR nw fw a)] }, vi (obE nw fw a)] }), ((14 : Nat), vi a), ((13 : Nat), rsl (0 : Nat) (0 : Nat) nw cw), ((7 : Nat), vi (0 : Int)), ((6 : Nat), Value.bool false), ((0 : Nat), rsl (0 : Nat) (0 : Nat) nw cw), ((1 : Nat), vi a), ((2 : Nat), vi b)] }) ({ h := [((2 : Nat), Blk.cells [vi (obP nw fw b), vi (obR nw fw b)] (60 : Nat)), q29, q23], next := (3 : Nat) })) ∧ (False))) ∧ (∀ y0 : Nat, ((False) → (t2 (if ((0 : Int) < obR nw fw a) then (t5 (((q8 ≤ a + (1 : Int)) ∧ (a + (1 : Int) ≤ q5)) ∧ (t5 (((q8 ≤ a + (1 : Int) + obP nw fw a) ∧ (a + (1 : Int) + obP nw fw a ≤ q5)) ∧ (t3 (((q8 ≤ a + (1 : Int) + obP nw fw a + (0 : Int)) ∧ (a + (1 : Int) + obP nw fw a + (0 : Int) ≤ q5)) ∧ (T0 ∧ (q27 ∧ ((((0 : Int) ≤ a + (1 : Int) + obP nw fw a + (0 : Int)) ∧ (a + (1 : Int) + obP nw fw a + (0 : Int) < (↑nw : Int))) ∧ (T0 ∧ ((Int.toNat q21 < nw) ∧ (t4 (((q8 ≤ b + (1 : Int)) ∧ (b + (1 : Int) ≤ q5)) ∧ (t5 (((q8 ≤ b + (1 : Int) + obP nw fw a) ∧ (b + (1 : Int) + obP nw fw a ≤ q5)) ∧ (t3 (((q8 ≤ b + (1 : Int) + obP nw fw a + (0 : Int)) ∧ (b + (1 : Int) + obP nw fw a + (0 : Int) ≤ q5)) ∧ (T0 ∧ (q27 ∧ ((((0 : Int) ≤ b + (1 : Int) + obP nw fw a + (0 : Int)) ∧ (b + (1 : Int) + obP nw fw a + (0 : Int) < (↑nw : Int))) ∧ (T0 ∧ ((Int.toNat q20 < nw) ∧ (t2 (if (@Eq Int (fw (Int.toNat q21) (0 : Nat)) (fw (Int.toNat q20) (0 : Nat))) then (T0 ∧ (((q8 ≤ (0 : Int) + (1 : Int)) ∧ ((0 : Int) + (1 : Int) ≤ q5)) ∧ (∃ y1 : Nat, ((Go.Rx.Sub 1 [] ⟨60, [(11, vi (1 : Int)), q1, (31, Value.agg { toList := [vi (obP nw fw b), vi (obR nw fw b)] }), (30, Value.agg { toList := [vi (obP nw fw a), vi (obR nw fw a)] }), q2, q16, q15, q25, q17, (25, Value.agg { toList := [vi (obP nw fw b), vi (obR nw fw b)] }), (21, Value.tuple { toList := [Value.agg { toList := [vi (obP nw fw b), vi (obR nw fw b)] }, vi (obE nw fw b)] }), (24, Value.tuple { toList := [Value.agg { toList := [vi (obP nw fw b), vi (obR nw fw b)] }, vi (obE nw fw b)] }), q9, q12, q3, q18, q24, q19, (16, Value.agg { toList := [vi (obP nw fw a), vi (obR nw fw a)] }), (12, Value.tuple { toList := [Value.agg { toList := [vi (obP nw fw a), vi (obR nw fw a)] }, vi (obE nw fw a)] }), (15, Value.tuple { toList := [Value.agg { toList := [vi (obP nw fw a), vi (obR nw fw a)] }, vi (obE nw fw a)] }), q10, q13, q14, (6, Value.bool false), q11, q6, q7]⟩ ⟨[q22], 3⟩ ({ n := (60 : Nat), m := [((11 : Nat), vi (0 : Int)), ((32 : Nat), Value.bool false), ((31 : Nat), Value.agg { toList := [vi (obP nw fw b), vi (obR nw fw b)] }), ((30 : Nat), Value.agg { toList := [vi (obP nw fw a), vi (obR nw fw a)] }), ((28 : Nat), Value.bool false), ((27 : Nat), vi (obE nw fw b)), ((9 : Nat), vi (obE nw fw b)), ((10 : Nat), Value.pointer (some { block := (2 : Nat), off := (0 : Nat) })), ((26 : Nat), vi (obE nw fw b)), ((25 : Nat), Value.agg { toList := [vi (obP nw fw b), vi (obR nw fw b)] }), ((21 : Nat), Value.tuple { toList := [Value.agg { toList := [vi (obP nw fw b), vi (obR nw fw b)] }, vi (obE nw fw b)] }), ((24 : Nat), Value.tuple { toList := [Value.agg { toList := [vi (obP nw fw b), vi (obR nw fw b)] }, vi (obE nw fw b)] }), ((23 : Nat), vi b), ((22 : Nat), rsl (0 : Nat) (0 : Nat) nw cw), ((19 : Nat), Value.bool false), ((18 : Nat), vi (obE nw fw a)), ((8 : Nat), Value.pointer (some { block := (1 : Nat), off := (0 : Nat) })), ((17 : Nat), vi (obE nw fw a)), ((16 : Nat), Value.agg { toList := [vi (obP nw fw a), vi (obR nw fw a)] }), ((12 : Nat), Value.tuple { toList := [Value.agg { toList := [vi (obP nw fw a), vi (obR nw fw a)] }, vi (obE nw fw a)] }), ((15 : Nat), Value.tuple { toList := [Value.agg { toList := [vi (obP nw fw a), vi (obR nw fw a)] }, vi (obE nw fw a)] }), ((14 : Nat), vi a), ((13 : Nat), rsl (0 : Nat) (0 : Nat) nw cw), ((7 : Nat), vi (0 : Int)), ((6 : Nat), Value.bool false), ((0 : Nat), rsl (0 : Nat) (0 : Nat) nw cw), ((1 : Nat), vi a), ((2 : Nat), vi b)] }) ({ h := [((2 : Nat), Blk.cells [vi (obP nw fw b), vi (obR nw fw b)] (60 : Nat)), q29, q23], next := (3 : Nat) })) ∧ ((False) ∧ ((0 : Nat) < (0 : Nat))))))) else (∃ y1 : Value, (∃ y2 : List Blk, ((Go.Rx.Found 1 (Value.tuple { toList := [Value.bool false, vi (0 : Int)] }) ({ h := [((2 : Nat), Blk.cells [vi (obP nw fw b), vi (obR nw fw b)] (60 : Nat)), q29, q23], next := (3 : Nat) }) (y1) (y2)) ∧ (K y1 y2)))))))))))))))))))))))))))) else (∃ y1 : Value, (∃ y2 : List Blk, ((Go.Rx.Found 1 (Value.tuple { toList := [Value.bool true, vi (0 : Int)] }) ({ h := [((2 : Nat), Blk.cells [vi (obP nw fw b), vi (obR nw fw b)] (60 : Nat)), q29, q23], next := (3 : Nat) }) (y1) (y2)) ∧ (K y1 y2))))))))) else (∃ y0 : Value, (∃ y1 : List Blk, ((Go.Rx.Found 1 (Value.tuple { toList := [Value.bool false, vi (0 : Int)] }) ({ h := [((2 : Nat), Blk.cells [vi (obP nw fw b), vi (obR nw fw b)] (60 : Nat)), q29, q23], next := (3 : Nat) }) (y0) (y1)) ∧ (K y0 y1)))))) else (∃ y0 : Value, (∃ y1 : List Blk, ((Go.Rx.Found 1 (Value.tuple { toList := [Value.bool false, vi (obE nw fw b)] }) ({ h := [((2 : Nat), Blk.cells [vi (obP nw fw b), vi (obR nw fw b)] (60 : Nat)), q29, q23], next := (3 : Nat) }) (y0) (y1)) ∧ (K y0 y1)))))))))))) else (∃ y0 : Value, (∃ y1 : List Blk, ((Go.Rx.Found 1 (Value.tuple { toList := [Value.bool false, vi (obE nw fw a)] }) ({ h := [q29, q23], next := (2 : Nat) }) (y0) (y1)) ∧ (K y0 y1)))))))))))))
theorem alKB_rE (ew nw cw : Nat) (fw : RF) (a : Int) (b : Int) (K : Value → List Blk → Prop) : alKB_rV ew nw cw fw a b K = bodyX (mk XS) (callN (mk XS) 6) (alKB_rA ew nw cw fw a b) Try.f59 [rsl 0 0 nw cw, .int .i64 a, .int .i64 b] (stOf [.row true [.u64] ew nw cw fw]) (Fd 1 K) := by kernel_rfl
set_option tactic.hygienic false in
theorem alKB_rP (ew nw cw : Nat) (fw : RF) (a : Int) (b : Int) (K : Value → List Blk → Prop)  (hnw : nw ≤ 100000) (hcw : nw ≤ cw) (hU : Ok64 nw fw) (h1 : ¬ alE nw fw a b = 0) (h : K (.tuple ⟨[.bool false, .int .i64 (alE nw fw a b)]⟩) []) : alKB_rV ew nw cw fw a b K := by
  unfold alKB_rV
  conv => zeta
  have z0 := ob_cases hU a
  have z1 := fun (h1 : 0 ≤ a) (h2 : a < nw) => hU.at h1 h2
  have z2 := fun (h1 : 0 ≤ a) (h2 : a < nw) => hs_bd (hU.at h1 h2).1
  have z3 := ob_cases hU b
  have z4 := fun (h1 : 0 ≤ b) (h2 : b < nw) => hU.at h1 h2
  have z5 := fun (h1 : 0 ≤ b) (h2 : b < nw) => hs_bd (hU.at h1 h2).1
  have z6 := al_cases nw fw a b
  repeat' (first | (with_reducible exact rfl) | (with_reducible exact trivial) | (with_reducible refine And.intro ?_ ?_) | (intro) | (with_reducible refine br_d (fun hq => ?_) (fun hq => ?_)) | (with_reducible refine br_nd (fun hq => ?_) (fun hq => ?_)) | (with_reducible refine br_intro (fun hq => ?_) (fun hq => ?_)) | (with_reducible refine if_both (fun hz => ?_) (fun hz => ?_)) | fail)

  all_goals first
    | (with_reducible assumption)
    | (refine (id ?_ : ∃ (v1 : Value) (news : List Blk), _)
       first
        | contradiction
        | exact fin0 (by kernel_rfl) (by kernel_rfl) h
        | (have e : alE nw fw a b = obE nw fw a := (by omega)
           rw [e] at h
           exact fin0 (by kernel_rfl) (by kernel_rfl) h)
        | (have e : alE nw fw a b = obE nw fw b := (by omega)
           rw [e] at h
           exact fin0 (by kernel_rfl) (by kernel_rfl) h)
        | (have e : alE nw fw a b = arE nw fw := (by omega)
           rw [e] at h
           exact fin0 (by kernel_rfl) (by kernel_rfl) h)
        | (have e : alE nw fw a b = 7 := (by omega)
           rw [e] at h
           exact fin0 (by kernel_rfl) (by kernel_rfl) h)
        | (have e : alE nw fw a b = 6 := (by omega)
           rw [e] at h
           exact fin0 (by kernel_rfl) (by kernel_rfl) h)
        | (exfalso; omega)
       )
    | omega
    | contradiction
    | exact fin0 (by kernel_rfl) (by kernel_rfl) h
    | (have e : alE nw fw a b = obE nw fw a := (by omega)
       rw [e] at h
       exact fin0 (by kernel_rfl) (by kernel_rfl) h)
    | (have e : alE nw fw a b = obE nw fw b := (by omega)
       rw [e] at h
       exact fin0 (by kernel_rfl) (by kernel_rfl) h)
    | (have e : alE nw fw a b = arE nw fw := (by omega)
       rw [e] at h
       exact fin0 (by kernel_rfl) (by kernel_rfl) h)
    | (have e : alE nw fw a b = 7 := (by omega)
       rw [e] at h
       exact fin0 (by kernel_rfl) (by kernel_rfl) h)
    | (have e : alE nw fw a b = 6 := (by omega)
       rw [e] at h
       exact fin0 (by kernel_rfl) (by kernel_rfl) h)
    | (exfalso; omega)
theorem alKB_ok : BodyOk (mk XS) 6 Try.f59 alKB := by
  intro vs bs K hh hro
  clear hro
  unfold alKB at hh
  split at hh
  · rename_i vw a b
    rcases parseQ_inv hh with ⟨rfl, hh0⟩ | ⟨ew, nw, cw, fw, btw, rfl, hnw, hcw, rfl, hh0⟩ <;> clear hh
    · obtain ⟨rfl, ⟨hU, h1⟩, hc⟩ := hh0
      exact ⟨_, _, cast (alKB_nE  a b K) (alKB_nP  a b K  hU h1 hc)⟩
    · obtain ⟨rfl, ⟨hU, h1⟩, hc⟩ := hh0
      exact ⟨_, _, cast (alKB_rE ew nw cw fw a b K) (alKB_rP ew nw cw fw a b K hnw hcw hU h1 hc)⟩
  · exact hh.elim
theorem alKB_told : Told 59 (specOf alKB) := told (X := XS) XS_told (by kernel_rfl) (by kernel_rfl) (by kernel_rfl) alKB_ok
def alKG_rV (ew nw cw : Nat) (fw : RF) (a : Int) (b : Int) (K : Value → List Blk → Prop) : Prop := let q0 := ((0 : Nat) + nw ≤ nw); let q1 := ((1 : Nat), (1 : Nat)); let q2 := ((2 : Nat), (2 : Nat)); let q3 := (32, Value.bool false); let q4 := (28, Value.bool false); let q5 := (19, Value.bool false); let q6 := eB; let q7 := (9223372036854775807 : Int); let q8 := (1, vi a); let q9 := (2, vi b); let q10 := (-9223372036854775808 : Int); let q11 := (23, vi b); let q12 := (14, vi a); let q13 := ((6 : Nat), Value.bool false); let q14 := ((32 : Nat), Value.bool false); let q15 := ((28 : Nat), Value.bool false); let q16 := ((19 : Nat), Value.bool false); let q17 := (0, rsl (0 : Nat) (0 : Nat) nw cw); let q18 := (22, rsl (0 : Nat) (0 : Nat) nw cw); let q19 := (13, rsl (0 : Nat) (0 : Nat) nw cw); let q20 := (7, vi (0 : Int)); let q21 := ((1 : Nat), vi a); let q22 := ((2 : Nat), vi b); let q23 := ((23 : Nat), vi b); let q24 := ((14 : Nat), vi a); let q25 := (9, vi (obE nw fw b)); let q26 := (27, vi (obE nw fw b)); let q27 := (26, vi (obE nw fw b)); let q28 := (18, vi (obE nw fw a)); let q29 := (17, vi (obE nw fw a)); let q30 := ((0 : Nat), rsl (0 : Nat) (0 : Nat) nw cw); let q31 := (0, Blk.row true [IntKind.u64] ew nw cw fw); let q32 := ((22 : Nat), rsl (0 : Nat) (0 : Nat) nw cw); let q33 := ((13 : Nat), rsl (0 : Nat) (0 : Nat) nw cw); let q34 := ((7 : Nat), vi (0 : Int)); let q35 := ((9 : Nat), vi (obE nw fw b)); let q36 := ((27 : Nat), vi (obE nw fw b)); let q37 := ((26 : Nat), vi (obE nw fw b)); let q38 := ((18 : Nat), vi (obE nw fw a)); let q39 := ((17 : Nat), vi (obE nw fw a)); let q40 := ((0 : Nat), Blk.row true [IntKind.u64] ew nw cw fw); let q41 := (8, Value.pointer (some { block := (1 : Nat), off := (0 : Nat) })); let q42 := (10, Value.pointer (some { block := (2 : Nat), off := (0 : Nat) })); let q43 := ((@Eq Nat ((0 : Nat)) ((0 : Nat))) ∧ ((nw ≤ (100000 : Nat)) ∧ (nw ≤ cw))); let q44 := ((8 : Nat), Value.pointer (some { block := (1 : Nat), off := (0 : Nat) })); let q45 := ((10 : Nat), Value.pointer (some { block := (2 : Nat), off := (0 : Nat) })); let q46 := (TS ∧ (@Eq Nat ((1 : Nat)) ((1 : Nat)))); let q47 := ((@Eq (List IntKind) ([IntKind.u64]) ([IntKind.u64])) ∧ ((@Eq Nat (nw) (nw)) ∧ (@Eq Nat (cw) (cw)))); let q48 := (2, Blk.cells [vi (obP nw fw b), vi (obR nw fw b)] (60 : Nat)); let q49 := (1, Blk.cells [vi (obP nw fw a), vi (obR nw fw a)] (60 : Nat)); let q50 := ((1 : Nat), Blk.cells [vi (obP nw fw a), vi (obR nw fw a)] (60 : Nat)); (T0 ∧ (q0 ∧ (T0 ∧ (q43 ∧ (q47 ∧ (q6 ∧ ((Ok64 nw fw) ∧ (t3 (if (@Eq Int (obE nw fw a) ((0 : Int))) then (q0 ∧ (T0 ∧ (q43 ∧ (q47 ∧ (q6 ∧ ((Ok64 nw fw) ∧ (t3 (if (@Eq Int (obE nw fw b) ((0 : Int))) then (t2 (if (eqL [obP nw fw a, obR nw fw a] [obP nw fw b, obR nw fw b]) then ((∃ y0 : Nat, ((Go.Rx.Sub 1 [q1, q2] ⟨60, [(11, vi (0 : Int)), q3, (31, Value.agg { toList := [vi (obP nw fw b), vi (obR nw fw b)] }), (30, Value.agg { toList := [vi (obP nw fw a), vi (obR nw fw a)] }), q4, q26, q25, q42, q27, (25, Value.agg { toList := [vi (obP nw fw b), vi (obR nw fw b)] }), (21, Value.tuple { toList := [Value.agg { toList := [vi (obP nw fw b), vi (obR nw fw b)] }, vi (obE nw fw b)] }), (24, Value.tuple { toList := [Value.agg { toList := [vi (obP nw fw b), vi (obR nw fw b)] }, vi (obE nw fw b)] }), q11, q18, q5, q28, q41, q29, (16, Value.agg { toList := [vi (obP nw fw a), vi (obR nw fw a)] }), (12, Value.tuple { toList := [Value.agg { toList := [vi (obP nw fw a), vi (obR nw fw a)] }, vi (obE nw fw a)] }), (15, Value.tuple { toList := [Value.agg { toList := [vi (obP nw fw a), vi (obR nw fw a)] }, vi (obE nw fw a)] }), q12, q19, q20, (6, Value.bool false), q17, q8, q9]⟩ ⟨[q48, q49, q31], 3⟩ ({ n := (60 : Nat), m := [((11 : Nat), vi (↑y0 : Int)), q14, ((31 : Nat), Value.agg { toList := [vi (obP nw fw b), vi (obR nw fw b)] }), ((30 : Nat), Value.agg { toList := [vi (obP nw fw a), vi (obR nw fw a)] }), q15, q36, q35, q45, q37, ((25 : Nat), Value.agg { toList := [vi (obP nw fw b), vi (obR nw fw b)] }), ((21 : Nat), Value.tuple { toList := [Value.agg { toList := [vi (obP nw fw b), vi (obR nw fw b)] }, vi (obE nw fw b)] }), ((24 : Nat), Value.tuple { toList := [Value.agg { toList := [vi (obP nw fw b), vi (obR nw fw b)] }, vi (obE nw fw b)] }), q23, q32, q16, q38, q44, q39, ((16 : Nat), Value.agg { toList := [vi (obP nw fw a), vi (obR nw fw a)] }), ((12 : Nat), Value.tuple { toList := [Value.agg { toList := [vi (obP nw fw a), vi (obR nw fw a)] }, vi (obE nw fw a)] }), ((15 : Nat), Value.tuple { toList := [Value.agg { toList := [vi (obP nw fw a), vi (obR nw fw a)] }, vi (obE nw fw a)] }), q24, q33, q34, q13, q30, q21, q22] }) ({ h := [((2 : Nat), Blk.cells [vi (obP nw fw b), vi (obR nw fw b)] (60 : Nat)), q50, q40], next := (3 : Nat) })) ∧ ((y0 ≤ Int.toNat (obR nw fw a)) ∧ (∀ y1 : Nat, ((y1 < y0) → (@Eq Int (fw (Int.toNat (a + (1 : Int) + obP nw fw a + (↑y1 : Int))) (0 : Nat)) (fw (Int.toNat (b + (1 : Int) + obP nw fw a + (↑y1 : Int))) (0 : Nat)))))))) ∧ (∀ y0 : Nat, let q51 := (b + (1 : Int) + obP nw fw a + (↑y0 : Int)); let q52 := (a + (1 : Int) + obP nw fw a + (↑y0 : Int)); (((y0 ≤ Int.toNat (obR nw fw a)) ∧ (∀ y1 : Nat, ((y1 < y0) → (@Eq Int (fw (Int.toNat (a + (1 : Int) + obP nw fw a + (↑y1 : Int))) (0 : Nat)) (fw (Int.toNat (b + (1 : Int) + obP nw fw a + (↑y1 : Int))) (0 : Nat)))))) → (t2 (if ((↑y0 : Int) < obR nw fw a) then (t5 (((q10 ≤ a + (1 : Int)) ∧ (a + (1 : Int) ≤ q7)) ∧ (t5 (((q10 ≤ a + (1 : Int) + obP nw fw a) ∧ (a + (1 : Int) + obP nw fw a ≤ q7)) ∧ (t3 (((q10 ≤ a + (1 : Int) + obP nw fw a + (↑y0 : Int)) ∧ (a + (1 : Int) + obP nw fw a + (↑y0 : Int) ≤ q7)) ∧ (T0 ∧ (q46 ∧ ((((0 : Int) ≤ a + (1 : Int) + obP nw fw a + (↑y0 : Int)) ∧ (a + (1 : Int) + obP nw fw a + (↑y0 : Int) < (↑nw : Int))) ∧ (T0 ∧ ((Int.toNat q52 < nw) ∧ (t4 (((q10 ≤ b + (1 : Int)) ∧ (b + (1 : Int) ≤ q7)) ∧ (t5 (((q10 ≤ b + (1 : Int) + obP nw fw a) ∧ (b + (1 : Int) + obP nw fw a ≤ q7)) ∧ (t3 (((q10 ≤ b + (1 : Int) + obP nw fw a + (↑y0 : Int)) ∧ (b + (1 : Int) + obP nw fw a + (↑y0 : Int) ≤ q7)) ∧ (T0 ∧ (q46 ∧ ((((0 : Int) ≤ b + (1 : Int) + obP nw fw a + (↑y0 : Int)) ∧ (b + (1 : Int) + obP nw fw a + (↑y0 : Int) < (↑nw : Int))) ∧ (T0 ∧ ((Int.toNat q51 < nw) ∧ (t2 (if (@Eq Int (fw (Int.toNat q52) (0 : Nat)) (fw (Int.toNat q51) (0 : Nat))) then (T0 ∧ (((q10 ≤ (↑y0 : Int) + (1 : Int)) ∧ ((↑y0 : Int) + (1 : Int) ≤ q7)) ∧ (∃ y1 : Nat, ((Go.Rx.Sub 1 [q1, q2] ⟨60, [(11, vi ((↑y0 : Int) + (1 : Int))), q3, (31, Value.agg { toList := [vi (obP nw fw b), vi (obR nw fw b)] }), (30, Value.agg { toList := [vi (obP nw fw a), vi (obR nw fw a)] }), q4, q26, q25, q42, q27, (25, Value.agg { toList := [vi (obP nw fw b), vi (obR nw fw b)] }), (21, Value.tuple { toList := [Value.agg { toList := [vi (obP nw fw b), vi (obR nw fw b)] }, vi (obE nw fw b)] }), (24, Value.tuple { toList := [Value.agg { toList := [vi (obP nw fw b), vi (obR nw fw b)] }, vi (obE nw fw b)] }), q11, q18, q5, q28, q41, q29, (16, Value.agg { toList := [vi (obP nw fw a), vi (obR nw fw a)] }), (12, Value.tuple { toList := [Value.agg { toList := [vi (obP nw fw a), vi (obR nw fw a)] }, vi (obE nw fw a)] }), (15, Value.tuple { toList := [Value.agg { toList := [vi (obP nw fw a), vi (obR nw fw a)] }, vi (obE nw fw a)] }), q12, q19, q20, (6, Value.bool false), q17, q8, q9]⟩ ⟨[q48, q49, q31], 3⟩ ({ n := (60 : Nat), m := [((11 : Nat), vi (↑y1 : Int)), q14, ((31 : Nat), Value.agg { toList := [vi (obP nw fw b), vi (obR nw fw b)] }), ((30 : Nat), Value.agg { toList := [vi (obP nw fw a), vi (obR nw fw a)] }), q15, q36, q35, q45, q37, ((25 : Nat), Value.agg { toList := [vi (obP nw fw b), vi (obR nw fw b)] }), ((21 : Nat), Value.tuple { toList := [Value.agg { toList := [vi (obP nw fw b), vi (obR nw fw b)] }, vi (obE nw fw b)] }), ((24 : Nat), Value.tuple { toList := [Value.agg { toList := [vi (obP nw fw b), vi (obR nw fw b)] }, vi (obE nw fw b)] }), q23, q32, q16, q38, q44, q39, ((16 : Nat), Value.agg { toList := [vi (obP nw fw a), vi (obR nw fw a)] }), ((12 : Nat), Value.tuple { toList := [Value.agg { toList := [vi (obP nw fw a), vi (obR nw fw a)] }, vi (obE nw fw a)] }), ((15 : Nat), Value.tuple { toList := [Value.agg { toList := [vi (obP nw fw a), vi (obR nw fw a)] }, vi (obE nw fw a)] }), q24, q33, q34, q13, q30, q21, q22] }) ({ h := [((2 : Nat), Blk.cells [vi (obP nw fw b), vi (obR nw fw b)] (60 : Nat)), q50, q40], next := (3 : Nat) })) ∧ (((y1 ≤ Int.toNat (obR nw fw a)) ∧ (∀ y2 : Nat, ((y2 < y1) → (@Eq Int (fw (Int.toNat (a + (1 : Int) + obP nw fw a + (↑y2 : Int))) (0 : Nat)) (fw (Int.toNat (b + (1 : Int) + obP nw fw a + (↑y2 : Int))) (0 : Nat)))))) ∧ (Int.toNat (obR nw fw a) - y1 < Int.toNat (obR nw fw a) - y0)))))) else (∃ y1 : Value, (∃ y2 : List Blk, ((Go.Rx.Found 1 (Value.tuple { toList := [Value.bool false, vi (0 : Int)] }) ({ h := [((2 : Nat), Blk.cells [vi (obP nw fw b), vi (obR nw fw b)] (60 : Nat)), q50, q40], next := (3 : Nat) }) (y1) (y2)) ∧ (K y1 y2)))))))))))))))))))))))))))) else (∃ y1 : Value, (∃ y2 : List Blk, ((Go.Rx.Found 1 (Value.tuple { toList := [Value.bool true, vi (0 : Int)] }) ({ h := [((2 : Nat), Blk.cells [vi (obP nw fw b), vi (obR nw fw b)] (60 : Nat)), q50, q40], next := (3 : Nat) }) (y1) (y2)) ∧ (K y1 y2))))))))) else (∃ y0 : Value, (∃ y1 : List Blk, ((Go.Rx.Found 1 (Value.tuple { toList := [Value.bool false, vi (0 : Int)] }) ({ h := [((2 : Nat), Blk.cells [vi (obP nw fw b), vi (obR nw fw b)] (60 : Nat)), q50, q40], next := (3 : Nat) }) (y0) (y1)) ∧ (K y0 y1)))))) else (∃ y0 : Value, (∃ y1 : List Blk, ((Go.Rx.Found 1 (Value.tuple { toList := [Value.bool false, vi (obE nw fw b)] }) ({ h := [((2 : Nat), Blk.cells [vi (obP nw fw b), vi (obR nw fw b)] (60 : Nat)), q50, q40], next := (3 : Nat) }) (y0) (y1)) ∧ (K y0 y1)))))))))))) else (∃ y0 : Value, (∃ y1 : List Blk, ((Go.Rx.Found 1 (Value.tuple { toList := [Value.bool false, vi (obE nw fw a)] }) ({ h := [q50, q40], next := (2 : Nat) }) (y0) (y1)) ∧ (K y0 y1)))))))))))))
theorem alKG_rE (ew nw cw : Nat) (fw : RF) (a : Int) (b : Int) (K : Value → List Blk → Prop) : alKG_rV ew nw cw fw a b K = bodyX (mk XS) (callN (mk XS) 6) (alKG_rA ew nw cw fw a b) Try.f59 [rsl 0 0 nw cw, .int .i64 a, .int .i64 b] (stOf [.row true [.u64] ew nw cw fw]) (Fd 1 K) := by kernel_rfl
set_option tactic.hygienic false in
theorem alKG_rP (ew nw cw : Nat) (fw : RF) (a : Int) (b : Int) (K : Value → List Blk → Prop)  (hnw : nw ≤ 100000) (hcw : nw ≤ cw) (hU : Ok64 nw fw) (h1 : alE nw fw a b = 0) (h : ∀ bb : Bool, (bb = true ↔ alP fw a b) → K (.tuple ⟨[.bool bb, .int .i64 0]⟩) []) : alKG_rV ew nw cw fw a b K := by
  unfold alKG_rV
  conv => zeta
  have z0 := ob_cases hU a
  have z1 := fun (h1 : 0 ≤ a) (h2 : a < nw) => hU.at h1 h2
  have z2 := fun (h1 : 0 ≤ a) (h2 : a < nw) => hs_bd (hU.at h1 h2).1
  have z3 := ob_cases hU b
  have z4 := fun (h1 : 0 ≤ b) (h2 : b < nw) => hU.at h1 h2
  have z5 := fun (h1 : 0 ≤ b) (h2 : b < nw) => hs_bd (hU.at h1 h2).1
  have z6 := al_cases nw fw a b
  have TA := (fun i h1 h2 => congrArg (fun q => fw q 0) (show (a + 1 + hsP (fw a.toNat 0)).toNat + i = Int.toNat (a + 1 + obP nw fw a + (i : Int)) by omega) : ∀ i : Nat, obP nw fw a = hsP (fw a.toNat 0) → 0 ≤ a + 1 + hsP (fw a.toNat 0) → fw ((a + 1 + hsP (fw a.toNat 0)).toNat + i) 0 = fw (Int.toNat (a + 1 + obP nw fw a + (i : Int))) 0)
  have TB := (fun i h1 h2 h3 => congrArg (fun q => fw q 0) (show (b + 1 + hsP (fw b.toNat 0)).toNat + i = Int.toNat (b + 1 + obP nw fw a + (i : Int)) by omega) : ∀ i : Nat, obP nw fw a = hsP (fw a.toNat 0) → hsP (fw a.toNat 0) = hsP (fw b.toNat 0) → 0 ≤ b + 1 + hsP (fw b.toNat 0) → fw ((b + 1 + hsP (fw b.toNat 0)).toNat + i) 0 = fw (Int.toNat (b + 1 + obP nw fw a + (i : Int))) 0)
  repeat' (first | (with_reducible exact rfl) | (with_reducible exact trivial) | (with_reducible refine And.intro ?_ ?_) | (intro) | (with_reducible refine br_d (fun hq => ?_) (fun hq => ?_)) | (with_reducible refine br_nd (fun hq => ?_) (fun hq => ?_)) | (with_reducible refine br_intro (fun hq => ?_) (fun hq => ?_)) | (with_reducible refine if_both (fun hz => ?_) (fun hz => ?_)) | fail)
  all_goals try simp only [eqL] at *
  all_goals first
    | (with_reducible assumption)
    | (refine (id ?_ : ∃ (v1 : Value) (news : List Blk), _)
       first
        | contradiction
        | exact ⟨0, (by (refine And.intro (And.intro rfl (And.intro rfl (And.intro rfl rfl))) ?_; (repeat' (first | exact trivial | exact rfl | exact fun _ _ _ _ => rfl | refine And.intro ?_ ?_ | omega | fail)); done)), Nat.zero_le _, fun i hi => absurd hi (Nat.not_lt_zero i)⟩
        | (rename _ ∧ (∀ _ : Nat, _) => I
           exact ⟨y0 + 1, (by (refine And.intro (And.intro rfl (And.intro rfl (And.intro rfl rfl))) ?_; (repeat' (first | exact trivial | exact rfl | exact fun _ _ _ _ => rfl | refine And.intro ?_ ?_ | omega | fail)); done)), ⟨by omega, fun i hi => (by
             rcases Nat.lt_or_ge i y0 with q | q
             · exact I.2 i q
             · obtain rfl : i = y0 := by omega
               omega)⟩, by omega⟩)
        | exact fin0 (by kernel_rfl) (by kernel_rfl) (h false ⟨fun e => (by cases e), fun e => (by have q1 := e.1; have q2 := e.2.1; omega)⟩)
        | (rename ¬ (_ ∧ _) => hne
           exact fin0 (by kernel_rfl) (by kernel_rfl) (h false ⟨fun e => (by cases e), fun e => absurd (And.intro (by have := e.1; omega) (by have := e.2.1; omega)) hne⟩))
        | (rename _ ∧ (∀ _ : Nat, _) => I
           exact fin0 (by kernel_rfl) (by kernel_rfl) (h false ⟨fun e => (by cases e), fun e => (by
             have q1 := e.1
             have q2 := e.2.1
             have q3 := e.2.2 y0 (by omega)
             rw [TA y0 (by omega) (by omega), TB y0 (by omega) (by omega) (by omega)] at q3
             omega)⟩))
        | (rename _ ∧ (∀ _ : Nat, _) => I
           exact fin0 (by kernel_rfl) (by kernel_rfl) (h true ⟨fun _ => ⟨by omega, by omega, fun i hi => (by
             rw [TA i (by omega) (by omega), TB i (by omega) (by omega) (by omega)]
             exact I.2 i (by omega))⟩, fun _ => rfl⟩))
        | (exfalso; omega)
       )
    | omega
    | contradiction
    | exact ⟨0, (by (refine And.intro (And.intro rfl (And.intro rfl (And.intro rfl rfl))) ?_; (repeat' (first | exact trivial | exact rfl | exact fun _ _ _ _ => rfl | refine And.intro ?_ ?_ | omega | fail)); done)), Nat.zero_le _, fun i hi => absurd hi (Nat.not_lt_zero i)⟩
    | (rename _ ∧ (∀ _ : Nat, _) => I
       exact ⟨y0 + 1, (by (refine And.intro (And.intro rfl (And.intro rfl (And.intro rfl rfl))) ?_; (repeat' (first | exact trivial | exact rfl | exact fun _ _ _ _ => rfl | refine And.intro ?_ ?_ | omega | fail)); done)), ⟨by omega, fun i hi => (by
         rcases Nat.lt_or_ge i y0 with q | q
         · exact I.2 i q
         · obtain rfl : i = y0 := by omega
           omega)⟩, by omega⟩)
    | exact fin0 (by kernel_rfl) (by kernel_rfl) (h false ⟨fun e => (by cases e), fun e => (by have q1 := e.1; have q2 := e.2.1; omega)⟩)
    | (rename ¬ (_ ∧ _) => hne
       exact fin0 (by kernel_rfl) (by kernel_rfl) (h false ⟨fun e => (by cases e), fun e => absurd (And.intro (by have := e.1; omega) (by have := e.2.1; omega)) hne⟩))
    | (rename _ ∧ (∀ _ : Nat, _) => I
       exact fin0 (by kernel_rfl) (by kernel_rfl) (h false ⟨fun e => (by cases e), fun e => (by
         have q1 := e.1
         have q2 := e.2.1
         have q3 := e.2.2 y0 (by omega)
         rw [TA y0 (by omega) (by omega), TB y0 (by omega) (by omega) (by omega)] at q3
         omega)⟩))
    | (rename _ ∧ (∀ _ : Nat, _) => I
       exact fin0 (by kernel_rfl) (by kernel_rfl) (h true ⟨fun _ => ⟨by omega, by omega, fun i hi => (by
         rw [TA i (by omega) (by omega), TB i (by omega) (by omega) (by omega)]
         exact I.2 i (by omega))⟩, fun _ => rfl⟩))
    | (exfalso; omega)
theorem alKG_ok : BodyOk (mk XS) 6 Try.f59 alKG := by
  intro vs bs K hh hro
  clear hro
  unfold alKG at hh
  split at hh
  · rename_i vw a b
    obtain ⟨ew, nw, cw, fw, btw, rfl, hnw, hcw, rfl, hh0⟩ := parseRQ_inv hh
    obtain ⟨rfl, ⟨hU, h1⟩, hc⟩ := hh0
    exact ⟨_, _, cast (alKG_rE ew nw cw fw a b K) (alKG_rP ew nw cw fw a b K hnw hcw hU h1 hc)⟩
  · exact hh.elim
theorem alKG_told : Told 59 (specOf alKG) := told (X := XS) XS_told (by kernel_rfl) (by kernel_rfl) (by kernel_rfl) alKG_ok
end Go.Proofs.Ytfgeoglegebncaa.Fr
namespace Go.Proofs.Ytfgeoglegebncaa.Fr
set_option maxRecDepth 100000
set_option maxHeartbeats 4000000
open Go.Rx
open Go.RowKit (Below)
def sp43 : Rx.Spec := fun args s K => args = [] ∧ K (.bool true) s
set_option maxRecDepth 1000000 in
theorem closed43 : Ev.run ⟨Try.prog, Ev.mkTT Try.prog, Ev.mkFT Try.prog, [], [], [], none⟩ 1000000 43 [] = some true := by kernel_rfl
theorem told43 : Told 43 sp43 := ⟨⟨Try.f43, by kernel_rfl, by kernel_rfl, by kernel_rfl⟩, specTrue_ok (Ev.run_closed mixed closed43)⟩
end Go.Proofs.Ytfgeoglegebncaa.Fr
namespace Go.Proofs.Ytfgeoglegebncaa.Fr
set_option maxRecDepth 100000
set_option maxHeartbeats 4000000
open Go.Rx
open Go.RowKit (Below)
set_option linter.unusedVariables false
@[reducible] def X10BB : List (Nat × Rx.Spec) := [(43, sp43), (52, specOf obp), (53, specOf okp), (54, specOf obr), (55, specOf okr), (56, specOf ppOB), (57, specOf ppKB), (38, specOf inK), (58, specOf alOB), (59, specOf alKB)]
theorem X10BB_told : ∀ p ∈ X10BB, Told p.1 p.2 := by
  intro p hp
  simp only [List.mem_cons, List.not_mem_nil, or_false] at hp
  rcases hp with rfl | rfl | rfl | rfl | rfl | rfl | rfl | rfl | rfl | rfl
  · exact told43
  · exact obp_told
  · exact okp_told
  · exact obr_told
  · exact okr_told
  · exact ppOB_told
  · exact ppKB_told
  · exact inK_told
  · exact alOB_told
  · exact alKB_told
@[reducible] def X10NB : List (Nat × Rx.Spec) := [(43, sp43), (52, specOf obp), (53, specOf okp), (54, specOf obr), (55, specOf okr), (56, specOf ppON), (57, specOf ppKN), (38, specOf inK), (58, specOf alOB), (59, specOf alKB)]
theorem X10NB_told : ∀ p ∈ X10NB, Told p.1 p.2 := by
  intro p hp
  simp only [List.mem_cons, List.not_mem_nil, or_false] at hp
  rcases hp with rfl | rfl | rfl | rfl | rfl | rfl | rfl | rfl | rfl | rfl
  · exact told43
  · exact obp_told
  · exact okp_told
  · exact obr_told
  · exact okr_told
  · exact ppON_told
  · exact ppKN_told
  · exact inK_told
  · exact alOB_told
  · exact alKB_told
@[reducible] def X10NG : List (Nat × Rx.Spec) := [(43, sp43), (52, specOf obp), (53, specOf okp), (54, specOf obr), (55, specOf okr), (56, specOf ppON), (57, specOf ppKN), (38, specOf inK), (58, specOf alOG), (59, specOf alKG)]
theorem X10NG_told : ∀ p ∈ X10NG, Told p.1 p.2 := by
  intro p hp
  simp only [List.mem_cons, List.not_mem_nil, or_false] at hp
  rcases hp with rfl | rfl | rfl | rfl | rfl | rfl | rfl | rfl | rfl | rfl
  · exact told43
  · exact obp_told
  · exact okp_told
  · exact obr_told
  · exact okr_told
  · exact ppON_told
  · exact ppKN_told
  · exact inK_told
  · exact alOG_told
  · exact alKG_told
@[reducible] def X10XB : List (Nat × Rx.Spec) := [(43, sp43), (52, specOf obp), (53, specOf okp), (54, specOf obr), (55, specOf okr), (56, specOf ppOX), (57, specOf ppKX), (38, specOf inK), (58, specOf alOB), (59, specOf alKB)]
theorem X10XB_told : ∀ p ∈ X10XB, Told p.1 p.2 := by
  intro p hp
  simp only [List.mem_cons, List.not_mem_nil, or_false] at hp
  rcases hp with rfl | rfl | rfl | rfl | rfl | rfl | rfl | rfl | rfl | rfl
  · exact told43
  · exact obp_told
  · exact okp_told
  · exact obr_told
  · exact okr_told
  · exact ppOX_told
  · exact ppKX_told
  · exact inK_told
  · exact alOB_told
  · exact alKB_told
@[reducible] def X10XG : List (Nat × Rx.Spec) := [(43, sp43), (52, specOf obp), (53, specOf okp), (54, specOf obr), (55, specOf okr), (56, specOf ppOX), (57, specOf ppKX), (38, specOf inK), (58, specOf alOG), (59, specOf alKG)]
theorem X10XG_told : ∀ p ∈ X10XG, Told p.1 p.2 := by
  intro p hp
  simp only [List.mem_cons, List.not_mem_nil, or_false] at hp
  rcases hp with rfl | rfl | rfl | rfl | rfl | rfl | rfl | rfl | rfl | rfl
  · exact told43
  · exact obp_told
  · exact okp_told
  · exact obr_told
  · exact okr_told
  · exact ppOX_told
  · exact ppKX_told
  · exact inK_told
  · exact alOG_told
  · exact alKG_told
@[reducible] def X10RB : List (Nat × Rx.Spec) := [(43, sp43), (52, specOf obp), (53, specOf okp), (54, specOf obr), (55, specOf okr), (56, specOf ppOR), (57, specOf ppKR), (38, specOf inK), (58, specOf alOB), (59, specOf alKB)]
theorem X10RB_told : ∀ p ∈ X10RB, Told p.1 p.2 := by
  intro p hp
  simp only [List.mem_cons, List.not_mem_nil, or_false] at hp
  rcases hp with rfl | rfl | rfl | rfl | rfl | rfl | rfl | rfl | rfl | rfl
  · exact told43
  · exact obp_told
  · exact okp_told
  · exact obr_told
  · exact okr_told
  · exact ppOR_told
  · exact ppKR_told
  · exact inK_told
  · exact alOB_told
  · exact alKB_told
@[reducible] def X10RG : List (Nat × Rx.Spec) := [(43, sp43), (52, specOf obp), (53, specOf okp), (54, specOf obr), (55, specOf okr), (56, specOf ppOR), (57, specOf ppKR), (38, specOf inK), (58, specOf alOG), (59, specOf alKG)]
theorem X10RG_told : ∀ p ∈ X10RG, Told p.1 p.2 := by
  intro p hp
  simp only [List.mem_cons, List.not_mem_nil, or_false] at hp
  rcases hp with rfl | rfl | rfl | rfl | rfl | rfl | rfl | rfl | rfl | rfl
  · exact told43
  · exact obp_told
  · exact okp_told
  · exact obr_told
  · exact okr_told
  · exact ppOR_told
  · exact ppKR_told
  · exact inK_told
  · exact alOG_told
  · exact alKG_told

def lreaBB_nA (a : Int) (x : Int) (b : Int) : Ann := fun _ _ _ => none
def lreaBB_rA (ew nw cw : Nat) (fw : RF) (a : Int) (x : Int) (b : Int) : Ann := fun _ _ _ => none

def lreaNB_nA (a : Int) (x : Int) (b : Int) : Ann := fun _ _ _ => none
def lreaNB_rA (ew nw cw : Nat) (fw : RF) (a : Int) (x : Int) (b : Int) : Ann := fun _ _ _ => none

def lreaNG_nA (a : Int) (x : Int) (b : Int) : Ann := fun _ _ _ => none
def lreaNG_rA (ew nw cw : Nat) (fw : RF) (a : Int) (x : Int) (b : Int) : Ann := fun _ _ _ => none

def lreaXB_nA (a : Int) (x : Int) (b : Int) : Ann := fun _ _ _ => none
def lreaXB_rA (ew nw cw : Nat) (fw : RF) (a : Int) (x : Int) (b : Int) : Ann := fun _ _ _ => none

def lreaXG_nA (a : Int) (x : Int) (b : Int) : Ann := fun _ _ _ => none
def lreaXG_rA (ew nw cw : Nat) (fw : RF) (a : Int) (x : Int) (b : Int) : Ann := fun _ _ _ => none

def lreaRB_nA (a : Int) (x : Int) (b : Int) : Ann := fun _ _ _ => none
def lreaRB_rA (ew nw cw : Nat) (fw : RF) (a : Int) (x : Int) (b : Int) : Ann := fun _ _ _ => none

def lreaRG_nA (a : Int) (x : Int) (b : Int) : Ann := fun _ _ _ => none
def lreaRG_rA (ew nw cw : Nat) (fw : RF) (a : Int) (x : Int) (b : Int) : Ann := fun _ _ _ => none
def lreaBB_nV (a : Int) (x : Int) (b : Int) (K : Value → List Blk → Prop) : Prop := let q0 := eB; let q1 := TS; let q2 := (@Eq (Ev.TK) (Ev.TK.array) (Ev.TK.array)); let q3 := ((Ok64 (0 : Nat) zF) ∧ (¬obE (0 : Nat) zF a = (0 : Int))); let q4 := ((Ok64 (0 : Nat) zF) ∧ (¬alE (0 : Nat) zF a b = (0 : Int))); let q5 := (((0 : Int) ≤ (0 : Int)) ∧ ((0 : Int) < (↑(2 : Nat) : Int))); let q6 := (((0 : Int) ≤ (1 : Int)) ∧ ((1 : Int) < (↑(2 : Nat) : Int))); (t2 (q1 ∧ (T0 ∧ (q1 ∧ (T0 ∧ (q2 ∧ (q5 ∧ (t3 (q0 ∧ ((Ok64 (0 : Nat) zF) ∧ (q2 ∧ (q5 ∧ (t3 (q0 ∧ ((Ok64 (0 : Nat) zF) ∧ (q2 ∧ (q5 ∧ (t3 (q0 ∧ ((Ok64 (0 : Nat) zF) ∧ (q2 ∧ (q5 ∧ (t3 (q0 ∧ ((Ok64 (0 : Nat) zF) ∧ (t6 (q0 ∧ (q3 ∧ (t2 (q0 ∧ (q3 ∧ (q2 ∧ (q6 ∧ (t3 (q0 ∧ (q4 ∧ (q2 ∧ (q6 ∧ (t3 (q0 ∧ (q4 ∧ (t2 (q0 ∧ (((@Eq Nat ((0 : Nat)) ((0 : Nat))) ∧ (∀ y0 : Nat, ((y0 < (0 : Nat)) → (@Eq Int (zF y0 (0 : Nat)) (zF y0 (0 : Nat)))))) ∧ (t3 ((@Eq (List Value) ([]) ([])) ∧ (@Eq (Value) (Value.bool true) (Value.bool true))))))))))))))))))))))))))))))))))))))))))))))))
theorem lreaBB_nE (a : Int) (x : Int) (b : Int) (K : Value → List Blk → Prop) : lreaBB_nV a x b K = bodyX (mk X10BB) (callN (mk X10BB) 6) (lreaBB_nA a x b) Try.f10 [.slice none 0 0, .int .i64 a, .agg ⟨[.int .i64 x, .int .i64 b]⟩] (stOf []) fun v _ => v = .bool true := by kernel_rfl
set_option tactic.hygienic false in
theorem lreaBB_nP (a : Int) (x : Int) (b : Int) (K : Value → List Blk → Prop)  (hU : Ok64 0 zF) (h1 : ¬ obE 0 zF a = 0) (h4 : ¬ alE 0 zF a b = 0) : lreaBB_nV a x b K := by
  unfold lreaBB_nV
  conv => zeta
  have z0 := ar_cases 0 zF
  have z1 := ob_cases hU a
  repeat' (first | (with_reducible exact rfl) | (with_reducible exact trivial) | (with_reducible refine And.intro ?_ ?_) | (intro) | (with_reducible refine br_d (fun hq => ?_) (fun hq => ?_)) | (with_reducible refine br_nd (fun hq => ?_) (fun hq => ?_)) | (with_reducible refine br_intro (fun hq => ?_) (fun hq => ?_)) | (with_reducible refine if_both (fun hz => ?_) (fun hz => ?_)) | fail)

  all_goals first
    | (with_reducible assumption)
    | (refine (id ?_ : False)
       first
        | contradiction
        | (exfalso; omega)
        | (exfalso; simp at hq; omega)
        | (exfalso; simp_all; done)
        | exact h2 _ (by omega)
        | (exfalso
           have hb := a_1.trans a_2.symm
           revert hq hb
           cases y0 <;> cases y1 <;> simp; done)
        | (exfalso
           have hb := a_3.trans a_4.symm
           revert hq hb
           cases y2 <;> cases y3 <;> simp; done)
       )
    | omega
    | contradiction
    | (exfalso; omega)
    | (exfalso; simp at hq; omega)
    | (exfalso; simp_all; done)
    | exact h2 _ (by omega)
    | (exfalso
       have hb := a_1.trans a_2.symm
       revert hq hb
       cases y0 <;> cases y1 <;> simp; done)
    | (exfalso
       have hb := a_3.trans a_4.symm
       revert hq hb
       cases y2 <;> cases y3 <;> simp; done)
def lreaBB_rV (ew nw cw : Nat) (fw : RF) (a : Int) (x : Int) (b : Int) (K : Value → List Blk → Prop) : Prop := let q0 := ((0 : Nat) + nw ≤ nw); let q1 := eB; let q2 := (@Eq Nat ((0 : Nat)) ((0 : Nat))); let q3 := TS; let q4 := (@Eq (Ev.TK) (Ev.TK.array) (Ev.TK.array)); let q5 := ((Ok64 nw fw) ∧ (¬obE nw fw a = (0 : Int))); let q6 := ((Ok64 nw fw) ∧ (¬alE nw fw a b = (0 : Int))); let q7 := (@Eq (Value) (Value.bool false) (Value.bool true)); let q8 := (((0 : Int) ≤ (0 : Int)) ∧ ((0 : Int) < (↑(2 : Nat) : Int))); let q9 := (((0 : Int) ≤ (1 : Int)) ∧ ((1 : Int) < (↑(2 : Nat) : Int))); let q10 := (q2 ∧ ((nw ≤ (100000 : Nat)) ∧ (nw ≤ cw))); let q11 := ((@Eq (List Value) ([]) ([])) ∧ (@Eq (Value) (Value.bool true) (Value.bool true))); let q12 := ((@Eq (List IntKind) ([IntKind.u64]) ([IntKind.u64])) ∧ ((@Eq Nat (nw) (nw)) ∧ (@Eq Nat (cw) (cw)))); let q13 := (q3 ∧ (T0 ∧ (if ((1610 : Int) < (↑nw : Int)) then q11 else (q4 ∧ (q8 ∧ (q0 ∧ (t2 (q10 ∧ (q12 ∧ (q1 ∧ ((Ok64 nw fw) ∧ (q4 ∧ (q8 ∧ (q0 ∧ (t2 (q10 ∧ (q12 ∧ (q1 ∧ ((Ok64 nw fw) ∧ (q4 ∧ (q8 ∧ (q0 ∧ (t2 (q10 ∧ (q12 ∧ (q1 ∧ ((Ok64 nw fw) ∧ (q4 ∧ (q8 ∧ (q0 ∧ (t2 (q10 ∧ (q12 ∧ (q1 ∧ ((Ok64 nw fw) ∧ (T0 ∧ (if (@Eq Int (ptV nw fw a x) (ptV nw fw a x)) then (T0 ∧ (if (@Eq Int (ptE nw fw a x) (ptE nw fw a x)) then (T0 ∧ (if (@Eq Int (rwV nw fw a x) (rwV nw fw a x)) then (T0 ∧ (if (@Eq Int (rwE nw fw a x) (rwE nw fw a x)) then (q0 ∧ (T0 ∧ (q10 ∧ (q12 ∧ (q1 ∧ (q5 ∧ (q0 ∧ (T0 ∧ (q10 ∧ (q12 ∧ (q1 ∧ (q5 ∧ (q4 ∧ (q9 ∧ (q0 ∧ (t2 (q10 ∧ (q12 ∧ (q1 ∧ (q6 ∧ (q4 ∧ (q9 ∧ (q0 ∧ (t2 (q10 ∧ (q12 ∧ (q1 ∧ (q6 ∧ (t2 (q1 ∧ ((q2 ∧ (∀ y0 : Nat, ((y0 < (0 : Nat)) → (@Eq Int (zF y0 (0 : Nat)) (zF y0 (0 : Nat)))))) ∧ (T0 ∧ (if (@Eq Int (obE nw fw a) (obE nw fw a)) then (t2 (if (@Eq Int (alE nw fw a b) (alE nw fw a b)) then q11 else q7)) else q7))))))))))))))))))))))))))))))))) else q7)) else q7)) else q7)) else q7))))))))))))))))))))))))))))))))))))); (t2 (q3 ∧ (T0 ∧ (if ((300 : Int) < (↑nw : Int)) then (q3 ∧ (T0 ∧ (if ((↑nw : Int) ≤ (1601 : Int)) then q11 else q13))) else q13))))
theorem lreaBB_rE (ew nw cw : Nat) (fw : RF) (a : Int) (x : Int) (b : Int) (K : Value → List Blk → Prop) : lreaBB_rV ew nw cw fw a x b K = bodyX (mk X10BB) (callN (mk X10BB) 6) (lreaBB_rA ew nw cw fw a x b) Try.f10 [rsl 0 0 nw cw, .int .i64 a, .agg ⟨[.int .i64 x, .int .i64 b]⟩] (stOf [.row true [.u64] ew nw cw fw]) fun v _ => v = .bool true := by kernel_rfl
set_option tactic.hygienic false in
theorem lreaBB_rP (ew nw cw : Nat) (fw : RF) (a : Int) (x : Int) (b : Int) (K : Value → List Blk → Prop)  (hcw : nw ≤ cw) (hU : Ok64 nw fw) (h1 : ¬ obE nw fw a = 0) (h4 : ¬ alE nw fw a b = 0) : lreaBB_rV ew nw cw fw a x b K := by
  unfold lreaBB_rV
  conv => zeta
  have z0 := ar_cases nw fw
  have z1 := ob_cases hU a
  repeat' (first | (with_reducible exact rfl) | (with_reducible exact trivial) | (with_reducible refine And.intro ?_ ?_) | (intro) | (with_reducible refine br_d (fun hq => ?_) (fun hq => ?_)) | (with_reducible refine br_nd (fun hq => ?_) (fun hq => ?_)) | (with_reducible refine br_intro (fun hq => ?_) (fun hq => ?_)) | (with_reducible refine if_both (fun hz => ?_) (fun hz => ?_)) | fail)

  all_goals first
    | (with_reducible assumption)
    | (refine (id ?_ : False)
       first
        | contradiction
        | (exfalso; omega)
        | (exfalso; simp at hq; omega)
        | (exfalso; simp_all; done)
        | exact h2 _ (by omega)
        | (exfalso
           have hb := a_1.trans a_2.symm
           revert hq hb
           cases y0 <;> cases y1 <;> simp; done)
        | (exfalso
           have hb := a_3.trans a_4.symm
           revert hq hb
           cases y2 <;> cases y3 <;> simp; done)
       )
    | omega
    | contradiction
    | (exfalso; omega)
    | (exfalso; simp at hq; omega)
    | (exfalso; simp_all; done)
    | exact h2 _ (by omega)
    | (exfalso
       have hb := a_1.trans a_2.symm
       revert hq hb
       cases y0 <;> cases y1 <;> simp; done)
    | (exfalso
       have hb := a_3.trans a_4.symm
       revert hq hb
       cases y2 <;> cases y3 <;> simp; done)
def lreaNB_nV (a : Int) (x : Int) (b : Int) (K : Value → List Blk → Prop) : Prop := let q0 := eB; let q1 := TS; let q2 := (@Eq (Ev.TK) (Ev.TK.array) (Ev.TK.array)); let q3 := (((0 : Int) ≤ (0 : Int)) ∧ ((0 : Int) < (↑(2 : Nat) : Int))); (t2 (q1 ∧ (T0 ∧ (q1 ∧ (T0 ∧ (q2 ∧ (q3 ∧ (t3 (q0 ∧ ((Ok64 (0 : Nat) zF) ∧ (q2 ∧ (q3 ∧ (t3 (q0 ∧ ((Ok64 (0 : Nat) zF) ∧ (q2 ∧ (q3 ∧ (t3 (q0 ∧ ((Ok64 (0 : Nat) zF) ∧ (q2 ∧ (q3 ∧ (t3 (q0 ∧ ((Ok64 (0 : Nat) zF) ∧ (t6 (False)))))))))))))))))))))))))))
theorem lreaNB_nE (a : Int) (x : Int) (b : Int) (K : Value → List Blk → Prop) : lreaNB_nV a x b K = bodyX (mk X10NB) (callN (mk X10NB) 6) (lreaNB_nA a x b) Try.f10 [.slice none 0 0, .int .i64 a, .agg ⟨[.int .i64 x, .int .i64 b]⟩] (stOf []) fun v _ => v = .bool true := by kernel_rfl
set_option tactic.hygienic false in
theorem lreaNB_nP (a : Int) (x : Int) (b : Int) (K : Value → List Blk → Prop)  (hU : Ok64 0 zF) (h1 : obE 0 zF a = 0) (h3 : obP 0 zF a = 0) (h4 : ¬ alE 0 zF a b = 0) : lreaNB_nV a x b K := by
  unfold lreaNB_nV
  conv => zeta
  have z0 := ar_cases 0 zF
  have z1 := ob_cases hU a
  repeat' (first | (with_reducible exact rfl) | (with_reducible exact trivial) | (with_reducible refine And.intro ?_ ?_) | (intro) | (with_reducible refine br_d (fun hq => ?_) (fun hq => ?_)) | (with_reducible refine br_nd (fun hq => ?_) (fun hq => ?_)) | (with_reducible refine br_intro (fun hq => ?_) (fun hq => ?_)) | (with_reducible refine if_both (fun hz => ?_) (fun hz => ?_)) | fail)

  all_goals first
    | (with_reducible assumption)
    | (refine (id ?_ : False)
       first
        | contradiction
        | (exfalso; omega)
        | (exfalso; simp at hq; omega)
        | (exfalso; simp_all; done)
        | exact h2 _ (by omega)
        | (exfalso
           have hb := a_1.trans a_2.symm
           revert hq hb
           cases y0 <;> cases y1 <;> simp; done)
        | (exfalso
           have hb := a_3.trans a_4.symm
           revert hq hb
           cases y2 <;> cases y3 <;> simp; done)
       )
    | omega
    | contradiction
    | (exfalso; omega)
    | (exfalso; simp at hq; omega)
    | (exfalso; simp_all; done)
    | exact h2 _ (by omega)
    | (exfalso
       have hb := a_1.trans a_2.symm
       revert hq hb
       cases y0 <;> cases y1 <;> simp; done)
    | (exfalso
       have hb := a_3.trans a_4.symm
       revert hq hb
       cases y2 <;> cases y3 <;> simp; done)
def lreaNB_rV (ew nw cw : Nat) (fw : RF) (a : Int) (x : Int) (b : Int) (K : Value → List Blk → Prop) : Prop := let q0 := ((0 : Nat) + nw ≤ nw); let q1 := eB; let q2 := (@Eq Nat ((0 : Nat)) ((0 : Nat))); let q3 := TS; let q4 := (@Eq (Ev.TK) (Ev.TK.array) (Ev.TK.array)); let q5 := ((Ok64 nw fw) ∧ (¬alE nw fw a b = (0 : Int))); let q6 := (@Eq (Value) (Value.bool false) (Value.bool true)); let q7 := (((0 : Int) ≤ (0 : Int)) ∧ ((0 : Int) < (↑(2 : Nat) : Int))); let q8 := (((0 : Int) ≤ (1 : Int)) ∧ ((1 : Int) < (↑(2 : Nat) : Int))); let q9 := (q2 ∧ ((nw ≤ (100000 : Nat)) ∧ (nw ≤ cw))); let q10 := ((@Eq (List Value) ([]) ([])) ∧ (@Eq (Value) (Value.bool true) (Value.bool true))); let q11 := ((Ok64 nw fw) ∧ ((@Eq Int (obE nw fw a) ((0 : Int))) ∧ (@Eq Int (obP nw fw a) ((0 : Int))))); let q12 := ((@Eq (List IntKind) ([IntKind.u64]) ([IntKind.u64])) ∧ ((@Eq Nat (nw) (nw)) ∧ (@Eq Nat (cw) (cw)))); let q13 := (q3 ∧ (T0 ∧ (if ((1610 : Int) < (↑nw : Int)) then q10 else (q4 ∧ (q7 ∧ (q0 ∧ (t2 (q9 ∧ (q12 ∧ (q1 ∧ ((Ok64 nw fw) ∧ (q4 ∧ (q7 ∧ (q0 ∧ (t2 (q9 ∧ (q12 ∧ (q1 ∧ ((Ok64 nw fw) ∧ (q4 ∧ (q7 ∧ (q0 ∧ (t2 (q9 ∧ (q12 ∧ (q1 ∧ ((Ok64 nw fw) ∧ (q4 ∧ (q7 ∧ (q0 ∧ (t2 (q9 ∧ (q12 ∧ (q1 ∧ ((Ok64 nw fw) ∧ (T0 ∧ (if (@Eq Int (ptV nw fw a x) (ptV nw fw a x)) then (T0 ∧ (if (@Eq Int (ptE nw fw a x) (ptE nw fw a x)) then (T0 ∧ (if (@Eq Int (rwV nw fw a x) (rwV nw fw a x)) then (T0 ∧ (if (@Eq Int (rwE nw fw a x) (rwE nw fw a x)) then (q0 ∧ (T0 ∧ (q9 ∧ (q12 ∧ (q1 ∧ (q11 ∧ (q0 ∧ (T0 ∧ (q9 ∧ (q12 ∧ (q1 ∧ (q11 ∧ (q4 ∧ (q8 ∧ (q0 ∧ (t2 (q9 ∧ (q12 ∧ (q1 ∧ (q5 ∧ (q4 ∧ (q8 ∧ (q0 ∧ (t2 (q9 ∧ (q12 ∧ (q1 ∧ (q5 ∧ (t2 (q1 ∧ ((q2 ∧ (∀ y0 : Nat, ((y0 < (0 : Nat)) → (@Eq Int (zF y0 (0 : Nat)) (zF y0 (0 : Nat)))))) ∧ (t3 (if (@Eq Int (alE nw fw a b) (alE nw fw a b)) then q10 else q6))))))))))))))))))))))))))))))))) else q6)) else q6)) else q6)) else q6))))))))))))))))))))))))))))))))))))); (t2 (q3 ∧ (T0 ∧ (if ((300 : Int) < (↑nw : Int)) then (q3 ∧ (T0 ∧ (if ((↑nw : Int) ≤ (1601 : Int)) then q10 else q13))) else q13))))
theorem lreaNB_rE (ew nw cw : Nat) (fw : RF) (a : Int) (x : Int) (b : Int) (K : Value → List Blk → Prop) : lreaNB_rV ew nw cw fw a x b K = bodyX (mk X10NB) (callN (mk X10NB) 6) (lreaNB_rA ew nw cw fw a x b) Try.f10 [rsl 0 0 nw cw, .int .i64 a, .agg ⟨[.int .i64 x, .int .i64 b]⟩] (stOf [.row true [.u64] ew nw cw fw]) fun v _ => v = .bool true := by kernel_rfl
set_option tactic.hygienic false in
theorem lreaNB_rP (ew nw cw : Nat) (fw : RF) (a : Int) (x : Int) (b : Int) (K : Value → List Blk → Prop)  (hcw : nw ≤ cw) (hU : Ok64 nw fw) (h1 : obE nw fw a = 0) (h3 : obP nw fw a = 0) (h4 : ¬ alE nw fw a b = 0) : lreaNB_rV ew nw cw fw a x b K := by
  unfold lreaNB_rV
  conv => zeta
  have z0 := ar_cases nw fw
  have z1 := ob_cases hU a
  repeat' (first | (with_reducible exact rfl) | (with_reducible exact trivial) | (with_reducible refine And.intro ?_ ?_) | (intro) | (with_reducible refine br_d (fun hq => ?_) (fun hq => ?_)) | (with_reducible refine br_nd (fun hq => ?_) (fun hq => ?_)) | (with_reducible refine br_intro (fun hq => ?_) (fun hq => ?_)) | (with_reducible refine if_both (fun hz => ?_) (fun hz => ?_)) | fail)

  all_goals first
    | (with_reducible assumption)
    | (refine (id ?_ : False)
       first
        | contradiction
        | (exfalso; omega)
        | (exfalso; simp at hq; omega)
        | (exfalso; simp_all; done)
        | exact h2 _ (by omega)
        | (exfalso
           have hb := a_1.trans a_2.symm
           revert hq hb
           cases y0 <;> cases y1 <;> simp; done)
        | (exfalso
           have hb := a_3.trans a_4.symm
           revert hq hb
           cases y2 <;> cases y3 <;> simp; done)
       )
    | omega
    | contradiction
    | (exfalso; omega)
    | (exfalso; simp at hq; omega)
    | (exfalso; simp_all; done)
    | exact h2 _ (by omega)
    | (exfalso
       have hb := a_1.trans a_2.symm
       revert hq hb
       cases y0 <;> cases y1 <;> simp; done)
    | (exfalso
       have hb := a_3.trans a_4.symm
       revert hq hb
       cases y2 <;> cases y3 <;> simp; done)
def lreaNG_nV (a : Int) (x : Int) (b : Int) (K : Value → List Blk → Prop) : Prop := let q0 := eB; let q1 := TS; let q2 := (@Eq (Ev.TK) (Ev.TK.array) (Ev.TK.array)); let q3 := (((0 : Int) ≤ (0 : Int)) ∧ ((0 : Int) < (↑(2 : Nat) : Int))); (t2 (q1 ∧ (T0 ∧ (q1 ∧ (T0 ∧ (q2 ∧ (q3 ∧ (t3 (q0 ∧ ((Ok64 (0 : Nat) zF) ∧ (q2 ∧ (q3 ∧ (t3 (q0 ∧ ((Ok64 (0 : Nat) zF) ∧ (q2 ∧ (q3 ∧ (t3 (q0 ∧ ((Ok64 (0 : Nat) zF) ∧ (q2 ∧ (q3 ∧ (t3 (q0 ∧ ((Ok64 (0 : Nat) zF) ∧ (t6 (False)))))))))))))))))))))))))))
theorem lreaNG_nE (a : Int) (x : Int) (b : Int) (K : Value → List Blk → Prop) : lreaNG_nV a x b K = bodyX (mk X10NG) (callN (mk X10NG) 6) (lreaNG_nA a x b) Try.f10 [.slice none 0 0, .int .i64 a, .agg ⟨[.int .i64 x, .int .i64 b]⟩] (stOf []) fun v _ => v = .bool true := by kernel_rfl
set_option tactic.hygienic false in
theorem lreaNG_nP (a : Int) (x : Int) (b : Int) (K : Value → List Blk → Prop)  (hU : Ok64 0 zF) (h1 : obE 0 zF a = 0) (h3 : obP 0 zF a = 0) (h4 : alE 0 zF a b = 0) : lreaNG_nV a x b K := by
  unfold lreaNG_nV
  conv => zeta
  have z0 := ar_cases 0 zF
  have z1 := ob_cases hU a
  repeat' (first | (with_reducible exact rfl) | (with_reducible exact trivial) | (with_reducible refine And.intro ?_ ?_) | (intro) | (with_reducible refine br_d (fun hq => ?_) (fun hq => ?_)) | (with_reducible refine br_nd (fun hq => ?_) (fun hq => ?_)) | (with_reducible refine br_intro (fun hq => ?_) (fun hq => ?_)) | (with_reducible refine if_both (fun hz => ?_) (fun hz => ?_)) | fail)

  all_goals first
    | (with_reducible assumption)
    | (refine (id ?_ : False)
       first
        | contradiction
        | (exfalso; omega)
        | (exfalso; simp at hq; omega)
        | (exfalso; simp_all; done)
        | exact h2 _ (by omega)
        | (exfalso
           have hb := a_1.trans a_2.symm
           revert hq hb
           cases y0 <;> cases y1 <;> simp; done)
        | (exfalso
           have hb := a_3.trans a_4.symm
           revert hq hb
           cases y2 <;> cases y3 <;> simp; done)
       )
    | omega
    | contradiction
    | (exfalso; omega)
    | (exfalso; simp at hq; omega)
    | (exfalso; simp_all; done)
    | exact h2 _ (by omega)
    | (exfalso
       have hb := a_1.trans a_2.symm
       revert hq hb
       cases y0 <;> cases y1 <;> simp; done)
    | (exfalso
       have hb := a_3.trans a_4.symm
       revert hq hb
       cases y2 <;> cases y3 <;> simp; done)
def lreaNG_rV (ew nw cw : Nat) (fw : RF) (a : Int) (x : Int) (b : Int) (K : Value → List Blk → Prop) : Prop := let q0 := ((0 : Nat) + nw ≤ nw); let q1 := eB; let q2 := (@Eq Nat ((0 : Nat)) ((0 : Nat))); let q3 := TS; let q4 := (@Eq (Ev.TK) (Ev.TK.array) (Ev.TK.array)); let q5 := (@Eq (Value) (Value.bool false) (Value.bool true)); let q6 := ((Ok64 nw fw) ∧ (@Eq Int (alE nw fw a b) ((0 : Int)))); let q7 := (((0 : Int) ≤ (0 : Int)) ∧ ((0 : Int) < (↑(2 : Nat) : Int))); let q8 := (((0 : Int) ≤ (1 : Int)) ∧ ((1 : Int) < (↑(2 : Nat) : Int))); let q9 := (q2 ∧ ((nw ≤ (100000 : Nat)) ∧ (nw ≤ cw))); let q10 := ((@Eq (List Value) ([]) ([])) ∧ (@Eq (Value) (Value.bool true) (Value.bool true))); let q11 := ((Ok64 nw fw) ∧ ((@Eq Int (obE nw fw a) ((0 : Int))) ∧ (@Eq Int (obP nw fw a) ((0 : Int))))); let q12 := ((@Eq (List IntKind) ([IntKind.u64]) ([IntKind.u64])) ∧ ((@Eq Nat (nw) (nw)) ∧ (@Eq Nat (cw) (cw)))); let q13 := (q3 ∧ (T0 ∧ (if ((1610 : Int) < (↑nw : Int)) then q10 else (q4 ∧ (q7 ∧ (q0 ∧ (t2 (q9 ∧ (q12 ∧ (q1 ∧ ((Ok64 nw fw) ∧ (q4 ∧ (q7 ∧ (q0 ∧ (t2 (q9 ∧ (q12 ∧ (q1 ∧ ((Ok64 nw fw) ∧ (q4 ∧ (q7 ∧ (q0 ∧ (t2 (q9 ∧ (q12 ∧ (q1 ∧ ((Ok64 nw fw) ∧ (q4 ∧ (q7 ∧ (q0 ∧ (t2 (q9 ∧ (q12 ∧ (q1 ∧ ((Ok64 nw fw) ∧ (T0 ∧ (if (@Eq Int (ptV nw fw a x) (ptV nw fw a x)) then (T0 ∧ (if (@Eq Int (ptE nw fw a x) (ptE nw fw a x)) then (T0 ∧ (if (@Eq Int (rwV nw fw a x) (rwV nw fw a x)) then (T0 ∧ (if (@Eq Int (rwE nw fw a x) (rwE nw fw a x)) then (q0 ∧ (T0 ∧ (q9 ∧ (q12 ∧ (q1 ∧ (q11 ∧ (q0 ∧ (T0 ∧ (q9 ∧ (q12 ∧ (q1 ∧ (q11 ∧ (q4 ∧ (q8 ∧ (q0 ∧ (t2 (q9 ∧ (q12 ∧ (q1 ∧ (q6 ∧ (∀ y0 : Bool, ((y0 = true ↔ alP fw a b) → (q4 ∧ (q8 ∧ (q0 ∧ (t2 (q9 ∧ (q12 ∧ (q1 ∧ (q6 ∧ (∀ y1 : Bool, let q14 := (Go.Rx.br (y0 == y1) (False) q5); let q15 := (Go.Rx.br (y0 == y1) (False) q14); ((y1 = true ↔ alP fw a b) → (t2 (q1 ∧ ((q2 ∧ (∀ y2 : Nat, ((y2 < (0 : Nat)) → (@Eq Int (zF y2 (0 : Nat)) (zF y2 (0 : Nat)))))) ∧ (t2 (Go.Rx.br (y0 == y1) (Go.Rx.br (y0 == y1) (Go.Rx.br (y0 == y1) (T0 ∧ (Go.Rx.br (y0 == y1) q10 q5)) q14) q15) (Go.Rx.br (y0 == y1) q15 q15)))))))))))))))))))))))))))))))))))))) else q5)) else q5)) else q5)) else q5))))))))))))))))))))))))))))))))))))); (t2 (q3 ∧ (T0 ∧ (if ((300 : Int) < (↑nw : Int)) then (q3 ∧ (T0 ∧ (if ((↑nw : Int) ≤ (1601 : Int)) then q10 else q13))) else q13))))
theorem lreaNG_rE (ew nw cw : Nat) (fw : RF) (a : Int) (x : Int) (b : Int) (K : Value → List Blk → Prop) : lreaNG_rV ew nw cw fw a x b K = bodyX (mk X10NG) (callN (mk X10NG) 6) (lreaNG_rA ew nw cw fw a x b) Try.f10 [rsl 0 0 nw cw, .int .i64 a, .agg ⟨[.int .i64 x, .int .i64 b]⟩] (stOf [.row true [.u64] ew nw cw fw]) fun v _ => v = .bool true := by kernel_rfl
set_option tactic.hygienic false in
theorem lreaNG_rP (ew nw cw : Nat) (fw : RF) (a : Int) (x : Int) (b : Int) (K : Value → List Blk → Prop)  (hcw : nw ≤ cw) (hU : Ok64 nw fw) (h1 : obE nw fw a = 0) (h3 : obP nw fw a = 0) (h4 : alE nw fw a b = 0) : lreaNG_rV ew nw cw fw a x b K := by
  unfold lreaNG_rV
  conv => zeta
  have z0 := ar_cases nw fw
  have z1 := ob_cases hU a
  repeat' (first | (with_reducible exact rfl) | (with_reducible exact trivial) | (with_reducible refine And.intro ?_ ?_) | (intro) | (with_reducible refine br_d (fun hq => ?_) (fun hq => ?_)) | (with_reducible refine br_nd (fun hq => ?_) (fun hq => ?_)) | (with_reducible refine br_intro (fun hq => ?_) (fun hq => ?_)) | (with_reducible refine if_both (fun hz => ?_) (fun hz => ?_)) | fail)

  all_goals first
    | (with_reducible assumption)
    | (refine (id ?_ : False)
       first
        | contradiction
        | (exfalso; omega)
        | (exfalso; simp at hq; omega)
        | (exfalso; simp_all; done)
        | exact h2 _ (by omega)
        | (exfalso
           have hb := a_1.trans a_2.symm
           revert hq hb
           cases y0 <;> cases y1 <;> simp; done)
        | (exfalso
           have hb := a_3.trans a_4.symm
           revert hq hb
           cases y2 <;> cases y3 <;> simp; done)
       )
    | omega
    | contradiction
    | (exfalso; omega)
    | (exfalso; simp at hq; omega)
    | (exfalso; simp_all; done)
    | exact h2 _ (by omega)
    | (exfalso
       have hb := a_1.trans a_2.symm
       revert hq hb
       cases y0 <;> cases y1 <;> simp; done)
    | (exfalso
       have hb := a_3.trans a_4.symm
       revert hq hb
       cases y2 <;> cases y3 <;> simp; done)
def lreaXB_nV (a : Int) (x : Int) (b : Int) (K : Value → List Blk → Prop) : Prop := let q0 := eB; let q1 := TS; let q2 := (@Eq (Ev.TK) (Ev.TK.array) (Ev.TK.array)); let q3 := (((0 : Int) ≤ (0 : Int)) ∧ ((0 : Int) < (↑(2 : Nat) : Int))); (t2 (q1 ∧ (T0 ∧ (q1 ∧ (T0 ∧ (q2 ∧ (q3 ∧ (t3 (q0 ∧ ((Ok64 (0 : Nat) zF) ∧ (q2 ∧ (q3 ∧ (t3 (q0 ∧ ((Ok64 (0 : Nat) zF) ∧ (q2 ∧ (q3 ∧ (t3 (q0 ∧ ((Ok64 (0 : Nat) zF) ∧ (q2 ∧ (q3 ∧ (t3 (q0 ∧ ((Ok64 (0 : Nat) zF) ∧ (t6 (False)))))))))))))))))))))))))))
theorem lreaXB_nE (a : Int) (x : Int) (b : Int) (K : Value → List Blk → Prop) : lreaXB_nV a x b K = bodyX (mk X10XB) (callN (mk X10XB) 6) (lreaXB_nA a x b) Try.f10 [.slice none 0 0, .int .i64 a, .agg ⟨[.int .i64 x, .int .i64 b]⟩] (stOf []) fun v _ => v = .bool true := by kernel_rfl
set_option tactic.hygienic false in
theorem lreaXB_nP (a : Int) (x : Int) (b : Int) (K : Value → List Blk → Prop)  (hU : Ok64 0 zF) (h1 : obE 0 zF a = 0) (h2 : ¬ allP 0 zF a) (h4 : ¬ alE 0 zF a b = 0) : lreaXB_nV a x b K := by
  unfold lreaXB_nV
  conv => zeta
  have z0 := ar_cases 0 zF
  have z1 := ob_cases hU a
  repeat' (first | (with_reducible exact rfl) | (with_reducible exact trivial) | (with_reducible refine And.intro ?_ ?_) | (intro) | (with_reducible refine br_d (fun hq => ?_) (fun hq => ?_)) | (with_reducible refine br_nd (fun hq => ?_) (fun hq => ?_)) | (with_reducible refine br_intro (fun hq => ?_) (fun hq => ?_)) | (with_reducible refine if_both (fun hz => ?_) (fun hz => ?_)) | fail)

  all_goals first
    | (with_reducible assumption)
    | (refine (id ?_ : False)
       first
        | contradiction
        | (exfalso; omega)
        | (exfalso; simp at hq; omega)
        | (exfalso; simp_all; done)
        | exact h2 _ (by omega)
        | (exfalso
           have hb := a_1.trans a_2.symm
           revert hq hb
           cases y0 <;> cases y1 <;> simp; done)
        | (exfalso
           have hb := a_3.trans a_4.symm
           revert hq hb
           cases y2 <;> cases y3 <;> simp; done)
       )
    | omega
    | contradiction
    | (exfalso; omega)
    | (exfalso; simp at hq; omega)
    | (exfalso; simp_all; done)
    | exact h2 _ (by omega)
    | (exfalso
       have hb := a_1.trans a_2.symm
       revert hq hb
       cases y0 <;> cases y1 <;> simp; done)
    | (exfalso
       have hb := a_3.trans a_4.symm
       revert hq hb
       cases y2 <;> cases y3 <;> simp; done)
def lreaXB_rV (ew nw cw : Nat) (fw : RF) (a : Int) (x : Int) (b : Int) (K : Value → List Blk → Prop) : Prop := let q0 := ((0 : Nat) + nw ≤ nw); let q1 := eB; let q2 := (@Eq Nat ((0 : Nat)) ((0 : Nat))); let q3 := TS; let q4 := (@Eq (Ev.TK) (Ev.TK.array) (Ev.TK.array)); let q5 := ((Ok64 nw fw) ∧ (¬alE nw fw a b = (0 : Int))); let q6 := (@Eq (Value) (Value.bool false) (Value.bool true)); let q7 := (((0 : Int) ≤ (0 : Int)) ∧ ((0 : Int) < (↑(2 : Nat) : Int))); let q8 := (((0 : Int) ≤ (1 : Int)) ∧ ((1 : Int) < (↑(2 : Nat) : Int))); let q9 := ((Ok64 nw fw) ∧ ((@Eq Int (obE nw fw a) ((0 : Int))) ∧ (¬allP nw fw a))); let q10 := (q2 ∧ ((nw ≤ (100000 : Nat)) ∧ (nw ≤ cw))); let q11 := ((@Eq (List Value) ([]) ([])) ∧ (@Eq (Value) (Value.bool true) (Value.bool true))); let q12 := ((@Eq (List IntKind) ([IntKind.u64]) ([IntKind.u64])) ∧ ((@Eq Nat (nw) (nw)) ∧ (@Eq Nat (cw) (cw)))); let q13 := (q3 ∧ (T0 ∧ (if ((1610 : Int) < (↑nw : Int)) then q11 else (q4 ∧ (q7 ∧ (q0 ∧ (t2 (q10 ∧ (q12 ∧ (q1 ∧ ((Ok64 nw fw) ∧ (q4 ∧ (q7 ∧ (q0 ∧ (t2 (q10 ∧ (q12 ∧ (q1 ∧ ((Ok64 nw fw) ∧ (q4 ∧ (q7 ∧ (q0 ∧ (t2 (q10 ∧ (q12 ∧ (q1 ∧ ((Ok64 nw fw) ∧ (q4 ∧ (q7 ∧ (q0 ∧ (t2 (q10 ∧ (q12 ∧ (q1 ∧ ((Ok64 nw fw) ∧ (T0 ∧ (if (@Eq Int (ptV nw fw a x) (ptV nw fw a x)) then (T0 ∧ (if (@Eq Int (ptE nw fw a x) (ptE nw fw a x)) then (T0 ∧ (if (@Eq Int (rwV nw fw a x) (rwV nw fw a x)) then (T0 ∧ (if (@Eq Int (rwE nw fw a x) (rwE nw fw a x)) then (q0 ∧ (T0 ∧ (q10 ∧ (q12 ∧ (q1 ∧ (q9 ∧ (q0 ∧ (T0 ∧ (q10 ∧ (q12 ∧ (q1 ∧ (q9 ∧ (q4 ∧ (q8 ∧ (q0 ∧ (t2 (q10 ∧ (q12 ∧ (q1 ∧ (q5 ∧ (q4 ∧ (q8 ∧ (q0 ∧ (t2 (q10 ∧ (q12 ∧ (q1 ∧ (q5 ∧ (t2 (q1 ∧ ((q2 ∧ (∀ y0 : Nat, ((y0 < (0 : Nat)) → (@Eq Int (zF y0 (0 : Nat)) (zF y0 (0 : Nat)))))) ∧ (t3 (if (@Eq Int (alE nw fw a b) (alE nw fw a b)) then q11 else q6))))))))))))))))))))))))))))))))) else q6)) else q6)) else q6)) else q6))))))))))))))))))))))))))))))))))))); (t2 (q3 ∧ (T0 ∧ (if ((300 : Int) < (↑nw : Int)) then (q3 ∧ (T0 ∧ (if ((↑nw : Int) ≤ (1601 : Int)) then q11 else q13))) else q13))))
theorem lreaXB_rE (ew nw cw : Nat) (fw : RF) (a : Int) (x : Int) (b : Int) (K : Value → List Blk → Prop) : lreaXB_rV ew nw cw fw a x b K = bodyX (mk X10XB) (callN (mk X10XB) 6) (lreaXB_rA ew nw cw fw a x b) Try.f10 [rsl 0 0 nw cw, .int .i64 a, .agg ⟨[.int .i64 x, .int .i64 b]⟩] (stOf [.row true [.u64] ew nw cw fw]) fun v _ => v = .bool true := by kernel_rfl
set_option tactic.hygienic false in
theorem lreaXB_rP (ew nw cw : Nat) (fw : RF) (a : Int) (x : Int) (b : Int) (K : Value → List Blk → Prop)  (hcw : nw ≤ cw) (hU : Ok64 nw fw) (h1 : obE nw fw a = 0) (h2 : ¬ allP nw fw a) (h4 : ¬ alE nw fw a b = 0) : lreaXB_rV ew nw cw fw a x b K := by
  unfold lreaXB_rV
  conv => zeta
  have z0 := ar_cases nw fw
  have z1 := ob_cases hU a
  repeat' (first | (with_reducible exact rfl) | (with_reducible exact trivial) | (with_reducible refine And.intro ?_ ?_) | (intro) | (with_reducible refine br_d (fun hq => ?_) (fun hq => ?_)) | (with_reducible refine br_nd (fun hq => ?_) (fun hq => ?_)) | (with_reducible refine br_intro (fun hq => ?_) (fun hq => ?_)) | (with_reducible refine if_both (fun hz => ?_) (fun hz => ?_)) | fail)

  all_goals first
    | (with_reducible assumption)
    | (refine (id ?_ : False)
       first
        | contradiction
        | (exfalso; omega)
        | (exfalso; simp at hq; omega)
        | (exfalso; simp_all; done)
        | exact h2 _ (by omega)
        | (exfalso
           have hb := a_1.trans a_2.symm
           revert hq hb
           cases y0 <;> cases y1 <;> simp; done)
        | (exfalso
           have hb := a_3.trans a_4.symm
           revert hq hb
           cases y2 <;> cases y3 <;> simp; done)
       )
    | omega
    | contradiction
    | (exfalso; omega)
    | (exfalso; simp at hq; omega)
    | (exfalso; simp_all; done)
    | exact h2 _ (by omega)
    | (exfalso
       have hb := a_1.trans a_2.symm
       revert hq hb
       cases y0 <;> cases y1 <;> simp; done)
    | (exfalso
       have hb := a_3.trans a_4.symm
       revert hq hb
       cases y2 <;> cases y3 <;> simp; done)
def lreaXG_nV (a : Int) (x : Int) (b : Int) (K : Value → List Blk → Prop) : Prop := let q0 := eB; let q1 := TS; let q2 := (@Eq (Ev.TK) (Ev.TK.array) (Ev.TK.array)); let q3 := (((0 : Int) ≤ (0 : Int)) ∧ ((0 : Int) < (↑(2 : Nat) : Int))); (t2 (q1 ∧ (T0 ∧ (q1 ∧ (T0 ∧ (q2 ∧ (q3 ∧ (t3 (q0 ∧ ((Ok64 (0 : Nat) zF) ∧ (q2 ∧ (q3 ∧ (t3 (q0 ∧ ((Ok64 (0 : Nat) zF) ∧ (q2 ∧ (q3 ∧ (t3 (q0 ∧ ((Ok64 (0 : Nat) zF) ∧ (q2 ∧ (q3 ∧ (t3 (q0 ∧ ((Ok64 (0 : Nat) zF) ∧ (t6 (False)))))))))))))))))))))))))))
theorem lreaXG_nE (a : Int) (x : Int) (b : Int) (K : Value → List Blk → Prop) : lreaXG_nV a x b K = bodyX (mk X10XG) (callN (mk X10XG) 6) (lreaXG_nA a x b) Try.f10 [.slice none 0 0, .int .i64 a, .agg ⟨[.int .i64 x, .int .i64 b]⟩] (stOf []) fun v _ => v = .bool true := by kernel_rfl
set_option tactic.hygienic false in
theorem lreaXG_nP (a : Int) (x : Int) (b : Int) (K : Value → List Blk → Prop)  (hU : Ok64 0 zF) (h1 : obE 0 zF a = 0) (h2 : ¬ allP 0 zF a) (h4 : alE 0 zF a b = 0) : lreaXG_nV a x b K := by
  unfold lreaXG_nV
  conv => zeta
  have z0 := ar_cases 0 zF
  have z1 := ob_cases hU a
  repeat' (first | (with_reducible exact rfl) | (with_reducible exact trivial) | (with_reducible refine And.intro ?_ ?_) | (intro) | (with_reducible refine br_d (fun hq => ?_) (fun hq => ?_)) | (with_reducible refine br_nd (fun hq => ?_) (fun hq => ?_)) | (with_reducible refine br_intro (fun hq => ?_) (fun hq => ?_)) | (with_reducible refine if_both (fun hz => ?_) (fun hz => ?_)) | fail)

  all_goals first
    | (with_reducible assumption)
    | (refine (id ?_ : False)
       first
        | contradiction
        | (exfalso; omega)
        | (exfalso; simp at hq; omega)
        | (exfalso; simp_all; done)
        | exact h2 _ (by omega)
        | (exfalso
           have hb := a_1.trans a_2.symm
           revert hq hb
           cases y0 <;> cases y1 <;> simp; done)
        | (exfalso
           have hb := a_3.trans a_4.symm
           revert hq hb
           cases y2 <;> cases y3 <;> simp; done)
       )
    | omega
    | contradiction
    | (exfalso; omega)
    | (exfalso; simp at hq; omega)
    | (exfalso; simp_all; done)
    | exact h2 _ (by omega)
    | (exfalso
       have hb := a_1.trans a_2.symm
       revert hq hb
       cases y0 <;> cases y1 <;> simp; done)
    | (exfalso
       have hb := a_3.trans a_4.symm
       revert hq hb
       cases y2 <;> cases y3 <;> simp; done)
def lreaXG_rV (ew nw cw : Nat) (fw : RF) (a : Int) (x : Int) (b : Int) (K : Value → List Blk → Prop) : Prop := let q0 := ((0 : Nat) + nw ≤ nw); let q1 := eB; let q2 := (@Eq Nat ((0 : Nat)) ((0 : Nat))); let q3 := TS; let q4 := (@Eq (Ev.TK) (Ev.TK.array) (Ev.TK.array)); let q5 := (@Eq (Value) (Value.bool false) (Value.bool true)); let q6 := ((Ok64 nw fw) ∧ (@Eq Int (alE nw fw a b) ((0 : Int)))); let q7 := (((0 : Int) ≤ (0 : Int)) ∧ ((0 : Int) < (↑(2 : Nat) : Int))); let q8 := (((0 : Int) ≤ (1 : Int)) ∧ ((1 : Int) < (↑(2 : Nat) : Int))); let q9 := ((Ok64 nw fw) ∧ ((@Eq Int (obE nw fw a) ((0 : Int))) ∧ (¬allP nw fw a))); let q10 := (q2 ∧ ((nw ≤ (100000 : Nat)) ∧ (nw ≤ cw))); let q11 := ((@Eq (List Value) ([]) ([])) ∧ (@Eq (Value) (Value.bool true) (Value.bool true))); let q12 := ((@Eq (List IntKind) ([IntKind.u64]) ([IntKind.u64])) ∧ ((@Eq Nat (nw) (nw)) ∧ (@Eq Nat (cw) (cw)))); let q13 := (q3 ∧ (T0 ∧ (if ((1610 : Int) < (↑nw : Int)) then q11 else (q4 ∧ (q7 ∧ (q0 ∧ (t2 (q10 ∧ (q12 ∧ (q1 ∧ ((Ok64 nw fw) ∧ (q4 ∧ (q7 ∧ (q0 ∧ (t2 (q10 ∧ (q12 ∧ (q1 ∧ ((Ok64 nw fw) ∧ (q4 ∧ (q7 ∧ (q0 ∧ (t2 (q10 ∧ (q12 ∧ (q1 ∧ ((Ok64 nw fw) ∧ (q4 ∧ (q7 ∧ (q0 ∧ (t2 (q10 ∧ (q12 ∧ (q1 ∧ ((Ok64 nw fw) ∧ (T0 ∧ (if (@Eq Int (ptV nw fw a x) (ptV nw fw a x)) then (T0 ∧ (if (@Eq Int (ptE nw fw a x) (ptE nw fw a x)) then (T0 ∧ (if (@Eq Int (rwV nw fw a x) (rwV nw fw a x)) then (T0 ∧ (if (@Eq Int (rwE nw fw a x) (rwE nw fw a x)) then (q0 ∧ (T0 ∧ (q10 ∧ (q12 ∧ (q1 ∧ (q9 ∧ (q0 ∧ (T0 ∧ (q10 ∧ (q12 ∧ (q1 ∧ (q9 ∧ (q4 ∧ (q8 ∧ (q0 ∧ (t2 (q10 ∧ (q12 ∧ (q1 ∧ (q6 ∧ (∀ y0 : Bool, ((y0 = true ↔ alP fw a b) → (q4 ∧ (q8 ∧ (q0 ∧ (t2 (q10 ∧ (q12 ∧ (q1 ∧ (q6 ∧ (∀ y1 : Bool, let q14 := (Go.Rx.br (y0 == y1) (False) q5); let q15 := (Go.Rx.br (y0 == y1) (False) q14); ((y1 = true ↔ alP fw a b) → (t2 (q1 ∧ ((q2 ∧ (∀ y2 : Nat, ((y2 < (0 : Nat)) → (@Eq Int (zF y2 (0 : Nat)) (zF y2 (0 : Nat)))))) ∧ (t2 (Go.Rx.br (y0 == y1) (Go.Rx.br (y0 == y1) (Go.Rx.br (y0 == y1) (T0 ∧ (Go.Rx.br (y0 == y1) q11 q5)) q14) q15) (Go.Rx.br (y0 == y1) q15 q15)))))))))))))))))))))))))))))))))))))) else q5)) else q5)) else q5)) else q5))))))))))))))))))))))))))))))))))))); (t2 (q3 ∧ (T0 ∧ (if ((300 : Int) < (↑nw : Int)) then (q3 ∧ (T0 ∧ (if ((↑nw : Int) ≤ (1601 : Int)) then q11 else q13))) else q13))))
theorem lreaXG_rE (ew nw cw : Nat) (fw : RF) (a : Int) (x : Int) (b : Int) (K : Value → List Blk → Prop) : lreaXG_rV ew nw cw fw a x b K = bodyX (mk X10XG) (callN (mk X10XG) 6) (lreaXG_rA ew nw cw fw a x b) Try.f10 [rsl 0 0 nw cw, .int .i64 a, .agg ⟨[.int .i64 x, .int .i64 b]⟩] (stOf [.row true [.u64] ew nw cw fw]) fun v _ => v = .bool true := by kernel_rfl
set_option tactic.hygienic false in
theorem lreaXG_rP (ew nw cw : Nat) (fw : RF) (a : Int) (x : Int) (b : Int) (K : Value → List Blk → Prop)  (hcw : nw ≤ cw) (hU : Ok64 nw fw) (h1 : obE nw fw a = 0) (h2 : ¬ allP nw fw a) (h4 : alE nw fw a b = 0) : lreaXG_rV ew nw cw fw a x b K := by
  unfold lreaXG_rV
  conv => zeta
  have z0 := ar_cases nw fw
  have z1 := ob_cases hU a
  repeat' (first | (with_reducible exact rfl) | (with_reducible exact trivial) | (with_reducible refine And.intro ?_ ?_) | (intro) | (with_reducible refine br_d (fun hq => ?_) (fun hq => ?_)) | (with_reducible refine br_nd (fun hq => ?_) (fun hq => ?_)) | (with_reducible refine br_intro (fun hq => ?_) (fun hq => ?_)) | (with_reducible refine if_both (fun hz => ?_) (fun hz => ?_)) | fail)

  all_goals first
    | (with_reducible assumption)
    | (refine (id ?_ : False)
       first
        | contradiction
        | (exfalso; omega)
        | (exfalso; simp at hq; omega)
        | (exfalso; simp_all; done)
        | exact h2 _ (by omega)
        | (exfalso
           have hb := a_1.trans a_2.symm
           revert hq hb
           cases y0 <;> cases y1 <;> simp; done)
        | (exfalso
           have hb := a_3.trans a_4.symm
           revert hq hb
           cases y2 <;> cases y3 <;> simp; done)
       )
    | omega
    | contradiction
    | (exfalso; omega)
    | (exfalso; simp at hq; omega)
    | (exfalso; simp_all; done)
    | exact h2 _ (by omega)
    | (exfalso
       have hb := a_1.trans a_2.symm
       revert hq hb
       cases y0 <;> cases y1 <;> simp; done)
    | (exfalso
       have hb := a_3.trans a_4.symm
       revert hq hb
       cases y2 <;> cases y3 <;> simp; done)
def lreaRB_nV (a : Int) (x : Int) (b : Int) (K : Value → List Blk → Prop) : Prop := let q0 := eB; let q1 := TS; let q2 := (@Eq (Ev.TK) (Ev.TK.array) (Ev.TK.array)); let q3 := (((0 : Int) ≤ (0 : Int)) ∧ ((0 : Int) < (↑(2 : Nat) : Int))); (t2 (q1 ∧ (T0 ∧ (q1 ∧ (T0 ∧ (q2 ∧ (q3 ∧ (t3 (q0 ∧ ((Ok64 (0 : Nat) zF) ∧ (q2 ∧ (q3 ∧ (t3 (q0 ∧ ((Ok64 (0 : Nat) zF) ∧ (q2 ∧ (q3 ∧ (t3 (q0 ∧ ((Ok64 (0 : Nat) zF) ∧ (q2 ∧ (q3 ∧ (t3 (q0 ∧ ((Ok64 (0 : Nat) zF) ∧ (t6 (False)))))))))))))))))))))))))))
theorem lreaRB_nE (a : Int) (x : Int) (b : Int) (K : Value → List Blk → Prop) : lreaRB_nV a x b K = bodyX (mk X10RB) (callN (mk X10RB) 6) (lreaRB_nA a x b) Try.f10 [.slice none 0 0, .int .i64 a, .agg ⟨[.int .i64 x, .int .i64 b]⟩] (stOf []) fun v _ => v = .bool true := by kernel_rfl
set_option tactic.hygienic false in
theorem lreaRB_nP (a : Int) (x : Int) (b : Int) (K : Value → List Blk → Prop)  (hU : Ok64 0 zF) (h1 : obE 0 zF a = 0) (h3 : 0 < obP 0 zF a) (h2 : allP 0 zF a) (h4 : ¬ alE 0 zF a b = 0) : lreaRB_nV a x b K := by
  unfold lreaRB_nV
  conv => zeta
  have z0 := ar_cases 0 zF
  have z1 := ob_cases hU a
  repeat' (first | (with_reducible exact rfl) | (with_reducible exact trivial) | (with_reducible refine And.intro ?_ ?_) | (intro) | (with_reducible refine br_d (fun hq => ?_) (fun hq => ?_)) | (with_reducible refine br_nd (fun hq => ?_) (fun hq => ?_)) | (with_reducible refine br_intro (fun hq => ?_) (fun hq => ?_)) | (with_reducible refine if_both (fun hz => ?_) (fun hz => ?_)) | fail)

  all_goals first
    | (with_reducible assumption)
    | (refine (id ?_ : False)
       first
        | contradiction
        | (exfalso; omega)
        | (exfalso; simp at hq; omega)
        | (exfalso; simp_all; done)
        | exact h2 _ (by omega)
        | (exfalso
           have hb := a_1.trans a_2.symm
           revert hq hb
           cases y0 <;> cases y1 <;> simp; done)
        | (exfalso
           have hb := a_3.trans a_4.symm
           revert hq hb
           cases y2 <;> cases y3 <;> simp; done)
       )
    | omega
    | contradiction
    | (exfalso; omega)
    | (exfalso; simp at hq; omega)
    | (exfalso; simp_all; done)
    | exact h2 _ (by omega)
    | (exfalso
       have hb := a_1.trans a_2.symm
       revert hq hb
       cases y0 <;> cases y1 <;> simp; done)
    | (exfalso
       have hb := a_3.trans a_4.symm
       revert hq hb
       cases y2 <;> cases y3 <;> simp; done)
def lreaRB_rV (ew nw cw : Nat) (fw : RF) (a : Int) (x : Int) (b : Int) (K : Value → List Blk → Prop) : Prop := let q0 := ((0 : Nat) + nw ≤ nw); let q1 := (Int.toNat (obP nw fw a)); let q2 := ((0 : Int) < obP nw fw a); let q3 := eB; let q4 := (@Eq Nat ((0 : Nat)) ((0 : Nat))); let q5 := (@Eq Int (obE nw fw a) ((0 : Int))); let q6 := TS; let q7 := (@Eq (Ev.TK) (Ev.TK.array) (Ev.TK.array)); let q8 := (Int.toNat (obP nw fw a) ≤ (100000 : Nat)); let q9 := ((Ok64 nw fw) ∧ (¬alE nw fw a b = (0 : Int))); let q10 := (@Eq (Value) (Value.bool false) (Value.bool true)); let q11 := (@Eq (List IntKind) ([IntKind.i64]) ([IntKind.i64])); let q12 := (((0 : Int) ≤ (0 : Int)) ∧ ((0 : Int) < (↑(2 : Nat) : Int))); let q13 := (((0 : Int) ≤ (1 : Int)) ∧ ((1 : Int) < (↑(2 : Nat) : Int))); let q14 := (@Eq Nat q1 q1); let q15 := ((0 : Nat) + Int.toNat (obP nw fw a) ≤ Int.toNat (obP nw fw a)); let q16 := (q4 ∧ ((nw ≤ (100000 : Nat)) ∧ (nw ≤ cw))); let q17 := ((@Eq (List Value) ([]) ([])) ∧ (@Eq (Value) (Value.bool true) (Value.bool true))); let q18 := ((@Eq (List IntKind) ([IntKind.u64]) ([IntKind.u64])) ∧ ((@Eq Nat (nw) (nw)) ∧ (@Eq Nat (cw) (cw)))); let q19 := (q6 ∧ (T0 ∧ (if ((1610 : Int) < (↑nw : Int)) then q17 else (q7 ∧ (q12 ∧ (q0 ∧ (t2 (q16 ∧ (q18 ∧ (q3 ∧ ((Ok64 nw fw) ∧ (q7 ∧ (q12 ∧ (q0 ∧ (t2 (q16 ∧ (q18 ∧ (q3 ∧ ((Ok64 nw fw) ∧ (q7 ∧ (q12 ∧ (q0 ∧ (t2 (q16 ∧ (q18 ∧ (q3 ∧ ((Ok64 nw fw) ∧ (q7 ∧ (q12 ∧ (q0 ∧ (t2 (q16 ∧ (q18 ∧ (q3 ∧ ((Ok64 nw fw) ∧ (T0 ∧ (if (@Eq Int (ptV nw fw a x) (ptV nw fw a x)) then (T0 ∧ (if (@Eq Int (ptE nw fw a x) (ptE nw fw a x)) then (T0 ∧ (if (@Eq Int (rwV nw fw a x) (rwV nw fw a x)) then (T0 ∧ (if (@Eq Int (rwE nw fw a x) (rwE nw fw a x)) then (q0 ∧ (T0 ∧ (q16 ∧ (q18 ∧ (q3 ∧ (((Ok64 nw fw) ∧ (q5 ∧ (q2 ∧ (∀ y0 : Nat, ((y0 < Int.toNat (obP nw fw a)) → (fw (Int.toNat (a + (1 : Int) + (↑y0 : Int))) (0 : Nat) ≤ (1600 : Int))))))) ∧ (∀ y0 : Nat, ((Int.toNat (obP nw fw a) ≤ y0) → (q0 ∧ (T0 ∧ (q16 ∧ (q18 ∧ (q3 ∧ (((Ok64 nw fw) ∧ (q5 ∧ (q2 ∧ (∀ y1 : Nat, ((y1 < Int.toNat (obP nw fw a)) → (fw (Int.toNat (a + (1 : Int) + (↑y1 : Int))) (0 : Nat) ≤ (1600 : Int))))))) ∧ (∀ y1 : Nat, ((Int.toNat (obP nw fw a) ≤ y1) → (q7 ∧ (q13 ∧ (q0 ∧ (t2 (q16 ∧ (q18 ∧ (q3 ∧ (q9 ∧ (q7 ∧ (q13 ∧ (q0 ∧ (t2 (q16 ∧ (q18 ∧ (q3 ∧ (q9 ∧ (q15 ∧ (q15 ∧ (q4 ∧ (q8 ∧ ((q11 ∧ (q14 ∧ (@Eq Nat (y0) (y0)))) ∧ ((@Eq Nat ((1 : Nat)) ((1 : Nat))) ∧ (q8 ∧ ((q11 ∧ (q14 ∧ (@Eq Nat (y1) (y1)))) ∧ (q3 ∧ ((q14 ∧ (∀ y2 : Nat, let q20 := (ptF fw a y2 (0 : Nat)); ((y2 < Int.toNat (obP nw fw a)) → (@Eq Int q20 q20)))) ∧ (t3 (if (@Eq Int (alE nw fw a b) (alE nw fw a b)) then q17 else q10)))))))))))))))))))))))))))))))))))))))))))) else q10)) else q10)) else q10)) else q10))))))))))))))))))))))))))))))))))))); (t2 (q6 ∧ (T0 ∧ (if ((300 : Int) < (↑nw : Int)) then (q6 ∧ (T0 ∧ (if ((↑nw : Int) ≤ (1601 : Int)) then q17 else q19))) else q19))))
theorem lreaRB_rE (ew nw cw : Nat) (fw : RF) (a : Int) (x : Int) (b : Int) (K : Value → List Blk → Prop) : lreaRB_rV ew nw cw fw a x b K = bodyX (mk X10RB) (callN (mk X10RB) 6) (lreaRB_rA ew nw cw fw a x b) Try.f10 [rsl 0 0 nw cw, .int .i64 a, .agg ⟨[.int .i64 x, .int .i64 b]⟩] (stOf [.row true [.u64] ew nw cw fw]) fun v _ => v = .bool true := by kernel_rfl
set_option tactic.hygienic false in
theorem lreaRB_rP (ew nw cw : Nat) (fw : RF) (a : Int) (x : Int) (b : Int) (K : Value → List Blk → Prop)  (hcw : nw ≤ cw) (hU : Ok64 nw fw) (h1 : obE nw fw a = 0) (h3 : 0 < obP nw fw a) (h2 : allP nw fw a) (h4 : ¬ alE nw fw a b = 0) : lreaRB_rV ew nw cw fw a x b K := by
  unfold lreaRB_rV
  conv => zeta
  have z0 := ar_cases nw fw
  have z1 := ob_cases hU a
  repeat' (first | (with_reducible exact rfl) | (with_reducible exact trivial) | (with_reducible refine And.intro ?_ ?_) | (intro) | (with_reducible refine br_d (fun hq => ?_) (fun hq => ?_)) | (with_reducible refine br_nd (fun hq => ?_) (fun hq => ?_)) | (with_reducible refine br_intro (fun hq => ?_) (fun hq => ?_)) | (with_reducible refine if_both (fun hz => ?_) (fun hz => ?_)) | fail)

  all_goals first
    | (with_reducible assumption)
    | (refine (id ?_ : False)
       first
        | contradiction
        | (exfalso; omega)
        | (exfalso; simp at hq; omega)
        | (exfalso; simp_all; done)
        | exact h2 _ (by omega)
        | (exfalso
           have hb := a_1.trans a_2.symm
           revert hq hb
           cases y0 <;> cases y1 <;> simp; done)
        | (exfalso
           have hb := a_3.trans a_4.symm
           revert hq hb
           cases y2 <;> cases y3 <;> simp; done)
       )
    | omega
    | contradiction
    | (exfalso; omega)
    | (exfalso; simp at hq; omega)
    | (exfalso; simp_all; done)
    | exact h2 _ (by omega)
    | (exfalso
       have hb := a_1.trans a_2.symm
       revert hq hb
       cases y0 <;> cases y1 <;> simp; done)
    | (exfalso
       have hb := a_3.trans a_4.symm
       revert hq hb
       cases y2 <;> cases y3 <;> simp; done)
def lreaRG_nV (a : Int) (x : Int) (b : Int) (K : Value → List Blk → Prop) : Prop := let q0 := eB; let q1 := TS; let q2 := (@Eq (Ev.TK) (Ev.TK.array) (Ev.TK.array)); let q3 := (((0 : Int) ≤ (0 : Int)) ∧ ((0 : Int) < (↑(2 : Nat) : Int))); (t2 (q1 ∧ (T0 ∧ (q1 ∧ (T0 ∧ (q2 ∧ (q3 ∧ (t3 (q0 ∧ ((Ok64 (0 : Nat) zF) ∧ (q2 ∧ (q3 ∧ (t3 (q0 ∧ ((Ok64 (0 : Nat) zF) ∧ (q2 ∧ (q3 ∧ (t3 (q0 ∧ ((Ok64 (0 : Nat) zF) ∧ (q2 ∧ (q3 ∧ (t3 (q0 ∧ ((Ok64 (0 : Nat) zF) ∧ (t6 (False)))))))))))))))))))))))))))
theorem lreaRG_nE (a : Int) (x : Int) (b : Int) (K : Value → List Blk → Prop) : lreaRG_nV a x b K = bodyX (mk X10RG) (callN (mk X10RG) 6) (lreaRG_nA a x b) Try.f10 [.slice none 0 0, .int .i64 a, .agg ⟨[.int .i64 x, .int .i64 b]⟩] (stOf []) fun v _ => v = .bool true := by kernel_rfl
set_option tactic.hygienic false in
theorem lreaRG_nP (a : Int) (x : Int) (b : Int) (K : Value → List Blk → Prop)  (hU : Ok64 0 zF) (h1 : obE 0 zF a = 0) (h3 : 0 < obP 0 zF a) (h2 : allP 0 zF a) (h4 : alE 0 zF a b = 0) : lreaRG_nV a x b K := by
  unfold lreaRG_nV
  conv => zeta
  have z0 := ar_cases 0 zF
  have z1 := ob_cases hU a
  repeat' (first | (with_reducible exact rfl) | (with_reducible exact trivial) | (with_reducible refine And.intro ?_ ?_) | (intro) | (with_reducible refine br_d (fun hq => ?_) (fun hq => ?_)) | (with_reducible refine br_nd (fun hq => ?_) (fun hq => ?_)) | (with_reducible refine br_intro (fun hq => ?_) (fun hq => ?_)) | (with_reducible refine if_both (fun hz => ?_) (fun hz => ?_)) | fail)

  all_goals first
    | (with_reducible assumption)
    | (refine (id ?_ : False)
       first
        | contradiction
        | (exfalso; omega)
        | (exfalso; simp at hq; omega)
        | (exfalso; simp_all; done)
        | exact h2 _ (by omega)
        | (exfalso
           have hb := a_1.trans a_2.symm
           revert hq hb
           cases y0 <;> cases y1 <;> simp; done)
        | (exfalso
           have hb := a_3.trans a_4.symm
           revert hq hb
           cases y2 <;> cases y3 <;> simp; done)
       )
    | omega
    | contradiction
    | (exfalso; omega)
    | (exfalso; simp at hq; omega)
    | (exfalso; simp_all; done)
    | exact h2 _ (by omega)
    | (exfalso
       have hb := a_1.trans a_2.symm
       revert hq hb
       cases y0 <;> cases y1 <;> simp; done)
    | (exfalso
       have hb := a_3.trans a_4.symm
       revert hq hb
       cases y2 <;> cases y3 <;> simp; done)
def lreaRG_rV (ew nw cw : Nat) (fw : RF) (a : Int) (x : Int) (b : Int) (K : Value → List Blk → Prop) : Prop := let q0 := ((0 : Nat) + nw ≤ nw); let q1 := (Int.toNat (obP nw fw a)); let q2 := ((0 : Int) < obP nw fw a); let q3 := eB; let q4 := (@Eq Nat ((0 : Nat)) ((0 : Nat))); let q5 := (@Eq Int (obE nw fw a) ((0 : Int))); let q6 := TS; let q7 := (@Eq (Ev.TK) (Ev.TK.array) (Ev.TK.array)); let q8 := (Int.toNat (obP nw fw a) ≤ (100000 : Nat)); let q9 := (@Eq (Value) (Value.bool false) (Value.bool true)); let q10 := (@Eq (List IntKind) ([IntKind.i64]) ([IntKind.i64])); let q11 := ((Ok64 nw fw) ∧ (@Eq Int (alE nw fw a b) ((0 : Int)))); let q12 := (((0 : Int) ≤ (0 : Int)) ∧ ((0 : Int) < (↑(2 : Nat) : Int))); let q13 := (((0 : Int) ≤ (1 : Int)) ∧ ((1 : Int) < (↑(2 : Nat) : Int))); let q14 := (@Eq Nat q1 q1); let q15 := ((0 : Nat) + Int.toNat (obP nw fw a) ≤ Int.toNat (obP nw fw a)); let q16 := (q4 ∧ ((nw ≤ (100000 : Nat)) ∧ (nw ≤ cw))); let q17 := ((@Eq (List Value) ([]) ([])) ∧ (@Eq (Value) (Value.bool true) (Value.bool true))); let q18 := ((@Eq (List IntKind) ([IntKind.u64]) ([IntKind.u64])) ∧ ((@Eq Nat (nw) (nw)) ∧ (@Eq Nat (cw) (cw)))); let q19 := (q6 ∧ (T0 ∧ (if ((1610 : Int) < (↑nw : Int)) then q17 else (q7 ∧ (q12 ∧ (q0 ∧ (t2 (q16 ∧ (q18 ∧ (q3 ∧ ((Ok64 nw fw) ∧ (q7 ∧ (q12 ∧ (q0 ∧ (t2 (q16 ∧ (q18 ∧ (q3 ∧ ((Ok64 nw fw) ∧ (q7 ∧ (q12 ∧ (q0 ∧ (t2 (q16 ∧ (q18 ∧ (q3 ∧ ((Ok64 nw fw) ∧ (q7 ∧ (q12 ∧ (q0 ∧ (t2 (q16 ∧ (q18 ∧ (q3 ∧ ((Ok64 nw fw) ∧ (T0 ∧ (if (@Eq Int (ptV nw fw a x) (ptV nw fw a x)) then (T0 ∧ (if (@Eq Int (ptE nw fw a x) (ptE nw fw a x)) then (T0 ∧ (if (@Eq Int (rwV nw fw a x) (rwV nw fw a x)) then (T0 ∧ (if (@Eq Int (rwE nw fw a x) (rwE nw fw a x)) then (q0 ∧ (T0 ∧ (q16 ∧ (q18 ∧ (q3 ∧ (((Ok64 nw fw) ∧ (q5 ∧ (q2 ∧ (∀ y0 : Nat, ((y0 < Int.toNat (obP nw fw a)) → (fw (Int.toNat (a + (1 : Int) + (↑y0 : Int))) (0 : Nat) ≤ (1600 : Int))))))) ∧ (∀ y0 : Nat, ((Int.toNat (obP nw fw a) ≤ y0) → (q0 ∧ (T0 ∧ (q16 ∧ (q18 ∧ (q3 ∧ (((Ok64 nw fw) ∧ (q5 ∧ (q2 ∧ (∀ y1 : Nat, ((y1 < Int.toNat (obP nw fw a)) → (fw (Int.toNat (a + (1 : Int) + (↑y1 : Int))) (0 : Nat) ≤ (1600 : Int))))))) ∧ (∀ y1 : Nat, ((Int.toNat (obP nw fw a) ≤ y1) → (q7 ∧ (q13 ∧ (q0 ∧ (t2 (q16 ∧ (q18 ∧ (q3 ∧ (q11 ∧ (∀ y2 : Bool, ((y2 = true ↔ alP fw a b) → (q7 ∧ (q13 ∧ (q0 ∧ (t2 (q16 ∧ (q18 ∧ (q3 ∧ (q11 ∧ (∀ y3 : Bool, let q20 := (Go.Rx.br (y2 == y3) (False) q9); let q21 := (Go.Rx.br (y2 == y3) (False) q20); ((y3 = true ↔ alP fw a b) → (q15 ∧ (q15 ∧ (q4 ∧ (q8 ∧ ((q10 ∧ (q14 ∧ (@Eq Nat (y0) (y0)))) ∧ ((@Eq Nat ((1 : Nat)) ((1 : Nat))) ∧ (q8 ∧ ((q10 ∧ (q14 ∧ (@Eq Nat (y1) (y1)))) ∧ (q3 ∧ ((q14 ∧ (∀ y4 : Nat, let q22 := (ptF fw a y4 (0 : Nat)); ((y4 < Int.toNat (obP nw fw a)) → (@Eq Int q22 q22)))) ∧ (t2 (Go.Rx.br (y2 == y3) (Go.Rx.br (y2 == y3) (Go.Rx.br (y2 == y3) (T0 ∧ (Go.Rx.br (y2 == y3) q17 q9)) q20) q21) (Go.Rx.br (y2 == y3) q21 q21))))))))))))))))))))))))))))))))))))))))))))))))) else q9)) else q9)) else q9)) else q9))))))))))))))))))))))))))))))))))))); (t2 (q6 ∧ (T0 ∧ (if ((300 : Int) < (↑nw : Int)) then (q6 ∧ (T0 ∧ (if ((↑nw : Int) ≤ (1601 : Int)) then q17 else q19))) else q19))))
theorem lreaRG_rE (ew nw cw : Nat) (fw : RF) (a : Int) (x : Int) (b : Int) (K : Value → List Blk → Prop) : lreaRG_rV ew nw cw fw a x b K = bodyX (mk X10RG) (callN (mk X10RG) 6) (lreaRG_rA ew nw cw fw a x b) Try.f10 [rsl 0 0 nw cw, .int .i64 a, .agg ⟨[.int .i64 x, .int .i64 b]⟩] (stOf [.row true [.u64] ew nw cw fw]) fun v _ => v = .bool true := by kernel_rfl
set_option tactic.hygienic false in
theorem lreaRG_rP (ew nw cw : Nat) (fw : RF) (a : Int) (x : Int) (b : Int) (K : Value → List Blk → Prop)  (hcw : nw ≤ cw) (hU : Ok64 nw fw) (h1 : obE nw fw a = 0) (h3 : 0 < obP nw fw a) (h2 : allP nw fw a) (h4 : alE nw fw a b = 0) : lreaRG_rV ew nw cw fw a x b K := by
  unfold lreaRG_rV
  conv => zeta
  have z0 := ar_cases nw fw
  have z1 := ob_cases hU a
  repeat' (first | (with_reducible exact rfl) | (with_reducible exact trivial) | (with_reducible refine And.intro ?_ ?_) | (intro) | (with_reducible refine br_d (fun hq => ?_) (fun hq => ?_)) | (with_reducible refine br_nd (fun hq => ?_) (fun hq => ?_)) | (with_reducible refine br_intro (fun hq => ?_) (fun hq => ?_)) | (with_reducible refine if_both (fun hz => ?_) (fun hz => ?_)) | fail)

  all_goals first
    | (with_reducible assumption)
    | (refine (id ?_ : False)
       first
        | contradiction
        | (exfalso; omega)
        | (exfalso; simp at hq; omega)
        | (exfalso; simp_all; done)
        | exact h2 _ (by omega)
        | (exfalso
           have hb := a_1.trans a_2.symm
           revert hq hb
           cases y0 <;> cases y1 <;> simp; done)
        | (exfalso
           have hb := a_3.trans a_4.symm
           revert hq hb
           cases y2 <;> cases y3 <;> simp; done)
       )
    | omega
    | contradiction
    | (exfalso; omega)
    | (exfalso; simp at hq; omega)
    | (exfalso; simp_all; done)
    | exact h2 _ (by omega)
    | (exfalso
       have hb := a_1.trans a_2.symm
       revert hq hb
       cases y0 <;> cases y1 <;> simp; done)
    | (exfalso
       have hb := a_3.trans a_4.symm
       revert hq hb
       cases y2 <;> cases y3 <;> simp; done)
end Go.Proofs.Ytfgeoglegebncaa.Fr
