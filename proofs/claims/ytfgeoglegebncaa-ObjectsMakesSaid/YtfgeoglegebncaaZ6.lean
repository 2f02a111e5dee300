/-
  Arenas: the reference: clear. No project text.
-/
import Derived.Test.YtfgeoglegebncaaZ5
namespace Go.Proofs.Ytfgeoglegebncaa.Fr
set_option maxRecDepth 100000
set_option maxHeartbeats 4000000
open Go.Rx
open Go.RowKit (Below)
set_option linter.unusedVariables false
def clKB : Con := fun vs bs K => match vs with
  | [vw, .int .i64 a, .int .i64 m] => parseQ [.u64] 0 vw bs fun nw fw j0 bs0 => bs0 = [] ∧ ((Ok64 nw fw) ∧ (¬ clE nw fw a m = 0)) ∧ (K (.tuple ⟨[.slice none 0 0, .int .i64 (clE nw fw a m)]⟩) [])
  | _ => False

def clKB_nA (a : Int) (m : Int) : Ann := fun k tt ss => bif Nat.beq k 8 then some [{ α := Nat, T := fun k => ⟨39, []⟩, S := fun _ => ⟨[], 0⟩, I := fun k => False, m := fun k => 0, ρ0 := [], ρ1 := [[]] }] else none
def clKB_rA (ew nw cw : Nat) (fw : RF) (a : Int) (m : Int) : Ann := fun k tt ss => bif Nat.beq k 8 then some [{ α := Nat, T := fun k => ⟨39, []⟩, S := fun _ => ⟨[], 0⟩, I := fun k => False, m := fun k => 0, ρ0 := [], ρ1 := [[]] }] else none
def clKG : Con := fun vs bs K => match vs with
  | [vw, .int .i64 a, .int .i64 m] => parseRQ [.u64] 0 vw bs fun nw fw j0 bs0 => bs0 = [] ∧ ((Ok64 nw fw) ∧ (clE nw fw a m = 0)) ∧ (∀ cp, nw ≤ cp → K (.tuple ⟨[rsl j0 0 (nw) cp, .int .i64 (0)]⟩) [.row false [.u64] 25 (nw) cp (zroF fw (Int.toNat a) (Int.toNat m))])
  | _ => False

def clKG_rA (ew nw cw : Nat) (fw : RF) (a : Int) (m : Int) : Ann := fun k tt ss => bif Nat.beq k 8 then some [{ α := Nat × Nat × RF, T := fun k => ⟨39, [(1, .int .i64 a), (2, .int .i64 m), (9, rsl 1 0 nw (k.2.1 + 1)), (10, .int .i64 (k.1 : Int))]⟩, S := fun k => ⟨[(1, .row false [.u64] 25 nw (k.2.1 + 1) k.2.2)], 2⟩, I := fun k => (k.1 ≤ m.toNat ∧ nw ≤ k.2.1 + 1) ∧ ∀ i, i < nw → k.2.2 i 0 = zroF fw a.toNat k.1 i 0, m := fun k => m.toNat - k.1, ρ0 := [(1, 2)], ρ1 := [[(1, 1)]] }] else none
def clKB_nV (a : Int) (m : Int) (K : Value → List Blk → Prop) : Prop := (t2 (eB ∧ ((True) ∧ (t2 (∃ y0 : Value, (∃ y1 : List Blk, ((Go.Rx.Found 0 (Value.tuple { toList := [vn, vi (3 : Int)] }) ({ h := [], next := (0 : Nat) }) (y0) (y1)) ∧ (K y0 y1))))))))
theorem clKB_nE (a : Int) (m : Int) (K : Value → List Blk → Prop) : clKB_nV a m K = bodyX (mk XK) (callN (mk XK) 6) (clKB_nA a m) Try.f33 [.slice none 0 0, .int .i64 a, .int .i64 m] (stOf []) (Fd 0 K) := by kernel_rfl
set_option tactic.hygienic false in
theorem clKB_nP (a : Int) (m : Int) (K : Value → List Blk → Prop)  (hU : Ok64 0 zF) (h1 : ¬ clE 0 zF a m = 0) (h : K (.tuple ⟨[.slice none 0 0, .int .i64 (clE 0 zF a m)]⟩) []) : clKB_nV a m K := by
  unfold clKB_nV
  have z0 := ar_cases 0 zF
  have z1 := cl_cases 0 zF a m
  repeat' (first | (with_reducible exact rfl) | (with_reducible exact trivial) | (with_reducible refine And.intro ?_ ?_) | (intro) | (with_reducible refine br_d (fun hq => ?_) (fun hq => ?_)) | (with_reducible refine br_nd (fun hq => ?_) (fun hq => ?_)) | (with_reducible refine br_intro (fun hq => ?_) (fun hq => ?_)) | (with_reducible refine if_both (fun hz => ?_) (fun hz => ?_)) | fail)

  all_goals first
    | (with_reducible assumption)
    | (refine (id ?_ : ∃ (v1 : Value) (news : List Blk), _)
       first
        | contradiction
        | exact fin0 (by kernel_rfl) (by kernel_rfl) h
        | exact fin0 (by kernel_rfl) (by kernel_rfl) (fin0i (by omega) h)
        | exact fin0 (by kernel_rfl) (by kernel_rfl) (fin0p (by omega) (by omega) h)
        | exact fin0 (by kernel_rfl) (by kernel_rfl) (fin0u (by omega) (by omega) h)
        | exact fin0 (by kernel_rfl) (by kernel_rfl) (fin0s (by omega) (by omega) (by omega) h)
        | exact fin0 (by kernel_rfl) (by kernel_rfl) (fin0n (by omega) h)
        | (exfalso; simp at hq; omega)
        | (exfalso; omega)
       )
    | omega
    | contradiction
    | exact fin0 (by kernel_rfl) (by kernel_rfl) h
    | exact fin0 (by kernel_rfl) (by kernel_rfl) (fin0i (by omega) h)
    | exact fin0 (by kernel_rfl) (by kernel_rfl) (fin0p (by omega) (by omega) h)
    | exact fin0 (by kernel_rfl) (by kernel_rfl) (fin0u (by omega) (by omega) h)
    | exact fin0 (by kernel_rfl) (by kernel_rfl) (fin0s (by omega) (by omega) (by omega) h)
    | exact fin0 (by kernel_rfl) (by kernel_rfl) (fin0n (by omega) h)
    | (exfalso; simp at hq; omega)
    | (exfalso; omega)
def clKB_rV (ew nw cw : Nat) (fw : RF) (a : Int) (m : Int) (K : Value → List Blk → Prop) : Prop := let q0 := ((0 : Nat) + nw ≤ nw); let q1 := (nw ≤ (100000 : Nat)); let q2 := (@Eq Nat ((0 : Nat)) ((0 : Nat))); let q3 := TS; let q4 := (T0 ∧ (∃ y0 : Value, (∃ y1 : List Blk, ((Go.Rx.Found 1 (Value.tuple { toList := [vn, vi (7 : Int)] }) ({ h := [((0 : Nat), Blk.row true [IntKind.u64] ew nw cw fw)], next := (1 : Nat) }) (y0) (y1)) ∧ (K y0 y1))))); let q5 := (T0 ∧ (if (@Eq Int (arE nw fw) ((0 : Int))) then (q3 ∧ (t4 (q3 ∧ (q3 ∧ (t4 (q0 ∧ (q1 ∧ (T0 ∧ (q2 ∧ (Go.Rx.br (decide ((0 : Nat) < nw)) (∀ y0 : Nat, ((nw ≤ y0) → ((∃ y1 : Nat, ((Go.Rx.Sub 1 [] ⟨39, []⟩ ⟨[], 3⟩ ({ n := (39 : Nat), m := [] }) ({ h := [], next := (0 : Nat) })) ∧ (False))) ∧ (∀ y1 : Nat, ((False) → (False)))))) ((∃ y0 : Nat, ((Go.Rx.Sub 1 [] ⟨39, []⟩ ⟨[], 2⟩ ({ n := (39 : Nat), m := [] }) ({ h := [], next := (0 : Nat) })) ∧ (False))) ∧ (∀ y0 : Nat, ((False) → (False)))))))))))))) else (∃ y0 : Value, (∃ y1 : List Blk, ((Go.Rx.Found 1 (Value.tuple { toList := [vn, vi (arE nw fw)] }) ({ h := [((0 : Nat), Blk.row true [IntKind.u64] ew nw cw fw)], next := (1 : Nat) }) (y0) (y1)) ∧ (K y0 y1)))))); (T0 ∧ (q0 ∧ ((q2 ∧ (q1 ∧ (nw ≤ cw))) ∧ (((@Eq (List IntKind) ([IntKind.u64]) ([IntKind.u64])) ∧ ((@Eq Nat (nw) (nw)) ∧ (@Eq Nat (cw) (cw)))) ∧ (eB ∧ ((True) ∧ (T0 ∧ (if (@Eq Int (arE nw fw) ((0 : Int))) then (t2 (if ((1 : Int) ≤ a) then (q3 ∧ (T0 ∧ (if (a ≤ (↑nw : Int)) then (T0 ∧ (if ((0 : Int) ≤ m) then (q3 ∧ (T0 ∧ ((((-9223372036854775808 : Int) ≤ (↑nw : Int) - a) ∧ ((↑nw : Int) - a ≤ (9223372036854775807 : Int))) ∧ (T0 ∧ (if (m ≤ (↑nw : Int) - a) then q5 else q4))))) else q4)) else q4))) else q4)) else q5))))))))
theorem clKB_rE (ew nw cw : Nat) (fw : RF) (a : Int) (m : Int) (K : Value → List Blk → Prop) : clKB_rV ew nw cw fw a m K = bodyX (mk XK) (callN (mk XK) 6) (clKB_rA ew nw cw fw a m) Try.f33 [rsl 0 0 nw cw, .int .i64 a, .int .i64 m] (stOf [.row true [.u64] ew nw cw fw]) (Fd 1 K) := by kernel_rfl
set_option tactic.hygienic false in
theorem clKB_rP (ew nw cw : Nat) (fw : RF) (a : Int) (m : Int) (K : Value → List Blk → Prop)  (hnw : nw ≤ 100000) (hcw : nw ≤ cw) (hU : Ok64 nw fw) (h1 : ¬ clE nw fw a m = 0) (h : K (.tuple ⟨[.slice none 0 0, .int .i64 (clE nw fw a m)]⟩) []) : clKB_rV ew nw cw fw a m K := by
  unfold clKB_rV
  conv => zeta
  have z0 := ar_cases nw fw
  have z1 := cl_cases nw fw a m
  repeat' (first | (with_reducible exact rfl) | (with_reducible exact trivial) | (with_reducible refine And.intro ?_ ?_) | (intro) | (with_reducible refine br_d (fun hq => ?_) (fun hq => ?_)) | (with_reducible refine br_nd (fun hq => ?_) (fun hq => ?_)) | (with_reducible refine br_intro (fun hq => ?_) (fun hq => ?_)) | (with_reducible refine if_both (fun hz => ?_) (fun hz => ?_)) | fail)

  all_goals first
    | (with_reducible assumption)
    | (refine (id ?_ : ∃ (v1 : Value) (news : List Blk), _)
       first
        | contradiction
        | exact fin0 (by kernel_rfl) (by kernel_rfl) h
        | exact fin0 (by kernel_rfl) (by kernel_rfl) (fin0i (by omega) h)
        | exact fin0 (by kernel_rfl) (by kernel_rfl) (fin0p (by omega) (by omega) h)
        | exact fin0 (by kernel_rfl) (by kernel_rfl) (fin0u (by omega) (by omega) h)
        | exact fin0 (by kernel_rfl) (by kernel_rfl) (fin0s (by omega) (by omega) (by omega) h)
        | exact fin0 (by kernel_rfl) (by kernel_rfl) (fin0n (by omega) h)
        | (exfalso; simp at hq; omega)
        | (exfalso; omega)
       )
    | omega
    | contradiction
    | exact fin0 (by kernel_rfl) (by kernel_rfl) h
    | exact fin0 (by kernel_rfl) (by kernel_rfl) (fin0i (by omega) h)
    | exact fin0 (by kernel_rfl) (by kernel_rfl) (fin0p (by omega) (by omega) h)
    | exact fin0 (by kernel_rfl) (by kernel_rfl) (fin0u (by omega) (by omega) h)
    | exact fin0 (by kernel_rfl) (by kernel_rfl) (fin0s (by omega) (by omega) (by omega) h)
    | exact fin0 (by kernel_rfl) (by kernel_rfl) (fin0n (by omega) h)
    | (exfalso; simp at hq; omega)
    | (exfalso; omega)
theorem clKB_ok : BodyOk (mk XK) 6 Try.f33 clKB := by
  intro vs bs K hh hro
  clear hro
  unfold clKB at hh
  split at hh
  · rename_i vw a m
    rcases parseQ_inv hh with ⟨rfl, hh0⟩ | ⟨ew, nw, cw, fw, btw, rfl, hnw, hcw, rfl, hh0⟩ <;> clear hh
    · obtain ⟨rfl, ⟨hU, h1⟩, hc⟩ := hh0
      exact ⟨_, _, cast (clKB_nE  a m K) (clKB_nP  a m K  hU h1 hc)⟩
    · obtain ⟨rfl, ⟨hU, h1⟩, hc⟩ := hh0
      exact ⟨_, _, cast (clKB_rE ew nw cw fw a m K) (clKB_rP ew nw cw fw a m K hnw hcw hU h1 hc)⟩
  · exact hh.elim
theorem clKB_told : Told 33 (specOf clKB) := told (X := XK) XK_told (by kernel_rfl) (by kernel_rfl) (by kernel_rfl) clKB_ok
def clKG_rV (ew nw cw : Nat) (fw : RF) (a : Int) (m : Int) (K : Value → List Blk → Prop) : Prop := let q0 := ((0 : Nat) + nw ≤ nw); let q1 := (nw ≤ (100000 : Nat)); let q2 := ((1 : Nat), (1 : Nat)); let q3 := ((1 : Nat), (2 : Nat)); let q4 := (9223372036854775807 : Int); let q5 := (1, vi a); let q6 := (2, vi m); let q7 := (-9223372036854775808 : Int); let q8 := (@Eq Nat ((0 : Nat)) ((0 : Nat))); let q9 := ((1 : Nat), vi a); let q10 := ((2 : Nat), vi m); let q11 := (10, vi (0 : Int)); let q12 := TS; let q13 := (q12 ∧ (@Eq Nat ((1 : Nat)) ((1 : Nat)))); let q14 := (T0 ∧ (∃ y0 : Value, (∃ y1 : List Blk, ((Go.Rx.Found 1 (Value.tuple { toList := [vn, vi (7 : Int)] }) ({ h := [((0 : Nat), Blk.row true [IntKind.u64] ew nw cw fw)], next := (1 : Nat) }) (y0) (y1)) ∧ (K y0 y1))))); let q15 := (T0 ∧ (if (@Eq Int (arE nw fw) ((0 : Int))) then (q12 ∧ (t4 (q12 ∧ (q12 ∧ (t4 (q0 ∧ (q1 ∧ (T0 ∧ (q8 ∧ (Go.Rx.br (decide ((0 : Nat) < nw)) (∀ y0 : Nat, let q28 := (y0 - (1 : Nat) + (1 : Nat)); ((nw ≤ y0) → ((∃ y1 : Nat × Nat × RF, let q27 := (Prod.fst (Prod.snd y1) + (1 : Nat)); ((Go.Rx.Sub 1 [q3] ⟨39, [q11, (9, rsl (2 : Nat) (0 : Nat) nw q28), q5, q6]⟩ ⟨[(2, Blk.row false [IntKind.u64] (25 : Nat) nw q28 (appF (fun x x_1 ↦ (0 : Int)) (0 : Nat) fw (0 : Nat)))], 3⟩ ({ n := (39 : Nat), m := [q9, q10, ((9 : Nat), rsl (1 : Nat) (0 : Nat) nw q27), ((10 : Nat), vi (↑(Prod.fst y1) : Int))] }) ({ h := [((1 : Nat), Blk.row false [IntKind.u64] (25 : Nat) nw q27 (Prod.snd (Prod.snd y1)))], next := (2 : Nat) })) ∧ (((Prod.fst y1 ≤ Int.toNat m) ∧ (nw ≤ Prod.fst (Prod.snd y1) + (1 : Nat))) ∧ (∀ y2 : Nat, ((y2 < nw) → (@Eq Int (Prod.snd (Prod.snd y1) y2 (0 : Nat)) (zroF fw (Int.toNat a) (Prod.fst y1) y2 (0 : Nat)))))))) ∧ (∀ y1 : Nat × Nat × RF, let q22 := (↑(Prod.fst y1) : Int); let q23 := (Prod.snd (Prod.snd y1)); let q24 := (a + q22); let q25 := (Prod.fst (Prod.snd y1) + (1 : Nat)); ((((Prod.fst y1 ≤ Int.toNat m) ∧ (nw ≤ Prod.fst (Prod.snd y1) + (1 : Nat))) ∧ (∀ y2 : Nat, ((y2 < nw) → (@Eq Int (Prod.snd (Prod.snd y1) y2 (0 : Nat)) (zroF fw (Int.toNat a) (Prod.fst y1) y2 (0 : Nat)))))) → (T0 ∧ (if (q22 < m) then (T0 ∧ (((q7 ≤ a + q22) ∧ (a + q22 ≤ q4)) ∧ (q13 ∧ ((((0 : Int) ≤ a + q22) ∧ (a + q22 < (↑nw : Int))) ∧ ((false = false) ∧ ((Int.toNat q24 < nw) ∧ (t3 (((q7 ≤ q22 + (1 : Int)) ∧ (q22 + (1 : Int) ≤ q4)) ∧ (∃ y2 : Nat × Nat × RF, let q26 := (Prod.fst (Prod.snd y2) + (1 : Nat)); ((Go.Rx.Sub 1 [q2] ⟨39, [(10, vi (q22 + (1 : Int))), q5, q6, (9, rsl (1 : Nat) (0 : Nat) nw q25)]⟩ ⟨[(1, Blk.row false [IntKind.u64] (25 : Nat) nw q25 (putF q23 (Int.toNat q24) (0 : Nat) (0 : Int)))], 2⟩ ({ n := (39 : Nat), m := [q9, q10, ((9 : Nat), rsl (1 : Nat) (0 : Nat) nw q26), ((10 : Nat), vi (↑(Prod.fst y2) : Int))] }) ({ h := [((1 : Nat), Blk.row false [IntKind.u64] (25 : Nat) nw q26 (Prod.snd (Prod.snd y2)))], next := (2 : Nat) })) ∧ ((((Prod.fst y2 ≤ Int.toNat m) ∧ (nw ≤ Prod.fst (Prod.snd y2) + (1 : Nat))) ∧ (∀ y3 : Nat, ((y3 < nw) → (@Eq Int (Prod.snd (Prod.snd y2) y3 (0 : Nat)) (zroF fw (Int.toNat a) (Prod.fst y2) y3 (0 : Nat)))))) ∧ (Int.toNat m - Prod.fst y2 < Int.toNat m - Prod.fst y1)))))))))))) else (∃ y2 : Value, (∃ y3 : List Blk, ((Go.Rx.Found 1 (Value.tuple { toList := [rsl (1 : Nat) (0 : Nat) nw q25, vi (0 : Int)] }) ({ h := [((1 : Nat), Blk.row false [IntKind.u64] (25 : Nat) nw q25 q23)], next := (2 : Nat) }) (y2) (y3)) ∧ (K y2 y3))))))))))) ((∃ y0 : Nat × Nat × RF, let q21 := (Prod.fst (Prod.snd y0) + (1 : Nat)); ((Go.Rx.Sub 1 [q3] ⟨39, [q11, (9, rsl (1 : Nat) (0 : Nat) (0 : Nat) (0 : Nat)), q5, q6]⟩ ⟨[], 2⟩ ({ n := (39 : Nat), m := [q9, q10, ((9 : Nat), rsl (1 : Nat) (0 : Nat) nw q21), ((10 : Nat), vi (↑(Prod.fst y0) : Int))] }) ({ h := [((1 : Nat), Blk.row false [IntKind.u64] (25 : Nat) nw q21 (Prod.snd (Prod.snd y0)))], next := (2 : Nat) })) ∧ (((Prod.fst y0 ≤ Int.toNat m) ∧ (nw ≤ Prod.fst (Prod.snd y0) + (1 : Nat))) ∧ (∀ y1 : Nat, ((y1 < nw) → (@Eq Int (Prod.snd (Prod.snd y0) y1 (0 : Nat)) (zroF fw (Int.toNat a) (Prod.fst y0) y1 (0 : Nat)))))))) ∧ (∀ y0 : Nat × Nat × RF, let q16 := (↑(Prod.fst y0) : Int); let q17 := (Prod.snd (Prod.snd y0)); let q18 := (a + q16); let q19 := (Prod.fst (Prod.snd y0) + (1 : Nat)); ((((Prod.fst y0 ≤ Int.toNat m) ∧ (nw ≤ Prod.fst (Prod.snd y0) + (1 : Nat))) ∧ (∀ y1 : Nat, ((y1 < nw) → (@Eq Int (Prod.snd (Prod.snd y0) y1 (0 : Nat)) (zroF fw (Int.toNat a) (Prod.fst y0) y1 (0 : Nat)))))) → (T0 ∧ (if (q16 < m) then (T0 ∧ (((q7 ≤ a + q16) ∧ (a + q16 ≤ q4)) ∧ (q13 ∧ ((((0 : Int) ≤ a + q16) ∧ (a + q16 < (↑nw : Int))) ∧ ((false = false) ∧ ((Int.toNat q18 < nw) ∧ (t3 (((q7 ≤ q16 + (1 : Int)) ∧ (q16 + (1 : Int) ≤ q4)) ∧ (∃ y1 : Nat × Nat × RF, let q20 := (Prod.fst (Prod.snd y1) + (1 : Nat)); ((Go.Rx.Sub 1 [q2] ⟨39, [(10, vi (q16 + (1 : Int))), q5, q6, (9, rsl (1 : Nat) (0 : Nat) nw q19)]⟩ ⟨[(1, Blk.row false [IntKind.u64] (25 : Nat) nw q19 (putF q17 (Int.toNat q18) (0 : Nat) (0 : Int)))], 2⟩ ({ n := (39 : Nat), m := [q9, q10, ((9 : Nat), rsl (1 : Nat) (0 : Nat) nw q20), ((10 : Nat), vi (↑(Prod.fst y1) : Int))] }) ({ h := [((1 : Nat), Blk.row false [IntKind.u64] (25 : Nat) nw q20 (Prod.snd (Prod.snd y1)))], next := (2 : Nat) })) ∧ ((((Prod.fst y1 ≤ Int.toNat m) ∧ (nw ≤ Prod.fst (Prod.snd y1) + (1 : Nat))) ∧ (∀ y2 : Nat, ((y2 < nw) → (@Eq Int (Prod.snd (Prod.snd y1) y2 (0 : Nat)) (zroF fw (Int.toNat a) (Prod.fst y1) y2 (0 : Nat)))))) ∧ (Int.toNat m - Prod.fst y1 < Int.toNat m - Prod.fst y0)))))))))))) else (∃ y1 : Value, (∃ y2 : List Blk, ((Go.Rx.Found 1 (Value.tuple { toList := [rsl (1 : Nat) (0 : Nat) nw q19, vi (0 : Int)] }) ({ h := [((1 : Nat), Blk.row false [IntKind.u64] (25 : Nat) nw q19 q17)], next := (2 : Nat) }) (y1) (y2)) ∧ (K y1 y2))))))))))))))))))) else (∃ y0 : Value, (∃ y1 : List Blk, ((Go.Rx.Found 1 (Value.tuple { toList := [vn, vi (arE nw fw)] }) ({ h := [((0 : Nat), Blk.row true [IntKind.u64] ew nw cw fw)], next := (1 : Nat) }) (y0) (y1)) ∧ (K y0 y1)))))); (T0 ∧ (q0 ∧ ((q8 ∧ (q1 ∧ (nw ≤ cw))) ∧ (((@Eq (List IntKind) ([IntKind.u64]) ([IntKind.u64])) ∧ ((@Eq Nat (nw) (nw)) ∧ (@Eq Nat (cw) (cw)))) ∧ (eB ∧ ((True) ∧ (T0 ∧ (if (@Eq Int (arE nw fw) ((0 : Int))) then (t2 (if ((1 : Int) ≤ a) then (q12 ∧ (T0 ∧ (if (a ≤ (↑nw : Int)) then (T0 ∧ (if ((0 : Int) ≤ m) then (q12 ∧ (T0 ∧ (((q7 ≤ (↑nw : Int) - a) ∧ ((↑nw : Int) - a ≤ q4)) ∧ (T0 ∧ (if (m ≤ (↑nw : Int) - a) then q15 else q14))))) else q14)) else q14))) else q14)) else q15))))))))
theorem clKG_rE (ew nw cw : Nat) (fw : RF) (a : Int) (m : Int) (K : Value → List Blk → Prop) : clKG_rV ew nw cw fw a m K = bodyX (mk XK) (callN (mk XK) 6) (clKG_rA ew nw cw fw a m) Try.f33 [rsl 0 0 nw cw, .int .i64 a, .int .i64 m] (stOf [.row true [.u64] ew nw cw fw]) (Fd 1 K) := by kernel_rfl
set_option tactic.hygienic false in
theorem clKG_rP (ew nw cw : Nat) (fw : RF) (a : Int) (m : Int) (K : Value → List Blk → Prop)  (hnw : nw ≤ 100000) (hcw : nw ≤ cw) (hU : Ok64 nw fw) (h1 : clE nw fw a m = 0) (h : ∀ cp, nw ≤ cp → K (.tuple ⟨[rsl 1 0 (nw) cp, .int .i64 (0)]⟩) [.row false [.u64] 25 (nw) cp (zroF fw (Int.toNat a) (Int.toNat m))]) : clKG_rV ew nw cw fw a m K := by
  unfold clKG_rV
  conv => zeta
  have z0 := ar_cases nw fw
  have z1 := cl_cases nw fw a m
  repeat' (first | (with_reducible exact rfl) | (with_reducible exact trivial) | (with_reducible refine And.intro ?_ ?_) | (intro) | (with_reducible refine br_d (fun hq => ?_) (fun hq => ?_)) | (with_reducible refine br_nd (fun hq => ?_) (fun hq => ?_)) | (with_reducible refine br_intro (fun hq => ?_) (fun hq => ?_)) | (with_reducible refine if_both (fun hz => ?_) (fun hz => ?_)) | fail)
  all_goals try (rename Nat × Nat × RF => k; rename _ ∧ (∀ _ : Nat, _) => I; obtain ⟨k1, k2, k3⟩ := k; dsimp only at *; obtain ⟨⟨J1, J2⟩, I2⟩ := I)
  all_goals first
    | (with_reducible assumption)
    | (refine (id ?_ : ∃ (v1 : Value) (news : List Blk), _)
       first
        | contradiction
        | exact ⟨(0, y0 - 1, appF (fun _ _ => 0) 0 fw 0), (by (refine And.intro (And.intro rfl (And.intro rfl (And.intro rfl rfl))) ?_; (repeat' (first | exact trivial | exact rfl | exact fun _ _ _ _ => rfl | refine And.intro ?_ ?_ | omega | fail)); done)), ⟨by show 0 ≤ m.toNat; omega, by show nw ≤ y0 - 1 + 1; omega⟩, fun i hi => (zro0 i).symm⟩
        | exact ⟨(k1 + 1, k2, putF k3 (Int.toNat (a + (k1 : Int))) 0 0), (by (refine And.intro (And.intro rfl (And.intro rfl (And.intro rfl rfl))) ?_; (repeat' (first | exact trivial | exact rfl | exact fun _ _ _ _ => rfl | refine And.intro ?_ ?_ | omega | fail)); done)), ⟨⟨by show k1 + 1 ≤ m.toNat; omega, J2⟩, zroS I2 (by omega)⟩, by show m.toNat - (k1 + 1) < m.toNat - k1; omega⟩
        | (obtain rfl : k1 = m.toNat := (by omega)
           exact fin1t rfl (fun i j hi hj => (by obtain rfl : j = 0 := (by simp at hj; omega)
                                                 exact (I2 i hi).symm)) (by kernel_rfl) (by kernel_rfl) (h _ (by omega)))
        | (exfalso; omega)
        | (exfalso; simp at hq; omega)
       )
    | omega
    | contradiction
    | exact ⟨(0, y0 - 1, appF (fun _ _ => 0) 0 fw 0), (by (refine And.intro (And.intro rfl (And.intro rfl (And.intro rfl rfl))) ?_; (repeat' (first | exact trivial | exact rfl | exact fun _ _ _ _ => rfl | refine And.intro ?_ ?_ | omega | fail)); done)), ⟨by show 0 ≤ m.toNat; omega, by show nw ≤ y0 - 1 + 1; omega⟩, fun i hi => (zro0 i).symm⟩
    | exact ⟨(k1 + 1, k2, putF k3 (Int.toNat (a + (k1 : Int))) 0 0), (by (refine And.intro (And.intro rfl (And.intro rfl (And.intro rfl rfl))) ?_; (repeat' (first | exact trivial | exact rfl | exact fun _ _ _ _ => rfl | refine And.intro ?_ ?_ | omega | fail)); done)), ⟨⟨by show k1 + 1 ≤ m.toNat; omega, J2⟩, zroS I2 (by omega)⟩, by show m.toNat - (k1 + 1) < m.toNat - k1; omega⟩
    | (obtain rfl : k1 = m.toNat := (by omega)
       exact fin1t rfl (fun i j hi hj => (by obtain rfl : j = 0 := (by simp at hj; omega)
                                             exact (I2 i hi).symm)) (by kernel_rfl) (by kernel_rfl) (h _ (by omega)))
    | (exfalso; omega)
    | (exfalso; simp at hq; omega)
theorem clKG_ok : BodyOk (mk XK) 6 Try.f33 clKG := by
  intro vs bs K hh hro
  clear hro
  unfold clKG at hh
  split at hh
  · rename_i vw a m
    obtain ⟨ew, nw, cw, fw, btw, rfl, hnw, hcw, rfl, hh0⟩ := parseRQ_inv hh
    obtain ⟨rfl, ⟨hU, h1⟩, hc⟩ := hh0
    exact ⟨_, _, cast (clKG_rE ew nw cw fw a m K) (clKG_rP ew nw cw fw a m K hnw hcw hU h1 hc)⟩
  · exact hh.elim
theorem clKG_told : Told 33 (specOf clKG) := told (X := XK) XK_told (by kernel_rfl) (by kernel_rfl) (by kernel_rfl) clKG_ok
end Go.Proofs.Ytfgeoglegebncaa.Fr
namespace Go.Proofs.Ytfgeoglegebncaa.Fr
set_option maxRecDepth 100000
set_option maxHeartbeats 4000000
open Go.Rx
open Go.RowKit (Below)
set_option linter.unusedVariables false
@[reducible] def XMB : List (Nat × Rx.Spec) := [(25, specOf arK), (91, specOf hdK), (65, specOf hkN), (33, specOf clKB)]
theorem XMB_told : ∀ p ∈ XMB, Told p.1 p.2 := by
  intro p hp
  simp only [List.mem_cons, List.not_mem_nil, or_false] at hp
  rcases hp with rfl | rfl | rfl | rfl
  · exact arK_told
  · exact hdK_told
  · exact hkN_told
  · exact clKB_told
@[reducible] def XMG : List (Nat × Rx.Spec) := [(25, specOf arK), (91, specOf hdK), (65, specOf hkN), (33, specOf clKG), (92, specOf hkP), (29, specOf stKG)]
theorem XMG_told : ∀ p ∈ XMG, Told p.1 p.2 := by
  intro p hp
  simp only [List.mem_cons, List.not_mem_nil, or_false] at hp
  rcases hp with rfl | rfl | rfl | rfl | rfl | rfl
  · exact arK_told
  · exact hdK_told
  · exact hkN_told
  · exact clKG_told
  · exact hkP_told
  · exact stKG_told
def mkKB : Con := fun vs bs K => match vs with
  | [vw, .int .i64 a, .agg ⟨[.int .i64 p, .int .i64 q]⟩] => parseQ [.u64] 0 vw bs fun nw fw j0 bs0 => bs0 = [] ∧ ((Ok64 nw fw) ∧ (¬ mkE nw fw a p q = 0)) ∧ (K (.tuple ⟨[.slice none 0 0, .int .i64 (mkE nw fw a p q)]⟩) [])
  | _ => False

def mkKB_nA (a : Int) (p : Int) (q : Int) : Ann := fun _ _ _ => none
def mkKB_rA (ew nw cw : Nat) (fw : RF) (a : Int) (p : Int) (q : Int) : Ann := fun _ _ _ => none
def mkKG : Con := fun vs bs K => match vs with
  | [vw, .int .i64 a, .agg ⟨[.int .i64 p, .int .i64 q]⟩] => parseRQ [.u64] 0 vw bs fun nw fw j0 bs0 => bs0 = [] ∧ ((Ok64 nw fw) ∧ (mkE nw fw a p q = 0)) ∧ (∀ cp, nw ≤ cp → K (.tuple ⟨[rsl j0 0 (nw) cp, .int .i64 (0)]⟩) [.row false [.u64] 25 (nw) cp (mkF fw (Int.toNat a) (Int.toNat (1 + p + q)) (1 + 256 * p + 65536 * q))])
  | _ => False

def mkKG_rA (ew nw cw : Nat) (fw : RF) (a : Int) (p : Int) (q : Int) : Ann := fun _ _ _ => none
def mkKB_nV (a : Int) (p : Int) (q : Int) (K : Value → List Blk → Prop) : Prop := (t2 (eB ∧ ((True) ∧ (t2 (∃ y0 : Value, (∃ y1 : List Blk, ((Go.Rx.Found 0 (Value.tuple { toList := [vn, vi (3 : Int)] }) ({ h := [((0 : Nat), Blk.cells [vi p, vi q] (60 : Nat))], next := (1 : Nat) }) (y0) (y1)) ∧ (K y0 y1))))))))
theorem mkKB_nE (a : Int) (p : Int) (q : Int) (K : Value → List Blk → Prop) : mkKB_nV a p q K = bodyX (mk XMB) (callN (mk XMB) 6) (mkKB_nA a p q) Try.f45 [.slice none 0 0, .int .i64 a, .agg ⟨[.int .i64 p, .int .i64 q]⟩] (stOf []) (Fd 0 K) := by kernel_rfl
set_option tactic.hygienic false in
theorem mkKB_nP (a : Int) (p : Int) (q : Int) (K : Value → List Blk → Prop)  (hU : Ok64 0 zF) (h1 : ¬ mkE 0 zF a p q = 0) (h : K (.tuple ⟨[.slice none 0 0, .int .i64 (mkE 0 zF a p q)]⟩) []) : mkKB_nV a p q K := by
  unfold mkKB_nV
  have z0 := ar_cases 0 zF
  have z1 := mk_cases 0 zF a p q
  have z2 := sze_cases p q
  have z3 := pkv_cases p q
  have z4 := szn_cases p q
  have z5 := cl_cases 0 zF a (szn p q)
  repeat' (first | (with_reducible exact rfl) | (with_reducible exact trivial) | (with_reducible refine And.intro ?_ ?_) | (intro) | (with_reducible refine br_d (fun hq => ?_) (fun hq => ?_)) | (with_reducible refine br_nd (fun hq => ?_) (fun hq => ?_)) | (with_reducible refine br_intro (fun hq => ?_) (fun hq => ?_)) | (with_reducible refine if_both (fun hz => ?_) (fun hz => ?_)) | fail)

  all_goals first
    | (with_reducible assumption)
    | (refine (id ?_ : ∃ (v1 : Value) (news : List Blk), _)
       first
        | contradiction
        | exact fin0 (by kernel_rfl) (by kernel_rfl) h
        | exact fin0 (by kernel_rfl) (by kernel_rfl) (fin0i (by omega) h)
        | exact fin0 (by kernel_rfl) (by kernel_rfl) (fin0p (by omega) (by omega) h)
        | exact fin0 (by kernel_rfl) (by kernel_rfl) (fin0u (by omega) (by omega) h)
        | exact fin0 (by kernel_rfl) (by kernel_rfl) (fin0s (by omega) (by omega) (by omega) h)
        | exact fin0 (by kernel_rfl) (by kernel_rfl) (fin0n (by omega) h)
        | (exfalso; simp at hq; omega)
        | (exfalso; omega)
       )
    | omega
    | contradiction
    | exact fin0 (by kernel_rfl) (by kernel_rfl) h
    | exact fin0 (by kernel_rfl) (by kernel_rfl) (fin0i (by omega) h)
    | exact fin0 (by kernel_rfl) (by kernel_rfl) (fin0p (by omega) (by omega) h)
    | exact fin0 (by kernel_rfl) (by kernel_rfl) (fin0u (by omega) (by omega) h)
    | exact fin0 (by kernel_rfl) (by kernel_rfl) (fin0s (by omega) (by omega) (by omega) h)
    | exact fin0 (by kernel_rfl) (by kernel_rfl) (fin0n (by omega) h)
    | (exfalso; simp at hq; omega)
    | (exfalso; omega)
def mkKB_rV (ew nw cw : Nat) (fw : RF) (a : Int) (p : Int) (q : Int) (K : Value → List Blk → Prop) : Prop := let q0 := ((0 : Nat) + nw ≤ nw); let q1 := (clE nw fw a (szn p q)); let q2 := eB; let q3 := ((0 : Nat), Blk.row true [IntKind.u64] ew nw cw fw); let q4 := ((@Eq Nat ((0 : Nat)) ((0 : Nat))) ∧ ((nw ≤ (100000 : Nat)) ∧ (nw ≤ cw))); let q5 := ((1 : Nat), Blk.cells [vi p, vi q] (60 : Nat)); let q6 := ((@Eq (List IntKind) ([IntKind.u64]) ([IntKind.u64])) ∧ ((@Eq Nat (nw) (nw)) ∧ (@Eq Nat (cw) (cw)))); let q7 := (t2 (q2 ∧ ((True) ∧ (t2 (∃ y0 : Value, (∃ y1 : List Blk, ((Go.Rx.Found 1 (Value.tuple { toList := [vn, vi (3 : Int)] }) ({ h := [((2 : Nat), Blk.cells [vi p, vi q] (60 : Nat)), q5, q3], next := (3 : Nat) }) (y0) (y1)) ∧ (K y0 y1)))))))); let q8 := (t3 (q2 ∧ ((True) ∧ (q0 ∧ (t2 (q4 ∧ (q6 ∧ (q2 ∧ (((Ok64 nw fw) ∧ (¬clE nw fw a (szn p q) = (0 : Int))) ∧ (T0 ∧ (if (@Eq Int q1 ((0 : Int))) then (t5 (q2 ∧ ((True) ∧ (T0 ∧ (if (@Eq Int (sze p q) ((0 : Int))) then (t6 q7) else q7))))) else (∃ y0 : Value, (∃ y1 : List Blk, ((Go.Rx.Found 1 (Value.tuple { toList := [vn, vi q1] }) ({ h := [q5, q3], next := (2 : Nat) }) (y0) (y1)) ∧ (K y0 y1))))))))))))))); (T0 ∧ (q0 ∧ (q4 ∧ (q6 ∧ (q2 ∧ ((True) ∧ (T0 ∧ (if (@Eq Int (arE nw fw) ((0 : Int))) then (t3 (q2 ∧ ((True) ∧ (T0 ∧ (if (@Eq Int (sze p q) ((0 : Int))) then q8 else (∃ y0 : Value, (∃ y1 : List Blk, ((Go.Rx.Found 1 (Value.tuple { toList := [vn, vi (sze p q)] }) ({ h := [q5, q3], next := (2 : Nat) }) (y0) (y1)) ∧ (K y0 y1))))))))) else (T0 ∧ (if (@Eq Int (arE nw fw) ((0 : Int))) then q8 else (∃ y0 : Value, (∃ y1 : List Blk, ((Go.Rx.Found 1 (Value.tuple { toList := [vn, vi (arE nw fw)] }) ({ h := [q5, q3], next := (2 : Nat) }) (y0) (y1)) ∧ (K y0 y1))))))))))))))
theorem mkKB_rE (ew nw cw : Nat) (fw : RF) (a : Int) (p : Int) (q : Int) (K : Value → List Blk → Prop) : mkKB_rV ew nw cw fw a p q K = bodyX (mk XMB) (callN (mk XMB) 6) (mkKB_rA ew nw cw fw a p q) Try.f45 [rsl 0 0 nw cw, .int .i64 a, .agg ⟨[.int .i64 p, .int .i64 q]⟩] (stOf [.row true [.u64] ew nw cw fw]) (Fd 1 K) := by kernel_rfl
set_option tactic.hygienic false in
theorem mkKB_rP (ew nw cw : Nat) (fw : RF) (a : Int) (p : Int) (q : Int) (K : Value → List Blk → Prop)  (hnw : nw ≤ 100000) (hcw : nw ≤ cw) (hU : Ok64 nw fw) (h1 : ¬ mkE nw fw a p q = 0) (h : K (.tuple ⟨[.slice none 0 0, .int .i64 (mkE nw fw a p q)]⟩) []) : mkKB_rV ew nw cw fw a p q K := by
  unfold mkKB_rV
  conv => zeta
  have z0 := ar_cases nw fw
  have z1 := mk_cases nw fw a p q
  have z2 := sze_cases p q
  have z3 := pkv_cases p q
  have z4 := szn_cases p q
  have z5 := cl_cases nw fw a (szn p q)
  repeat' (first | (with_reducible exact rfl) | (with_reducible exact trivial) | (with_reducible refine And.intro ?_ ?_) | (intro) | (with_reducible refine br_d (fun hq => ?_) (fun hq => ?_)) | (with_reducible refine br_nd (fun hq => ?_) (fun hq => ?_)) | (with_reducible refine br_intro (fun hq => ?_) (fun hq => ?_)) | (with_reducible refine if_both (fun hz => ?_) (fun hz => ?_)) | fail)

  all_goals first
    | (with_reducible assumption)
    | (refine (id ?_ : ∃ (v1 : Value) (news : List Blk), _)
       first
        | contradiction
        | exact fin0 (by kernel_rfl) (by kernel_rfl) h
        | exact fin0 (by kernel_rfl) (by kernel_rfl) (fin0i (by omega) h)
        | exact fin0 (by kernel_rfl) (by kernel_rfl) (fin0p (by omega) (by omega) h)
        | exact fin0 (by kernel_rfl) (by kernel_rfl) (fin0u (by omega) (by omega) h)
        | exact fin0 (by kernel_rfl) (by kernel_rfl) (fin0s (by omega) (by omega) (by omega) h)
        | exact fin0 (by kernel_rfl) (by kernel_rfl) (fin0n (by omega) h)
        | (exfalso; simp at hq; omega)
        | (exfalso; omega)
       )
    | omega
    | contradiction
    | exact fin0 (by kernel_rfl) (by kernel_rfl) h
    | exact fin0 (by kernel_rfl) (by kernel_rfl) (fin0i (by omega) h)
    | exact fin0 (by kernel_rfl) (by kernel_rfl) (fin0p (by omega) (by omega) h)
    | exact fin0 (by kernel_rfl) (by kernel_rfl) (fin0u (by omega) (by omega) h)
    | exact fin0 (by kernel_rfl) (by kernel_rfl) (fin0s (by omega) (by omega) (by omega) h)
    | exact fin0 (by kernel_rfl) (by kernel_rfl) (fin0n (by omega) h)
    | (exfalso; simp at hq; omega)
    | (exfalso; omega)
theorem mkKB_ok : BodyOk (mk XMB) 6 Try.f45 mkKB := by
  intro vs bs K hh hro
  clear hro
  unfold mkKB at hh
  split at hh
  · rename_i vw a p q
    rcases parseQ_inv hh with ⟨rfl, hh0⟩ | ⟨ew, nw, cw, fw, btw, rfl, hnw, hcw, rfl, hh0⟩ <;> clear hh
    · obtain ⟨rfl, ⟨hU, h1⟩, hc⟩ := hh0
      exact ⟨_, _, cast (mkKB_nE  a p q K) (mkKB_nP  a p q K  hU h1 hc)⟩
    · obtain ⟨rfl, ⟨hU, h1⟩, hc⟩ := hh0
      exact ⟨_, _, cast (mkKB_rE ew nw cw fw a p q K) (mkKB_rP ew nw cw fw a p q K hnw hcw hU h1 hc)⟩
  · exact hh.elim
theorem mkKB_told : Told 45 (specOf mkKB) := told (X := XMB) XMB_told (by kernel_rfl) (by kernel_rfl) (by kernel_rfl) mkKB_ok
def mkKG_rV (ew nw cw : Nat) (fw : RF) (a : Int) (p : Int) (q : Int) (K : Value → List Blk → Prop) : Prop := let q0 := ((0 : Nat) + nw ≤ nw); let q1 := (nw ≤ (100000 : Nat)); let q2 := eB; let q3 := (@Eq Nat ((0 : Nat)) ((0 : Nat))); let q4 := (zroF fw (Int.toNat a) (Int.toNat (szn p q))); let q5 := ((0 : Nat), Blk.row true [IntKind.u64] ew nw cw fw); let q6 := (@Eq (List IntKind) ([IntKind.u64]) ([IntKind.u64])); let q7 := (q3 ∧ (q1 ∧ (nw ≤ cw))); let q8 := ((1 : Nat), Blk.cells [vi p, vi q] (60 : Nat)); let q9 := (q6 ∧ ((@Eq Nat (nw) (nw)) ∧ (@Eq Nat (cw) (cw)))); let q10 := (t3 (q2 ∧ ((True) ∧ (q0 ∧ (t2 (q7 ∧ (q9 ∧ (q2 ∧ (((Ok64 nw fw) ∧ (@Eq Int (clE nw fw a (szn p q)) ((0 : Int)))) ∧ (∀ y0 : Nat, ((nw ≤ y0) → (t4 (q2 ∧ ((True) ∧ (q0 ∧ (t2 ((q3 ∧ (q1 ∧ (nw ≤ y0))) ∧ ((q6 ∧ ((@Eq Nat (nw) (nw)) ∧ (@Eq Nat (y0) (y0)))) ∧ (q2 ∧ (((Ok64 nw q4) ∧ (@Eq Int (gtE nw q4 a) ((0 : Int)))) ∧ (∀ y1 : Nat, ((nw ≤ y1) → (∃ y2 : Value, (∃ y3 : List Blk, ((Go.Rx.Found 1 (Value.tuple { toList := [rsl (3 : Nat) (0 : Nat) nw y1, vi (0 : Int)] }) ({ h := [((3 : Nat), Blk.row false [IntKind.u64] (25 : Nat) nw y1 (setF q4 (Int.toNat a) (pkv p q))), ((2 : Nat), Blk.row false [IntKind.u64] (25 : Nat) nw y0 q4), q8, q5], next := (4 : Nat) }) (y2) (y3)) ∧ (K y2 y3)))))))))))))))))))))))))); (T0 ∧ (q0 ∧ (q7 ∧ (q9 ∧ (q2 ∧ ((True) ∧ (T0 ∧ (if (@Eq Int (arE nw fw) ((0 : Int))) then (t3 (q2 ∧ ((True) ∧ (T0 ∧ (if (@Eq Int (sze p q) ((0 : Int))) then q10 else (∃ y0 : Value, (∃ y1 : List Blk, ((Go.Rx.Found 1 (Value.tuple { toList := [vn, vi (sze p q)] }) ({ h := [q8, q5], next := (2 : Nat) }) (y0) (y1)) ∧ (K y0 y1))))))))) else (T0 ∧ (if (@Eq Int (arE nw fw) ((0 : Int))) then q10 else (∃ y0 : Value, (∃ y1 : List Blk, ((Go.Rx.Found 1 (Value.tuple { toList := [vn, vi (arE nw fw)] }) ({ h := [q8, q5], next := (2 : Nat) }) (y0) (y1)) ∧ (K y0 y1))))))))))))))
theorem mkKG_rE (ew nw cw : Nat) (fw : RF) (a : Int) (p : Int) (q : Int) (K : Value → List Blk → Prop) : mkKG_rV ew nw cw fw a p q K = bodyX (mk XMG) (callN (mk XMG) 6) (mkKG_rA ew nw cw fw a p q) Try.f45 [rsl 0 0 nw cw, .int .i64 a, .agg ⟨[.int .i64 p, .int .i64 q]⟩] (stOf [.row true [.u64] ew nw cw fw]) (Fd 1 K) := by kernel_rfl
set_option tactic.hygienic false in
theorem mkKG_rP (ew nw cw : Nat) (fw : RF) (a : Int) (p : Int) (q : Int) (K : Value → List Blk → Prop)  (hnw : nw ≤ 100000) (hcw : nw ≤ cw) (hU : Ok64 nw fw) (h1 : mkE nw fw a p q = 0) (h : ∀ cp, nw ≤ cp → K (.tuple ⟨[rsl 1 0 (nw) cp, .int .i64 (0)]⟩) [.row false [.u64] 25 (nw) cp (mkF fw (Int.toNat a) (Int.toNat (1 + p + q)) (1 + 256 * p + 65536 * q))]) : mkKG_rV ew nw cw fw a p q K := by
  unfold mkKG_rV
  conv => zeta
  have z0 := ar_cases nw fw
  have z1 := mk_cases nw fw a p q
  have z2 := sze_cases p q
  have z3 := pkv_cases p q
  have z4 := szn_cases p q
  have z5 := cl_cases nw fw a (szn p q)
  repeat' (first | (with_reducible exact rfl) | (with_reducible exact trivial) | (with_reducible refine And.intro ?_ ?_) | (intro) | (with_reducible refine br_d (fun hq => ?_) (fun hq => ?_)) | (with_reducible refine br_nd (fun hq => ?_) (fun hq => ?_)) | (with_reducible refine br_intro (fun hq => ?_) (fun hq => ?_)) | (with_reducible refine if_both (fun hz => ?_) (fun hz => ?_)) | fail)

  all_goals first
    | (with_reducible assumption)
    | (refine (id ?_ : ∃ (v1 : Value) (news : List Blk), _)
       first
        | contradiction
        | (refine fin1t rfl ?_ (by kernel_rfl) (by kernel_rfl) (h _ (by omega)); (intro i j hi hj; obtain rfl : j = 0 := (by simp at hj; omega); (try unfold setF); (try unfold zroF); (try unfold mkF); (try unfold putF); (try unfold appF); (try unfold clrF); (try unfold setF); (try unfold zroF); (repeat' split) <;> first | rfl | omega | (exfalso; omega) | (simp_all; done) | (simp_all; omega)))
        | (exfalso; omega)
        | (exfalso; simp at hq; omega)
        | exact hU.zro
        | exact gt_zro (by omega) (by omega) (by omega)
       )
    | omega
    | contradiction
    | (refine fin1t rfl ?_ (by kernel_rfl) (by kernel_rfl) (h _ (by omega)); (intro i j hi hj; obtain rfl : j = 0 := (by simp at hj; omega); (try unfold setF); (try unfold zroF); (try unfold mkF); (try unfold putF); (try unfold appF); (try unfold clrF); (try unfold setF); (try unfold zroF); (repeat' split) <;> first | rfl | omega | (exfalso; omega) | (simp_all; done) | (simp_all; omega)))
    | (exfalso; omega)
    | (exfalso; simp at hq; omega)
    | exact hU.zro
    | exact gt_zro (by omega) (by omega) (by omega)
theorem mkKG_ok : BodyOk (mk XMG) 6 Try.f45 mkKG := by
  intro vs bs K hh hro
  clear hro
  unfold mkKG at hh
  split at hh
  · rename_i vw a p q
    obtain ⟨ew, nw, cw, fw, btw, rfl, hnw, hcw, rfl, hh0⟩ := parseRQ_inv hh
    obtain ⟨rfl, ⟨hU, h1⟩, hc⟩ := hh0
    exact ⟨_, _, cast (mkKG_rE ew nw cw fw a p q K) (mkKG_rP ew nw cw fw a p q K hnw hcw hU h1 hc)⟩
  · exact hh.elim
theorem mkKG_told : Told 45 (specOf mkKG) := told (X := XMG) XMG_told (by kernel_rfl) (by kernel_rfl) (by kernel_rfl) mkKG_ok
end Go.Proofs.Ytfgeoglegebncaa.Fr
namespace Go.Proofs.Ytfgeoglegebncaa.Fr
set_option maxRecDepth 100000
set_option maxHeartbeats 4000000
open Go.Rx
open Go.RowKit (Below)
set_option linter.unusedVariables false
def smK : Con := fun vs bs K => match vs with
  | [va, vb] => parseQ [.u64] 0 va bs fun na fa j0 bs0 => parseQ [.u64] j0 vb bs0 fun nb fb j1 bs1 => bs1 = [] ∧ ((na = nb) ∧ (∀ i, i < na → fa i 0 = fb i 0)) ∧ (K (.bool true) [])
  | _ => False

def smK_nnA  : Ann := fun k tt ss => bif Nat.beq k 4 then some [{ α := Nat, T := fun k => ⟨26, [(0, .slice none 0 0), (1, .slice none 0 0), (5, .int .i64 (k : Int))]⟩, S := fun _ => ⟨[], 0⟩, I := fun k => k ≤ 0 ∧ 0 ≤ k, m := fun k => 0 - k, ρ0 := [], ρ1 := [[]] }] else none
def smK_nrA (eb nb cb : Nat) (fb : RF) : Ann := fun k tt ss => bif Nat.beq k 4 then some [{ α := Nat, T := fun k => ⟨26, [(0, .slice none 0 0), (1, rsl 0 0 nb cb), (5, .int .i64 (k : Int))]⟩, S := fun _ => ⟨[(0, .row true [.u64] eb nb cb fb)], 1⟩, I := fun k => k ≤ 0 ∧ 0 ≤ k, m := fun k => 0 - k, ρ0 := [], ρ1 := [[]] }] else none
def smK_rnA (ea na ca : Nat) (fa : RF) : Ann := fun k tt ss => bif Nat.beq k 4 then some [{ α := Nat, T := fun k => ⟨26, [(0, rsl 0 0 na ca), (1, .slice none 0 0), (5, .int .i64 (k : Int))]⟩, S := fun _ => ⟨[(0, .row true [.u64] ea na ca fa)], 1⟩, I := fun k => k ≤ na ∧ 0 ≤ k, m := fun k => na - k, ρ0 := [], ρ1 := [[]] }] else none
def smK_rrA (ea na ca : Nat) (fa : RF) (eb nb cb : Nat) (fb : RF) : Ann := fun k tt ss => bif Nat.beq k 4 then some [{ α := Nat, T := fun k => ⟨26, [(0, rsl 0 0 na ca), (1, rsl 1 0 nb cb), (5, .int .i64 (k : Int))]⟩, S := fun _ => ⟨[(0, .row true [.u64] ea na ca fa), (1, .row true [.u64] eb nb cb fb)], 2⟩, I := fun k => k ≤ na ∧ 0 ≤ k, m := fun k => na - k, ρ0 := [], ρ1 := [[]] }] else none
def inK : Con := fun vs bs K => match vs with
  | [va, vb] => parse [.i64] 0 va bs fun na fa j0 bs0 => parse [.i64] j0 vb bs0 fun nb fb j1 bs1 => bs1 = [] ∧ ((na = nb) ∧ (∀ i, i < na → fa i 0 = fb i 0)) ∧ (K (.bool true) [])
  | _ => False

def inK_nnA  : Ann := fun k tt ss => bif Nat.beq k 4 then some [{ α := Nat, T := fun k => ⟨26, [(0, .slice none 0 0), (1, .slice none 0 0), (5, .int .i64 (k : Int))]⟩, S := fun _ => ⟨[], 0⟩, I := fun k => k ≤ 0 ∧ 0 ≤ k, m := fun k => 0 - k, ρ0 := [], ρ1 := [[]] }] else none
def inK_nrA (eb nb cb : Nat) (fb : RF) : Ann := fun k tt ss => bif Nat.beq k 4 then some [{ α := Nat, T := fun k => ⟨26, [(0, .slice none 0 0), (1, rsl 0 0 nb cb), (5, .int .i64 (k : Int))]⟩, S := fun _ => ⟨[(0, .row true [.i64] eb nb cb fb)], 1⟩, I := fun k => k ≤ 0 ∧ 0 ≤ k, m := fun k => 0 - k, ρ0 := [], ρ1 := [[]] }] else none
def inK_rnA (ea na ca : Nat) (fa : RF) : Ann := fun k tt ss => bif Nat.beq k 4 then some [{ α := Nat, T := fun k => ⟨26, [(0, rsl 0 0 na ca), (1, .slice none 0 0), (5, .int .i64 (k : Int))]⟩, S := fun _ => ⟨[(0, .row true [.i64] ea na ca fa)], 1⟩, I := fun k => k ≤ na ∧ 0 ≤ k, m := fun k => na - k, ρ0 := [], ρ1 := [[]] }] else none
def inK_rrA (ea na ca : Nat) (fa : RF) (eb nb cb : Nat) (fb : RF) : Ann := fun k tt ss => bif Nat.beq k 4 then some [{ α := Nat, T := fun k => ⟨26, [(0, rsl 0 0 na ca), (1, rsl 1 0 nb cb), (5, .int .i64 (k : Int))]⟩, S := fun _ => ⟨[(0, .row true [.i64] ea na ca fa), (1, .row true [.i64] eb nb cb fb)], 2⟩, I := fun k => k ≤ na ∧ 0 ≤ k, m := fun k => na - k, ρ0 := [], ρ1 := [[]] }] else none
def smK_nnV  (K : Value → List Blk → Prop) : Prop := let q0 := TS; (T0 ∧ (q0 ∧ (q0 ∧ (T0 ∧ ((∃ y0 : Nat, ((Go.Rx.Sub 0 [] ⟨26, [(5, vi (0 : Int)), (0, vn), (1, vn)]⟩ ⟨[], 0⟩ ({ n := (26 : Nat), m := [((0 : Nat), vn), ((1 : Nat), vn), ((5 : Nat), vi (↑y0 : Int))] }) ({ h := [], next := (0 : Nat) })) ∧ ((y0 ≤ (0 : Nat)) ∧ ((0 : Nat) ≤ y0)))) ∧ (∀ y0 : Nat, (((y0 ≤ (0 : Nat)) ∧ ((0 : Nat) ≤ y0)) → (q0 ∧ (T0 ∧ (∃ y1 : Value, (∃ y2 : List Blk, ((Go.Rx.Found 0 (Value.bool true) ({ h := [], next := (0 : Nat) }) (y1) (y2)) ∧ (K y1 y2)))))))))))))
theorem smK_nnE  (K : Value → List Blk → Prop) : smK_nnV  K = bodyX (mk XZ) (callN (mk XZ) 4) (smK_nnA ) Try.f23 [.slice none 0 0, .slice none 0 0] (stOf []) (Fd 0 K) := by kernel_rfl
set_option tactic.hygienic false in
theorem smK_nnP  (K : Value → List Blk → Prop)  (h1 : 0 = 0) (h2 : ∀ i, i < 0 → zF i 0 = zF i 0) (h : K (.bool true) []) : smK_nnV  K := by
  unfold smK_nnV
  conv => zeta

  repeat' (first | (with_reducible exact rfl) | (with_reducible exact trivial) | (with_reducible refine And.intro ?_ ?_) | (intro) | (with_reducible refine br_d (fun hq => ?_) (fun hq => ?_)) | (with_reducible refine br_nd (fun hq => ?_) (fun hq => ?_)) | (with_reducible refine br_intro (fun hq => ?_) (fun hq => ?_)) | (with_reducible refine if_both (fun hz => ?_) (fun hz => ?_)) | fail)

  all_goals first
    | omega
    | assumption
    | contradiction
    | exact ⟨0, (by (refine And.intro (And.intro rfl (And.intro rfl (And.intro rfl rfl))) ?_; (repeat' (first | exact trivial | exact rfl | exact fun _ _ _ _ => rfl | refine And.intro ?_ ?_ | omega | fail)); done)), by omega, by omega⟩
    | exact ⟨y0 + 1, (by (refine And.intro (And.intro rfl (And.intro rfl (And.intro rfl rfl))) ?_; (repeat' (first | exact trivial | exact rfl | exact fun _ _ _ _ => rfl | refine And.intro ?_ ?_ | omega | fail)); done)), ⟨by omega, by omega⟩, by omega⟩
    | exact fin0 (by kernel_rfl) (by kernel_rfl) (by first | exact h | simpa using h)
    | (exfalso; have q := h2 y0 (by omega); omega)
def smK_nrV (eb nb cb : Nat) (fb : RF) (K : Value → List Blk → Prop) : Prop := let q0 := TS; (T0 ∧ (q0 ∧ (q0 ∧ (T0 ∧ (if (@Eq Int ((0 : Int)) ((↑nb : Int))) then ((∃ y0 : Nat, ((Go.Rx.Sub 1 [] ⟨26, [(5, vi (0 : Int)), (0, vn), (1, rsl (0 : Nat) (0 : Nat) nb cb)]⟩ ⟨[(0, Blk.row true [IntKind.u64] eb nb cb fb)], 1⟩ ({ n := (26 : Nat), m := [((0 : Nat), vn), ((1 : Nat), rsl (0 : Nat) (0 : Nat) nb cb), ((5 : Nat), vi (↑y0 : Int))] }) ({ h := [((0 : Nat), Blk.row true [IntKind.u64] eb nb cb fb)], next := (1 : Nat) })) ∧ ((y0 ≤ (0 : Nat)) ∧ ((0 : Nat) ≤ y0)))) ∧ (∀ y0 : Nat, (((y0 ≤ (0 : Nat)) ∧ ((0 : Nat) ≤ y0)) → (q0 ∧ (T0 ∧ (∃ y1 : Value, (∃ y2 : List Blk, ((Go.Rx.Found 1 (Value.bool true) ({ h := [((0 : Nat), Blk.row true [IntKind.u64] eb nb cb fb)], next := (1 : Nat) }) (y1) (y2)) ∧ (K y1 y2))))))))) else (∃ y0 : Value, (∃ y1 : List Blk, ((Go.Rx.Found 1 (Value.bool false) ({ h := [((0 : Nat), Blk.row true [IntKind.u64] eb nb cb fb)], next := (1 : Nat) }) (y0) (y1)) ∧ (K y0 y1)))))))))
theorem smK_nrE (eb nb cb : Nat) (fb : RF) (K : Value → List Blk → Prop) : smK_nrV eb nb cb fb K = bodyX (mk XZ) (callN (mk XZ) 4) (smK_nrA eb nb cb fb) Try.f23 [.slice none 0 0, rsl 0 0 nb cb] (stOf [.row true [.u64] eb nb cb fb]) (Fd 1 K) := by kernel_rfl
set_option tactic.hygienic false in
theorem smK_nrP (eb nb cb : Nat) (fb : RF) (K : Value → List Blk → Prop)  (hnb : nb ≤ 100000) (hcb : nb ≤ cb) (h1 : 0 = nb) (h2 : ∀ i, i < 0 → zF i 0 = fb i 0) (h : K (.bool true) []) : smK_nrV eb nb cb fb K := by
  unfold smK_nrV
  conv => zeta

  repeat' (first | (with_reducible exact rfl) | (with_reducible exact trivial) | (with_reducible refine And.intro ?_ ?_) | (intro) | (with_reducible refine br_d (fun hq => ?_) (fun hq => ?_)) | (with_reducible refine br_nd (fun hq => ?_) (fun hq => ?_)) | (with_reducible refine br_intro (fun hq => ?_) (fun hq => ?_)) | (with_reducible refine if_both (fun hz => ?_) (fun hz => ?_)) | fail)

  all_goals first
    | omega
    | assumption
    | contradiction
    | exact ⟨0, (by (refine And.intro (And.intro rfl (And.intro rfl (And.intro rfl rfl))) ?_; (repeat' (first | exact trivial | exact rfl | exact fun _ _ _ _ => rfl | refine And.intro ?_ ?_ | omega | fail)); done)), by omega, by omega⟩
    | exact ⟨y0 + 1, (by (refine And.intro (And.intro rfl (And.intro rfl (And.intro rfl rfl))) ?_; (repeat' (first | exact trivial | exact rfl | exact fun _ _ _ _ => rfl | refine And.intro ?_ ?_ | omega | fail)); done)), ⟨by omega, by omega⟩, by omega⟩
    | exact fin0 (by kernel_rfl) (by kernel_rfl) (by first | exact h | simpa using h)
    | (exfalso; have q := h2 y0 (by omega); omega)
def smK_rnV (ea na ca : Nat) (fa : RF) (K : Value → List Blk → Prop) : Prop := let q0 := TS; (T0 ∧ (q0 ∧ (q0 ∧ (T0 ∧ (if (@Eq Int ((↑na : Int)) ((0 : Int))) then ((∃ y0 : Nat, ((Go.Rx.Sub 1 [] ⟨26, [(5, vi (0 : Int)), (0, rsl (0 : Nat) (0 : Nat) na ca), (1, vn)]⟩ ⟨[(0, Blk.row true [IntKind.u64] ea na ca fa)], 1⟩ ({ n := (26 : Nat), m := [((0 : Nat), rsl (0 : Nat) (0 : Nat) na ca), ((1 : Nat), vn), ((5 : Nat), vi (↑y0 : Int))] }) ({ h := [((0 : Nat), Blk.row true [IntKind.u64] ea na ca fa)], next := (1 : Nat) })) ∧ ((y0 ≤ na) ∧ ((0 : Nat) ≤ y0)))) ∧ (∀ y0 : Nat, (((y0 ≤ na) ∧ ((0 : Nat) ≤ y0)) → (q0 ∧ (T0 ∧ (if ((↑y0 : Int) < (↑na : Int)) then (t4 ((q0 ∧ (@Eq Nat ((1 : Nat)) ((1 : Nat)))) ∧ ((((0 : Int) ≤ (↑y0 : Int)) ∧ ((↑y0 : Int) < (↑na : Int))) ∧ (T0 ∧ ((y0 < na) ∧ (t3 (False))))))) else (∃ y1 : Value, (∃ y2 : List Blk, ((Go.Rx.Found 1 (Value.bool true) ({ h := [((0 : Nat), Blk.row true [IntKind.u64] ea na ca fa)], next := (1 : Nat) }) (y1) (y2)) ∧ (K y1 y2)))))))))) else (∃ y0 : Value, (∃ y1 : List Blk, ((Go.Rx.Found 1 (Value.bool false) ({ h := [((0 : Nat), Blk.row true [IntKind.u64] ea na ca fa)], next := (1 : Nat) }) (y0) (y1)) ∧ (K y0 y1)))))))))
theorem smK_rnE (ea na ca : Nat) (fa : RF) (K : Value → List Blk → Prop) : smK_rnV ea na ca fa K = bodyX (mk XZ) (callN (mk XZ) 4) (smK_rnA ea na ca fa) Try.f23 [rsl 0 0 na ca, .slice none 0 0] (stOf [.row true [.u64] ea na ca fa]) (Fd 1 K) := by kernel_rfl
set_option tactic.hygienic false in
theorem smK_rnP (ea na ca : Nat) (fa : RF) (K : Value → List Blk → Prop)  (hna : na ≤ 100000) (hca : na ≤ ca) (h1 : na = 0) (h2 : ∀ i, i < na → fa i 0 = zF i 0) (h : K (.bool true) []) : smK_rnV ea na ca fa K := by
  unfold smK_rnV
  conv => zeta

  repeat' (first | (with_reducible exact rfl) | (with_reducible exact trivial) | (with_reducible refine And.intro ?_ ?_) | (intro) | (with_reducible refine br_d (fun hq => ?_) (fun hq => ?_)) | (with_reducible refine br_nd (fun hq => ?_) (fun hq => ?_)) | (with_reducible refine br_intro (fun hq => ?_) (fun hq => ?_)) | (with_reducible refine if_both (fun hz => ?_) (fun hz => ?_)) | fail)

  all_goals first
    | omega
    | assumption
    | contradiction
    | exact ⟨0, (by (refine And.intro (And.intro rfl (And.intro rfl (And.intro rfl rfl))) ?_; (repeat' (first | exact trivial | exact rfl | exact fun _ _ _ _ => rfl | refine And.intro ?_ ?_ | omega | fail)); done)), by omega, by omega⟩
    | exact ⟨y0 + 1, (by (refine And.intro (And.intro rfl (And.intro rfl (And.intro rfl rfl))) ?_; (repeat' (first | exact trivial | exact rfl | exact fun _ _ _ _ => rfl | refine And.intro ?_ ?_ | omega | fail)); done)), ⟨by omega, by omega⟩, by omega⟩
    | exact fin0 (by kernel_rfl) (by kernel_rfl) (by first | exact h | simpa using h)
    | (exfalso; have q := h2 y0 (by omega); omega)
def smK_rrV (ea na ca : Nat) (fa : RF) (eb nb cb : Nat) (fb : RF) (K : Value → List Blk → Prop) : Prop := let q0 := (0, rsl (0 : Nat) (0 : Nat) na ca); let q1 := (1, rsl (1 : Nat) (0 : Nat) nb cb); let q2 := TS; let q3 := ((0 : Nat), rsl (0 : Nat) (0 : Nat) na ca); let q4 := ((1 : Nat), rsl (1 : Nat) (0 : Nat) nb cb); let q5 := (0, Blk.row true [IntKind.u64] ea na ca fa); let q6 := (1, Blk.row true [IntKind.u64] eb nb cb fb); let q7 := (q2 ∧ (@Eq Nat ((1 : Nat)) ((1 : Nat)))); (T0 ∧ (q2 ∧ (q2 ∧ (T0 ∧ (if (@Eq Int ((↑na : Int)) ((↑nb : Int))) then ((∃ y0 : Nat, ((Go.Rx.Sub 2 [] ⟨26, [(5, vi (0 : Int)), q0, q1]⟩ ⟨[q5, q6], 2⟩ ({ n := (26 : Nat), m := [q3, q4, ((5 : Nat), vi (↑y0 : Int))] }) ({ h := [((0 : Nat), Blk.row true [IntKind.u64] ea na ca fa), ((1 : Nat), Blk.row true [IntKind.u64] eb nb cb fb)], next := (2 : Nat) })) ∧ ((y0 ≤ na) ∧ ((0 : Nat) ≤ y0)))) ∧ (∀ y0 : Nat, let q8 := ((0 : Int) ≤ (↑y0 : Int)); (((y0 ≤ na) ∧ ((0 : Nat) ≤ y0)) → (q2 ∧ (T0 ∧ (if ((↑y0 : Int) < (↑na : Int)) then (t4 (q7 ∧ ((q8 ∧ ((↑y0 : Int) < (↑na : Int))) ∧ (T0 ∧ ((y0 < na) ∧ (t3 (q7 ∧ ((q8 ∧ ((↑y0 : Int) < (↑nb : Int))) ∧ (T0 ∧ ((y0 < nb) ∧ (t2 (if (@Eq Int (fa y0 (0 : Nat)) (fb y0 (0 : Nat))) then (T0 ∧ ((((-9223372036854775808 : Int) ≤ (↑y0 : Int) + (1 : Int)) ∧ ((↑y0 : Int) + (1 : Int) ≤ (9223372036854775807 : Int))) ∧ (∃ y1 : Nat, ((Go.Rx.Sub 2 [] ⟨26, [(5, vi ((↑y0 : Int) + (1 : Int))), q0, q1]⟩ ⟨[q5, q6], 2⟩ ({ n := (26 : Nat), m := [q3, q4, ((5 : Nat), vi (↑y1 : Int))] }) ({ h := [((0 : Nat), Blk.row true [IntKind.u64] ea na ca fa), ((1 : Nat), Blk.row true [IntKind.u64] eb nb cb fb)], next := (2 : Nat) })) ∧ (((y1 ≤ na) ∧ ((0 : Nat) ≤ y1)) ∧ (na - y1 < na - y0)))))) else (∃ y1 : Value, (∃ y2 : List Blk, ((Go.Rx.Found 2 (Value.bool false) ({ h := [((0 : Nat), Blk.row true [IntKind.u64] ea na ca fa), ((1 : Nat), Blk.row true [IntKind.u64] eb nb cb fb)], next := (2 : Nat) }) (y1) (y2)) ∧ (K y1 y2)))))))))))))))) else (∃ y1 : Value, (∃ y2 : List Blk, ((Go.Rx.Found 2 (Value.bool true) ({ h := [((0 : Nat), Blk.row true [IntKind.u64] ea na ca fa), ((1 : Nat), Blk.row true [IntKind.u64] eb nb cb fb)], next := (2 : Nat) }) (y1) (y2)) ∧ (K y1 y2)))))))))) else (∃ y0 : Value, (∃ y1 : List Blk, ((Go.Rx.Found 2 (Value.bool false) ({ h := [((0 : Nat), Blk.row true [IntKind.u64] ea na ca fa), ((1 : Nat), Blk.row true [IntKind.u64] eb nb cb fb)], next := (2 : Nat) }) (y0) (y1)) ∧ (K y0 y1)))))))))
theorem smK_rrE (ea na ca : Nat) (fa : RF) (eb nb cb : Nat) (fb : RF) (K : Value → List Blk → Prop) : smK_rrV ea na ca fa eb nb cb fb K = bodyX (mk XZ) (callN (mk XZ) 4) (smK_rrA ea na ca fa eb nb cb fb) Try.f23 [rsl 0 0 na ca, rsl 1 0 nb cb] (stOf [.row true [.u64] ea na ca fa, .row true [.u64] eb nb cb fb]) (Fd 2 K) := by kernel_rfl
set_option tactic.hygienic false in
theorem smK_rrP (ea na ca : Nat) (fa : RF) (eb nb cb : Nat) (fb : RF) (K : Value → List Blk → Prop)  (hna : na ≤ 100000) (hca : na ≤ ca) (hnb : nb ≤ 100000) (hcb : nb ≤ cb) (h1 : na = nb) (h2 : ∀ i, i < na → fa i 0 = fb i 0) (h : K (.bool true) []) : smK_rrV ea na ca fa eb nb cb fb K := by
  unfold smK_rrV
  conv => zeta

  repeat' (first | (with_reducible exact rfl) | (with_reducible exact trivial) | (with_reducible refine And.intro ?_ ?_) | (intro) | (with_reducible refine br_d (fun hq => ?_) (fun hq => ?_)) | (with_reducible refine br_nd (fun hq => ?_) (fun hq => ?_)) | (with_reducible refine br_intro (fun hq => ?_) (fun hq => ?_)) | (with_reducible refine if_both (fun hz => ?_) (fun hz => ?_)) | fail)

  all_goals first
    | omega
    | assumption
    | contradiction
    | exact ⟨0, (by (refine And.intro (And.intro rfl (And.intro rfl (And.intro rfl rfl))) ?_; (repeat' (first | exact trivial | exact rfl | exact fun _ _ _ _ => rfl | refine And.intro ?_ ?_ | omega | fail)); done)), by omega, by omega⟩
    | exact ⟨y0 + 1, (by (refine And.intro (And.intro rfl (And.intro rfl (And.intro rfl rfl))) ?_; (repeat' (first | exact trivial | exact rfl | exact fun _ _ _ _ => rfl | refine And.intro ?_ ?_ | omega | fail)); done)), ⟨by omega, by omega⟩, by omega⟩
    | exact fin0 (by kernel_rfl) (by kernel_rfl) (by first | exact h | simpa using h)
    | (exfalso; have q := h2 y0 (by omega); omega)
theorem smK_ok : BodyOk (mk XZ) 4 Try.f23 smK := by
  intro vs bs K hh hro
  clear hro
  unfold smK at hh
  split at hh
  · rename_i va vb
    rcases parseQ_inv hh with ⟨rfl, hh0⟩ | ⟨ea, na, ca, fa, bta, rfl, hna, hca, rfl, hh0⟩ <;> clear hh
    · rcases parseQ_inv hh0 with ⟨rfl, hh1⟩ | ⟨eb, nb, cb, fb, btb, rfl, hnb, hcb, rfl, hh1⟩ <;> clear hh0
      · obtain ⟨rfl, ⟨h1, h2⟩, hc⟩ := hh1
        exact ⟨_, _, cast (smK_nnE   K) (smK_nnP   K  h1 h2 hc)⟩
      · obtain ⟨rfl, ⟨h1, h2⟩, hc⟩ := hh1
        exact ⟨_, _, cast (smK_nrE eb nb cb fb  K) (smK_nrP eb nb cb fb  K hnb hcb h1 h2 hc)⟩
    · rcases parseQ_inv hh0 with ⟨rfl, hh1⟩ | ⟨eb, nb, cb, fb, btb, rfl, hnb, hcb, rfl, hh1⟩ <;> clear hh0
      · obtain ⟨rfl, ⟨h1, h2⟩, hc⟩ := hh1
        exact ⟨_, _, cast (smK_rnE ea na ca fa  K) (smK_rnP ea na ca fa  K hna hca h1 h2 hc)⟩
      · obtain ⟨rfl, ⟨h1, h2⟩, hc⟩ := hh1
        exact ⟨_, _, cast (smK_rrE ea na ca fa eb nb cb fb  K) (smK_rrP ea na ca fa eb nb cb fb  K hna hca hnb hcb h1 h2 hc)⟩
  · exact hh.elim
theorem smK_told : Told 23 (specOf smK) := told (X := XZ) XZ_told (by kernel_rfl) (by kernel_rfl) (by kernel_rfl) smK_ok
def inK_nnV  (K : Value → List Blk → Prop) : Prop := let q0 := TS; (T0 ∧ (q0 ∧ (q0 ∧ (T0 ∧ ((∃ y0 : Nat, ((Go.Rx.Sub 0 [] ⟨26, [(5, vi (0 : Int)), (0, vn), (1, vn)]⟩ ⟨[], 0⟩ ({ n := (26 : Nat), m := [((0 : Nat), vn), ((1 : Nat), vn), ((5 : Nat), vi (↑y0 : Int))] }) ({ h := [], next := (0 : Nat) })) ∧ ((y0 ≤ (0 : Nat)) ∧ ((0 : Nat) ≤ y0)))) ∧ (∀ y0 : Nat, (((y0 ≤ (0 : Nat)) ∧ ((0 : Nat) ≤ y0)) → (q0 ∧ (T0 ∧ (∃ y1 : Value, (∃ y2 : List Blk, ((Go.Rx.Found 0 (Value.bool true) ({ h := [], next := (0 : Nat) }) (y1) (y2)) ∧ (K y1 y2)))))))))))))
theorem inK_nnE  (K : Value → List Blk → Prop) : inK_nnV  K = bodyX (mk XZ) (callN (mk XZ) 4) (inK_nnA ) Try.f38 [.slice none 0 0, .slice none 0 0] (stOf []) (Fd 0 K) := by kernel_rfl
set_option tactic.hygienic false in
theorem inK_nnP  (K : Value → List Blk → Prop)  (h1 : 0 = 0) (h2 : ∀ i, i < 0 → zF i 0 = zF i 0) (h : K (.bool true) []) : inK_nnV  K := by
  unfold inK_nnV
  conv => zeta

  repeat' (first | (with_reducible exact rfl) | (with_reducible exact trivial) | (with_reducible refine And.intro ?_ ?_) | (intro) | (with_reducible refine br_d (fun hq => ?_) (fun hq => ?_)) | (with_reducible refine br_nd (fun hq => ?_) (fun hq => ?_)) | (with_reducible refine br_intro (fun hq => ?_) (fun hq => ?_)) | (with_reducible refine if_both (fun hz => ?_) (fun hz => ?_)) | fail)

  all_goals first
    | omega
    | assumption
    | contradiction
    | exact ⟨0, (by (refine And.intro (And.intro rfl (And.intro rfl (And.intro rfl rfl))) ?_; (repeat' (first | exact trivial | exact rfl | exact fun _ _ _ _ => rfl | refine And.intro ?_ ?_ | omega | fail)); done)), by omega, by omega⟩
    | exact ⟨y0 + 1, (by (refine And.intro (And.intro rfl (And.intro rfl (And.intro rfl rfl))) ?_; (repeat' (first | exact trivial | exact rfl | exact fun _ _ _ _ => rfl | refine And.intro ?_ ?_ | omega | fail)); done)), ⟨by omega, by omega⟩, by omega⟩
    | exact fin0 (by kernel_rfl) (by kernel_rfl) (by first | exact h | simpa using h)
    | (exfalso; have q := h2 y0 (by omega); omega)
def inK_nrV (eb nb cb : Nat) (fb : RF) (K : Value → List Blk → Prop) : Prop := let q0 := TS; (T0 ∧ (q0 ∧ (q0 ∧ (T0 ∧ (if (@Eq Int ((0 : Int)) ((↑nb : Int))) then ((∃ y0 : Nat, ((Go.Rx.Sub 1 [] ⟨26, [(5, vi (0 : Int)), (0, vn), (1, rsl (0 : Nat) (0 : Nat) nb cb)]⟩ ⟨[(0, Blk.row true [IntKind.i64] eb nb cb fb)], 1⟩ ({ n := (26 : Nat), m := [((0 : Nat), vn), ((1 : Nat), rsl (0 : Nat) (0 : Nat) nb cb), ((5 : Nat), vi (↑y0 : Int))] }) ({ h := [((0 : Nat), Blk.row true [IntKind.i64] eb nb cb fb)], next := (1 : Nat) })) ∧ ((y0 ≤ (0 : Nat)) ∧ ((0 : Nat) ≤ y0)))) ∧ (∀ y0 : Nat, (((y0 ≤ (0 : Nat)) ∧ ((0 : Nat) ≤ y0)) → (q0 ∧ (T0 ∧ (∃ y1 : Value, (∃ y2 : List Blk, ((Go.Rx.Found 1 (Value.bool true) ({ h := [((0 : Nat), Blk.row true [IntKind.i64] eb nb cb fb)], next := (1 : Nat) }) (y1) (y2)) ∧ (K y1 y2))))))))) else (∃ y0 : Value, (∃ y1 : List Blk, ((Go.Rx.Found 1 (Value.bool false) ({ h := [((0 : Nat), Blk.row true [IntKind.i64] eb nb cb fb)], next := (1 : Nat) }) (y0) (y1)) ∧ (K y0 y1)))))))))
theorem inK_nrE (eb nb cb : Nat) (fb : RF) (K : Value → List Blk → Prop) : inK_nrV eb nb cb fb K = bodyX (mk XZ) (callN (mk XZ) 4) (inK_nrA eb nb cb fb) Try.f38 [.slice none 0 0, rsl 0 0 nb cb] (stOf [.row true [.i64] eb nb cb fb]) (Fd 1 K) := by kernel_rfl
set_option tactic.hygienic false in
theorem inK_nrP (eb nb cb : Nat) (fb : RF) (K : Value → List Blk → Prop)  (hnb : nb ≤ 100000) (h1 : 0 = nb) (h2 : ∀ i, i < 0 → zF i 0 = fb i 0) (h : K (.bool true) []) : inK_nrV eb nb cb fb K := by
  unfold inK_nrV
  conv => zeta

  repeat' (first | (with_reducible exact rfl) | (with_reducible exact trivial) | (with_reducible refine And.intro ?_ ?_) | (intro) | (with_reducible refine br_d (fun hq => ?_) (fun hq => ?_)) | (with_reducible refine br_nd (fun hq => ?_) (fun hq => ?_)) | (with_reducible refine br_intro (fun hq => ?_) (fun hq => ?_)) | (with_reducible refine if_both (fun hz => ?_) (fun hz => ?_)) | fail)

  all_goals first
    | omega
    | assumption
    | contradiction
    | exact ⟨0, (by (refine And.intro (And.intro rfl (And.intro rfl (And.intro rfl rfl))) ?_; (repeat' (first | exact trivial | exact rfl | exact fun _ _ _ _ => rfl | refine And.intro ?_ ?_ | omega | fail)); done)), by omega, by omega⟩
    | exact ⟨y0 + 1, (by (refine And.intro (And.intro rfl (And.intro rfl (And.intro rfl rfl))) ?_; (repeat' (first | exact trivial | exact rfl | exact fun _ _ _ _ => rfl | refine And.intro ?_ ?_ | omega | fail)); done)), ⟨by omega, by omega⟩, by omega⟩
    | exact fin0 (by kernel_rfl) (by kernel_rfl) (by first | exact h | simpa using h)
    | (exfalso; have q := h2 y0 (by omega); omega)
def inK_rnV (ea na ca : Nat) (fa : RF) (K : Value → List Blk → Prop) : Prop := let q0 := TS; (T0 ∧ (q0 ∧ (q0 ∧ (T0 ∧ (if (@Eq Int ((↑na : Int)) ((0 : Int))) then ((∃ y0 : Nat, ((Go.Rx.Sub 1 [] ⟨26, [(5, vi (0 : Int)), (0, rsl (0 : Nat) (0 : Nat) na ca), (1, vn)]⟩ ⟨[(0, Blk.row true [IntKind.i64] ea na ca fa)], 1⟩ ({ n := (26 : Nat), m := [((0 : Nat), rsl (0 : Nat) (0 : Nat) na ca), ((1 : Nat), vn), ((5 : Nat), vi (↑y0 : Int))] }) ({ h := [((0 : Nat), Blk.row true [IntKind.i64] ea na ca fa)], next := (1 : Nat) })) ∧ ((y0 ≤ na) ∧ ((0 : Nat) ≤ y0)))) ∧ (∀ y0 : Nat, (((y0 ≤ na) ∧ ((0 : Nat) ≤ y0)) → (q0 ∧ (T0 ∧ (if ((↑y0 : Int) < (↑na : Int)) then (t4 ((q0 ∧ (@Eq Nat ((1 : Nat)) ((1 : Nat)))) ∧ ((((0 : Int) ≤ (↑y0 : Int)) ∧ ((↑y0 : Int) < (↑na : Int))) ∧ (T0 ∧ ((y0 < na) ∧ (t3 (False))))))) else (∃ y1 : Value, (∃ y2 : List Blk, ((Go.Rx.Found 1 (Value.bool true) ({ h := [((0 : Nat), Blk.row true [IntKind.i64] ea na ca fa)], next := (1 : Nat) }) (y1) (y2)) ∧ (K y1 y2)))))))))) else (∃ y0 : Value, (∃ y1 : List Blk, ((Go.Rx.Found 1 (Value.bool false) ({ h := [((0 : Nat), Blk.row true [IntKind.i64] ea na ca fa)], next := (1 : Nat) }) (y0) (y1)) ∧ (K y0 y1)))))))))
theorem inK_rnE (ea na ca : Nat) (fa : RF) (K : Value → List Blk → Prop) : inK_rnV ea na ca fa K = bodyX (mk XZ) (callN (mk XZ) 4) (inK_rnA ea na ca fa) Try.f38 [rsl 0 0 na ca, .slice none 0 0] (stOf [.row true [.i64] ea na ca fa]) (Fd 1 K) := by kernel_rfl
set_option tactic.hygienic false in
theorem inK_rnP (ea na ca : Nat) (fa : RF) (K : Value → List Blk → Prop)  (hna : na ≤ 100000) (h1 : na = 0) (h2 : ∀ i, i < na → fa i 0 = zF i 0) (h : K (.bool true) []) : inK_rnV ea na ca fa K := by
  unfold inK_rnV
  conv => zeta

  repeat' (first | (with_reducible exact rfl) | (with_reducible exact trivial) | (with_reducible refine And.intro ?_ ?_) | (intro) | (with_reducible refine br_d (fun hq => ?_) (fun hq => ?_)) | (with_reducible refine br_nd (fun hq => ?_) (fun hq => ?_)) | (with_reducible refine br_intro (fun hq => ?_) (fun hq => ?_)) | (with_reducible refine if_both (fun hz => ?_) (fun hz => ?_)) | fail)

  all_goals first
    | omega
    | assumption
    | contradiction
    | exact ⟨0, (by (refine And.intro (And.intro rfl (And.intro rfl (And.intro rfl rfl))) ?_; (repeat' (first | exact trivial | exact rfl | exact fun _ _ _ _ => rfl | refine And.intro ?_ ?_ | omega | fail)); done)), by omega, by omega⟩
    | exact ⟨y0 + 1, (by (refine And.intro (And.intro rfl (And.intro rfl (And.intro rfl rfl))) ?_; (repeat' (first | exact trivial | exact rfl | exact fun _ _ _ _ => rfl | refine And.intro ?_ ?_ | omega | fail)); done)), ⟨by omega, by omega⟩, by omega⟩
    | exact fin0 (by kernel_rfl) (by kernel_rfl) (by first | exact h | simpa using h)
    | (exfalso; have q := h2 y0 (by omega); omega)
def inK_rrV (ea na ca : Nat) (fa : RF) (eb nb cb : Nat) (fb : RF) (K : Value → List Blk → Prop) : Prop := let q0 := (0, rsl (0 : Nat) (0 : Nat) na ca); let q1 := (1, rsl (1 : Nat) (0 : Nat) nb cb); let q2 := TS; let q3 := ((0 : Nat), rsl (0 : Nat) (0 : Nat) na ca); let q4 := ((1 : Nat), rsl (1 : Nat) (0 : Nat) nb cb); let q5 := (0, Blk.row true [IntKind.i64] ea na ca fa); let q6 := (1, Blk.row true [IntKind.i64] eb nb cb fb); let q7 := (q2 ∧ (@Eq Nat ((1 : Nat)) ((1 : Nat)))); (T0 ∧ (q2 ∧ (q2 ∧ (T0 ∧ (if (@Eq Int ((↑na : Int)) ((↑nb : Int))) then ((∃ y0 : Nat, ((Go.Rx.Sub 2 [] ⟨26, [(5, vi (0 : Int)), q0, q1]⟩ ⟨[q5, q6], 2⟩ ({ n := (26 : Nat), m := [q3, q4, ((5 : Nat), vi (↑y0 : Int))] }) ({ h := [((0 : Nat), Blk.row true [IntKind.i64] ea na ca fa), ((1 : Nat), Blk.row true [IntKind.i64] eb nb cb fb)], next := (2 : Nat) })) ∧ ((y0 ≤ na) ∧ ((0 : Nat) ≤ y0)))) ∧ (∀ y0 : Nat, let q8 := ((0 : Int) ≤ (↑y0 : Int)); (((y0 ≤ na) ∧ ((0 : Nat) ≤ y0)) → (q2 ∧ (T0 ∧ (if ((↑y0 : Int) < (↑na : Int)) then (t4 (q7 ∧ ((q8 ∧ ((↑y0 : Int) < (↑na : Int))) ∧ (T0 ∧ ((y0 < na) ∧ (t3 (q7 ∧ ((q8 ∧ ((↑y0 : Int) < (↑nb : Int))) ∧ (T0 ∧ ((y0 < nb) ∧ (t2 (if (@Eq Int (fa y0 (0 : Nat)) (fb y0 (0 : Nat))) then (T0 ∧ ((((-9223372036854775808 : Int) ≤ (↑y0 : Int) + (1 : Int)) ∧ ((↑y0 : Int) + (1 : Int) ≤ (9223372036854775807 : Int))) ∧ (∃ y1 : Nat, ((Go.Rx.Sub 2 [] ⟨26, [(5, vi ((↑y0 : Int) + (1 : Int))), q0, q1]⟩ ⟨[q5, q6], 2⟩ ({ n := (26 : Nat), m := [q3, q4, ((5 : Nat), vi (↑y1 : Int))] }) ({ h := [((0 : Nat), Blk.row true [IntKind.i64] ea na ca fa), ((1 : Nat), Blk.row true [IntKind.i64] eb nb cb fb)], next := (2 : Nat) })) ∧ (((y1 ≤ na) ∧ ((0 : Nat) ≤ y1)) ∧ (na - y1 < na - y0)))))) else (∃ y1 : Value, (∃ y2 : List Blk, ((Go.Rx.Found 2 (Value.bool false) ({ h := [((0 : Nat), Blk.row true [IntKind.i64] ea na ca fa), ((1 : Nat), Blk.row true [IntKind.i64] eb nb cb fb)], next := (2 : Nat) }) (y1) (y2)) ∧ (K y1 y2)))))))))))))))) else (∃ y1 : Value, (∃ y2 : List Blk, ((Go.Rx.Found 2 (Value.bool true) ({ h := [((0 : Nat), Blk.row true [IntKind.i64] ea na ca fa), ((1 : Nat), Blk.row true [IntKind.i64] eb nb cb fb)], next := (2 : Nat) }) (y1) (y2)) ∧ (K y1 y2)))))))))) else (∃ y0 : Value, (∃ y1 : List Blk, ((Go.Rx.Found 2 (Value.bool false) ({ h := [((0 : Nat), Blk.row true [IntKind.i64] ea na ca fa), ((1 : Nat), Blk.row true [IntKind.i64] eb nb cb fb)], next := (2 : Nat) }) (y0) (y1)) ∧ (K y0 y1)))))))))
theorem inK_rrE (ea na ca : Nat) (fa : RF) (eb nb cb : Nat) (fb : RF) (K : Value → List Blk → Prop) : inK_rrV ea na ca fa eb nb cb fb K = bodyX (mk XZ) (callN (mk XZ) 4) (inK_rrA ea na ca fa eb nb cb fb) Try.f38 [rsl 0 0 na ca, rsl 1 0 nb cb] (stOf [.row true [.i64] ea na ca fa, .row true [.i64] eb nb cb fb]) (Fd 2 K) := by kernel_rfl
set_option tactic.hygienic false in
theorem inK_rrP (ea na ca : Nat) (fa : RF) (eb nb cb : Nat) (fb : RF) (K : Value → List Blk → Prop)  (hna : na ≤ 100000) (hnb : nb ≤ 100000) (h1 : na = nb) (h2 : ∀ i, i < na → fa i 0 = fb i 0) (h : K (.bool true) []) : inK_rrV ea na ca fa eb nb cb fb K := by
  unfold inK_rrV
  conv => zeta

  repeat' (first | (with_reducible exact rfl) | (with_reducible exact trivial) | (with_reducible refine And.intro ?_ ?_) | (intro) | (with_reducible refine br_d (fun hq => ?_) (fun hq => ?_)) | (with_reducible refine br_nd (fun hq => ?_) (fun hq => ?_)) | (with_reducible refine br_intro (fun hq => ?_) (fun hq => ?_)) | (with_reducible refine if_both (fun hz => ?_) (fun hz => ?_)) | fail)

  all_goals first
    | omega
    | assumption
    | contradiction
    | exact ⟨0, (by (refine And.intro (And.intro rfl (And.intro rfl (And.intro rfl rfl))) ?_; (repeat' (first | exact trivial | exact rfl | exact fun _ _ _ _ => rfl | refine And.intro ?_ ?_ | omega | fail)); done)), by omega, by omega⟩
    | exact ⟨y0 + 1, (by (refine And.intro (And.intro rfl (And.intro rfl (And.intro rfl rfl))) ?_; (repeat' (first | exact trivial | exact rfl | exact fun _ _ _ _ => rfl | refine And.intro ?_ ?_ | omega | fail)); done)), ⟨by omega, by omega⟩, by omega⟩
    | exact fin0 (by kernel_rfl) (by kernel_rfl) (by first | exact h | simpa using h)
    | (exfalso; have q := h2 y0 (by omega); omega)
theorem inK_ok : BodyOk (mk XZ) 4 Try.f38 inK := by
  intro vs bs K hh hro
  clear hro
  unfold inK at hh
  split at hh
  · rename_i va vb
    rcases parse_inv hh with ⟨rfl, hh0⟩ | ⟨ea, na, ca, fa, bta, rfl, hna, rfl, hh0⟩ <;> clear hh
    · rcases parse_inv hh0 with ⟨rfl, hh1⟩ | ⟨eb, nb, cb, fb, btb, rfl, hnb, rfl, hh1⟩ <;> clear hh0
      · obtain ⟨rfl, ⟨h1, h2⟩, hc⟩ := hh1
        exact ⟨_, _, cast (inK_nnE   K) (inK_nnP   K  h1 h2 hc)⟩
      · obtain ⟨rfl, ⟨h1, h2⟩, hc⟩ := hh1
        exact ⟨_, _, cast (inK_nrE eb nb cb fb  K) (inK_nrP eb nb cb fb  K hnb h1 h2 hc)⟩
    · rcases parse_inv hh0 with ⟨rfl, hh1⟩ | ⟨eb, nb, cb, fb, btb, rfl, hnb, rfl, hh1⟩ <;> clear hh0
      · obtain ⟨rfl, ⟨h1, h2⟩, hc⟩ := hh1
        exact ⟨_, _, cast (inK_rnE ea na ca fa  K) (inK_rnP ea na ca fa  K hna h1 h2 hc)⟩
      · obtain ⟨rfl, ⟨h1, h2⟩, hc⟩ := hh1
        exact ⟨_, _, cast (inK_rrE ea na ca fa eb nb cb fb  K) (inK_rrP ea na ca fa eb nb cb fb  K hna hnb h1 h2 hc)⟩
  · exact hh.elim
theorem inK_told : Told 38 (specOf inK) := told (X := XZ) XZ_told (by kernel_rfl) (by kernel_rfl) (by kernel_rfl) inK_ok
end Go.Proofs.Ytfgeoglegebncaa.Fr
namespace Go.Proofs.Ytfgeoglegebncaa.Fr
set_option maxRecDepth 100000
set_option maxHeartbeats 4000000
open Go.Rx
open Go.RowKit (Below)
def sp43 : Rx.Spec := fun args s K => args = [] ∧ K (.bool true) s
set_option maxRecDepth 1000000 in
theorem closed43 : Ev.run ⟨Try.prog, Ev.mkTT Try.prog, Ev.mkFT Try.prog, [], [], [], none⟩ 1000000 43 [] = some true := by kernel_rfl
theorem told43 : Told 43 sp43 := ⟨⟨Try.f43, by kernel_rfl, by kernel_rfl, by kernel_rfl⟩, specTrue_ok (Ev.run_closed mixed closed43)⟩
end Go.Proofs.Ytfgeoglegebncaa.Fr
namespace Go.Proofs.Ytfgeoglegebncaa.Fr
set_option maxRecDepth 100000
set_option maxHeartbeats 4000000
open Go.Rx
open Go.RowKit (Below)
set_option linter.unusedVariables false
@[reducible] def X9BN : List (Nat × Rx.Spec) := [(43, sp43), (44, specOf mkO_B), (45, specOf mkKB), (23, specOf smK), (46, specOf obS), (47, specOf okS_), (48, specOf obZ), (49, specOf okZ), (50, specOf slON), (51, specOf slKN), (38, specOf inK)]
theorem X9BN_told : ∀ p ∈ X9BN, Told p.1 p.2 := by
  intro p hp
  simp only [List.mem_cons, List.not_mem_nil, or_false] at hp
  rcases hp with rfl | rfl | rfl | rfl | rfl | rfl | rfl | rfl | rfl | rfl | rfl
  · exact told43
  · exact mkO_B_told
  · exact mkKB_told
  · exact smK_told
  · exact obS_told
  · exact okS__told
  · exact obZ_told
  · exact okZ_told
  · exact slON_told
  · exact slKN_told
  · exact inK_told
@[reducible] def X9BR : List (Nat × Rx.Spec) := [(43, sp43), (44, specOf mkO_B), (45, specOf mkKB), (23, specOf smK), (46, specOf obS), (47, specOf okS_), (48, specOf obZ), (49, specOf okZ), (50, specOf slOR), (51, specOf slKR), (38, specOf inK)]
theorem X9BR_told : ∀ p ∈ X9BR, Told p.1 p.2 := by
  intro p hp
  simp only [List.mem_cons, List.not_mem_nil, or_false] at hp
  rcases hp with rfl | rfl | rfl | rfl | rfl | rfl | rfl | rfl | rfl | rfl | rfl
  · exact told43
  · exact mkO_B_told
  · exact mkKB_told
  · exact smK_told
  · exact obS_told
  · exact okS__told
  · exact obZ_told
  · exact okZ_told
  · exact slOR_told
  · exact slKR_told
  · exact inK_told
@[reducible] def X9GN : List (Nat × Rx.Spec) := [(43, sp43), (44, specOf mkO_G), (45, specOf mkKG), (23, specOf smK), (46, specOf obS), (47, specOf okS_), (48, specOf obZ), (49, specOf okZ), (50, specOf slON), (51, specOf slKN), (38, specOf inK)]
theorem X9GN_told : ∀ p ∈ X9GN, Told p.1 p.2 := by
  intro p hp
  simp only [List.mem_cons, List.not_mem_nil, or_false] at hp
  rcases hp with rfl | rfl | rfl | rfl | rfl | rfl | rfl | rfl | rfl | rfl | rfl
  · exact told43
  · exact mkO_G_told
  · exact mkKG_told
  · exact smK_told
  · exact obS_told
  · exact okS__told
  · exact obZ_told
  · exact okZ_told
  · exact slON_told
  · exact slKN_told
  · exact inK_told
@[reducible] def X9GR : List (Nat × Rx.Spec) := [(43, sp43), (44, specOf mkO_G), (45, specOf mkKG), (23, specOf smK), (46, specOf obS), (47, specOf okS_), (48, specOf obZ), (49, specOf okZ), (50, specOf slOR), (51, specOf slKR), (38, specOf inK)]
theorem X9GR_told : ∀ p ∈ X9GR, Told p.1 p.2 := by
  intro p hp
  simp only [List.mem_cons, List.not_mem_nil, or_false] at hp
  rcases hp with rfl | rfl | rfl | rfl | rfl | rfl | rfl | rfl | rfl | rfl | rfl
  · exact told43
  · exact mkO_G_told
  · exact mkKG_told
  · exact smK_told
  · exact obS_told
  · exact okS__told
  · exact obZ_told
  · exact okZ_told
  · exact slOR_told
  · exact slKR_told
  · exact inK_told

def lmakBN_nA (a : Int) (p : Int) (q : Int) : Ann := fun _ _ _ => none
def lmakBN_rA (ew nw cw : Nat) (fw : RF) (a : Int) (p : Int) (q : Int) : Ann := fun _ _ _ => none

def lmakBR_nA (a : Int) (p : Int) (q : Int) : Ann := fun _ _ _ => none
def lmakBR_rA (ew nw cw : Nat) (fw : RF) (a : Int) (p : Int) (q : Int) : Ann := fun _ _ _ => none

def lmakGN_nA (a : Int) (p : Int) (q : Int) : Ann := fun _ _ _ => none
def lmakGN_rA (ew nw cw : Nat) (fw : RF) (a : Int) (p : Int) (q : Int) : Ann := fun _ _ _ => none

def lmakGR_nA (a : Int) (p : Int) (q : Int) : Ann := fun _ _ _ => none
def lmakGR_rA (ew nw cw : Nat) (fw : RF) (a : Int) (p : Int) (q : Int) : Ann := fun _ _ _ => none
def lmakBN_nV (a : Int) (p : Int) (q : Int) (K : Value → List Blk → Prop) : Prop := let q0 := eB; let q1 := TS; let q2 := ((Ok64 (0 : Nat) zF) ∧ (¬mkE (0 : Nat) zF a p q = (0 : Int))); let q3 := ((Ok64 (0 : Nat) zF) ∧ (¬(obE (0 : Nat) zF a = (0 : Int) ∧ (0 : Int) < obP (0 : Nat) zF a))); let q4 := ((@Eq Nat ((0 : Nat)) ((0 : Nat))) ∧ (∀ y0 : Nat, ((y0 < (0 : Nat)) → (@Eq Int (zF y0 (0 : Nat)) (zF y0 (0 : Nat)))))); (t2 (q1 ∧ (T0 ∧ (q1 ∧ (t6 (q0 ∧ (q2 ∧ (t5 (q0 ∧ (q2 ∧ (t2 (q0 ∧ (q4 ∧ (t3 (q0 ∧ ((Ok64 (0 : Nat) zF) ∧ (t4 (q0 ∧ ((Ok64 (0 : Nat) zF) ∧ (t4 (q0 ∧ ((Ok64 (0 : Nat) zF) ∧ (t2 (q0 ∧ ((Ok64 (0 : Nat) zF) ∧ (t7 (q0 ∧ (q3 ∧ (t2 (q0 ∧ (q3 ∧ (t2 (q0 ∧ (q4 ∧ (T0 ∧ ((@Eq (List Value) ([]) ([])) ∧ (@Eq (Value) (Value.bool true) (Value.bool true))))))))))))))))))))))))))))))))))))))
theorem lmakBN_nE (a : Int) (p : Int) (q : Int) (K : Value → List Blk → Prop) : lmakBN_nV a p q K = bodyX (mk X9BN) (callN (mk X9BN) 6) (lmakBN_nA a p q) Try.f9 [.slice none 0 0, .int .i64 a, .agg ⟨[.int .i64 p, .int .i64 q]⟩] (stOf []) fun v _ => v = .bool true := by kernel_rfl
set_option tactic.hygienic false in
theorem lmakBN_nP (a : Int) (p : Int) (q : Int) (K : Value → List Blk → Prop)  (hU : Ok64 0 zF) (h1 : ¬ mkE 0 zF a p q = 0) (h2 : ¬ (obE 0 zF a = 0 ∧ 0 < obP 0 zF a)) : lmakBN_nV a p q K := by
  unfold lmakBN_nV
  conv => zeta
  have z0 := ar_cases 0 zF
  have z1 := ob_cases hU a
  have z2 := mk_cases 0 zF a p q
  have z3 := sze_cases p q
  repeat' (first | (with_reducible exact rfl) | (with_reducible exact trivial) | (with_reducible refine And.intro ?_ ?_) | (intro) | (with_reducible refine br_d (fun hq => ?_) (fun hq => ?_)) | (with_reducible refine br_nd (fun hq => ?_) (fun hq => ?_)) | (with_reducible refine br_intro (fun hq => ?_) (fun hq => ?_)) | (with_reducible refine if_both (fun hz => ?_) (fun hz => ?_)) | fail)
  all_goals try simp only [eqL] at *
  all_goals first
    | (with_reducible assumption)
    | (refine (id ?_ : False)
       first
        | contradiction
        | (exfalso; omega)
        | (exfalso; simp at hq; omega)
        | (exfalso; simp_all; done)
       )
    | omega
    | contradiction
    | (exfalso; omega)
    | (exfalso; simp at hq; omega)
    | (exfalso; simp_all; done)
def lmakBN_rV (ew nw cw : Nat) (fw : RF) (a : Int) (p : Int) (q : Int) (K : Value → List Blk → Prop) : Prop := let q0 := ((0 : Nat) + nw ≤ nw); let q1 := eB; let q2 := (@Eq Nat ((0 : Nat)) ((0 : Nat))); let q3 := TS; let q4 := ((Ok64 nw fw) ∧ (¬mkE nw fw a p q = (0 : Int))); let q5 := (@Eq (Value) (Value.bool false) (Value.bool true)); let q6 := ((Ok64 nw fw) ∧ (¬(obE nw fw a = (0 : Int) ∧ (0 : Int) < obP nw fw a))); let q7 := (q2 ∧ ((nw ≤ (100000 : Nat)) ∧ (nw ≤ cw))); let q8 := ((@Eq (List Value) ([]) ([])) ∧ (@Eq (Value) (Value.bool true) (Value.bool true))); let q9 := ((@Eq (List IntKind) ([IntKind.u64]) ([IntKind.u64])) ∧ ((@Eq Nat (nw) (nw)) ∧ (@Eq Nat (cw) (cw)))); let q10 := (q2 ∧ (∀ y0 : Nat, ((y0 < (0 : Nat)) → (@Eq Int (zF y0 (0 : Nat)) (zF y0 (0 : Nat)))))); let q11 := (q3 ∧ (T0 ∧ (if ((1610 : Int) < (↑nw : Int)) then q8 else (T0 ∧ (q0 ∧ (t3 (q7 ∧ (q9 ∧ (q1 ∧ (q4 ∧ (T0 ∧ (q0 ∧ (t3 (q7 ∧ (q9 ∧ (q1 ∧ (q4 ∧ (t2 (q1 ∧ (q10 ∧ (T0 ∧ (if (@Eq Int (mkE nw fw a p q) (mkE nw fw a p q)) then (q0 ∧ (T0 ∧ (q7 ∧ (q9 ∧ (q1 ∧ ((Ok64 nw fw) ∧ (t2 (q0 ∧ (T0 ∧ (q7 ∧ (q9 ∧ (q1 ∧ ((Ok64 nw fw) ∧ (t2 (q0 ∧ (T0 ∧ (q7 ∧ (q9 ∧ (q1 ∧ ((Ok64 nw fw) ∧ (q0 ∧ (T0 ∧ (q7 ∧ (q9 ∧ (q1 ∧ ((Ok64 nw fw) ∧ (t2 (if (eqL [obP nw fw a, obR nw fw a] [obP nw fw a, obR nw fw a]) then (T0 ∧ (if (@Eq Int (obE nw fw a) (obE nw fw a)) then (T0 ∧ (if (@Eq Int (obN nw fw a) (obN nw fw a)) then (T0 ∧ (if (@Eq Int (obE nw fw a) (obE nw fw a)) then (q0 ∧ (T0 ∧ (q7 ∧ (q9 ∧ (q1 ∧ (q6 ∧ (q0 ∧ (T0 ∧ (q7 ∧ (q9 ∧ (q1 ∧ (q6 ∧ (t2 (q1 ∧ (q10 ∧ (T0 ∧ (if (@Eq Int (obE nw fw a) (obE nw fw a)) then q8 else q5))))))))))))))))) else q5)) else q5)) else q5)) else q5)))))))))))))))))))))))))))) else q5)))))))))))))))))))))); (t2 (q3 ∧ (T0 ∧ (if ((300 : Int) < (↑nw : Int)) then (q3 ∧ (T0 ∧ (if ((↑nw : Int) ≤ (1601 : Int)) then q8 else q11))) else q11))))
theorem lmakBN_rE (ew nw cw : Nat) (fw : RF) (a : Int) (p : Int) (q : Int) (K : Value → List Blk → Prop) : lmakBN_rV ew nw cw fw a p q K = bodyX (mk X9BN) (callN (mk X9BN) 6) (lmakBN_rA ew nw cw fw a p q) Try.f9 [rsl 0 0 nw cw, .int .i64 a, .agg ⟨[.int .i64 p, .int .i64 q]⟩] (stOf [.row true [.u64] ew nw cw fw]) fun v _ => v = .bool true := by kernel_rfl
set_option tactic.hygienic false in
theorem lmakBN_rP (ew nw cw : Nat) (fw : RF) (a : Int) (p : Int) (q : Int) (K : Value → List Blk → Prop)  (hcw : nw ≤ cw) (hU : Ok64 nw fw) (h1 : ¬ mkE nw fw a p q = 0) (h2 : ¬ (obE nw fw a = 0 ∧ 0 < obP nw fw a)) : lmakBN_rV ew nw cw fw a p q K := by
  unfold lmakBN_rV
  conv => zeta
  have z0 := ar_cases nw fw
  have z1 := ob_cases hU a
  have z2 := mk_cases nw fw a p q
  have z3 := sze_cases p q
  repeat' (first | (with_reducible exact rfl) | (with_reducible exact trivial) | (with_reducible refine And.intro ?_ ?_) | (intro) | (with_reducible refine br_d (fun hq => ?_) (fun hq => ?_)) | (with_reducible refine br_nd (fun hq => ?_) (fun hq => ?_)) | (with_reducible refine br_intro (fun hq => ?_) (fun hq => ?_)) | (with_reducible refine if_both (fun hz => ?_) (fun hz => ?_)) | fail)
  all_goals try simp only [eqL] at *
  all_goals first
    | (with_reducible assumption)
    | (refine (id ?_ : False)
       first
        | contradiction
        | (exfalso; omega)
        | (exfalso; simp at hq; omega)
        | (exfalso; simp_all; done)
       )
    | omega
    | contradiction
    | (exfalso; omega)
    | (exfalso; simp at hq; omega)
    | (exfalso; simp_all; done)
def lmakBR_nV (a : Int) (p : Int) (q : Int) (K : Value → List Blk → Prop) : Prop := let q0 := eB; let q1 := TS; let q2 := ((Ok64 (0 : Nat) zF) ∧ (¬mkE (0 : Nat) zF a p q = (0 : Int))); (t2 (q1 ∧ (T0 ∧ (q1 ∧ (t6 (q0 ∧ (q2 ∧ (t5 (q0 ∧ (q2 ∧ (t2 (q0 ∧ (((@Eq Nat ((0 : Nat)) ((0 : Nat))) ∧ (∀ y0 : Nat, ((y0 < (0 : Nat)) → (@Eq Int (zF y0 (0 : Nat)) (zF y0 (0 : Nat)))))) ∧ (t3 (q0 ∧ ((Ok64 (0 : Nat) zF) ∧ (t4 (q0 ∧ ((Ok64 (0 : Nat) zF) ∧ (t4 (q0 ∧ ((Ok64 (0 : Nat) zF) ∧ (t2 (q0 ∧ ((Ok64 (0 : Nat) zF) ∧ (t7 (False)))))))))))))))))))))))))))
theorem lmakBR_nE (a : Int) (p : Int) (q : Int) (K : Value → List Blk → Prop) : lmakBR_nV a p q K = bodyX (mk X9BR) (callN (mk X9BR) 6) (lmakBR_nA a p q) Try.f9 [.slice none 0 0, .int .i64 a, .agg ⟨[.int .i64 p, .int .i64 q]⟩] (stOf []) fun v _ => v = .bool true := by kernel_rfl
set_option tactic.hygienic false in
theorem lmakBR_nP (a : Int) (p : Int) (q : Int) (K : Value → List Blk → Prop)  (hU : Ok64 0 zF) (h1 : ¬ mkE 0 zF a p q = 0) (h2 : obE 0 zF a = 0) (h3 : 0 < obP 0 zF a) : lmakBR_nV a p q K := by
  unfold lmakBR_nV
  conv => zeta
  have z0 := ar_cases 0 zF
  have z1 := ob_cases hU a
  have z2 := mk_cases 0 zF a p q
  have z3 := sze_cases p q
  repeat' (first | (with_reducible exact rfl) | (with_reducible exact trivial) | (with_reducible refine And.intro ?_ ?_) | (intro) | (with_reducible refine br_d (fun hq => ?_) (fun hq => ?_)) | (with_reducible refine br_nd (fun hq => ?_) (fun hq => ?_)) | (with_reducible refine br_intro (fun hq => ?_) (fun hq => ?_)) | (with_reducible refine if_both (fun hz => ?_) (fun hz => ?_)) | fail)
  all_goals try simp only [eqL] at *
  all_goals first
    | (with_reducible assumption)
    | (refine (id ?_ : False)
       first
        | contradiction
        | (exfalso; omega)
        | (exfalso; simp at hq; omega)
        | (exfalso; simp_all; done)
       )
    | omega
    | contradiction
    | (exfalso; omega)
    | (exfalso; simp at hq; omega)
    | (exfalso; simp_all; done)
def lmakBR_rV (ew nw cw : Nat) (fw : RF) (a : Int) (p : Int) (q : Int) (K : Value → List Blk → Prop) : Prop := let q0 := ((0 : Nat) + nw ≤ nw); let q1 := (Int.toNat (obP nw fw a)); let q2 := eB; let q3 := (@Eq Nat ((0 : Nat)) ((0 : Nat))); let q4 := TS; let q5 := (Int.toNat (obP nw fw a) ≤ (100000 : Nat)); let q6 := ((Ok64 nw fw) ∧ (¬mkE nw fw a p q = (0 : Int))); let q7 := (@Eq (Value) (Value.bool false) (Value.bool true)); let q8 := (@Eq (List IntKind) ([IntKind.i64]) ([IntKind.i64])); let q9 := (@Eq Nat q1 q1); let q10 := ((0 : Nat) + Int.toNat (obP nw fw a) ≤ Int.toNat (obP nw fw a)); let q11 := (q3 ∧ ((nw ≤ (100000 : Nat)) ∧ (nw ≤ cw))); let q12 := ((@Eq (List Value) ([]) ([])) ∧ (@Eq (Value) (Value.bool true) (Value.bool true))); let q13 := ((Ok64 nw fw) ∧ ((@Eq Int (obE nw fw a) ((0 : Int))) ∧ ((0 : Int) < obP nw fw a))); let q14 := ((@Eq (List IntKind) ([IntKind.u64]) ([IntKind.u64])) ∧ ((@Eq Nat (nw) (nw)) ∧ (@Eq Nat (cw) (cw)))); let q15 := (q4 ∧ (T0 ∧ (if ((1610 : Int) < (↑nw : Int)) then q12 else (T0 ∧ (q0 ∧ (t3 (q11 ∧ (q14 ∧ (q2 ∧ (q6 ∧ (T0 ∧ (q0 ∧ (t3 (q11 ∧ (q14 ∧ (q2 ∧ (q6 ∧ (t2 (q2 ∧ ((q3 ∧ (∀ y0 : Nat, ((y0 < (0 : Nat)) → (@Eq Int (zF y0 (0 : Nat)) (zF y0 (0 : Nat)))))) ∧ (T0 ∧ (if (@Eq Int (mkE nw fw a p q) (mkE nw fw a p q)) then (q0 ∧ (T0 ∧ (q11 ∧ (q14 ∧ (q2 ∧ ((Ok64 nw fw) ∧ (t2 (q0 ∧ (T0 ∧ (q11 ∧ (q14 ∧ (q2 ∧ ((Ok64 nw fw) ∧ (t2 (q0 ∧ (T0 ∧ (q11 ∧ (q14 ∧ (q2 ∧ ((Ok64 nw fw) ∧ (q0 ∧ (T0 ∧ (q11 ∧ (q14 ∧ (q2 ∧ ((Ok64 nw fw) ∧ (t2 (if (eqL [obP nw fw a, obR nw fw a] [obP nw fw a, obR nw fw a]) then (T0 ∧ (if (@Eq Int (obE nw fw a) (obE nw fw a)) then (T0 ∧ (if (@Eq Int (obN nw fw a) (obN nw fw a)) then (T0 ∧ (if (@Eq Int (obE nw fw a) (obE nw fw a)) then (q0 ∧ (T0 ∧ (q11 ∧ (q14 ∧ (q2 ∧ (q13 ∧ (∀ y0 : Nat, ((Int.toNat (obP nw fw a) ≤ y0) → (q0 ∧ (T0 ∧ (q11 ∧ (q14 ∧ (q2 ∧ (q13 ∧ (∀ y1 : Nat, ((Int.toNat (obP nw fw a) ≤ y1) → (q10 ∧ (q10 ∧ (q3 ∧ (q5 ∧ ((q8 ∧ (q9 ∧ (@Eq Nat (y0) (y0)))) ∧ ((@Eq Nat ((1 : Nat)) ((1 : Nat))) ∧ (q5 ∧ ((q8 ∧ (q9 ∧ (@Eq Nat (y1) (y1)))) ∧ (q2 ∧ ((q9 ∧ (∀ y2 : Nat, ((y2 < Int.toNat (obP nw fw a)) → (@Eq Int (slF a y2 (0 : Nat)) (slF a y2 (0 : Nat)))))) ∧ (T0 ∧ q12))))))))))))))))))))))))))) else q7)) else q7)) else q7)) else q7)))))))))))))))))))))))))))) else q7)))))))))))))))))))))); (t2 (q4 ∧ (T0 ∧ (if ((300 : Int) < (↑nw : Int)) then (q4 ∧ (T0 ∧ (if ((↑nw : Int) ≤ (1601 : Int)) then q12 else q15))) else q15))))
theorem lmakBR_rE (ew nw cw : Nat) (fw : RF) (a : Int) (p : Int) (q : Int) (K : Value → List Blk → Prop) : lmakBR_rV ew nw cw fw a p q K = bodyX (mk X9BR) (callN (mk X9BR) 6) (lmakBR_rA ew nw cw fw a p q) Try.f9 [rsl 0 0 nw cw, .int .i64 a, .agg ⟨[.int .i64 p, .int .i64 q]⟩] (stOf [.row true [.u64] ew nw cw fw]) fun v _ => v = .bool true := by kernel_rfl
set_option tactic.hygienic false in
theorem lmakBR_rP (ew nw cw : Nat) (fw : RF) (a : Int) (p : Int) (q : Int) (K : Value → List Blk → Prop)  (hcw : nw ≤ cw) (hU : Ok64 nw fw) (h1 : ¬ mkE nw fw a p q = 0) (h2 : obE nw fw a = 0) (h3 : 0 < obP nw fw a) : lmakBR_rV ew nw cw fw a p q K := by
  unfold lmakBR_rV
  conv => zeta
  have z0 := ar_cases nw fw
  have z1 := ob_cases hU a
  have z2 := mk_cases nw fw a p q
  have z3 := sze_cases p q
  repeat' (first | (with_reducible exact rfl) | (with_reducible exact trivial) | (with_reducible refine And.intro ?_ ?_) | (intro) | (with_reducible refine br_d (fun hq => ?_) (fun hq => ?_)) | (with_reducible refine br_nd (fun hq => ?_) (fun hq => ?_)) | (with_reducible refine br_intro (fun hq => ?_) (fun hq => ?_)) | (with_reducible refine if_both (fun hz => ?_) (fun hz => ?_)) | fail)
  all_goals try simp only [eqL] at *
  all_goals first
    | (with_reducible assumption)
    | (refine (id ?_ : False)
       first
        | contradiction
        | (exfalso; omega)
        | (exfalso; simp at hq; omega)
        | (exfalso; simp_all; done)
       )
    | omega
    | contradiction
    | (exfalso; omega)
    | (exfalso; simp at hq; omega)
    | (exfalso; simp_all; done)
def lmakGN_nV (a : Int) (p : Int) (q : Int) (K : Value → List Blk → Prop) : Prop := let q0 := TS; (t2 (q0 ∧ (T0 ∧ (q0 ∧ (t6 (False))))))
theorem lmakGN_nE (a : Int) (p : Int) (q : Int) (K : Value → List Blk → Prop) : lmakGN_nV a p q K = bodyX (mk X9GN) (callN (mk X9GN) 6) (lmakGN_nA a p q) Try.f9 [.slice none 0 0, .int .i64 a, .agg ⟨[.int .i64 p, .int .i64 q]⟩] (stOf []) fun v _ => v = .bool true := by kernel_rfl
set_option tactic.hygienic false in
theorem lmakGN_nP (a : Int) (p : Int) (q : Int) (K : Value → List Blk → Prop)  (hU : Ok64 0 zF) (h1 : mkE 0 zF a p q = 0) (h2 : ¬ (obE 0 zF a = 0 ∧ 0 < obP 0 zF a)) : lmakGN_nV a p q K := by
  unfold lmakGN_nV
  conv => zeta
  have z0 := ar_cases 0 zF
  have z1 := ob_cases hU a
  have z2 := mk_cases 0 zF a p q
  have z3 := sze_cases p q
  repeat' (first | (with_reducible exact rfl) | (with_reducible exact trivial) | (with_reducible refine And.intro ?_ ?_) | (intro) | (with_reducible refine br_d (fun hq => ?_) (fun hq => ?_)) | (with_reducible refine br_nd (fun hq => ?_) (fun hq => ?_)) | (with_reducible refine br_intro (fun hq => ?_) (fun hq => ?_)) | (with_reducible refine if_both (fun hz => ?_) (fun hz => ?_)) | fail)
  all_goals try simp only [eqL] at *
  all_goals first
    | (with_reducible assumption)
    | (refine (id ?_ : False)
       first
        | contradiction
        | (exfalso; omega)
        | (exfalso; simp at hq; omega)
        | (exfalso; simp_all; done)
       )
    | omega
    | contradiction
    | (exfalso; omega)
    | (exfalso; simp at hq; omega)
    | (exfalso; simp_all; done)
def lmakGN_rV (ew nw cw : Nat) (fw : RF) (a : Int) (p : Int) (q : Int) (K : Value → List Blk → Prop) : Prop := let q0 := ((0 : Nat) + nw ≤ nw); let q1 := (nw ≤ (100000 : Nat)); let q2 := eB; let q3 := (@Eq Nat ((0 : Nat)) ((0 : Nat))); let q4 := TS; let q5 := (@Eq (Value) (Value.bool false) (Value.bool true)); let q6 := (@Eq (List IntKind) ([IntKind.u64]) ([IntKind.u64])); let q7 := ((Ok64 nw fw) ∧ (@Eq Int (mkE nw fw a p q) ((0 : Int)))); let q8 := ((Ok64 nw fw) ∧ (¬(obE nw fw a = (0 : Int) ∧ (0 : Int) < obP nw fw a))); let q9 := (q3 ∧ (q1 ∧ (nw ≤ cw))); let q10 := ((@Eq (List Value) ([]) ([])) ∧ (@Eq (Value) (Value.bool true) (Value.bool true))); let q11 := (q6 ∧ ((@Eq Nat (nw) (nw)) ∧ (@Eq Nat (cw) (cw)))); let q12 := (q4 ∧ (T0 ∧ (if ((1610 : Int) < (↑nw : Int)) then q10 else (T0 ∧ (q0 ∧ (t3 (q9 ∧ (q11 ∧ (q2 ∧ (q7 ∧ (∀ y0 : Nat, ((nw ≤ y0) → (T0 ∧ (q0 ∧ (t3 (q9 ∧ (q11 ∧ (q2 ∧ (q7 ∧ (∀ y1 : Nat, ((nw ≤ y1) → (q0 ∧ (q0 ∧ ((q3 ∧ (q1 ∧ (nw ≤ y0))) ∧ ((q6 ∧ ((@Eq Nat (nw) (nw)) ∧ (@Eq Nat (y0) (y0)))) ∧ (((@Eq Nat ((1 : Nat)) ((1 : Nat))) ∧ (q1 ∧ (nw ≤ y1))) ∧ ((q6 ∧ ((@Eq Nat (nw) (nw)) ∧ (@Eq Nat (y1) (y1)))) ∧ (q2 ∧ (((@Eq Nat (nw) (nw)) ∧ (∀ y2 : Nat, let q13 := (mkF fw (Int.toNat a) (Int.toNat ((1 : Int) + p + q)) ((1 : Int) + (256 : Int) * p + (65536 : Int) * q) y2 (0 : Nat)); ((y2 < nw) → (@Eq Int q13 q13)))) ∧ (T0 ∧ (q0 ∧ (T0 ∧ (q9 ∧ (q11 ∧ (q2 ∧ ((Ok64 nw fw) ∧ (t2 (q0 ∧ (T0 ∧ (q9 ∧ (q11 ∧ (q2 ∧ ((Ok64 nw fw) ∧ (t2 (q0 ∧ (T0 ∧ (q9 ∧ (q11 ∧ (q2 ∧ ((Ok64 nw fw) ∧ (q0 ∧ (T0 ∧ (q9 ∧ (q11 ∧ (q2 ∧ ((Ok64 nw fw) ∧ (t2 (if (eqL [obP nw fw a, obR nw fw a] [obP nw fw a, obR nw fw a]) then (T0 ∧ (if (@Eq Int (obE nw fw a) (obE nw fw a)) then (T0 ∧ (if (@Eq Int (obN nw fw a) (obN nw fw a)) then (T0 ∧ (if (@Eq Int (obE nw fw a) (obE nw fw a)) then (q0 ∧ (T0 ∧ (q9 ∧ (q11 ∧ (q2 ∧ (q8 ∧ (q0 ∧ (T0 ∧ (q9 ∧ (q11 ∧ (q2 ∧ (q8 ∧ (t2 (q2 ∧ ((q3 ∧ (∀ y2 : Nat, ((y2 < (0 : Nat)) → (@Eq Int (zF y2 (0 : Nat)) (zF y2 (0 : Nat)))))) ∧ (T0 ∧ (if (@Eq Int (obE nw fw a) (obE nw fw a)) then q10 else q5))))))))))))))))) else q5)) else q5)) else q5)) else q5)))))))))))))))))))))))))))))))))))))))))))))))))))))))))); (t2 (q4 ∧ (T0 ∧ (if ((300 : Int) < (↑nw : Int)) then (q4 ∧ (T0 ∧ (if ((↑nw : Int) ≤ (1601 : Int)) then q10 else q12))) else q12))))
theorem lmakGN_rE (ew nw cw : Nat) (fw : RF) (a : Int) (p : Int) (q : Int) (K : Value → List Blk → Prop) : lmakGN_rV ew nw cw fw a p q K = bodyX (mk X9GN) (callN (mk X9GN) 6) (lmakGN_rA ew nw cw fw a p q) Try.f9 [rsl 0 0 nw cw, .int .i64 a, .agg ⟨[.int .i64 p, .int .i64 q]⟩] (stOf [.row true [.u64] ew nw cw fw]) fun v _ => v = .bool true := by kernel_rfl
set_option tactic.hygienic false in
theorem lmakGN_rP (ew nw cw : Nat) (fw : RF) (a : Int) (p : Int) (q : Int) (K : Value → List Blk → Prop)  (hcw : nw ≤ cw) (hU : Ok64 nw fw) (h1 : mkE nw fw a p q = 0) (h2 : ¬ (obE nw fw a = 0 ∧ 0 < obP nw fw a)) : lmakGN_rV ew nw cw fw a p q K := by
  unfold lmakGN_rV
  conv => zeta
  have z0 := ar_cases nw fw
  have z1 := ob_cases hU a
  have z2 := mk_cases nw fw a p q
  have z3 := sze_cases p q
  repeat' (first | (with_reducible exact rfl) | (with_reducible exact trivial) | (with_reducible refine And.intro ?_ ?_) | (intro) | (with_reducible refine br_d (fun hq => ?_) (fun hq => ?_)) | (with_reducible refine br_nd (fun hq => ?_) (fun hq => ?_)) | (with_reducible refine br_intro (fun hq => ?_) (fun hq => ?_)) | (with_reducible refine if_both (fun hz => ?_) (fun hz => ?_)) | fail)
  all_goals try simp only [eqL] at *
  all_goals first
    | (with_reducible assumption)
    | (refine (id ?_ : False)
       first
        | contradiction
        | (exfalso; omega)
        | (exfalso; simp at hq; omega)
        | (exfalso; simp_all; done)
       )
    | omega
    | contradiction
    | (exfalso; omega)
    | (exfalso; simp at hq; omega)
    | (exfalso; simp_all; done)
def lmakGR_nV (a : Int) (p : Int) (q : Int) (K : Value → List Blk → Prop) : Prop := let q0 := TS; (t2 (q0 ∧ (T0 ∧ (q0 ∧ (t6 (False))))))
theorem lmakGR_nE (a : Int) (p : Int) (q : Int) (K : Value → List Blk → Prop) : lmakGR_nV a p q K = bodyX (mk X9GR) (callN (mk X9GR) 6) (lmakGR_nA a p q) Try.f9 [.slice none 0 0, .int .i64 a, .agg ⟨[.int .i64 p, .int .i64 q]⟩] (stOf []) fun v _ => v = .bool true := by kernel_rfl
set_option tactic.hygienic false in
theorem lmakGR_nP (a : Int) (p : Int) (q : Int) (K : Value → List Blk → Prop)  (hU : Ok64 0 zF) (h1 : mkE 0 zF a p q = 0) (h2 : obE 0 zF a = 0) (h3 : 0 < obP 0 zF a) : lmakGR_nV a p q K := by
  unfold lmakGR_nV
  conv => zeta
  have z0 := ar_cases 0 zF
  have z1 := ob_cases hU a
  have z2 := mk_cases 0 zF a p q
  have z3 := sze_cases p q
  repeat' (first | (with_reducible exact rfl) | (with_reducible exact trivial) | (with_reducible refine And.intro ?_ ?_) | (intro) | (with_reducible refine br_d (fun hq => ?_) (fun hq => ?_)) | (with_reducible refine br_nd (fun hq => ?_) (fun hq => ?_)) | (with_reducible refine br_intro (fun hq => ?_) (fun hq => ?_)) | (with_reducible refine if_both (fun hz => ?_) (fun hz => ?_)) | fail)
  all_goals try simp only [eqL] at *
  all_goals first
    | (with_reducible assumption)
    | (refine (id ?_ : False)
       first
        | contradiction
        | (exfalso; omega)
        | (exfalso; simp at hq; omega)
        | (exfalso; simp_all; done)
       )
    | omega
    | contradiction
    | (exfalso; omega)
    | (exfalso; simp at hq; omega)
    | (exfalso; simp_all; done)
def lmakGR_rV (ew nw cw : Nat) (fw : RF) (a : Int) (p : Int) (q : Int) (K : Value → List Blk → Prop) : Prop := let q0 := ((0 : Nat) + nw ≤ nw); let q1 := (nw ≤ (100000 : Nat)); let q2 := (Int.toNat (obP nw fw a)); let q3 := eB; let q4 := (@Eq Nat ((0 : Nat)) ((0 : Nat))); let q5 := (@Eq Nat ((1 : Nat)) ((1 : Nat))); let q6 := TS; let q7 := (Int.toNat (obP nw fw a) ≤ (100000 : Nat)); let q8 := (@Eq (Value) (Value.bool false) (Value.bool true)); let q9 := (@Eq (List IntKind) ([IntKind.i64]) ([IntKind.i64])); let q10 := (@Eq (List IntKind) ([IntKind.u64]) ([IntKind.u64])); let q11 := ((Ok64 nw fw) ∧ (@Eq Int (mkE nw fw a p q) ((0 : Int)))); let q12 := (@Eq Nat q2 q2); let q13 := ((0 : Nat) + Int.toNat (obP nw fw a) ≤ Int.toNat (obP nw fw a)); let q14 := (q4 ∧ (q1 ∧ (nw ≤ cw))); let q15 := ((@Eq (List Value) ([]) ([])) ∧ (@Eq (Value) (Value.bool true) (Value.bool true))); let q16 := ((Ok64 nw fw) ∧ ((@Eq Int (obE nw fw a) ((0 : Int))) ∧ ((0 : Int) < obP nw fw a))); let q17 := (q10 ∧ ((@Eq Nat (nw) (nw)) ∧ (@Eq Nat (cw) (cw)))); let q18 := (q6 ∧ (T0 ∧ (if ((1610 : Int) < (↑nw : Int)) then q15 else (T0 ∧ (q0 ∧ (t3 (q14 ∧ (q17 ∧ (q3 ∧ (q11 ∧ (∀ y0 : Nat, ((nw ≤ y0) → (T0 ∧ (q0 ∧ (t3 (q14 ∧ (q17 ∧ (q3 ∧ (q11 ∧ (∀ y1 : Nat, ((nw ≤ y1) → (q0 ∧ (q0 ∧ ((q4 ∧ (q1 ∧ (nw ≤ y0))) ∧ ((q10 ∧ ((@Eq Nat (nw) (nw)) ∧ (@Eq Nat (y0) (y0)))) ∧ ((q5 ∧ (q1 ∧ (nw ≤ y1))) ∧ ((q10 ∧ ((@Eq Nat (nw) (nw)) ∧ (@Eq Nat (y1) (y1)))) ∧ (q3 ∧ (((@Eq Nat (nw) (nw)) ∧ (∀ y2 : Nat, let q19 := (mkF fw (Int.toNat a) (Int.toNat ((1 : Int) + p + q)) ((1 : Int) + (256 : Int) * p + (65536 : Int) * q) y2 (0 : Nat)); ((y2 < nw) → (@Eq Int q19 q19)))) ∧ (T0 ∧ (q0 ∧ (T0 ∧ (q14 ∧ (q17 ∧ (q3 ∧ ((Ok64 nw fw) ∧ (t2 (q0 ∧ (T0 ∧ (q14 ∧ (q17 ∧ (q3 ∧ ((Ok64 nw fw) ∧ (t2 (q0 ∧ (T0 ∧ (q14 ∧ (q17 ∧ (q3 ∧ ((Ok64 nw fw) ∧ (q0 ∧ (T0 ∧ (q14 ∧ (q17 ∧ (q3 ∧ ((Ok64 nw fw) ∧ (t2 (if (eqL [obP nw fw a, obR nw fw a] [obP nw fw a, obR nw fw a]) then (T0 ∧ (if (@Eq Int (obE nw fw a) (obE nw fw a)) then (T0 ∧ (if (@Eq Int (obN nw fw a) (obN nw fw a)) then (T0 ∧ (if (@Eq Int (obE nw fw a) (obE nw fw a)) then (q0 ∧ (T0 ∧ (q14 ∧ (q17 ∧ (q3 ∧ (q16 ∧ (∀ y2 : Nat, ((Int.toNat (obP nw fw a) ≤ y2) → (q0 ∧ (T0 ∧ (q14 ∧ (q17 ∧ (q3 ∧ (q16 ∧ (∀ y3 : Nat, ((Int.toNat (obP nw fw a) ≤ y3) → (q13 ∧ (q13 ∧ (q4 ∧ (q7 ∧ ((q9 ∧ (q12 ∧ (@Eq Nat (y2) (y2)))) ∧ (q5 ∧ (q7 ∧ ((q9 ∧ (q12 ∧ (@Eq Nat (y3) (y3)))) ∧ (q3 ∧ ((q12 ∧ (∀ y4 : Nat, ((y4 < Int.toNat (obP nw fw a)) → (@Eq Int (slF a y4 (0 : Nat)) (slF a y4 (0 : Nat)))))) ∧ (T0 ∧ q15))))))))))))))))))))))))))) else q8)) else q8)) else q8)) else q8)))))))))))))))))))))))))))))))))))))))))))))))))))))))))); (t2 (q6 ∧ (T0 ∧ (if ((300 : Int) < (↑nw : Int)) then (q6 ∧ (T0 ∧ (if ((↑nw : Int) ≤ (1601 : Int)) then q15 else q18))) else q18))))
theorem lmakGR_rE (ew nw cw : Nat) (fw : RF) (a : Int) (p : Int) (q : Int) (K : Value → List Blk → Prop) : lmakGR_rV ew nw cw fw a p q K = bodyX (mk X9GR) (callN (mk X9GR) 6) (lmakGR_rA ew nw cw fw a p q) Try.f9 [rsl 0 0 nw cw, .int .i64 a, .agg ⟨[.int .i64 p, .int .i64 q]⟩] (stOf [.row true [.u64] ew nw cw fw]) fun v _ => v = .bool true := by kernel_rfl
set_option tactic.hygienic false in
theorem lmakGR_rP (ew nw cw : Nat) (fw : RF) (a : Int) (p : Int) (q : Int) (K : Value → List Blk → Prop)  (hcw : nw ≤ cw) (hU : Ok64 nw fw) (h1 : mkE nw fw a p q = 0) (h2 : obE nw fw a = 0) (h3 : 0 < obP nw fw a) : lmakGR_rV ew nw cw fw a p q K := by
  unfold lmakGR_rV
  conv => zeta
  have z0 := ar_cases nw fw
  have z1 := ob_cases hU a
  have z2 := mk_cases nw fw a p q
  have z3 := sze_cases p q
  repeat' (first | (with_reducible exact rfl) | (with_reducible exact trivial) | (with_reducible refine And.intro ?_ ?_) | (intro) | (with_reducible refine br_d (fun hq => ?_) (fun hq => ?_)) | (with_reducible refine br_nd (fun hq => ?_) (fun hq => ?_)) | (with_reducible refine br_intro (fun hq => ?_) (fun hq => ?_)) | (with_reducible refine if_both (fun hz => ?_) (fun hz => ?_)) | fail)
  all_goals try simp only [eqL] at *
  all_goals first
    | (with_reducible assumption)
    | (refine (id ?_ : False)
       first
        | contradiction
        | (exfalso; omega)
        | (exfalso; simp at hq; omega)
        | (exfalso; simp_all; done)
       )
    | omega
    | contradiction
    | (exfalso; omega)
    | (exfalso; simp at hq; omega)
    | (exfalso; simp_all; done)
end Go.Proofs.Ytfgeoglegebncaa.Fr
