/-
  Objects: slots. No project text.
-/
import Derived.Test.YtfgeoglegebncaaZ5
namespace Go.Proofs.Ytfgeoglegebncaa.Fr
set_option maxRecDepth 100000
set_option maxHeartbeats 4000000
open Go.Rx
open Go.RowKit (Below)
set_option linter.unusedVariables false
def slON : Con := fun vs bs K => match vs with
  | [vw, .int .i64 a] => parseQ [.u64] 0 vw bs fun nw fw j0 bs0 => bs0 = [] ∧ ((Ok64 nw fw) ∧ (¬ (obE nw fw a = 0 ∧ 0 < obP nw fw a))) ∧ (K (.tuple ⟨[.slice none 0 0, .int .i64 (obE nw fw a)]⟩) [])
  | _ => False

def slON_nA (a : Int) : Ann := fun _ _ _ => none
def slON_rA (ew nw cw : Nat) (fw : RF) (a : Int) : Ann := fun _ _ _ => none
def slOR : Con := fun vs bs K => match vs with
  | [vw, .int .i64 a] => parseRQ [.u64] 0 vw bs fun nw fw j0 bs0 => bs0 = [] ∧ ((Ok64 nw fw) ∧ (obE nw fw a = 0) ∧ (0 < obP nw fw a)) ∧ (∀ cp, (obP nw fw a).toNat ≤ cp → K (.tuple ⟨[rsl j0 0 ((obP nw fw a).toNat) cp, .int .i64 (0)]⟩) [.row false [.i64] 3 ((obP nw fw a).toNat) cp (slF a)])
  | _ => False

def slOR_rA (ew nw cw : Nat) (fw : RF) (a : Int) : Ann := fun _ _ _ => none
def slON_nV (a : Int) (K : Value → List Blk → Prop) : Prop := let q0 := ((0 : Nat) ≤ Int.toNat (obP (0 : Nat) zF a)); (t3 (eB ∧ ((True) ∧ (t9 (t2 (TS ∧ ((∃ y0 : Nat, ((Go.Rx.Sub 2 [((2 : Nat), (2 : Nat))] ⟨21, [(9, vi (0 : Int)), (8, vi (0 : Int)), (7, vn), (6, Value.pointer (some { block := (2 : Nat), off := (0 : Nat) })), (5, Value.pointer (some { block := (2 : Nat), off := (0 : Nat) })), (3, vn), (2, vn), (1, Value.pointer (some { block := (2 : Nat), off := (0 : Nat) })), (0, Value.agg { toList := [vn, vi (0 : Int)] })]⟩ ⟨[(2, Blk.cells [vn, vi (0 : Int)] (114 : Nat)), (1, Blk.cells [vi (0 : Int), vi (0 : Int), vn, vi (0 : Int), vn] (118 : Nat)), (0, Blk.cells [vi (0 : Int), vi (0 : Int), vn, vi (0 : Int), vn] (118 : Nat))], 3⟩ ({ n := (21 : Nat), m := [((9 : Nat), vi (0 : Int)), ((8 : Nat), vi (0 : Int)), ((7 : Nat), vn), ((6 : Nat), Value.pointer (some { block := (2 : Nat), off := (0 : Nat) })), ((5 : Nat), Value.pointer (some { block := (2 : Nat), off := (0 : Nat) })), ((3 : Nat), vn), ((2 : Nat), vn), ((1 : Nat), Value.pointer (some { block := (2 : Nat), off := (0 : Nat) })), ((0 : Nat), Value.agg { toList := [vn, vi (0 : Int)] })] }) ({ h := [((2 : Nat), Blk.cells [vn, vi (0 : Int)] (114 : Nat)), ((1 : Nat), Blk.cells [vi (0 : Int), vi (0 : Int), vn, vi (0 : Int), vn] (118 : Nat)), ((0 : Nat), Blk.cells [vi (0 : Int), vi (0 : Int), vn, vi (0 : Int), vn] (118 : Nat))], next := (3 : Nat) })) ∧ ((@Eq Nat (y0) ((0 : Nat))) ∧ q0))) ∧ (∀ y0 : Nat, (((@Eq Nat (y0) ((0 : Nat))) ∧ q0) → (T0 ∧ (∃ y1 : Value, (∃ y2 : List Blk, ((Go.Rx.Found 0 (Value.tuple { toList := [vn, vi (3 : Int)] }) ({ h := [((2 : Nat), Blk.cells [vn, vi (0 : Int)] (114 : Nat)), ((1 : Nat), Blk.cells [vi (0 : Int), vi (0 : Int), vn, vi (0 : Int), vn] (118 : Nat)), ((0 : Nat), Blk.cells [vi (0 : Int), vi (0 : Int), vn, vi (0 : Int), vn] (118 : Nat))], next := (3 : Nat) }) (y1) (y2)) ∧ (K y1 y2))))))))))))))
theorem slON_nE (a : Int) (K : Value → List Blk → Prop) : slON_nV a K = bodyX (mk XO) (callI (mk XO) (fun f ar s0 k tt ss => bif Nat.beq f 96 && Nat.beq k 3 then some [{ α := Nat, T := fun _ => tt, S := fun _ => ss, I := fun k => k = 0 ∧ 0 ≤ (obP 0 zF a).toNat, m := fun _ => (obP 0 zF a).toNat, ρ0 := idR (s0.next) ss.next, ρ1 := [idR (s0.next) ss.next] }] else some []) 9) (slON_nA a) Try.f50 [.slice none 0 0, .int .i64 a] (stOf []) (Fd 0 K) := by kernel_rfl
set_option tactic.hygienic false in
theorem slON_nP (a : Int) (K : Value → List Blk → Prop)  (hU : Ok64 0 zF) (h1 : ¬ (obE 0 zF a = 0 ∧ 0 < obP 0 zF a)) (h : K (.tuple ⟨[.slice none 0 0, .int .i64 (obE 0 zF a)]⟩) []) : slON_nV a K := by
  unfold slON_nV
  conv => zeta
  have z0 := ob_cases hU a
  have z1 := fun (h1 : 0 ≤ a) (h2 : a < 0) => hU.at h1 h2
  have z2 := fun (h1 : 0 ≤ a) (h2 : a < 0) => hs_bd (hU.at h1 h2).1
  repeat' (first | (with_reducible exact rfl) | (with_reducible exact trivial) | (with_reducible refine And.intro ?_ ?_) | (intro) | (with_reducible refine br_d (fun hq => ?_) (fun hq => ?_)) | (with_reducible refine br_nd (fun hq => ?_) (fun hq => ?_)) | (with_reducible refine br_intro (fun hq => ?_) (fun hq => ?_)) | (with_reducible refine if_both (fun hz => ?_) (fun hz => ?_)) | fail)
  all_goals try (rename Nat × Nat × RF => k; rename _ ∧ (∀ _ : Nat, _) => I; obtain ⟨k1, k2, k3⟩ := k; dsimp only at *; obtain ⟨⟨J1, J2, J3⟩, I2⟩ := I)
  all_goals first
    | (with_reducible assumption)
    | (refine (id ?_ : ∃ (v1 : Value) (news : List Blk), _)
       first
        | contradiction
        | exact .inl ⟨0, (by (refine And.intro (And.intro rfl (And.intro rfl (And.intro rfl rfl))) ?_; (repeat' (first | exact trivial | exact rfl | exact fun _ _ _ _ => rfl | refine And.intro ?_ ?_ | omega | fail)); done)), rfl, Nat.zero_le _⟩
        | exact ⟨0, (by (refine And.intro (And.intro rfl (And.intro rfl (And.intro rfl rfl))) ?_; (repeat' (first | exact trivial | exact rfl | exact fun _ _ _ _ => rfl | refine And.intro ?_ ?_ | omega | fail)); done)), rfl, Nat.zero_le _⟩
        | exact .inr (.inl ⟨(1, y1 - 1, appF (fun _ _ => 0) 0 (litF 1 [a + 1 + 0]) 0), (by (refine And.intro (And.intro rfl (And.intro rfl (And.intro rfl rfl))) ?_; (repeat' (first | exact trivial | exact rfl | exact fun _ _ _ _ => rfl | refine And.intro ?_ ?_ | omega | fail)); done)), ⟨⟨Nat.le_refl 1, by omega, by show 1 ≤ y1 - 1 + 1; omega⟩, app1P (P := fun i v => v = a + 1 + (i : Int)) (by omega)⟩, by show (obP 0 zF a).toNat - 1 < (obP 0 zF a).toNat; omega⟩)
        | exact .inr (.inr ⟨(k1 + 1, y1 - 1, appF k3 k1 (litF 1 [a + 1 + (k1 : Int)]) 0), (by (refine And.intro (And.intro rfl (And.intro rfl (And.intro rfl rfl))) ?_; (repeat' (first | exact trivial | exact rfl | exact fun _ _ _ _ => rfl | refine And.intro ?_ ?_ | omega | fail)); done)), ⟨⟨by show 1 ≤ k1 + 1; omega, by show k1 + 1 ≤ (obP 0 zF a).toNat; omega, by show k1 + 1 ≤ y1 - 1 + 1; omega⟩, appSP (P := fun i v => v = a + 1 + (i : Int)) I2 (rfl)⟩, by show (obP 0 zF a).toNat - (k1 + 1) < (obP 0 zF a).toNat - k1; omega⟩)
        | (obtain rfl : k1 = (obP 0 zF a).toNat := (by omega)
           exact fin1t rfl (fun i j hi hj => (by obtain rfl : j = 0 := (by simp at hj; omega)
                                                 exact (I2 i hi).symm)) (by kernel_rfl) (by kernel_rfl) (h _ (by omega)))
        | exact fin0 (by kernel_rfl) (by kernel_rfl) h
        | exact fin0 (by kernel_rfl) (by kernel_rfl) (fin0n (by omega) h)
        | (exfalso; omega)
       )
    | omega
    | contradiction
    | exact .inl ⟨0, (by (refine And.intro (And.intro rfl (And.intro rfl (And.intro rfl rfl))) ?_; (repeat' (first | exact trivial | exact rfl | exact fun _ _ _ _ => rfl | refine And.intro ?_ ?_ | omega | fail)); done)), rfl, Nat.zero_le _⟩
    | exact ⟨0, (by (refine And.intro (And.intro rfl (And.intro rfl (And.intro rfl rfl))) ?_; (repeat' (first | exact trivial | exact rfl | exact fun _ _ _ _ => rfl | refine And.intro ?_ ?_ | omega | fail)); done)), rfl, Nat.zero_le _⟩
    | exact .inr (.inl ⟨(1, y1 - 1, appF (fun _ _ => 0) 0 (litF 1 [a + 1 + 0]) 0), (by (refine And.intro (And.intro rfl (And.intro rfl (And.intro rfl rfl))) ?_; (repeat' (first | exact trivial | exact rfl | exact fun _ _ _ _ => rfl | refine And.intro ?_ ?_ | omega | fail)); done)), ⟨⟨Nat.le_refl 1, by omega, by show 1 ≤ y1 - 1 + 1; omega⟩, app1P (P := fun i v => v = a + 1 + (i : Int)) (by omega)⟩, by show (obP 0 zF a).toNat - 1 < (obP 0 zF a).toNat; omega⟩)
    | exact .inr (.inr ⟨(k1 + 1, y1 - 1, appF k3 k1 (litF 1 [a + 1 + (k1 : Int)]) 0), (by (refine And.intro (And.intro rfl (And.intro rfl (And.intro rfl rfl))) ?_; (repeat' (first | exact trivial | exact rfl | exact fun _ _ _ _ => rfl | refine And.intro ?_ ?_ | omega | fail)); done)), ⟨⟨by show 1 ≤ k1 + 1; omega, by show k1 + 1 ≤ (obP 0 zF a).toNat; omega, by show k1 + 1 ≤ y1 - 1 + 1; omega⟩, appSP (P := fun i v => v = a + 1 + (i : Int)) I2 (rfl)⟩, by show (obP 0 zF a).toNat - (k1 + 1) < (obP 0 zF a).toNat - k1; omega⟩)
    | (obtain rfl : k1 = (obP 0 zF a).toNat := (by omega)
       exact fin1t rfl (fun i j hi hj => (by obtain rfl : j = 0 := (by simp at hj; omega)
                                             exact (I2 i hi).symm)) (by kernel_rfl) (by kernel_rfl) (h _ (by omega)))
    | exact fin0 (by kernel_rfl) (by kernel_rfl) h
    | exact fin0 (by kernel_rfl) (by kernel_rfl) (fin0n (by omega) h)
    | (exfalso; omega)
def slON_rV (ew nw cw : Nat) (fw : RF) (a : Int) (K : Value → List Blk → Prop) : Prop := let q0 := ((5 : Nat), (5 : Nat)); let q1 := eB; let q2 := (9223372036854775807 : Int); let q3 := (fw (Int.toNat a) (0 : Nat)); let q4 := (-9223372036854775808 : Int); let q5 := (@Eq Nat ((1 : Nat)) ((1 : Nat))); let q6 := (hsP q3); let q7 := (hsR q3); let q8 := (9, vi (0 : Int)); let q9 := (8, vi (0 : Int)); let q10 := ((0 : Nat) ≤ Int.toNat (obP nw fw a)); let q11 := TS; let q12 := (7, vn); let q13 := (3, vn); let q14 := (2, vn); let q15 := (0, Blk.row true [IntKind.u64] ew nw cw fw); let q16 := ((9 : Nat), vi (0 : Int)); let q17 := ((8 : Nat), vi (0 : Int)); let q18 := ((7 : Nat), vn); let q19 := ((3 : Nat), vn); let q20 := ((2 : Nat), vn); let q21 := (a + (1 : Int) + hsP q3); let q22 := ((0 : Nat), Blk.row true [IntKind.u64] ew nw cw fw); let q23 := (6, Value.pointer (some { block := (5 : Nat), off := (0 : Nat) })); let q24 := (5, Value.pointer (some { block := (5 : Nat), off := (0 : Nat) })); let q25 := (1, Value.pointer (some { block := (5 : Nat), off := (0 : Nat) })); let q26 := ((6 : Nat), Value.pointer (some { block := (5 : Nat), off := (0 : Nat) })); let q27 := ((5 : Nat), Value.pointer (some { block := (5 : Nat), off := (0 : Nat) })); let q28 := ((1 : Nat), Value.pointer (some { block := (5 : Nat), off := (0 : Nat) })); let q29 := (Int.toNat (a + (1 : Int) + hsP q3 - (a + (1 : Int)))); let q30 := (a + (1 : Int) + hsP q3 + hsR q3); let q31 := (↑q29 : Int); let q32 := (8, vi q31); let q33 := (3, Blk.cells [vi q6, vi q7] (60 : Nat)); let q34 := ((3 : Nat), Blk.cells [vi q6, vi q7] (60 : Nat)); let q35 := (Int.toNat (a + (1 : Int) + hsP q3 + hsR q3 - q21)); let q36 := (2, Blk.cells [vi (0 : Int), vi (0 : Int), vn, vi (0 : Int), vn] (118 : Nat)); let q37 := (1, Blk.cells [vi (0 : Int), vi (0 : Int), vn, vi (0 : Int), vn] (118 : Nat)); let q38 := ((2 : Nat), Blk.cells [vi (0 : Int), vi (0 : Int), vn, vi (0 : Int), vn] (118 : Nat)); let q39 := ((1 : Nat), Blk.cells [vi (0 : Int), vi (0 : Int), vn, vi (0 : Int), vn] (118 : Nat)); let q40 := (7, Value.slice (some { block := (0 : Nat), off := (0 : Nat), spot := some (Nat.succ (Nat.succ (Int.toNat (a + (1 : Int))))) }) q29 q29); let q41 := (5, Blk.cells [Value.slice (some { block := (0 : Nat), off := (0 : Nat), spot := some (Nat.succ (Nat.succ (Int.toNat (a + (1 : Int))))) }) q29 q29, vi (a + (1 : Int))] (114 : Nat)); let q42 := (4, Blk.cells [vi q6, vi q7, Value.slice (some { block := (0 : Nat), off := (0 : Nat), spot := some (Nat.succ (Nat.succ (Int.toNat (a + (1 : Int))))) }) q29 q29, vi (a + (1 : Int)), Value.slice (some { block := (0 : Nat), off := (0 : Nat), spot := some (Nat.succ (Nat.succ (Int.toNat q21))) }) q35 q35] (118 : Nat)); let q43 := (2, Blk.cells [vi q6, vi q7, Value.slice (some { block := (0 : Nat), off := (0 : Nat), spot := some (Nat.succ (Nat.succ (Int.toNat (a + (1 : Int))))) }) q29 q29, vi (a + (1 : Int)), Value.slice (some { block := (0 : Nat), off := (0 : Nat), spot := some (Nat.succ (Nat.succ (Int.toNat q21))) }) q35 q35] (118 : Nat)); let q44 := (1, Blk.cells [vi q6, vi q7, Value.slice (some { block := (0 : Nat), off := (0 : Nat), spot := some (Nat.succ (Nat.succ (Int.toNat (a + (1 : Int))))) }) q29 q29, vi (a + (1 : Int)), Value.slice (some { block := (0 : Nat), off := (0 : Nat), spot := some (Nat.succ (Nat.succ (Int.toNat q21))) }) q35 q35] (118 : Nat)); let q45 := (t9 (t4 (q11 ∧ ((∃ y0 : Nat, ((Go.Rx.Sub 4 [((4 : Nat), (4 : Nat))] ⟨21, [q8, q9, q12, (6, Value.pointer (some { block := (4 : Nat), off := (0 : Nat) })), (5, Value.pointer (some { block := (4 : Nat), off := (0 : Nat) })), q13, q14, (1, Value.pointer (some { block := (4 : Nat), off := (0 : Nat) })), (0, Value.agg { toList := [vn, vi (0 : Int)] })]⟩ ⟨[(4, Blk.cells [vn, vi (0 : Int)] (114 : Nat)), (3, Blk.cells [vi (0 : Int), vi (0 : Int), vn, vi (0 : Int), vn] (118 : Nat)), q36, q37, q15], 5⟩ ({ n := (21 : Nat), m := [q16, q17, q18, ((6 : Nat), Value.pointer (some { block := (4 : Nat), off := (0 : Nat) })), ((5 : Nat), Value.pointer (some { block := (4 : Nat), off := (0 : Nat) })), q19, q20, ((1 : Nat), Value.pointer (some { block := (4 : Nat), off := (0 : Nat) })), ((0 : Nat), Value.agg { toList := [vn, vi (0 : Int)] })] }) ({ h := [((4 : Nat), Blk.cells [vn, vi (0 : Int)] (114 : Nat)), ((3 : Nat), Blk.cells [vi (0 : Int), vi (0 : Int), vn, vi (0 : Int), vn] (118 : Nat)), q38, q39, q22], next := (5 : Nat) })) ∧ ((@Eq Nat (y0) ((0 : Nat))) ∧ q10))) ∧ (∀ y0 : Nat, (((@Eq Nat (y0) ((0 : Nat))) ∧ q10) → (T0 ∧ (∃ y1 : Value, (∃ y2 : List Blk, ((Go.Rx.Found 1 (Value.tuple { toList := [vn, vi (7 : Int)] }) ({ h := [((4 : Nat), Blk.cells [vn, vi (0 : Int)] (114 : Nat)), ((3 : Nat), Blk.cells [vi (0 : Int), vi (0 : Int), vn, vi (0 : Int), vn] (118 : Nat)), q38, q39, q22], next := (5 : Nat) }) (y1) (y2)) ∧ (K y1 y2))))))))))); let q46 := (t9 (t4 (q11 ∧ ((∃ y0 : Nat, ((Go.Rx.Sub 5 [q0] ⟨21, [q8, q9, q12, q23, q24, q13, q14, q25, (0, Value.agg { toList := [vn, vi (0 : Int)] })]⟩ ⟨[(5, Blk.cells [vn, vi (0 : Int)] (114 : Nat)), (4, Blk.cells [vi (0 : Int), vi (0 : Int), vn, vi (0 : Int), vn] (118 : Nat)), q33, q36, q37, q15], 6⟩ ({ n := (21 : Nat), m := [q16, q17, q18, q26, q27, q19, q20, q28, ((0 : Nat), Value.agg { toList := [vn, vi (0 : Int)] })] }) ({ h := [((5 : Nat), Blk.cells [vn, vi (0 : Int)] (114 : Nat)), ((4 : Nat), Blk.cells [vi (0 : Int), vi (0 : Int), vn, vi (0 : Int), vn] (118 : Nat)), q34, q38, q39, q22], next := (6 : Nat) })) ∧ ((@Eq Nat (y0) ((0 : Nat))) ∧ q10))) ∧ (∀ y0 : Nat, (((@Eq Nat (y0) ((0 : Nat))) ∧ q10) → (T0 ∧ (∃ y1 : Value, (∃ y2 : List Blk, ((Go.Rx.Found 1 (Value.tuple { toList := [vn, vi (6 : Int)] }) ({ h := [((5 : Nat), Blk.cells [vn, vi (0 : Int)] (114 : Nat)), ((4 : Nat), Blk.cells [vi (0 : Int), vi (0 : Int), vn, vi (0 : Int), vn] (118 : Nat)), q34, q38, q39, q22], next := (6 : Nat) }) (y1) (y2)) ∧ (K y1 y2))))))))))); (t2 (((0 : Nat) + nw ≤ nw) ∧ (((@Eq Nat ((0 : Nat)) ((0 : Nat))) ∧ ((nw ≤ (100000 : Nat)) ∧ (nw ≤ cw))) ∧ (((@Eq (List IntKind) ([IntKind.u64]) ([IntKind.u64])) ∧ ((@Eq Nat (nw) (nw)) ∧ (@Eq Nat (cw) (cw)))) ∧ (q1 ∧ ((True) ∧ (T0 ∧ (if (@Eq Int (arE nw fw) ((0 : Int))) then (t2 (if (a < (1 : Int)) then q45 else (q11 ∧ (T0 ∧ (if ((↑nw : Int) ≤ a) then q45 else ((q11 ∧ q5) ∧ ((((0 : Int) ≤ a) ∧ (a < (↑nw : Int))) ∧ ((Int.toNat a < nw) ∧ (T0 ∧ (q1 ∧ ((((0 : Int) ≤ fw (Int.toNat a) (0 : Nat)) ∧ (fw (Int.toNat a) (0 : Nat) ≤ (18446744073709551615 : Int))) ∧ (t3 (if (@Eq Int (hsE q3) ((0 : Int))) then (t3 (((q4 ≤ hsP q3 + hsR q3) ∧ (hsP q3 + hsR q3 ≤ q2)) ∧ (q11 ∧ (T0 ∧ (((q4 ≤ (↑nw : Int) - a) ∧ ((↑nw : Int) - a ≤ q2)) ∧ (T0 ∧ (if ((↑nw : Int) - a ≤ hsP q3 + hsR q3) then q46 else (T0 ∧ (((q4 ≤ a + (1 : Int)) ∧ (a + (1 : Int) ≤ q2)) ∧ (t2 (((q4 ≤ a + (1 : Int) + hsP q3) ∧ (a + (1 : Int) + hsP q3 ≤ q2)) ∧ (t2 (((q4 ≤ a + (1 : Int) + hsP q3 + hsR q3) ∧ (a + (1 : Int) + hsP q3 + hsR q3 ≤ q2)) ∧ (t8 (q11 ∧ (t4 (q5 ∧ ((((0 : Int) ≤ a + (1 : Int)) ∧ ((a + (1 : Int) ≤ a + (1 : Int) + hsP q3) ∧ ((a + (1 : Int) + hsP q3 ≤ a + (1 : Int) + hsP q3) ∧ (a + (1 : Int) + hsP q3 ≤ (↑cw : Int))))) ∧ ((@Eq Int q21 q21) ∧ (t8 (q11 ∧ (t4 (q5 ∧ ((((0 : Int) ≤ a + (1 : Int) + hsP q3) ∧ ((a + (1 : Int) + hsP q3 ≤ a + (1 : Int) + hsP q3 + hsR q3) ∧ ((a + (1 : Int) + hsP q3 + hsR q3 ≤ a + (1 : Int) + hsP q3 + hsR q3) ∧ (a + (1 : Int) + hsP q3 + hsR q3 ≤ (↑cw : Int))))) ∧ ((@Eq Int q30 q30) ∧ (t9 (t7 (q11 ∧ ((∃ y0 : Nat, ((Go.Rx.Sub 5 [q0] ⟨21, [q8, q32, q40, q23, q24, q13, q14, q25, (0, Value.agg { toList := [Value.slice (some { block := (0 : Nat), off := (0 : Nat), spot := some (Nat.succ (Nat.succ (Int.toNat (a + (1 : Int))))) }) q29 q29, vi (a + (1 : Int))] })]⟩ ⟨[q41, q42, q33, q43, q44, q15], 6⟩ ({ n := (21 : Nat), m := [q16, ((8 : Nat), vi q31), ((7 : Nat), Value.slice (some { block := (0 : Nat), off := (0 : Nat), spot := some (Nat.succ (Nat.succ (Int.toNat (a + (1 : Int))))) }) q29 q29), q26, q27, q19, q20, q28, ((0 : Nat), Value.agg { toList := [Value.slice (some { block := (0 : Nat), off := (0 : Nat), spot := some (Nat.succ (Nat.succ (Int.toNat (a + (1 : Int))))) }) q29 q29, vi (a + (1 : Int))] })] }) ({ h := [((5 : Nat), Blk.cells [Value.slice (some { block := (0 : Nat), off := (0 : Nat), spot := some (Nat.succ (Nat.succ (Int.toNat (a + (1 : Int))))) }) q29 q29, vi (a + (1 : Int))] (114 : Nat)), ((4 : Nat), Blk.cells [vi q6, vi q7, Value.slice (some { block := (0 : Nat), off := (0 : Nat), spot := some (Nat.succ (Nat.succ (Int.toNat (a + (1 : Int))))) }) q29 q29, vi (a + (1 : Int)), Value.slice (some { block := (0 : Nat), off := (0 : Nat), spot := some (Nat.succ (Nat.succ (Int.toNat q21))) }) q35 q35] (118 : Nat)), q34, ((2 : Nat), Blk.cells [vi q6, vi q7, Value.slice (some { block := (0 : Nat), off := (0 : Nat), spot := some (Nat.succ (Nat.succ (Int.toNat (a + (1 : Int))))) }) q29 q29, vi (a + (1 : Int)), Value.slice (some { block := (0 : Nat), off := (0 : Nat), spot := some (Nat.succ (Nat.succ (Int.toNat q21))) }) q35 q35] (118 : Nat)), ((1 : Nat), Blk.cells [vi q6, vi q7, Value.slice (some { block := (0 : Nat), off := (0 : Nat), spot := some (Nat.succ (Nat.succ (Int.toNat (a + (1 : Int))))) }) q29 q29, vi (a + (1 : Int)), Value.slice (some { block := (0 : Nat), off := (0 : Nat), spot := some (Nat.succ (Nat.succ (Int.toNat q21))) }) q35 q35] (118 : Nat)), q22], next := (6 : Nat) })) ∧ ((@Eq Nat (y0) ((0 : Nat))) ∧ q10))) ∧ (∀ y0 : Nat, (((@Eq Nat (y0) ((0 : Nat))) ∧ q10) → (T0 ∧ (if ((0 : Int) < q31) then (t2 (((q4 ≤ a + (1 : Int) + (0 : Int)) ∧ (a + (1 : Int) + (0 : Int) ≤ q2)) ∧ (q11 ∧ (t4 (q11 ∧ (q11 ∧ (t4 (((1 : Nat) ≤ (1 : Nat)) ∧ (((1 : Nat) ≤ (100000 : Nat)) ∧ (∀ y1 : Nat, (((1 : Nat) ≤ y1) → (T0 ∧ (((q4 ≤ (0 : Int) + (1 : Int)) ∧ ((0 : Int) + (1 : Int) ≤ q2)) ∧ (∃ y2 : Nat, ((Go.Rx.Sub 5 [q0] ⟨21, [(9, vi (1 : Int)), (3, rsl (7 : Nat) (0 : Nat) (1 : Nat) (y1 - (1 : Nat) + (1 : Nat))), q32, q40, q23, q24, q14, q25, (0, Value.agg { toList := [Value.slice (some { block := (0 : Nat), off := (0 : Nat), spot := some (Nat.succ (Nat.succ (Int.toNat (a + (1 : Int))))) }) q29 q29, vi (a + (1 : Int))] })]⟩ ⟨[q41, q42, q33, q43, q44, q15], 8⟩ ({ n := (21 : Nat), m := [q16, ((8 : Nat), vi q31), ((7 : Nat), Value.slice (some { block := (0 : Nat), off := (0 : Nat), spot := some (Nat.succ (Nat.succ (Int.toNat (a + (1 : Int))))) }) q29 q29), q26, q27, q19, q20, q28, ((0 : Nat), Value.agg { toList := [Value.slice (some { block := (0 : Nat), off := (0 : Nat), spot := some (Nat.succ (Nat.succ (Int.toNat (a + (1 : Int))))) }) q29 q29, vi (a + (1 : Int))] })] }) ({ h := [((5 : Nat), Blk.cells [Value.slice (some { block := (0 : Nat), off := (0 : Nat), spot := some (Nat.succ (Nat.succ (Int.toNat (a + (1 : Int))))) }) q29 q29, vi (a + (1 : Int))] (114 : Nat)), ((4 : Nat), Blk.cells [vi q6, vi q7, Value.slice (some { block := (0 : Nat), off := (0 : Nat), spot := some (Nat.succ (Nat.succ (Int.toNat (a + (1 : Int))))) }) q29 q29, vi (a + (1 : Int)), Value.slice (some { block := (0 : Nat), off := (0 : Nat), spot := some (Nat.succ (Nat.succ (Int.toNat q21))) }) q35 q35] (118 : Nat)), q34, ((2 : Nat), Blk.cells [vi q6, vi q7, Value.slice (some { block := (0 : Nat), off := (0 : Nat), spot := some (Nat.succ (Nat.succ (Int.toNat (a + (1 : Int))))) }) q29 q29, vi (a + (1 : Int)), Value.slice (some { block := (0 : Nat), off := (0 : Nat), spot := some (Nat.succ (Nat.succ (Int.toNat q21))) }) q35 q35] (118 : Nat)), ((1 : Nat), Blk.cells [vi q6, vi q7, Value.slice (some { block := (0 : Nat), off := (0 : Nat), spot := some (Nat.succ (Nat.succ (Int.toNat (a + (1 : Int))))) }) q29 q29, vi (a + (1 : Int)), Value.slice (some { block := (0 : Nat), off := (0 : Nat), spot := some (Nat.succ (Nat.succ (Int.toNat q21))) }) q35 q35] (118 : Nat)), q22], next := (6 : Nat) })) ∧ (((@Eq Nat (y2) ((0 : Nat))) ∧ q10) ∧ (Int.toNat (obP nw fw a) < Int.toNat (obP nw fw a)))))))))))))))))) else (∃ y1 : Value, (∃ y2 : List Blk, ((Go.Rx.Found 1 (Value.tuple { toList := [vn, vi (0 : Int)] }) ({ h := [((5 : Nat), Blk.cells [Value.slice (some { block := (0 : Nat), off := (0 : Nat), spot := some (Nat.succ (Nat.succ (Int.toNat (a + (1 : Int))))) }) q29 q29, vi (a + (1 : Int))] (114 : Nat)), ((4 : Nat), Blk.cells [vi q6, vi q7, Value.slice (some { block := (0 : Nat), off := (0 : Nat), spot := some (Nat.succ (Nat.succ (Int.toNat (a + (1 : Int))))) }) q29 q29, vi (a + (1 : Int)), Value.slice (some { block := (0 : Nat), off := (0 : Nat), spot := some (Nat.succ (Nat.succ (Int.toNat q21))) }) q35 q35] (118 : Nat)), q34, ((2 : Nat), Blk.cells [vi q6, vi q7, Value.slice (some { block := (0 : Nat), off := (0 : Nat), spot := some (Nat.succ (Nat.succ (Int.toNat (a + (1 : Int))))) }) q29 q29, vi (a + (1 : Int)), Value.slice (some { block := (0 : Nat), off := (0 : Nat), spot := some (Nat.succ (Nat.succ (Int.toNat q21))) }) q35 q35] (118 : Nat)), ((1 : Nat), Blk.cells [vi q6, vi q7, Value.slice (some { block := (0 : Nat), off := (0 : Nat), spot := some (Nat.succ (Nat.succ (Int.toNat (a + (1 : Int))))) }) q29 q29, vi (a + (1 : Int)), Value.slice (some { block := (0 : Nat), off := (0 : Nat), spot := some (Nat.succ (Nat.succ (Int.toNat q21))) }) q35 q35] (118 : Nat)), q22], next := (6 : Nat) }) (y1) (y2)) ∧ (K y1 y2))))))))))))))))))))))))))))))))))))) else q46))))))))))))) else (t9 (T0 ∧ (q11 ∧ ((∃ y0 : Nat, ((Go.Rx.Sub 3 [((3 : Nat), (3 : Nat))] ⟨21, [q8, q9, q12, (6, Value.pointer (some { block := (3 : Nat), off := (0 : Nat) })), (5, Value.pointer (some { block := (3 : Nat), off := (0 : Nat) })), q13, q14, (1, Value.pointer (some { block := (3 : Nat), off := (0 : Nat) })), (0, Value.agg { toList := [vn, vi (0 : Int)] })]⟩ ⟨[(3, Blk.cells [vn, vi (0 : Int)] (114 : Nat)), q36, q37, q15], 4⟩ ({ n := (21 : Nat), m := [q16, q17, q18, ((6 : Nat), Value.pointer (some { block := (3 : Nat), off := (0 : Nat) })), ((5 : Nat), Value.pointer (some { block := (3 : Nat), off := (0 : Nat) })), q19, q20, ((1 : Nat), Value.pointer (some { block := (3 : Nat), off := (0 : Nat) })), ((0 : Nat), Value.agg { toList := [vn, vi (0 : Int)] })] }) ({ h := [((3 : Nat), Blk.cells [vn, vi (0 : Int)] (114 : Nat)), q38, q39, q22], next := (4 : Nat) })) ∧ ((@Eq Nat (y0) ((0 : Nat))) ∧ q10))) ∧ (∀ y0 : Nat, (((@Eq Nat (y0) ((0 : Nat))) ∧ q10) → (T0 ∧ (∃ y1 : Value, (∃ y2 : List Blk, ((Go.Rx.Found 1 (Value.tuple { toList := [vn, vi (arE nw fw)] }) ({ h := [((3 : Nat), Blk.cells [vn, vi (0 : Int)] (114 : Nat)), q38, q39, q22], next := (4 : Nat) }) (y1) (y2)) ∧ (K y1 y2)))))))))))))))))))
theorem slON_rE (ew nw cw : Nat) (fw : RF) (a : Int) (K : Value → List Blk → Prop) : slON_rV ew nw cw fw a K = bodyX (mk XO) (callI (mk XO) (fun f ar s0 k tt ss => bif Nat.beq f 96 && Nat.beq k 3 then some [{ α := Nat, T := fun _ => tt, S := fun _ => ss, I := fun k => k = 0 ∧ 0 ≤ (obP nw fw a).toNat, m := fun _ => (obP nw fw a).toNat, ρ0 := idR (s0.next) ss.next, ρ1 := [idR (s0.next) ss.next] }] else some []) 9) (slON_rA ew nw cw fw a) Try.f50 [rsl 0 0 nw cw, .int .i64 a] (stOf [.row true [.u64] ew nw cw fw]) (Fd 1 K) := by kernel_rfl
set_option tactic.hygienic false in
theorem slON_rP (ew nw cw : Nat) (fw : RF) (a : Int) (K : Value → List Blk → Prop)  (hnw : nw ≤ 100000) (hcw : nw ≤ cw) (hU : Ok64 nw fw) (h1 : ¬ (obE nw fw a = 0 ∧ 0 < obP nw fw a)) (h : K (.tuple ⟨[.slice none 0 0, .int .i64 (obE nw fw a)]⟩) []) : slON_rV ew nw cw fw a K := by
  unfold slON_rV
  conv => zeta
  have z0 := ob_cases hU a
  have z1 := fun (h1 : 0 ≤ a) (h2 : a < nw) => hU.at h1 h2
  have z2 := fun (h1 : 0 ≤ a) (h2 : a < nw) => hs_bd (hU.at h1 h2).1
  repeat' (first | (with_reducible exact rfl) | (with_reducible exact trivial) | (with_reducible refine And.intro ?_ ?_) | (intro) | (with_reducible refine br_d (fun hq => ?_) (fun hq => ?_)) | (with_reducible refine br_nd (fun hq => ?_) (fun hq => ?_)) | (with_reducible refine br_intro (fun hq => ?_) (fun hq => ?_)) | (with_reducible refine if_both (fun hz => ?_) (fun hz => ?_)) | fail)
  all_goals try (rename Nat × Nat × RF => k; rename _ ∧ (∀ _ : Nat, _) => I; obtain ⟨k1, k2, k3⟩ := k; dsimp only at *; obtain ⟨⟨J1, J2, J3⟩, I2⟩ := I)
  all_goals first
    | (with_reducible assumption)
    | (refine (id ?_ : ∃ (v1 : Value) (news : List Blk), _)
       first
        | contradiction
        | exact .inl ⟨0, (by (refine And.intro (And.intro rfl (And.intro rfl (And.intro rfl rfl))) ?_; (repeat' (first | exact trivial | exact rfl | exact fun _ _ _ _ => rfl | refine And.intro ?_ ?_ | omega | fail)); done)), rfl, Nat.zero_le _⟩
        | exact ⟨0, (by (refine And.intro (And.intro rfl (And.intro rfl (And.intro rfl rfl))) ?_; (repeat' (first | exact trivial | exact rfl | exact fun _ _ _ _ => rfl | refine And.intro ?_ ?_ | omega | fail)); done)), rfl, Nat.zero_le _⟩
        | exact .inr (.inl ⟨(1, y1 - 1, appF (fun _ _ => 0) 0 (litF 1 [a + 1 + 0]) 0), (by (refine And.intro (And.intro rfl (And.intro rfl (And.intro rfl rfl))) ?_; (repeat' (first | exact trivial | exact rfl | exact fun _ _ _ _ => rfl | refine And.intro ?_ ?_ | omega | fail)); done)), ⟨⟨Nat.le_refl 1, by omega, by show 1 ≤ y1 - 1 + 1; omega⟩, app1P (P := fun i v => v = a + 1 + (i : Int)) (by omega)⟩, by show (obP nw fw a).toNat - 1 < (obP nw fw a).toNat; omega⟩)
        | exact .inr (.inr ⟨(k1 + 1, y1 - 1, appF k3 k1 (litF 1 [a + 1 + (k1 : Int)]) 0), (by (refine And.intro (And.intro rfl (And.intro rfl (And.intro rfl rfl))) ?_; (repeat' (first | exact trivial | exact rfl | exact fun _ _ _ _ => rfl | refine And.intro ?_ ?_ | omega | fail)); done)), ⟨⟨by show 1 ≤ k1 + 1; omega, by show k1 + 1 ≤ (obP nw fw a).toNat; omega, by show k1 + 1 ≤ y1 - 1 + 1; omega⟩, appSP (P := fun i v => v = a + 1 + (i : Int)) I2 (rfl)⟩, by show (obP nw fw a).toNat - (k1 + 1) < (obP nw fw a).toNat - k1; omega⟩)
        | (obtain rfl : k1 = (obP nw fw a).toNat := (by omega)
           exact fin1t rfl (fun i j hi hj => (by obtain rfl : j = 0 := (by simp at hj; omega)
                                                 exact (I2 i hi).symm)) (by kernel_rfl) (by kernel_rfl) (h _ (by omega)))
        | exact fin0 (by kernel_rfl) (by kernel_rfl) h
        | exact fin0 (by kernel_rfl) (by kernel_rfl) (fin0n (by omega) h)
        | (exfalso; omega)
       )
    | omega
    | contradiction
    | exact .inl ⟨0, (by (refine And.intro (And.intro rfl (And.intro rfl (And.intro rfl rfl))) ?_; (repeat' (first | exact trivial | exact rfl | exact fun _ _ _ _ => rfl | refine And.intro ?_ ?_ | omega | fail)); done)), rfl, Nat.zero_le _⟩
    | exact ⟨0, (by (refine And.intro (And.intro rfl (And.intro rfl (And.intro rfl rfl))) ?_; (repeat' (first | exact trivial | exact rfl | exact fun _ _ _ _ => rfl | refine And.intro ?_ ?_ | omega | fail)); done)), rfl, Nat.zero_le _⟩
    | exact .inr (.inl ⟨(1, y1 - 1, appF (fun _ _ => 0) 0 (litF 1 [a + 1 + 0]) 0), (by (refine And.intro (And.intro rfl (And.intro rfl (And.intro rfl rfl))) ?_; (repeat' (first | exact trivial | exact rfl | exact fun _ _ _ _ => rfl | refine And.intro ?_ ?_ | omega | fail)); done)), ⟨⟨Nat.le_refl 1, by omega, by show 1 ≤ y1 - 1 + 1; omega⟩, app1P (P := fun i v => v = a + 1 + (i : Int)) (by omega)⟩, by show (obP nw fw a).toNat - 1 < (obP nw fw a).toNat; omega⟩)
    | exact .inr (.inr ⟨(k1 + 1, y1 - 1, appF k3 k1 (litF 1 [a + 1 + (k1 : Int)]) 0), (by (refine And.intro (And.intro rfl (And.intro rfl (And.intro rfl rfl))) ?_; (repeat' (first | exact trivial | exact rfl | exact fun _ _ _ _ => rfl | refine And.intro ?_ ?_ | omega | fail)); done)), ⟨⟨by show 1 ≤ k1 + 1; omega, by show k1 + 1 ≤ (obP nw fw a).toNat; omega, by show k1 + 1 ≤ y1 - 1 + 1; omega⟩, appSP (P := fun i v => v = a + 1 + (i : Int)) I2 (rfl)⟩, by show (obP nw fw a).toNat - (k1 + 1) < (obP nw fw a).toNat - k1; omega⟩)
    | (obtain rfl : k1 = (obP nw fw a).toNat := (by omega)
       exact fin1t rfl (fun i j hi hj => (by obtain rfl : j = 0 := (by simp at hj; omega)
                                             exact (I2 i hi).symm)) (by kernel_rfl) (by kernel_rfl) (h _ (by omega)))
    | exact fin0 (by kernel_rfl) (by kernel_rfl) h
    | exact fin0 (by kernel_rfl) (by kernel_rfl) (fin0n (by omega) h)
    | (exfalso; omega)
theorem slON_ok : BodyOk (mk XO) 9 Try.f50 slON := by
  intro vs bs K hh hro
  clear hro
  unfold slON at hh
  split at hh
  · rename_i vw a
    rcases parseQ_inv hh with ⟨rfl, hh0⟩ | ⟨ew, nw, cw, fw, btw, rfl, hnw, hcw, rfl, hh0⟩ <;> clear hh
    · obtain ⟨rfl, ⟨hU, h1⟩, hc⟩ := hh0
      exact ⟨_, _, cast (slON_nE  a K) (slON_nP  a K  hU h1 hc)⟩
    · obtain ⟨rfl, ⟨hU, h1⟩, hc⟩ := hh0
      exact ⟨_, _, cast (slON_rE ew nw cw fw a K) (slON_rP ew nw cw fw a K hnw hcw hU h1 hc)⟩
  · exact hh.elim
theorem slON_told : Told 50 (specOf slON) := told (X := XO) XO_told (by kernel_rfl) (by kernel_rfl) (by kernel_rfl) slON_ok
def slOR_rV (ew nw cw : Nat) (fw : RF) (a : Int) (K : Value → List Blk → Prop) : Prop := let q0 := ((3 : Nat), (3 : Nat)); let q1 := ((4 : Nat), (4 : Nat)); let q2 := ((5 : Nat), (5 : Nat)); let q3 := ((6 : Nat), (6 : Nat)); let q4 := ((6 : Nat), (8 : Nat)); let q5 := ((6 : Nat), (7 : Nat)); let q6 := ((1 : Nat) ≤ (1 : Nat)); let q7 := eB; let q8 := (List.length [IntKind.i64]); let q9 := (9223372036854775807 : Int); let q10 := (fw (Int.toNat a) (0 : Nat)); let q11 := ((1 : Nat) ≤ (100000 : Nat)); let q12 := (-9223372036854775808 : Int); let q13 := (@Eq Nat ((1 : Nat)) ((1 : Nat))); let q14 := (@Eq Nat ((0 : Nat)) ((0 : Nat))); let q15 := (hsP q10); let q16 := (hsR q10); let q17 := (9, vi (0 : Int)); let q18 := (8, vi (0 : Int)); let q19 := (9, vi (1 : Int)); let q20 := ((0 : Nat) ≤ Int.toNat (obP nw fw a)); let q21 := TS; let q22 := (7, vn); let q23 := (3, vn); let q24 := (2, vn); let q25 := (0, Blk.row true [IntKind.u64] ew nw cw fw); let q26 := ((8 : Nat), vi (0 : Int)); let q27 := ((9 : Nat), vi (0 : Int)); let q28 := ((7 : Nat), vn); let q29 := ((2 : Nat), vn); let q30 := ((3 : Nat), vn); let q31 := (a + (1 : Int) + hsP q10); let q32 := ((0 : Nat), Blk.row true [IntKind.u64] ew nw cw fw); let q33 := (6, Value.pointer (some { block := (3 : Nat), off := (0 : Nat) })); let q34 := (5, Value.pointer (some { block := (3 : Nat), off := (0 : Nat) })); let q35 := (1, Value.pointer (some { block := (3 : Nat), off := (0 : Nat) })); let q36 := (6, Value.pointer (some { block := (5 : Nat), off := (0 : Nat) })); let q37 := (5, Value.pointer (some { block := (5 : Nat), off := (0 : Nat) })); let q38 := (1, Value.pointer (some { block := (5 : Nat), off := (0 : Nat) })); let q39 := (6, Value.pointer (some { block := (4 : Nat), off := (0 : Nat) })); let q40 := (5, Value.pointer (some { block := (4 : Nat), off := (0 : Nat) })); let q41 := (1, Value.pointer (some { block := (4 : Nat), off := (0 : Nat) })); let q42 := ((6 : Nat), Value.pointer (some { block := (3 : Nat), off := (0 : Nat) })); let q43 := ((5 : Nat), Value.pointer (some { block := (3 : Nat), off := (0 : Nat) })); let q44 := ((1 : Nat), Value.pointer (some { block := (3 : Nat), off := (0 : Nat) })); let q45 := ((6 : Nat), Value.pointer (some { block := (5 : Nat), off := (0 : Nat) })); let q46 := ((5 : Nat), Value.pointer (some { block := (5 : Nat), off := (0 : Nat) })); let q47 := ((1 : Nat), Value.pointer (some { block := (5 : Nat), off := (0 : Nat) })); let q48 := ((6 : Nat), Value.pointer (some { block := (4 : Nat), off := (0 : Nat) })); let q49 := ((5 : Nat), Value.pointer (some { block := (4 : Nat), off := (0 : Nat) })); let q50 := ((1 : Nat), Value.pointer (some { block := (4 : Nat), off := (0 : Nat) })); let q51 := (Int.toNat (a + (1 : Int) + hsP q10 - (a + (1 : Int)))); let q52 := (a + (1 : Int) + hsP q10 + hsR q10); let q53 := (↑q51 : Int); let q54 := (3, Blk.cells [vn, vi (0 : Int)] (114 : Nat)); let q55 := (5, Blk.cells [vn, vi (0 : Int)] (114 : Nat)); let q56 := (4, Blk.cells [vn, vi (0 : Int)] (114 : Nat)); let q57 := ((3 : Nat), Blk.cells [vn, vi (0 : Int)] (114 : Nat)); let q58 := ((5 : Nat), Blk.cells [vn, vi (0 : Int)] (114 : Nat)); let q59 := ((4 : Nat), Blk.cells [vn, vi (0 : Int)] (114 : Nat)); let q60 := (8, vi q53); let q61 := ((8 : Nat), vi q53); let q62 := (3, Blk.cells [vi q15, vi q16] (60 : Nat)); let q63 := ((3 : Nat), Blk.cells [vi q15, vi q16] (60 : Nat)); let q64 := (Int.toNat (a + (1 : Int) + hsP q10 + hsR q10 - q31)); let q65 := (2, Blk.cells [vi (0 : Int), vi (0 : Int), vn, vi (0 : Int), vn] (118 : Nat)); let q66 := (1, Blk.cells [vi (0 : Int), vi (0 : Int), vn, vi (0 : Int), vn] (118 : Nat)); let q67 := (4, Blk.cells [vi (0 : Int), vi (0 : Int), vn, vi (0 : Int), vn] (118 : Nat)); let q68 := (3, Blk.cells [vi (0 : Int), vi (0 : Int), vn, vi (0 : Int), vn] (118 : Nat)); let q69 := ((2 : Nat), Blk.cells [vi (0 : Int), vi (0 : Int), vn, vi (0 : Int), vn] (118 : Nat)); let q70 := ((1 : Nat), Blk.cells [vi (0 : Int), vi (0 : Int), vn, vi (0 : Int), vn] (118 : Nat)); let q71 := ((4 : Nat), Blk.cells [vi (0 : Int), vi (0 : Int), vn, vi (0 : Int), vn] (118 : Nat)); let q72 := ((3 : Nat), Blk.cells [vi (0 : Int), vi (0 : Int), vn, vi (0 : Int), vn] (118 : Nat)); let q73 := (7, Value.slice (some { block := (0 : Nat), off := (0 : Nat), spot := some (Nat.succ (Nat.succ (Int.toNat (a + (1 : Int))))) }) q51 q51); let q74 := ((7 : Nat), Value.slice (some { block := (0 : Nat), off := (0 : Nat), spot := some (Nat.succ (Nat.succ (Int.toNat (a + (1 : Int))))) }) q51 q51); let q75 := (5, Blk.cells [Value.slice (some { block := (0 : Nat), off := (0 : Nat), spot := some (Nat.succ (Nat.succ (Int.toNat (a + (1 : Int))))) }) q51 q51, vi (a + (1 : Int))] (114 : Nat)); let q76 := ((5 : Nat), Blk.cells [Value.slice (some { block := (0 : Nat), off := (0 : Nat), spot := some (Nat.succ (Nat.succ (Int.toNat (a + (1 : Int))))) }) q51 q51, vi (a + (1 : Int))] (114 : Nat)); let q77 := (4, Blk.cells [vi q15, vi q16, Value.slice (some { block := (0 : Nat), off := (0 : Nat), spot := some (Nat.succ (Nat.succ (Int.toNat (a + (1 : Int))))) }) q51 q51, vi (a + (1 : Int)), Value.slice (some { block := (0 : Nat), off := (0 : Nat), spot := some (Nat.succ (Nat.succ (Int.toNat q31))) }) q64 q64] (118 : Nat)); let q78 := (2, Blk.cells [vi q15, vi q16, Value.slice (some { block := (0 : Nat), off := (0 : Nat), spot := some (Nat.succ (Nat.succ (Int.toNat (a + (1 : Int))))) }) q51 q51, vi (a + (1 : Int)), Value.slice (some { block := (0 : Nat), off := (0 : Nat), spot := some (Nat.succ (Nat.succ (Int.toNat q31))) }) q64 q64] (118 : Nat)); let q79 := (1, Blk.cells [vi q15, vi q16, Value.slice (some { block := (0 : Nat), off := (0 : Nat), spot := some (Nat.succ (Nat.succ (Int.toNat (a + (1 : Int))))) }) q51 q51, vi (a + (1 : Int)), Value.slice (some { block := (0 : Nat), off := (0 : Nat), spot := some (Nat.succ (Nat.succ (Int.toNat q31))) }) q64 q64] (118 : Nat)); let q80 := ((4 : Nat), Blk.cells [vi q15, vi q16, Value.slice (some { block := (0 : Nat), off := (0 : Nat), spot := some (Nat.succ (Nat.succ (Int.toNat (a + (1 : Int))))) }) q51 q51, vi (a + (1 : Int)), Value.slice (some { block := (0 : Nat), off := (0 : Nat), spot := some (Nat.succ (Nat.succ (Int.toNat q31))) }) q64 q64] (118 : Nat)); let q81 := ((2 : Nat), Blk.cells [vi q15, vi q16, Value.slice (some { block := (0 : Nat), off := (0 : Nat), spot := some (Nat.succ (Nat.succ (Int.toNat (a + (1 : Int))))) }) q51 q51, vi (a + (1 : Int)), Value.slice (some { block := (0 : Nat), off := (0 : Nat), spot := some (Nat.succ (Nat.succ (Int.toNat q31))) }) q64 q64] (118 : Nat)); let q82 := ((1 : Nat), Blk.cells [vi q15, vi q16, Value.slice (some { block := (0 : Nat), off := (0 : Nat), spot := some (Nat.succ (Nat.succ (Int.toNat (a + (1 : Int))))) }) q51 q51, vi (a + (1 : Int)), Value.slice (some { block := (0 : Nat), off := (0 : Nat), spot := some (Nat.succ (Nat.succ (Int.toNat q31))) }) q64 q64] (118 : Nat)); let q83 := (t9 (t4 (q21 ∧ (((∃ y0 : Nat, ((Go.Rx.Sub 4 [q1] ⟨21, [q17, q18, q22, q39, q40, q23, q24, q41, (0, Value.agg { toList := [vn, vi (0 : Int)] })]⟩ ⟨[q56, q68, q65, q66, q25], 5⟩ ({ n := (21 : Nat), m := [q27, q26, q28, q48, q49, q30, q29, q50, ((0 : Nat), Value.agg { toList := [vn, vi (0 : Int)] })] }) ({ h := [q59, q72, q69, q70, q32], next := (5 : Nat) })) ∧ ((@Eq Nat (y0) ((0 : Nat))) ∧ q20))) ∨ (∃ y0 : Nat × Nat × RF, let q105 := (Prod.fst (Prod.snd y0) + (1 : Nat)); ((Go.Rx.Sub 4 [q1, q2] ⟨21, [q17, q18, q22, q39, q40, q23, q24, q41, (0, Value.agg { toList := [vn, vi (0 : Int)] })]⟩ ⟨[q56, q68, q65, q66, q25], 5⟩ ({ n := (21 : Nat), m := [((3 : Nat), rsl (5 : Nat) (0 : Nat) (Prod.fst y0) q105), ((9 : Nat), vi (↑(Prod.fst y0) : Int)), q26, q28, q48, q49, q29, q50, ((0 : Nat), Value.agg { toList := [vn, vi (0 : Int)] })] }) ({ h := [((5 : Nat), Blk.row false [IntKind.i64] (3 : Nat) (Prod.fst y0) q105 (Prod.snd (Prod.snd y0))), q59, q72, q69, q70, q32], next := (6 : Nat) })) ∧ ((((1 : Nat) ≤ Prod.fst y0) ∧ ((Prod.fst y0 ≤ Int.toNat (obP nw fw a)) ∧ (Prod.fst y0 ≤ Prod.fst (Prod.snd y0) + (1 : Nat)))) ∧ (∀ y1 : Nat, ((y1 < Prod.fst y0) → (@Eq Int (Prod.snd (Prod.snd y0) y1 (0 : Nat)) (a + (1 : Int) + (↑y1 : Int))))))))) ∧ ((∀ y0 : Nat, (((@Eq Nat (y0) ((0 : Nat))) ∧ q20) → (T0 ∧ (∃ y1 : Value, (∃ y2 : List Blk, ((Go.Rx.Found 1 (Value.tuple { toList := [vn, vi (7 : Int)] }) ({ h := [q59, q72, q69, q70, q32], next := (5 : Nat) }) (y1) (y2)) ∧ (K y1 y2))))))) ∧ (∀ y0 : Nat × Nat × RF, let q104 := (Prod.fst (Prod.snd y0) + (1 : Nat)); (((((1 : Nat) ≤ Prod.fst y0) ∧ ((Prod.fst y0 ≤ Int.toNat (obP nw fw a)) ∧ (Prod.fst y0 ≤ Prod.fst (Prod.snd y0) + (1 : Nat)))) ∧ (∀ y1 : Nat, ((y1 < Prod.fst y0) → (@Eq Int (Prod.snd (Prod.snd y0) y1 (0 : Nat)) (a + (1 : Int) + (↑y1 : Int)))))) → (T0 ∧ (∃ y1 : Value, (∃ y2 : List Blk, ((Go.Rx.Found 1 (Value.tuple { toList := [rsl (5 : Nat) (0 : Nat) (Prod.fst y0) q104, vi (7 : Int)] }) ({ h := [((5 : Nat), Blk.row false [IntKind.i64] (3 : Nat) (Prod.fst y0) q104 (Prod.snd (Prod.snd y0))), q59, q72, q69, q70, q32], next := (6 : Nat) }) (y1) (y2)) ∧ (K y1 y2)))))))))))); let q84 := (t9 (t4 (q21 ∧ (((∃ y0 : Nat, ((Go.Rx.Sub 5 [q2] ⟨21, [q17, q18, q22, q36, q37, q23, q24, q38, (0, Value.agg { toList := [vn, vi (0 : Int)] })]⟩ ⟨[q55, q67, q62, q65, q66, q25], 6⟩ ({ n := (21 : Nat), m := [q27, q26, q28, q45, q46, q30, q29, q47, ((0 : Nat), Value.agg { toList := [vn, vi (0 : Int)] })] }) ({ h := [q58, q71, q63, q69, q70, q32], next := (6 : Nat) })) ∧ ((@Eq Nat (y0) ((0 : Nat))) ∧ q20))) ∨ (∃ y0 : Nat × Nat × RF, let q88 := (Prod.fst (Prod.snd y0) + (1 : Nat)); ((Go.Rx.Sub 5 [q2, q3] ⟨21, [q17, q18, q22, q36, q37, q23, q24, q38, (0, Value.agg { toList := [vn, vi (0 : Int)] })]⟩ ⟨[q55, q67, q62, q65, q66, q25], 6⟩ ({ n := (21 : Nat), m := [((3 : Nat), rsl (6 : Nat) (0 : Nat) (Prod.fst y0) q88), ((9 : Nat), vi (↑(Prod.fst y0) : Int)), q26, q28, q45, q46, q29, q47, ((0 : Nat), Value.agg { toList := [vn, vi (0 : Int)] })] }) ({ h := [((6 : Nat), Blk.row false [IntKind.i64] (3 : Nat) (Prod.fst y0) q88 (Prod.snd (Prod.snd y0))), q58, q71, q63, q69, q70, q32], next := (7 : Nat) })) ∧ ((((1 : Nat) ≤ Prod.fst y0) ∧ ((Prod.fst y0 ≤ Int.toNat (obP nw fw a)) ∧ (Prod.fst y0 ≤ Prod.fst (Prod.snd y0) + (1 : Nat)))) ∧ (∀ y1 : Nat, ((y1 < Prod.fst y0) → (@Eq Int (Prod.snd (Prod.snd y0) y1 (0 : Nat)) (a + (1 : Int) + (↑y1 : Int))))))))) ∧ ((∀ y0 : Nat, (((@Eq Nat (y0) ((0 : Nat))) ∧ q20) → (T0 ∧ (∃ y1 : Value, (∃ y2 : List Blk, ((Go.Rx.Found 1 (Value.tuple { toList := [vn, vi (6 : Int)] }) ({ h := [q58, q71, q63, q69, q70, q32], next := (6 : Nat) }) (y1) (y2)) ∧ (K y1 y2))))))) ∧ (∀ y0 : Nat × Nat × RF, let q87 := (Prod.fst (Prod.snd y0) + (1 : Nat)); (((((1 : Nat) ≤ Prod.fst y0) ∧ ((Prod.fst y0 ≤ Int.toNat (obP nw fw a)) ∧ (Prod.fst y0 ≤ Prod.fst (Prod.snd y0) + (1 : Nat)))) ∧ (∀ y1 : Nat, ((y1 < Prod.fst y0) → (@Eq Int (Prod.snd (Prod.snd y0) y1 (0 : Nat)) (a + (1 : Int) + (↑y1 : Int)))))) → (T0 ∧ (∃ y1 : Value, (∃ y2 : List Blk, ((Go.Rx.Found 1 (Value.tuple { toList := [rsl (6 : Nat) (0 : Nat) (Prod.fst y0) q87, vi (6 : Int)] }) ({ h := [((6 : Nat), Blk.row false [IntKind.i64] (3 : Nat) (Prod.fst y0) q87 (Prod.snd (Prod.snd y0))), q58, q71, q63, q69, q70, q32], next := (7 : Nat) }) (y1) (y2)) ∧ (K y1 y2)))))))))))); (t2 (((0 : Nat) + nw ≤ nw) ∧ ((q14 ∧ ((nw ≤ (100000 : Nat)) ∧ (nw ≤ cw))) ∧ (((@Eq (List IntKind) ([IntKind.u64]) ([IntKind.u64])) ∧ ((@Eq Nat (nw) (nw)) ∧ (@Eq Nat (cw) (cw)))) ∧ (q7 ∧ ((True) ∧ (T0 ∧ (if (@Eq Int (arE nw fw) ((0 : Int))) then (t2 (if (a < (1 : Int)) then q83 else (q21 ∧ (T0 ∧ (if ((↑nw : Int) ≤ a) then q83 else ((q21 ∧ q13) ∧ ((((0 : Int) ≤ a) ∧ (a < (↑nw : Int))) ∧ ((Int.toNat a < nw) ∧ (T0 ∧ (q7 ∧ ((((0 : Int) ≤ fw (Int.toNat a) (0 : Nat)) ∧ (fw (Int.toNat a) (0 : Nat) ≤ (18446744073709551615 : Int))) ∧ (t3 (if (@Eq Int (hsE q10) ((0 : Int))) then (t3 (((q12 ≤ hsP q10 + hsR q10) ∧ (hsP q10 + hsR q10 ≤ q9)) ∧ (q21 ∧ (T0 ∧ (((q12 ≤ (↑nw : Int) - a) ∧ ((↑nw : Int) - a ≤ q9)) ∧ (T0 ∧ (if ((↑nw : Int) - a ≤ hsP q10 + hsR q10) then q84 else (T0 ∧ (((q12 ≤ a + (1 : Int)) ∧ (a + (1 : Int) ≤ q9)) ∧ (t2 (((q12 ≤ a + (1 : Int) + hsP q10) ∧ (a + (1 : Int) + hsP q10 ≤ q9)) ∧ (t2 (((q12 ≤ a + (1 : Int) + hsP q10 + hsR q10) ∧ (a + (1 : Int) + hsP q10 + hsR q10 ≤ q9)) ∧ (t8 (q21 ∧ (t4 (q13 ∧ ((((0 : Int) ≤ a + (1 : Int)) ∧ ((a + (1 : Int) ≤ a + (1 : Int) + hsP q10) ∧ ((a + (1 : Int) + hsP q10 ≤ a + (1 : Int) + hsP q10) ∧ (a + (1 : Int) + hsP q10 ≤ (↑cw : Int))))) ∧ ((@Eq Int q31 q31) ∧ (t8 (q21 ∧ (t4 (q13 ∧ ((((0 : Int) ≤ a + (1 : Int) + hsP q10) ∧ ((a + (1 : Int) + hsP q10 ≤ a + (1 : Int) + hsP q10 + hsR q10) ∧ ((a + (1 : Int) + hsP q10 + hsR q10 ≤ a + (1 : Int) + hsP q10 + hsR q10) ∧ (a + (1 : Int) + hsP q10 + hsR q10 ≤ (↑cw : Int))))) ∧ ((@Eq Int q52 q52) ∧ (t9 (t7 (q21 ∧ (((∃ y0 : Nat, ((Go.Rx.Sub 5 [q2] ⟨21, [q17, q60, q73, q36, q37, q23, q24, q38, (0, Value.agg { toList := [Value.slice (some { block := (0 : Nat), off := (0 : Nat), spot := some (Nat.succ (Nat.succ (Int.toNat (a + (1 : Int))))) }) q51 q51, vi (a + (1 : Int))] })]⟩ ⟨[q75, q77, q62, q78, q79, q25], 6⟩ ({ n := (21 : Nat), m := [q27, q61, q74, q45, q46, q30, q29, q47, ((0 : Nat), Value.agg { toList := [Value.slice (some { block := (0 : Nat), off := (0 : Nat), spot := some (Nat.succ (Nat.succ (Int.toNat (a + (1 : Int))))) }) q51 q51, vi (a + (1 : Int))] })] }) ({ h := [q76, q80, q63, q81, q82, q32], next := (6 : Nat) })) ∧ ((@Eq Nat (y0) ((0 : Nat))) ∧ q20))) ∨ (∃ y0 : Nat × Nat × RF, let q103 := (Prod.fst (Prod.snd y0) + (1 : Nat)); ((Go.Rx.Sub 5 [q2, q3] ⟨21, [q17, q60, q73, q36, q37, q23, q24, q38, (0, Value.agg { toList := [Value.slice (some { block := (0 : Nat), off := (0 : Nat), spot := some (Nat.succ (Nat.succ (Int.toNat (a + (1 : Int))))) }) q51 q51, vi (a + (1 : Int))] })]⟩ ⟨[q75, q77, q62, q78, q79, q25], 6⟩ ({ n := (21 : Nat), m := [((3 : Nat), rsl (6 : Nat) (0 : Nat) (Prod.fst y0) q103), ((9 : Nat), vi (↑(Prod.fst y0) : Int)), q61, q74, q45, q46, q29, q47, ((0 : Nat), Value.agg { toList := [Value.slice (some { block := (0 : Nat), off := (0 : Nat), spot := some (Nat.succ (Nat.succ (Int.toNat (a + (1 : Int))))) }) q51 q51, vi (a + (1 : Int))] })] }) ({ h := [((6 : Nat), Blk.row false [IntKind.i64] (3 : Nat) (Prod.fst y0) q103 (Prod.snd (Prod.snd y0))), q76, q80, q63, q81, q82, q32], next := (7 : Nat) })) ∧ ((((1 : Nat) ≤ Prod.fst y0) ∧ ((Prod.fst y0 ≤ Int.toNat (obP nw fw a)) ∧ (Prod.fst y0 ≤ Prod.fst (Prod.snd y0) + (1 : Nat)))) ∧ (∀ y1 : Nat, ((y1 < Prod.fst y0) → (@Eq Int (Prod.snd (Prod.snd y0) y1 (0 : Nat)) (a + (1 : Int) + (↑y1 : Int))))))))) ∧ ((∀ y0 : Nat, (((@Eq Nat (y0) ((0 : Nat))) ∧ q20) → (T0 ∧ (if ((0 : Int) < q53) then (t2 (((q12 ≤ a + (1 : Int) + (0 : Int)) ∧ (a + (1 : Int) + (0 : Int) ≤ q9)) ∧ (q21 ∧ (t4 (q21 ∧ (q21 ∧ (t4 (q6 ∧ (q11 ∧ (∀ y1 : Nat, let q99 := (y1 - (1 : Nat) + (1 : Nat)); let q100 := (3, rsl (7 : Nat) (0 : Nat) (1 : Nat) q99); (((1 : Nat) ≤ y1) → (T0 ∧ (((q12 ≤ (0 : Int) + (1 : Int)) ∧ ((0 : Int) + (1 : Int) ≤ q9)) ∧ ((∃ y2 : Nat, ((Go.Rx.Sub 5 [q2] ⟨21, [q19, q100, q60, q73, q36, q37, q24, q38, (0, Value.agg { toList := [Value.slice (some { block := (0 : Nat), off := (0 : Nat), spot := some (Nat.succ (Nat.succ (Int.toNat (a + (1 : Int))))) }) q51 q51, vi (a + (1 : Int))] })]⟩ ⟨[q75, q77, q62, q78, q79, q25], 8⟩ ({ n := (21 : Nat), m := [q27, q61, q74, q45, q46, q30, q29, q47, ((0 : Nat), Value.agg { toList := [Value.slice (some { block := (0 : Nat), off := (0 : Nat), spot := some (Nat.succ (Nat.succ (Int.toNat (a + (1 : Int))))) }) q51 q51, vi (a + (1 : Int))] })] }) ({ h := [q76, q80, q63, q81, q82, q32], next := (6 : Nat) })) ∧ (((@Eq Nat (y2) ((0 : Nat))) ∧ q20) ∧ (Int.toNat (obP nw fw a) < Int.toNat (obP nw fw a))))) ∨ ((∃ y2 : Nat × Nat × RF, let q102 := (Prod.fst (Prod.snd y2) + (1 : Nat)); ((Go.Rx.Sub 5 [q2, q5] ⟨21, [q19, q100, q60, q73, q36, q37, q24, q38, (0, Value.agg { toList := [Value.slice (some { block := (0 : Nat), off := (0 : Nat), spot := some (Nat.succ (Nat.succ (Int.toNat (a + (1 : Int))))) }) q51 q51, vi (a + (1 : Int))] })]⟩ ⟨[(7, Blk.row false [IntKind.i64] (3 : Nat) (1 : Nat) q99 (appF (fun x x_1 ↦ (0 : Int)) (0 : Nat) (litF q8 ([a + (1 : Int) + (0 : Int)] ++ [])) (0 : Nat))), q75, q77, q62, q78, q79, q25], 8⟩ ({ n := (21 : Nat), m := [((3 : Nat), rsl (6 : Nat) (0 : Nat) (Prod.fst y2) q102), ((9 : Nat), vi (↑(Prod.fst y2) : Int)), q61, q74, q45, q46, q29, q47, ((0 : Nat), Value.agg { toList := [Value.slice (some { block := (0 : Nat), off := (0 : Nat), spot := some (Nat.succ (Nat.succ (Int.toNat (a + (1 : Int))))) }) q51 q51, vi (a + (1 : Int))] })] }) ({ h := [((6 : Nat), Blk.row false [IntKind.i64] (3 : Nat) (Prod.fst y2) q102 (Prod.snd (Prod.snd y2))), q76, q80, q63, q81, q82, q32], next := (7 : Nat) })) ∧ (((((1 : Nat) ≤ Prod.fst y2) ∧ ((Prod.fst y2 ≤ Int.toNat (obP nw fw a)) ∧ (Prod.fst y2 ≤ Prod.fst (Prod.snd y2) + (1 : Nat)))) ∧ (∀ y3 : Nat, ((y3 < Prod.fst y2) → (@Eq Int (Prod.snd (Prod.snd y2) y3 (0 : Nat)) (a + (1 : Int) + (↑y3 : Int)))))) ∧ (Int.toNat (obP nw fw a) - Prod.fst y2 < Int.toNat (obP nw fw a))))) ∨ (∃ y2 : Nat × Nat × RF, let q101 := (Prod.fst (Prod.snd y2) + (1 : Nat)); ((Go.Rx.Sub 5 [q2, q4] ⟨21, [q19, q100, q60, q73, q36, q37, q24, q38, (0, Value.agg { toList := [Value.slice (some { block := (0 : Nat), off := (0 : Nat), spot := some (Nat.succ (Nat.succ (Int.toNat (a + (1 : Int))))) }) q51 q51, vi (a + (1 : Int))] })]⟩ ⟨[q75, q77, q62, q78, q79, q25], 8⟩ ({ n := (21 : Nat), m := [((3 : Nat), rsl (6 : Nat) (0 : Nat) (Prod.fst y2) q101), ((9 : Nat), vi (↑(Prod.fst y2) : Int)), q61, q74, q45, q46, q29, q47, ((0 : Nat), Value.agg { toList := [Value.slice (some { block := (0 : Nat), off := (0 : Nat), spot := some (Nat.succ (Nat.succ (Int.toNat (a + (1 : Int))))) }) q51 q51, vi (a + (1 : Int))] })] }) ({ h := [((6 : Nat), Blk.row false [IntKind.i64] (3 : Nat) (Prod.fst y2) q101 (Prod.snd (Prod.snd y2))), q76, q80, q63, q81, q82, q32], next := (7 : Nat) })) ∧ (((((1 : Nat) ≤ Prod.fst y2) ∧ ((Prod.fst y2 ≤ Int.toNat (obP nw fw a)) ∧ (Prod.fst y2 ≤ Prod.fst (Prod.snd y2) + (1 : Nat)))) ∧ (∀ y3 : Nat, ((y3 < Prod.fst y2) → (@Eq Int (Prod.snd (Prod.snd y2) y3 (0 : Nat)) (a + (1 : Int) + (↑y3 : Int)))))) ∧ (Int.toNat (obP nw fw a) - Prod.fst y2 < Int.toNat (obP nw fw a)))))))))))))))))))) else (∃ y1 : Value, (∃ y2 : List Blk, ((Go.Rx.Found 1 (Value.tuple { toList := [vn, vi (0 : Int)] }) ({ h := [q76, q80, q63, q81, q82, q32], next := (6 : Nat) }) (y1) (y2)) ∧ (K y1 y2)))))))) ∧ (∀ y0 : Nat × Nat × RF, let q89 := (↑(Prod.fst y0) : Int); let q90 := (Prod.snd (Prod.snd y0)); let q91 := (Prod.fst y0 + (1 : Nat)); let q92 := (Prod.fst (Prod.snd y0) + (1 : Nat)); let q93 := (9, vi (q89 + (1 : Int))); let q94 := (litF q8 ([a + (1 : Int) + q89] ++ [])); (((((1 : Nat) ≤ Prod.fst y0) ∧ ((Prod.fst y0 ≤ Int.toNat (obP nw fw a)) ∧ (Prod.fst y0 ≤ Prod.fst (Prod.snd y0) + (1 : Nat)))) ∧ (∀ y1 : Nat, ((y1 < Prod.fst y0) → (@Eq Int (Prod.snd (Prod.snd y0) y1 (0 : Nat)) (a + (1 : Int) + (↑y1 : Int)))))) → (T0 ∧ (if (q89 < q53) then (t2 (((q12 ≤ a + (1 : Int) + q89) ∧ (a + (1 : Int) + q89 ≤ q9)) ∧ (q21 ∧ (t4 (q21 ∧ (q21 ∧ (t4 (q6 ∧ (q11 ∧ (T0 ∧ ((T0 ∧ ((false = false) ∧ (q14 ∧ ((@Eq Nat (Prod.fst y0) (Prod.fst y0)) ∧ ((@Eq Nat q92 q92) ∧ (Prod.fst y0 + (1 : Nat) ≤ (100000 : Nat))))))) ∧ (∀ y1 : Nat, let q95 := (y1 - (1 : Nat) + (1 : Nat)); let q96 := (3, rsl (8 : Nat) (0 : Nat) q91 q95); ((Prod.fst y0 + (1 : Nat) ≤ y1) → (T0 ∧ (((q12 ≤ q89 + (1 : Int)) ∧ (q89 + (1 : Int) ≤ q9)) ∧ ((∃ y2 : Nat, ((Go.Rx.Sub 5 [q2] ⟨21, [q93, q96, q60, q73, q36, q37, q24, q38, (0, Value.agg { toList := [Value.slice (some { block := (0 : Nat), off := (0 : Nat), spot := some (Nat.succ (Nat.succ (Int.toNat (a + (1 : Int))))) }) q51 q51, vi (a + (1 : Int))] })]⟩ ⟨[q75, q77, q62, q78, q79, q25], 9⟩ ({ n := (21 : Nat), m := [q27, q61, q74, q45, q46, q30, q29, q47, ((0 : Nat), Value.agg { toList := [Value.slice (some { block := (0 : Nat), off := (0 : Nat), spot := some (Nat.succ (Nat.succ (Int.toNat (a + (1 : Int))))) }) q51 q51, vi (a + (1 : Int))] })] }) ({ h := [q76, q80, q63, q81, q82, q32], next := (6 : Nat) })) ∧ (((@Eq Nat (y2) ((0 : Nat))) ∧ q20) ∧ (Int.toNat (obP nw fw a) < Int.toNat (obP nw fw a) - Prod.fst y0)))) ∨ ((∃ y2 : Nat × Nat × RF, let q98 := (Prod.fst (Prod.snd y2) + (1 : Nat)); ((Go.Rx.Sub 5 [q2, q5] ⟨21, [q93, q96, q60, q73, q36, q37, q24, q38, (0, Value.agg { toList := [Value.slice (some { block := (0 : Nat), off := (0 : Nat), spot := some (Nat.succ (Nat.succ (Int.toNat (a + (1 : Int))))) }) q51 q51, vi (a + (1 : Int))] })]⟩ ⟨[(7, Blk.row false [IntKind.i64] (3 : Nat) (1 : Nat) (1 : Nat) q94), q75, q77, q62, q78, q79, q25], 9⟩ ({ n := (21 : Nat), m := [((3 : Nat), rsl (6 : Nat) (0 : Nat) (Prod.fst y2) q98), ((9 : Nat), vi (↑(Prod.fst y2) : Int)), q61, q74, q45, q46, q29, q47, ((0 : Nat), Value.agg { toList := [Value.slice (some { block := (0 : Nat), off := (0 : Nat), spot := some (Nat.succ (Nat.succ (Int.toNat (a + (1 : Int))))) }) q51 q51, vi (a + (1 : Int))] })] }) ({ h := [((6 : Nat), Blk.row false [IntKind.i64] (3 : Nat) (Prod.fst y2) q98 (Prod.snd (Prod.snd y2))), q76, q80, q63, q81, q82, q32], next := (7 : Nat) })) ∧ (((((1 : Nat) ≤ Prod.fst y2) ∧ ((Prod.fst y2 ≤ Int.toNat (obP nw fw a)) ∧ (Prod.fst y2 ≤ Prod.fst (Prod.snd y2) + (1 : Nat)))) ∧ (∀ y3 : Nat, ((y3 < Prod.fst y2) → (@Eq Int (Prod.snd (Prod.snd y2) y3 (0 : Nat)) (a + (1 : Int) + (↑y3 : Int)))))) ∧ (Int.toNat (obP nw fw a) - Prod.fst y2 < Int.toNat (obP nw fw a) - Prod.fst y0)))) ∨ (∃ y2 : Nat × Nat × RF, let q97 := (Prod.fst (Prod.snd y2) + (1 : Nat)); ((Go.Rx.Sub 5 [q2, q4] ⟨21, [q93, q96, q60, q73, q36, q37, q24, q38, (0, Value.agg { toList := [Value.slice (some { block := (0 : Nat), off := (0 : Nat), spot := some (Nat.succ (Nat.succ (Int.toNat (a + (1 : Int))))) }) q51 q51, vi (a + (1 : Int))] })]⟩ ⟨[(8, Blk.row false [IntKind.i64] (3 : Nat) q91 q95 (appF q90 (Prod.fst y0) q94 (0 : Nat))), q75, q77, q62, q78, q79, q25], 9⟩ ({ n := (21 : Nat), m := [((3 : Nat), rsl (6 : Nat) (0 : Nat) (Prod.fst y2) q97), ((9 : Nat), vi (↑(Prod.fst y2) : Int)), q61, q74, q45, q46, q29, q47, ((0 : Nat), Value.agg { toList := [Value.slice (some { block := (0 : Nat), off := (0 : Nat), spot := some (Nat.succ (Nat.succ (Int.toNat (a + (1 : Int))))) }) q51 q51, vi (a + (1 : Int))] })] }) ({ h := [((6 : Nat), Blk.row false [IntKind.i64] (3 : Nat) (Prod.fst y2) q97 (Prod.snd (Prod.snd y2))), q76, q80, q63, q81, q82, q32], next := (7 : Nat) })) ∧ (((((1 : Nat) ≤ Prod.fst y2) ∧ ((Prod.fst y2 ≤ Int.toNat (obP nw fw a)) ∧ (Prod.fst y2 ≤ Prod.fst (Prod.snd y2) + (1 : Nat)))) ∧ (∀ y3 : Nat, ((y3 < Prod.fst y2) → (@Eq Int (Prod.snd (Prod.snd y2) y3 (0 : Nat)) (a + (1 : Int) + (↑y3 : Int)))))) ∧ (Int.toNat (obP nw fw a) - Prod.fst y2 < Int.toNat (obP nw fw a) - Prod.fst y0))))))))))))))))))))) else (∃ y1 : Value, (∃ y2 : List Blk, ((Go.Rx.Found 1 (Value.tuple { toList := [rsl (6 : Nat) (0 : Nat) (Prod.fst y0) q92, vi (0 : Int)] }) ({ h := [((6 : Nat), Blk.row false [IntKind.i64] (3 : Nat) (Prod.fst y0) q92 q90), q76, q80, q63, q81, q82, q32], next := (7 : Nat) }) (y1) (y2)) ∧ (K y1 y2)))))))))))))))))))))))))))))))))))))) else q84))))))))))))) else (t9 (T0 ∧ (q21 ∧ (((∃ y0 : Nat, ((Go.Rx.Sub 3 [q0] ⟨21, [q17, q18, q22, q33, q34, q23, q24, q35, (0, Value.agg { toList := [vn, vi (0 : Int)] })]⟩ ⟨[q54, q65, q66, q25], 4⟩ ({ n := (21 : Nat), m := [q27, q26, q28, q42, q43, q30, q29, q44, ((0 : Nat), Value.agg { toList := [vn, vi (0 : Int)] })] }) ({ h := [q57, q69, q70, q32], next := (4 : Nat) })) ∧ ((@Eq Nat (y0) ((0 : Nat))) ∧ q20))) ∨ (∃ y0 : Nat × Nat × RF, let q86 := (Prod.fst (Prod.snd y0) + (1 : Nat)); ((Go.Rx.Sub 3 [q0, q1] ⟨21, [q17, q18, q22, q33, q34, q23, q24, q35, (0, Value.agg { toList := [vn, vi (0 : Int)] })]⟩ ⟨[q54, q65, q66, q25], 4⟩ ({ n := (21 : Nat), m := [((3 : Nat), rsl (4 : Nat) (0 : Nat) (Prod.fst y0) q86), ((9 : Nat), vi (↑(Prod.fst y0) : Int)), q26, q28, q42, q43, q29, q44, ((0 : Nat), Value.agg { toList := [vn, vi (0 : Int)] })] }) ({ h := [((4 : Nat), Blk.row false [IntKind.i64] (3 : Nat) (Prod.fst y0) q86 (Prod.snd (Prod.snd y0))), q57, q69, q70, q32], next := (5 : Nat) })) ∧ ((((1 : Nat) ≤ Prod.fst y0) ∧ ((Prod.fst y0 ≤ Int.toNat (obP nw fw a)) ∧ (Prod.fst y0 ≤ Prod.fst (Prod.snd y0) + (1 : Nat)))) ∧ (∀ y1 : Nat, ((y1 < Prod.fst y0) → (@Eq Int (Prod.snd (Prod.snd y0) y1 (0 : Nat)) (a + (1 : Int) + (↑y1 : Int))))))))) ∧ ((∀ y0 : Nat, (((@Eq Nat (y0) ((0 : Nat))) ∧ q20) → (T0 ∧ (∃ y1 : Value, (∃ y2 : List Blk, ((Go.Rx.Found 1 (Value.tuple { toList := [vn, vi (arE nw fw)] }) ({ h := [q57, q69, q70, q32], next := (4 : Nat) }) (y1) (y2)) ∧ (K y1 y2))))))) ∧ (∀ y0 : Nat × Nat × RF, let q85 := (Prod.fst (Prod.snd y0) + (1 : Nat)); (((((1 : Nat) ≤ Prod.fst y0) ∧ ((Prod.fst y0 ≤ Int.toNat (obP nw fw a)) ∧ (Prod.fst y0 ≤ Prod.fst (Prod.snd y0) + (1 : Nat)))) ∧ (∀ y1 : Nat, ((y1 < Prod.fst y0) → (@Eq Int (Prod.snd (Prod.snd y0) y1 (0 : Nat)) (a + (1 : Int) + (↑y1 : Int)))))) → (T0 ∧ (∃ y1 : Value, (∃ y2 : List Blk, ((Go.Rx.Found 1 (Value.tuple { toList := [rsl (4 : Nat) (0 : Nat) (Prod.fst y0) q85, vi (arE nw fw)] }) ({ h := [((4 : Nat), Blk.row false [IntKind.i64] (3 : Nat) (Prod.fst y0) q85 (Prod.snd (Prod.snd y0))), q57, q69, q70, q32], next := (5 : Nat) }) (y1) (y2)) ∧ (K y1 y2))))))))))))))))))))
theorem slOR_rE (ew nw cw : Nat) (fw : RF) (a : Int) (K : Value → List Blk → Prop) : slOR_rV ew nw cw fw a K = bodyX (mk XO) (callI (mk XO) (fun f ar s0 k tt ss => bif Nat.beq f 96 && Nat.beq k 3 then some [{ α := Nat, T := fun _ => tt, S := fun _ => ss, I := fun k => k = 0 ∧ 0 ≤ (obP nw fw a).toNat, m := fun _ => (obP nw fw a).toNat, ρ0 := idR (s0.next) ss.next, ρ1 := [idR (s0.next) ss.next] }, { α := Nat × Nat × RF, T := fun k => ⟨tt.n, (3, rsl ss.next 0 k.1 (k.2.1 + 1)) :: (9, .int .i64 (k.1 : Int)) :: Rx.del (Rx.del tt.m 3) 9⟩, S := fun k => ⟨(ss.next, .row false [.i64] 3 k.1 (k.2.1 + 1) k.2.2) :: ss.h, ss.next + 1⟩, I := fun k => (1 ≤ k.1 ∧ k.1 ≤ (obP nw fw a).toNat ∧ k.1 ≤ k.2.1 + 1) ∧ ∀ i, i < k.1 → (k.2.2 i 0) = a + 1 + (i : Int), m := fun k => (obP nw fw a).toNat - k.1, ρ0 := (idR (s0.next) ss.next ++ [(ss.next, ss.next)]), ρ1 := [(idR (s0.next) ss.next ++ [(ss.next, ss.next + 1)]), (idR (s0.next) ss.next ++ [(ss.next, ss.next + 2)])] }] else some []) 9) (slOR_rA ew nw cw fw a) Try.f50 [rsl 0 0 nw cw, .int .i64 a] (stOf [.row true [.u64] ew nw cw fw]) (Fd 1 K) := by kernel_rfl
set_option tactic.hygienic false in
theorem slOR_rP (ew nw cw : Nat) (fw : RF) (a : Int) (K : Value → List Blk → Prop)  (hnw : nw ≤ 100000) (hcw : nw ≤ cw) (hU : Ok64 nw fw) (h1 : obE nw fw a = 0) (h2 : 0 < obP nw fw a) (h : ∀ cp, (obP nw fw a).toNat ≤ cp → K (.tuple ⟨[rsl 1 0 ((obP nw fw a).toNat) cp, .int .i64 (0)]⟩) [.row false [.i64] 3 ((obP nw fw a).toNat) cp (slF a)]) : slOR_rV ew nw cw fw a K := by
  unfold slOR_rV
  conv => zeta
  have z0 := ob_cases hU a
  have z1 := fun (h1 : 0 ≤ a) (h2 : a < nw) => hU.at h1 h2
  have z2 := fun (h1 : 0 ≤ a) (h2 : a < nw) => hs_bd (hU.at h1 h2).1
  repeat' (first | (with_reducible exact rfl) | (with_reducible exact trivial) | (with_reducible refine And.intro ?_ ?_) | (intro) | (with_reducible refine br_d (fun hq => ?_) (fun hq => ?_)) | (with_reducible refine br_nd (fun hq => ?_) (fun hq => ?_)) | (with_reducible refine br_intro (fun hq => ?_) (fun hq => ?_)) | (with_reducible refine if_both (fun hz => ?_) (fun hz => ?_)) | fail)
  all_goals try (rename Nat × Nat × RF => k; rename _ ∧ (∀ _ : Nat, _) => I; obtain ⟨k1, k2, k3⟩ := k; dsimp only at *; obtain ⟨⟨J1, J2, J3⟩, I2⟩ := I)
  all_goals first
    | (with_reducible assumption)
    | (refine (id ?_ : ∃ (v1 : Value) (news : List Blk), _)
       first
        | contradiction
        | exact .inl ⟨0, (by (refine And.intro (And.intro rfl (And.intro rfl (And.intro rfl rfl))) ?_; (repeat' (first | exact trivial | exact rfl | exact fun _ _ _ _ => rfl | refine And.intro ?_ ?_ | omega | fail)); done)), rfl, Nat.zero_le _⟩
        | exact ⟨0, (by (refine And.intro (And.intro rfl (And.intro rfl (And.intro rfl rfl))) ?_; (repeat' (first | exact trivial | exact rfl | exact fun _ _ _ _ => rfl | refine And.intro ?_ ?_ | omega | fail)); done)), rfl, Nat.zero_le _⟩
        | exact .inr (.inl ⟨(1, y1 - 1, appF (fun _ _ => 0) 0 (litF 1 [a + 1 + 0]) 0), (by (refine And.intro (And.intro rfl (And.intro rfl (And.intro rfl rfl))) ?_; (repeat' (first | exact trivial | exact rfl | exact fun _ _ _ _ => rfl | refine And.intro ?_ ?_ | omega | fail)); done)), ⟨⟨Nat.le_refl 1, by omega, by show 1 ≤ y1 - 1 + 1; omega⟩, app1P (P := fun i v => v = a + 1 + (i : Int)) (by omega)⟩, by show (obP nw fw a).toNat - 1 < (obP nw fw a).toNat; omega⟩)
        | exact .inr (.inr ⟨(k1 + 1, y1 - 1, appF k3 k1 (litF 1 [a + 1 + (k1 : Int)]) 0), (by (refine And.intro (And.intro rfl (And.intro rfl (And.intro rfl rfl))) ?_; (repeat' (first | exact trivial | exact rfl | exact fun _ _ _ _ => rfl | refine And.intro ?_ ?_ | omega | fail)); done)), ⟨⟨by show 1 ≤ k1 + 1; omega, by show k1 + 1 ≤ (obP nw fw a).toNat; omega, by show k1 + 1 ≤ y1 - 1 + 1; omega⟩, appSP (P := fun i v => v = a + 1 + (i : Int)) I2 (rfl)⟩, by show (obP nw fw a).toNat - (k1 + 1) < (obP nw fw a).toNat - k1; omega⟩)
        | (obtain rfl : k1 = (obP nw fw a).toNat := (by omega)
           exact fin1t rfl (fun i j hi hj => (by obtain rfl : j = 0 := (by simp at hj; omega)
                                                 exact (I2 i hi).symm)) (by kernel_rfl) (by kernel_rfl) (h _ (by omega)))
        | exact fin0 (by kernel_rfl) (by kernel_rfl) h
        | exact fin0 (by kernel_rfl) (by kernel_rfl) (fin0n (by omega) h)
        | (exfalso; omega)
       )
    | omega
    | contradiction
    | exact .inl ⟨0, (by (refine And.intro (And.intro rfl (And.intro rfl (And.intro rfl rfl))) ?_; (repeat' (first | exact trivial | exact rfl | exact fun _ _ _ _ => rfl | refine And.intro ?_ ?_ | omega | fail)); done)), rfl, Nat.zero_le _⟩
    | exact ⟨0, (by (refine And.intro (And.intro rfl (And.intro rfl (And.intro rfl rfl))) ?_; (repeat' (first | exact trivial | exact rfl | exact fun _ _ _ _ => rfl | refine And.intro ?_ ?_ | omega | fail)); done)), rfl, Nat.zero_le _⟩
    | exact .inr (.inl ⟨(1, y1 - 1, appF (fun _ _ => 0) 0 (litF 1 [a + 1 + 0]) 0), (by (refine And.intro (And.intro rfl (And.intro rfl (And.intro rfl rfl))) ?_; (repeat' (first | exact trivial | exact rfl | exact fun _ _ _ _ => rfl | refine And.intro ?_ ?_ | omega | fail)); done)), ⟨⟨Nat.le_refl 1, by omega, by show 1 ≤ y1 - 1 + 1; omega⟩, app1P (P := fun i v => v = a + 1 + (i : Int)) (by omega)⟩, by show (obP nw fw a).toNat - 1 < (obP nw fw a).toNat; omega⟩)
    | exact .inr (.inr ⟨(k1 + 1, y1 - 1, appF k3 k1 (litF 1 [a + 1 + (k1 : Int)]) 0), (by (refine And.intro (And.intro rfl (And.intro rfl (And.intro rfl rfl))) ?_; (repeat' (first | exact trivial | exact rfl | exact fun _ _ _ _ => rfl | refine And.intro ?_ ?_ | omega | fail)); done)), ⟨⟨by show 1 ≤ k1 + 1; omega, by show k1 + 1 ≤ (obP nw fw a).toNat; omega, by show k1 + 1 ≤ y1 - 1 + 1; omega⟩, appSP (P := fun i v => v = a + 1 + (i : Int)) I2 (rfl)⟩, by show (obP nw fw a).toNat - (k1 + 1) < (obP nw fw a).toNat - k1; omega⟩)
    | (obtain rfl : k1 = (obP nw fw a).toNat := (by omega)
       exact fin1t rfl (fun i j hi hj => (by obtain rfl : j = 0 := (by simp at hj; omega)
                                             exact (I2 i hi).symm)) (by kernel_rfl) (by kernel_rfl) (h _ (by omega)))
    | exact fin0 (by kernel_rfl) (by kernel_rfl) h
    | exact fin0 (by kernel_rfl) (by kernel_rfl) (fin0n (by omega) h)
    | (exfalso; omega)
theorem slOR_ok : BodyOk (mk XO) 9 Try.f50 slOR := by
  intro vs bs K hh hro
  clear hro
  unfold slOR at hh
  split at hh
  · rename_i vw a
    obtain ⟨ew, nw, cw, fw, btw, rfl, hnw, hcw, rfl, hh0⟩ := parseRQ_inv hh
    obtain ⟨rfl, ⟨hU, h1, h2⟩, hc⟩ := hh0
    exact ⟨_, _, cast (slOR_rE ew nw cw fw a K) (slOR_rP ew nw cw fw a K hnw hcw hU h1 h2 hc)⟩
  · exact hh.elim
theorem slOR_told : Told 50 (specOf slOR) := told (X := XO) XO_told (by kernel_rfl) (by kernel_rfl) (by kernel_rfl) slOR_ok
end Go.Proofs.Ytfgeoglegebncaa.Fr
namespace Go.Proofs.Ytfgeoglegebncaa.Fr
set_option maxRecDepth 100000
set_option maxHeartbeats 4000000
open Go.Rx
open Go.RowKit (Below)
set_option linter.unusedVariables false
@[reducible] def XM : List (Nat × Rx.Spec) := [(24, specOf arC), (89, specOf hdP)]
theorem XM_told : ∀ p ∈ XM, Told p.1 p.2 := by
  intro p hp
  simp only [List.mem_cons, List.not_mem_nil, or_false] at hp
  rcases hp with rfl | rfl
  · exact arC_told
  · exact hdP_told
def mkO_B : Con := fun vs bs K => match vs with
  | [vw, .int .i64 a, .agg ⟨[.int .i64 p, .int .i64 q]⟩] => parseQ [.u64] 0 vw bs fun nw fw j0 bs0 => bs0 = [] ∧ ((Ok64 nw fw) ∧ (¬ mkE nw fw a p q = 0)) ∧ (K (.tuple ⟨[.slice none 0 0, .int .i64 (mkE nw fw a p q)]⟩) [])
  | _ => False

def mkO_B_nA (a : Int) (p : Int) (q : Int) : Ann := fun _ _ _ => none
def mkO_B_rA (ew nw cw : Nat) (fw : RF) (a : Int) (p : Int) (q : Int) : Ann := fun _ _ _ => none
def mkO_G : Con := fun vs bs K => match vs with
  | [vw, .int .i64 a, .agg ⟨[.int .i64 p, .int .i64 q]⟩] => parseRQ [.u64] 0 vw bs fun nw fw j0 bs0 => bs0 = [] ∧ ((Ok64 nw fw) ∧ (mkE nw fw a p q = 0)) ∧ (∀ cp, nw ≤ cp → K (.tuple ⟨[rsl j0 0 (nw) cp, .int .i64 (0)]⟩) [.row false [.u64] 25 (nw) cp (mkF fw (Int.toNat a) (Int.toNat (1 + p + q)) (1 + 256 * p + 65536 * q))])
  | _ => False

def mkO_G_rA (ew nw cw : Nat) (fw : RF) (a : Int) (p : Int) (q : Int) : Ann := fun _ _ _ => none
def mkO_B_nV (a : Int) (p : Int) (q : Int) (K : Value → List Blk → Prop) : Prop := (t2 (eB ∧ ((True) ∧ (T0 ∧ (∃ y0 : Value, (∃ y1 : List Blk, ((Go.Rx.Found 0 (Value.tuple { toList := [vn, vi (3 : Int)] }) ({ h := [((0 : Nat), Blk.cells [vi p, vi q] (60 : Nat))], next := (1 : Nat) }) (y0) (y1)) ∧ (K y0 y1))))))))
theorem mkO_B_nE (a : Int) (p : Int) (q : Int) (K : Value → List Blk → Prop) : mkO_B_nV a p q K = bodyX (mk XM) (callN (mk XM) 9) (mkO_B_nA a p q) Try.f44 [.slice none 0 0, .int .i64 a, .agg ⟨[.int .i64 p, .int .i64 q]⟩] (stOf []) (Fd 0 K) := by kernel_rfl
set_option tactic.hygienic false in
theorem mkO_B_nP (a : Int) (p : Int) (q : Int) (K : Value → List Blk → Prop)  (hU : Ok64 0 zF) (h1 : ¬ mkE 0 zF a p q = 0) (h : K (.tuple ⟨[.slice none 0 0, .int .i64 (mkE 0 zF a p q)]⟩) []) : mkO_B_nV a p q K := by
  unfold mkO_B_nV
  have z0 := ar_cases 0 zF
  have z1 := mk_cases 0 zF a p q
  have z2 := sze_cases p q
  have z3 := pkv_cases p q
  repeat' (first | (with_reducible exact rfl) | (with_reducible exact trivial) | (with_reducible refine And.intro ?_ ?_) | (intro) | (with_reducible refine br_d (fun hq => ?_) (fun hq => ?_)) | (with_reducible refine br_nd (fun hq => ?_) (fun hq => ?_)) | (with_reducible refine br_intro (fun hq => ?_) (fun hq => ?_)) | (with_reducible refine if_both (fun hz => ?_) (fun hz => ?_)) | fail)

  all_goals first
    | (with_reducible assumption)
    | (refine (id ?_ : ∃ (v1 : Value) (news : List Blk), _)
       first
        | contradiction
        | exact fin0 (by kernel_rfl) (by kernel_rfl) h
        | exact fin0 (by kernel_rfl) (by kernel_rfl) (fin0i (by omega) h)
        | exact fin0 (by kernel_rfl) (by kernel_rfl) (fin0p (by omega) (by omega) h)
        | exact fin0 (by kernel_rfl) (by kernel_rfl) (fin0u (by omega) (by omega) h)
        | exact fin0 (by kernel_rfl) (by kernel_rfl) (fin0s (by omega) (by omega) (by omega) h)
        | exact fin0 (by kernel_rfl) (by kernel_rfl) (fin0n (by omega) h)
        | (exfalso; simp at hq; omega)
        | (exfalso; omega)
       )
    | omega
    | contradiction
    | exact fin0 (by kernel_rfl) (by kernel_rfl) h
    | exact fin0 (by kernel_rfl) (by kernel_rfl) (fin0i (by omega) h)
    | exact fin0 (by kernel_rfl) (by kernel_rfl) (fin0p (by omega) (by omega) h)
    | exact fin0 (by kernel_rfl) (by kernel_rfl) (fin0u (by omega) (by omega) h)
    | exact fin0 (by kernel_rfl) (by kernel_rfl) (fin0s (by omega) (by omega) (by omega) h)
    | exact fin0 (by kernel_rfl) (by kernel_rfl) (fin0n (by omega) h)
    | (exfalso; simp at hq; omega)
    | (exfalso; omega)
def mkO_B_rV (ew nw cw : Nat) (fw : RF) (a : Int) (p : Int) (q : Int) (K : Value → List Blk → Prop) : Prop := let q0 := ((0 : Nat) + nw ≤ nw); let q1 := (nw ≤ (100000 : Nat)); let q2 := eB; let q3 := (Int.toNat (a + (1 : Int))); let q4 := ((0 : Int) ≤ a + (1 : Int)); let q5 := (9223372036854775807 : Int); let q6 := (-9223372036854775808 : Int); let q7 := (@Eq Nat ((0 : Nat)) ((0 : Nat))); let q8 := (@Eq Nat ((1 : Nat)) ((1 : Nat))); let q9 := (litF (List.length [IntKind.u64]) []); let q10 := (a + (1 : Int) ≤ a + (1 : Int) + p + q); let q11 := TS; let q12 := (a + (1 : Int) + p + q - (a + (1 : Int))); let q13 := ((0 : Nat), Blk.row true [IntKind.u64] ew nw cw fw); let q14 := (Int.toNat q12); let q15 := (putF q9 (Int.toNat a) (0 : Nat) (pkv p q)); let q16 := (q11 ∧ q8); let q17 := ((1 : Nat), Blk.cells [vi p, vi q] (60 : Nat)); let q18 := (putF (appF (fun x x_1 ↦ (0 : Int)) (0 : Nat) fw (0 : Nat)) (Int.toNat a) (0 : Nat) (pkv p q)); let q19 := ((q6 ≤ a + (1 : Int)) ∧ (a + (1 : Int) ≤ q5)); let q20 := ((q6 ≤ a + (1 : Int) + p) ∧ (a + (1 : Int) + p ≤ q5)); let q21 := ((2 : Nat), Blk.row false [IntKind.u64] (25 : Nat) (0 : Nat) (0 : Nat) q9); let q22 := ((q6 ≤ a + (1 : Int) + p + q) ∧ (a + (1 : Int) + p + q ≤ q5)); let q23 := (∃ y0 : Value, (∃ y1 : List Blk, ((Go.Rx.Found 1 (Value.tuple { toList := [vn, vi (7 : Int)] }) ({ h := [q17, q13], next := (2 : Nat) }) (y0) (y1)) ∧ (K y0 y1)))); (T0 ∧ (q0 ∧ ((q7 ∧ (q1 ∧ (nw ≤ cw))) ∧ (((@Eq (List IntKind) ([IntKind.u64]) ([IntKind.u64])) ∧ ((@Eq Nat (nw) (nw)) ∧ (@Eq Nat (cw) (cw)))) ∧ (q2 ∧ ((True) ∧ (T0 ∧ (if (@Eq Int (arE nw fw) ((0 : Int))) then (t3 (q2 ∧ ((True) ∧ (T0 ∧ (if (@Eq Int (sze p q) ((0 : Int))) then (T0 ∧ (if (a < (1 : Int)) then q23 else (q11 ∧ (T0 ∧ (if ((↑nw : Int) ≤ a) then q23 else (t3 (((q6 ≤ p + q) ∧ (p + q ≤ q5)) ∧ (q11 ∧ (T0 ∧ (((q6 ≤ (↑nw : Int) - a) ∧ ((↑nw : Int) - a ≤ q5)) ∧ (T0 ∧ (if ((↑nw : Int) - a ≤ p + q) then q23 else (T0 ∧ (q11 ∧ (q11 ∧ (t4 (q11 ∧ (q11 ∧ (t4 (q0 ∧ (q1 ∧ (T0 ∧ (q7 ∧ (Go.Rx.br (decide ((0 : Nat) < nw)) (∀ y0 : Nat, let q24 := (y0 - (1 : Nat) + (1 : Nat)); let q25 := (↑q24 : Int); ((nw ≤ y0) → (q16 ∧ ((((0 : Int) ≤ a) ∧ (a < (↑nw : Int))) ∧ ((false = false) ∧ ((Int.toNat a < nw) ∧ (t3 (q19 ∧ (T0 ∧ (q19 ∧ (t2 (q20 ∧ (t2 (q22 ∧ (q11 ∧ (t4 (q8 ∧ ((q4 ∧ (q10 ∧ ((a + (1 : Int) + p + q ≤ q25) ∧ (q25 ≤ q25)))) ∧ (Go.Rx.br (decide (a + (1 : Int) < q25)) (q11 ∧ (t3 (((false = false) ∧ ((Int.toNat (a + (1 : Int)) + Int.toNat q12 ≤ nw) ∧ T0)) ∧ (∃ y1 : Value, (∃ y2 : List Blk, ((Go.Rx.Found 1 (Value.tuple { toList := [rsl (3 : Nat) (0 : Nat) nw q24, vi (0 : Int)] }) ({ h := [((3 : Nat), Blk.row false [IntKind.u64] (25 : Nat) nw q24 (clrF q18 q3 q14)), q21, q17, q13], next := (4 : Nat) }) (y1) (y2)) ∧ (K y1 y2))))))) (q11 ∧ (t3 (((false = false) ∧ (((0 : Nat) ≤ nw) ∧ T0)) ∧ (∃ y1 : Value, (∃ y2 : List Blk, ((Go.Rx.Found 1 (Value.tuple { toList := [rsl (3 : Nat) (0 : Nat) nw q24, vi (0 : Int)] }) ({ h := [((3 : Nat), Blk.row false [IntKind.u64] (25 : Nat) nw q24 (clrF q18 (0 : Nat) (0 : Nat))), q21, q17, q13], next := (4 : Nat) }) (y1) (y2)) ∧ (K y1 y2)))))))))))))))))))))))))) (q16 ∧ ((((0 : Int) ≤ a) ∧ (a < (↑(0 : Nat) : Int))) ∧ ((false = false) ∧ ((Int.toNat a < (0 : Nat)) ∧ (t3 (q19 ∧ (T0 ∧ (q19 ∧ (t2 (q20 ∧ (t2 (q22 ∧ (q11 ∧ (t4 (q8 ∧ ((q4 ∧ (q10 ∧ ((a + (1 : Int) + p + q ≤ (↑(0 : Nat) : Int)) ∧ ((↑(0 : Nat) : Int) ≤ (↑(0 : Nat) : Int))))) ∧ (Go.Rx.br (decide (a + (1 : Int) < (↑(0 : Nat) : Int))) (q11 ∧ (t3 (((false = false) ∧ ((Int.toNat (a + (1 : Int)) + Int.toNat q12 ≤ (0 : Nat)) ∧ T0)) ∧ (∃ y0 : Value, (∃ y1 : List Blk, ((Go.Rx.Found 1 (Value.tuple { toList := [rsl (2 : Nat) (0 : Nat) (0 : Nat) (0 : Nat), vi (0 : Int)] }) ({ h := [((2 : Nat), Blk.row false [IntKind.u64] (25 : Nat) (0 : Nat) (0 : Nat) (clrF q15 q3 q14)), q17, q13], next := (3 : Nat) }) (y0) (y1)) ∧ (K y0 y1))))))) (q11 ∧ (t3 (((false = false) ∧ (((0 : Nat) ≤ (0 : Nat)) ∧ T0)) ∧ (∃ y0 : Value, (∃ y1 : List Blk, ((Go.Rx.Found 1 (Value.tuple { toList := [rsl (2 : Nat) (0 : Nat) (0 : Nat) (0 : Nat), vi (0 : Int)] }) ({ h := [((2 : Nat), Blk.row false [IntKind.u64] (25 : Nat) (0 : Nat) (0 : Nat) (clrF q15 (0 : Nat) (0 : Nat))), q17, q13], next := (3 : Nat) }) (y0) (y1)) ∧ (K y0 y1)))))))))))))))))))))))))))))))))))))))))))))))) else (∃ y0 : Value, (∃ y1 : List Blk, ((Go.Rx.Found 1 (Value.tuple { toList := [vn, vi (sze p q)] }) ({ h := [q17, q13], next := (2 : Nat) }) (y0) (y1)) ∧ (K y0 y1))))))))) else (∃ y0 : Value, (∃ y1 : List Blk, ((Go.Rx.Found 1 (Value.tuple { toList := [vn, vi (arE nw fw)] }) ({ h := [q17, q13], next := (2 : Nat) }) (y0) (y1)) ∧ (K y0 y1))))))))))))
theorem mkO_B_rE (ew nw cw : Nat) (fw : RF) (a : Int) (p : Int) (q : Int) (K : Value → List Blk → Prop) : mkO_B_rV ew nw cw fw a p q K = bodyX (mk XM) (callN (mk XM) 9) (mkO_B_rA ew nw cw fw a p q) Try.f44 [rsl 0 0 nw cw, .int .i64 a, .agg ⟨[.int .i64 p, .int .i64 q]⟩] (stOf [.row true [.u64] ew nw cw fw]) (Fd 1 K) := by kernel_rfl
set_option tactic.hygienic false in
theorem mkO_B_rP (ew nw cw : Nat) (fw : RF) (a : Int) (p : Int) (q : Int) (K : Value → List Blk → Prop)  (hnw : nw ≤ 100000) (hcw : nw ≤ cw) (hU : Ok64 nw fw) (h1 : ¬ mkE nw fw a p q = 0) (h : K (.tuple ⟨[.slice none 0 0, .int .i64 (mkE nw fw a p q)]⟩) []) : mkO_B_rV ew nw cw fw a p q K := by
  unfold mkO_B_rV
  conv => zeta
  have z0 := ar_cases nw fw
  have z1 := mk_cases nw fw a p q
  have z2 := sze_cases p q
  have z3 := pkv_cases p q
  repeat' (first | (with_reducible exact rfl) | (with_reducible exact trivial) | (with_reducible refine And.intro ?_ ?_) | (intro) | (with_reducible refine br_d (fun hq => ?_) (fun hq => ?_)) | (with_reducible refine br_nd (fun hq => ?_) (fun hq => ?_)) | (with_reducible refine br_intro (fun hq => ?_) (fun hq => ?_)) | (with_reducible refine if_both (fun hz => ?_) (fun hz => ?_)) | fail)

  all_goals first
    | (with_reducible assumption)
    | (refine (id ?_ : ∃ (v1 : Value) (news : List Blk), _)
       first
        | contradiction
        | exact fin0 (by kernel_rfl) (by kernel_rfl) h
        | exact fin0 (by kernel_rfl) (by kernel_rfl) (fin0i (by omega) h)
        | exact fin0 (by kernel_rfl) (by kernel_rfl) (fin0p (by omega) (by omega) h)
        | exact fin0 (by kernel_rfl) (by kernel_rfl) (fin0u (by omega) (by omega) h)
        | exact fin0 (by kernel_rfl) (by kernel_rfl) (fin0s (by omega) (by omega) (by omega) h)
        | exact fin0 (by kernel_rfl) (by kernel_rfl) (fin0n (by omega) h)
        | (exfalso; simp at hq; omega)
        | (exfalso; omega)
       )
    | omega
    | contradiction
    | exact fin0 (by kernel_rfl) (by kernel_rfl) h
    | exact fin0 (by kernel_rfl) (by kernel_rfl) (fin0i (by omega) h)
    | exact fin0 (by kernel_rfl) (by kernel_rfl) (fin0p (by omega) (by omega) h)
    | exact fin0 (by kernel_rfl) (by kernel_rfl) (fin0u (by omega) (by omega) h)
    | exact fin0 (by kernel_rfl) (by kernel_rfl) (fin0s (by omega) (by omega) (by omega) h)
    | exact fin0 (by kernel_rfl) (by kernel_rfl) (fin0n (by omega) h)
    | (exfalso; simp at hq; omega)
    | (exfalso; omega)
theorem mkO_B_ok : BodyOk (mk XM) 9 Try.f44 mkO_B := by
  intro vs bs K hh hro
  clear hro
  unfold mkO_B at hh
  split at hh
  · rename_i vw a p q
    rcases parseQ_inv hh with ⟨rfl, hh0⟩ | ⟨ew, nw, cw, fw, btw, rfl, hnw, hcw, rfl, hh0⟩ <;> clear hh
    · obtain ⟨rfl, ⟨hU, h1⟩, hc⟩ := hh0
      exact ⟨_, _, cast (mkO_B_nE  a p q K) (mkO_B_nP  a p q K  hU h1 hc)⟩
    · obtain ⟨rfl, ⟨hU, h1⟩, hc⟩ := hh0
      exact ⟨_, _, cast (mkO_B_rE ew nw cw fw a p q K) (mkO_B_rP ew nw cw fw a p q K hnw hcw hU h1 hc)⟩
  · exact hh.elim
theorem mkO_B_told : Told 44 (specOf mkO_B) := told (X := XM) XM_told (by kernel_rfl) (by kernel_rfl) (by kernel_rfl) mkO_B_ok
def mkO_G_rV (ew nw cw : Nat) (fw : RF) (a : Int) (p : Int) (q : Int) (K : Value → List Blk → Prop) : Prop := let q0 := ((0 : Nat) + nw ≤ nw); let q1 := (nw ≤ (100000 : Nat)); let q2 := eB; let q3 := (Int.toNat (a + (1 : Int))); let q4 := ((0 : Int) ≤ a + (1 : Int)); let q5 := (9223372036854775807 : Int); let q6 := (-9223372036854775808 : Int); let q7 := (@Eq Nat ((0 : Nat)) ((0 : Nat))); let q8 := (@Eq Nat ((1 : Nat)) ((1 : Nat))); let q9 := (litF (List.length [IntKind.u64]) []); let q10 := (a + (1 : Int) ≤ a + (1 : Int) + p + q); let q11 := TS; let q12 := (a + (1 : Int) + p + q - (a + (1 : Int))); let q13 := ((0 : Nat), Blk.row true [IntKind.u64] ew nw cw fw); let q14 := (Int.toNat q12); let q15 := (putF q9 (Int.toNat a) (0 : Nat) (pkv p q)); let q16 := (q11 ∧ q8); let q17 := ((1 : Nat), Blk.cells [vi p, vi q] (60 : Nat)); let q18 := (putF (appF (fun x x_1 ↦ (0 : Int)) (0 : Nat) fw (0 : Nat)) (Int.toNat a) (0 : Nat) (pkv p q)); let q19 := ((q6 ≤ a + (1 : Int)) ∧ (a + (1 : Int) ≤ q5)); let q20 := ((q6 ≤ a + (1 : Int) + p) ∧ (a + (1 : Int) + p ≤ q5)); let q21 := ((2 : Nat), Blk.row false [IntKind.u64] (25 : Nat) (0 : Nat) (0 : Nat) q9); let q22 := ((q6 ≤ a + (1 : Int) + p + q) ∧ (a + (1 : Int) + p + q ≤ q5)); let q23 := (∃ y0 : Value, (∃ y1 : List Blk, ((Go.Rx.Found 1 (Value.tuple { toList := [vn, vi (7 : Int)] }) ({ h := [q17, q13], next := (2 : Nat) }) (y0) (y1)) ∧ (K y0 y1)))); (T0 ∧ (q0 ∧ ((q7 ∧ (q1 ∧ (nw ≤ cw))) ∧ (((@Eq (List IntKind) ([IntKind.u64]) ([IntKind.u64])) ∧ ((@Eq Nat (nw) (nw)) ∧ (@Eq Nat (cw) (cw)))) ∧ (q2 ∧ ((True) ∧ (T0 ∧ (if (@Eq Int (arE nw fw) ((0 : Int))) then (t3 (q2 ∧ ((True) ∧ (T0 ∧ (if (@Eq Int (sze p q) ((0 : Int))) then (T0 ∧ (if (a < (1 : Int)) then q23 else (q11 ∧ (T0 ∧ (if ((↑nw : Int) ≤ a) then q23 else (t3 (((q6 ≤ p + q) ∧ (p + q ≤ q5)) ∧ (q11 ∧ (T0 ∧ (((q6 ≤ (↑nw : Int) - a) ∧ ((↑nw : Int) - a ≤ q5)) ∧ (T0 ∧ (if ((↑nw : Int) - a ≤ p + q) then q23 else (T0 ∧ (q11 ∧ (q11 ∧ (t4 (q11 ∧ (q11 ∧ (t4 (q0 ∧ (q1 ∧ (T0 ∧ (q7 ∧ (Go.Rx.br (decide ((0 : Nat) < nw)) (∀ y0 : Nat, let q24 := (y0 - (1 : Nat) + (1 : Nat)); let q25 := (↑q24 : Int); ((nw ≤ y0) → (q16 ∧ ((((0 : Int) ≤ a) ∧ (a < (↑nw : Int))) ∧ ((false = false) ∧ ((Int.toNat a < nw) ∧ (t3 (q19 ∧ (T0 ∧ (q19 ∧ (t2 (q20 ∧ (t2 (q22 ∧ (q11 ∧ (t4 (q8 ∧ ((q4 ∧ (q10 ∧ ((a + (1 : Int) + p + q ≤ q25) ∧ (q25 ≤ q25)))) ∧ (Go.Rx.br (decide (a + (1 : Int) < q25)) (q11 ∧ (t3 (((false = false) ∧ ((Int.toNat (a + (1 : Int)) + Int.toNat q12 ≤ nw) ∧ T0)) ∧ (∃ y1 : Value, (∃ y2 : List Blk, ((Go.Rx.Found 1 (Value.tuple { toList := [rsl (3 : Nat) (0 : Nat) nw q24, vi (0 : Int)] }) ({ h := [((3 : Nat), Blk.row false [IntKind.u64] (25 : Nat) nw q24 (clrF q18 q3 q14)), q21, q17, q13], next := (4 : Nat) }) (y1) (y2)) ∧ (K y1 y2))))))) (q11 ∧ (t3 (((false = false) ∧ (((0 : Nat) ≤ nw) ∧ T0)) ∧ (∃ y1 : Value, (∃ y2 : List Blk, ((Go.Rx.Found 1 (Value.tuple { toList := [rsl (3 : Nat) (0 : Nat) nw q24, vi (0 : Int)] }) ({ h := [((3 : Nat), Blk.row false [IntKind.u64] (25 : Nat) nw q24 (clrF q18 (0 : Nat) (0 : Nat))), q21, q17, q13], next := (4 : Nat) }) (y1) (y2)) ∧ (K y1 y2)))))))))))))))))))))))))) (q16 ∧ ((((0 : Int) ≤ a) ∧ (a < (↑(0 : Nat) : Int))) ∧ ((false = false) ∧ ((Int.toNat a < (0 : Nat)) ∧ (t3 (q19 ∧ (T0 ∧ (q19 ∧ (t2 (q20 ∧ (t2 (q22 ∧ (q11 ∧ (t4 (q8 ∧ ((q4 ∧ (q10 ∧ ((a + (1 : Int) + p + q ≤ (↑(0 : Nat) : Int)) ∧ ((↑(0 : Nat) : Int) ≤ (↑(0 : Nat) : Int))))) ∧ (Go.Rx.br (decide (a + (1 : Int) < (↑(0 : Nat) : Int))) (q11 ∧ (t3 (((false = false) ∧ ((Int.toNat (a + (1 : Int)) + Int.toNat q12 ≤ (0 : Nat)) ∧ T0)) ∧ (∃ y0 : Value, (∃ y1 : List Blk, ((Go.Rx.Found 1 (Value.tuple { toList := [rsl (2 : Nat) (0 : Nat) (0 : Nat) (0 : Nat), vi (0 : Int)] }) ({ h := [((2 : Nat), Blk.row false [IntKind.u64] (25 : Nat) (0 : Nat) (0 : Nat) (clrF q15 q3 q14)), q17, q13], next := (3 : Nat) }) (y0) (y1)) ∧ (K y0 y1))))))) (q11 ∧ (t3 (((false = false) ∧ (((0 : Nat) ≤ (0 : Nat)) ∧ T0)) ∧ (∃ y0 : Value, (∃ y1 : List Blk, ((Go.Rx.Found 1 (Value.tuple { toList := [rsl (2 : Nat) (0 : Nat) (0 : Nat) (0 : Nat), vi (0 : Int)] }) ({ h := [((2 : Nat), Blk.row false [IntKind.u64] (25 : Nat) (0 : Nat) (0 : Nat) (clrF q15 (0 : Nat) (0 : Nat))), q17, q13], next := (3 : Nat) }) (y0) (y1)) ∧ (K y0 y1)))))))))))))))))))))))))))))))))))))))))))))))) else (∃ y0 : Value, (∃ y1 : List Blk, ((Go.Rx.Found 1 (Value.tuple { toList := [vn, vi (sze p q)] }) ({ h := [q17, q13], next := (2 : Nat) }) (y0) (y1)) ∧ (K y0 y1))))))))) else (∃ y0 : Value, (∃ y1 : List Blk, ((Go.Rx.Found 1 (Value.tuple { toList := [vn, vi (arE nw fw)] }) ({ h := [q17, q13], next := (2 : Nat) }) (y0) (y1)) ∧ (K y0 y1))))))))))))
theorem mkO_G_rE (ew nw cw : Nat) (fw : RF) (a : Int) (p : Int) (q : Int) (K : Value → List Blk → Prop) : mkO_G_rV ew nw cw fw a p q K = bodyX (mk XM) (callN (mk XM) 9) (mkO_G_rA ew nw cw fw a p q) Try.f44 [rsl 0 0 nw cw, .int .i64 a, .agg ⟨[.int .i64 p, .int .i64 q]⟩] (stOf [.row true [.u64] ew nw cw fw]) (Fd 1 K) := by kernel_rfl
set_option tactic.hygienic false in
theorem mkO_G_rP (ew nw cw : Nat) (fw : RF) (a : Int) (p : Int) (q : Int) (K : Value → List Blk → Prop)  (hnw : nw ≤ 100000) (hcw : nw ≤ cw) (hU : Ok64 nw fw) (h1 : mkE nw fw a p q = 0) (h : ∀ cp, nw ≤ cp → K (.tuple ⟨[rsl 1 0 (nw) cp, .int .i64 (0)]⟩) [.row false [.u64] 25 (nw) cp (mkF fw (Int.toNat a) (Int.toNat (1 + p + q)) (1 + 256 * p + 65536 * q))]) : mkO_G_rV ew nw cw fw a p q K := by
  unfold mkO_G_rV
  conv => zeta
  have z0 := ar_cases nw fw
  have z1 := mk_cases nw fw a p q
  have z2 := sze_cases p q
  have z3 := pkv_cases p q
  repeat' (first | (with_reducible exact rfl) | (with_reducible exact trivial) | (with_reducible refine And.intro ?_ ?_) | (intro) | (with_reducible refine br_d (fun hq => ?_) (fun hq => ?_)) | (with_reducible refine br_nd (fun hq => ?_) (fun hq => ?_)) | (with_reducible refine br_intro (fun hq => ?_) (fun hq => ?_)) | (with_reducible refine if_both (fun hz => ?_) (fun hz => ?_)) | fail)

  all_goals first
    | (with_reducible assumption)
    | (refine (id ?_ : ∃ (v1 : Value) (news : List Blk), _)
       first
        | contradiction
        | (refine fin1t rfl ?_ (by kernel_rfl) (by kernel_rfl) (h _ (by omega)); (intro i j hi hj; obtain rfl : j = 0 := (by simp at hj; omega); (try unfold setF); (try unfold zroF); (try unfold mkF); (try unfold putF); (try unfold appF); (try unfold clrF); (try unfold setF); (try unfold zroF); (repeat' split) <;> first | rfl | omega | (exfalso; omega) | (simp_all; done) | (simp_all; omega)))
        | (exfalso; omega)
        | (exfalso; simp at hq; omega)
       )
    | omega
    | contradiction
    | (refine fin1t rfl ?_ (by kernel_rfl) (by kernel_rfl) (h _ (by omega)); (intro i j hi hj; obtain rfl : j = 0 := (by simp at hj; omega); (try unfold setF); (try unfold zroF); (try unfold mkF); (try unfold putF); (try unfold appF); (try unfold clrF); (try unfold setF); (try unfold zroF); (repeat' split) <;> first | rfl | omega | (exfalso; omega) | (simp_all; done) | (simp_all; omega)))
    | (exfalso; omega)
    | (exfalso; simp at hq; omega)
theorem mkO_G_ok : BodyOk (mk XM) 9 Try.f44 mkO_G := by
  intro vs bs K hh hro
  clear hro
  unfold mkO_G at hh
  split at hh
  · rename_i vw a p q
    obtain ⟨ew, nw, cw, fw, btw, rfl, hnw, hcw, rfl, hh0⟩ := parseRQ_inv hh
    obtain ⟨rfl, ⟨hU, h1⟩, hc⟩ := hh0
    exact ⟨_, _, cast (mkO_G_rE ew nw cw fw a p q K) (mkO_G_rP ew nw cw fw a p q K hnw hcw hU h1 hc)⟩
  · exact hh.elim
theorem mkO_G_told : Told 44 (specOf mkO_G) := told (X := XM) XM_told (by kernel_rfl) (by kernel_rfl) (by kernel_rfl) mkO_G_ok
end Go.Proofs.Ytfgeoglegebncaa.Fr
namespace Go.Proofs.Ytfgeoglegebncaa.Fr
set_option maxRecDepth 100000
set_option maxHeartbeats 4000000
open Go.Rx
open Go.RowKit (Below)
set_option linter.unusedVariables false
theorem hs_of (p q : Int) (h : sze p q = 0) : hsE (1 + 256 * p + 65536 * q) = 0 ∧ hsP (1 + 256 * p + 65536 * q) = p ∧ hsR (1 + 256 * p + 65536 * q) = q := by
  have z1 := sze_cases p q
  have z2 := hs_cases (1 + 256 * p + 65536 * q)
  omega
theorem mk_ok {n : Nat} {f : RF} {a p q : Int} (hU : Ok64 n f) (h : mkE n f a p q = 0) : arE n f = 0 ∧ n ≤ 1601 ∧ sze p q = 0 ∧ 0 ≤ p ∧ 0 ≤ q ∧ p + q ≤ 63 ∧ 1 ≤ a ∧ p + q < n - a ∧ Ok64 n (mkF f a.toNat (1 + p + q).toNat (1 + 256 * p + 65536 * q)) ∧ arE n (mkF f a.toNat (1 + p + q).toNat (1 + 256 * p + 65536 * q)) = 0 ∧
    obE n (mkF f a.toNat (1 + p + q).toNat (1 + 256 * p + 65536 * q)) a = 0 ∧ obP n (mkF f a.toNat (1 + p + q).toNat (1 + 256 * p + 65536 * q)) a = p ∧ obR n (mkF f a.toNat (1 + p + q).toNat (1 + 256 * p + 65536 * q)) a = q := by
  have z1 := mk_cases n f a p q
  have z2 := sze_cases p q
  have z3 := ar_cases n f
  have z4 := ar_cases n (mkF f a.toNat (1 + p + q).toNat (1 + 256 * p + 65536 * q))
  have e0 : mkF f a.toNat (1 + p + q).toNat (1 + 256 * p + 65536 * q) (Int.toNat 0) 0 = f (Int.toNat 0) 0 := by
    unfold mkF
    rw [if_neg (by have : Int.toNat 0 = 0 := rfl; omega), if_neg (by have : Int.toNat 0 = 0 := rfl; omega)]
  have hO : Ok64 n (mkF f a.toNat (1 + p + q).toNat (1 + 256 * p + 65536 * q)) := hU.mk_ (by omega)
  have z5 := ob_cases hO a
  have e1 : mkF f a.toNat (1 + p + q).toNat (1 + 256 * p + 65536 * q) a.toNat 0 = 1 + 256 * p + 65536 * q := if_pos rfl
  rw [e1] at z5
  have z6 := hs_of p q (by omega)
  refine ⟨by omega, by omega, by omega, by omega, by omega, by omega, by omega, by omega, hO, by omega, by omega, by omega, by omega⟩
theorem mk_zero {n : Nat} {f : RF} {a p q : Int} (h1 : 1 ≤ a) (i : Int) (h2 : 1 ≤ i) (h3 : i ≤ p + q) : mkF f a.toNat (1 + p + q).toNat (1 + 256 * p + 65536 * q) (a + i).toNat 0 = 0 := by
  unfold mkF
  rw [if_neg (by omega), if_pos (by omega)]
theorem mk_ptr {n : Nat} {f : RF} {a p q : Int} (hU : Ok64 n f) (h : mkE n f a p q = 0) (x : Int) (h0 : 0 ≤ x) (h1 : x < p) : ptE n (mkF f a.toNat (1 + p + q).toNat (1 + 256 * p + 65536 * q)) a x = 0 ∧ ptV n (mkF f a.toNat (1 + p + q).toNat (1 + 256 * p + 65536 * q)) a x = 0 := by
  obtain ⟨q1, q2, q3, q4, q5, q6, q7, q8, hO, q9, k1, k2, k3⟩ := mk_ok hU h
  have z := pt_cases n (mkF f a.toNat (1 + p + q).toNat (1 + 256 * p + 65536 * q)) a x
  have e := mk_zero (n := n) (f := f) (a := a) (p := p) (q := q) q7 (1 + x) (by omega) (by omega)
  rw [← Int.add_assoc] at e
  omega
theorem mk_raw {n : Nat} {f : RF} {a p q : Int} (hU : Ok64 n f) (h : mkE n f a p q = 0) (x : Int) (h0 : 0 ≤ x) (h1 : x < q) : rwE n (mkF f a.toNat (1 + p + q).toNat (1 + 256 * p + 65536 * q)) a x = 0 ∧ rwV n (mkF f a.toNat (1 + p + q).toNat (1 + 256 * p + 65536 * q)) a x = 0 := by
  obtain ⟨q1, q2, q3, q4, q5, q6, q7, q8, hO, q9, k1, k2, k3⟩ := mk_ok hU h
  have z := rw_cases n (mkF f a.toNat (1 + p + q).toNat (1 + 256 * p + 65536 * q)) a x
  have e := mk_zero (n := n) (f := f) (a := a) (p := p) (q := q) q7 (1 + p + x) (by omega) (by omega)
  rw [show a + (1 + p + x) = a + 1 + p + x by omega] at e
  rw [k2] at z
  omega
theorem mk_no {n : Nat} {f : RF} {a p q : Int} (hU : Ok64 n f) (h : mkE n f a p q = 0) : ptE n (mkF f a.toNat (1 + p + q).toNat (1 + 256 * p + 65536 * q)) a p = 10 ∧ rwE n (mkF f a.toNat (1 + p + q).toNat (1 + 256 * p + 65536 * q)) a q = 10 ∧ rwE n (mkF f a.toNat (1 + p + q).toNat (1 + 256 * p + 65536 * q)) a (-1) = 10 := by
  obtain ⟨q1, q2, q3, q4, q5, q6, q7, q8, hO, q9, k1, k2, k3⟩ := mk_ok hU h
  have z1 := pt_cases n (mkF f a.toNat (1 + p + q).toNat (1 + 256 * p + 65536 * q)) a p
  have z2 := rw_cases n (mkF f a.toNat (1 + p + q).toNat (1 + 256 * p + 65536 * q)) a q
  have z3 := rw_cases n (mkF f a.toNat (1 + p + q).toNat (1 + 256 * p + 65536 * q)) a (-1)
  omega
theorem dif_mk {n m : Nat} {f l : RF} {a p q : Int} (hU : Ok64 n f) (h : mkE n f a p q = 0) (H : DifL n f (mkF f a.toNat (1 + p + q).toNat (1 + 256 * p + 65536 * q)) m l) (i : Nat) (hi : i < m) : a ≤ l i 0 ∧ l i 0 < a + 1 + p + q := by
  obtain ⟨q1, q2, q3, q4, q5, q6, q7, q8, -⟩ := mk_ok hU h
  obtain ⟨h1, h2, h3⟩ := H.mem i hi
  rcases Decidable.em (a ≤ l i 0 ∧ l i 0 < a + 1 + p + q) with h | h
  · exact h
  · refine absurd ?_ h3
    unfold mkF
    rw [if_neg (by omega), if_neg (by omega)]
theorem dif_len {n m : Nat} {f g l : RF} (H : DifL n f g m l) : m ≤ n := by
  have key : ∀ i : Nat, i < m → (i : Int) ≤ l i 0 := by
    intro i
    induction i with
    | zero => exact fun hi => (H.mem 0 hi).1
    | succ i ih =>
      intro hi
      have k1 := ih (by omega)
      have k2 := H.asc i (i + 1) (by omega) hi
      omega
  have p := H.pos
  have k := key (m - 1) (by omega)
  have k2 := (H.mem (m - 1) (by omega)).2.1
  omega
end Go.Proofs.Ytfgeoglegebncaa.Fr
namespace Go.Proofs.Ytfgeoglegebncaa.Fr
set_option maxRecDepth 100000
set_option maxHeartbeats 4000000
open Go.Rx
open Go.RowKit (Below)
def sp43 : Rx.Spec := fun args s K => args = [] ∧ K (.bool true) s
set_option maxRecDepth 1000000 in
theorem closed43 : Ev.run ⟨Try.prog, Ev.mkTT Try.prog, Ev.mkFT Try.prog, [], [], [], none⟩ 1000000 43 [] = some true := by kernel_rfl
theorem told43 : Told 43 sp43 := ⟨⟨Try.f43, by kernel_rfl, by kernel_rfl, by kernel_rfl⟩, specTrue_ok (Ev.run_closed mixed closed43)⟩
end Go.Proofs.Ytfgeoglegebncaa.Fr
namespace Go.Proofs.Ytfgeoglegebncaa.Fr
set_option maxRecDepth 100000
set_option maxHeartbeats 4000000
open Go.Rx
open Go.RowKit (Below)
set_option linter.unusedVariables false
def keepF (l : List Nat) (m : List (Nat × Value)) : List (Nat × Value) := m.filter fun p => l.any (Nat.beq p.1)
@[reducible] def X13B : List (Nat × Rx.Spec) := [(43, sp43), (44, specOf mkO_B)]
theorem X13B_told : ∀ p ∈ X13B, Told p.1 p.2 := by
  intro p hp
  simp only [List.mem_cons, List.not_mem_nil, or_false] at hp
  rcases hp with rfl | rfl
  · exact told43
  · exact mkO_B_told
@[reducible] def X13GNN : List (Nat × Rx.Spec) := [(43, sp43), (44, specOf mkO_G), (46, specOf obS), (48, specOf obZ), (65, specOf hkN), (50, specOf slON), (37, specOf dfN), (52, specOf obp), (54, specOf obr)]
theorem X13GNN_told : ∀ p ∈ X13GNN, Told p.1 p.2 := by
  intro p hp
  simp only [List.mem_cons, List.not_mem_nil, or_false] at hp
  rcases hp with rfl | rfl | rfl | rfl | rfl | rfl | rfl | rfl | rfl
  · exact told43
  · exact mkO_G_told
  · exact obS_told
  · exact obZ_told
  · exact hkN_told
  · exact slON_told
  · exact dfN_told
  · exact obp_told
  · exact obr_told
@[reducible] def X13GNR : List (Nat × Rx.Spec) := [(43, sp43), (44, specOf mkO_G), (46, specOf obS), (48, specOf obZ), (65, specOf hkN), (50, specOf slON), (37, specOf dfR), (52, specOf obp), (54, specOf obr)]
theorem X13GNR_told : ∀ p ∈ X13GNR, Told p.1 p.2 := by
  intro p hp
  simp only [List.mem_cons, List.not_mem_nil, or_false] at hp
  rcases hp with rfl | rfl | rfl | rfl | rfl | rfl | rfl | rfl | rfl
  · exact told43
  · exact mkO_G_told
  · exact obS_told
  · exact obZ_told
  · exact hkN_told
  · exact slON_told
  · exact dfR_told
  · exact obp_told
  · exact obr_told
@[reducible] def X13GRN : List (Nat × Rx.Spec) := [(43, sp43), (44, specOf mkO_G), (46, specOf obS), (48, specOf obZ), (65, specOf hkN), (50, specOf slOR), (37, specOf dfN), (52, specOf obp), (54, specOf obr)]
theorem X13GRN_told : ∀ p ∈ X13GRN, Told p.1 p.2 := by
  intro p hp
  simp only [List.mem_cons, List.not_mem_nil, or_false] at hp
  rcases hp with rfl | rfl | rfl | rfl | rfl | rfl | rfl | rfl | rfl
  · exact told43
  · exact mkO_G_told
  · exact obS_told
  · exact obZ_told
  · exact hkN_told
  · exact slOR_told
  · exact dfN_told
  · exact obp_told
  · exact obr_told
@[reducible] def X13GRR : List (Nat × Rx.Spec) := [(43, sp43), (44, specOf mkO_G), (46, specOf obS), (48, specOf obZ), (65, specOf hkN), (50, specOf slOR), (37, specOf dfR), (52, specOf obp), (54, specOf obr)]
theorem X13GRR_told : ∀ p ∈ X13GRR, Told p.1 p.2 := by
  intro p hp
  simp only [List.mem_cons, List.not_mem_nil, or_false] at hp
  rcases hp with rfl | rfl | rfl | rfl | rfl | rfl | rfl | rfl | rfl
  · exact told43
  · exact mkO_G_told
  · exact obS_told
  · exact obZ_told
  · exact hkN_told
  · exact slOR_told
  · exact dfR_told
  · exact obp_told
  · exact obr_told
end Go.Proofs.Ytfgeoglegebncaa.Fr
namespace Go.Proofs.Ytfgeoglegebncaa.Fr
set_option maxRecDepth 100000
set_option maxHeartbeats 4000000
open Go.Rx
open Go.RowKit (Below)
set_option linter.unusedVariables false

def lwhoB_nA (a : Int) (p : Int) (q : Int) : Ann := fun k tt ss => bif Nat.beq k 14 then some [{ α := Nat, T := fun k => ⟨tt.n, (18, .int .i64 (k : Int)) :: keepF [1, 5, 7, 10, 14, 16] tt.m⟩, S := fun _ => ss, I := fun k => k ≤ p.toNat ∧ 0 ≤ k, m := fun k => p.toNat - k, ρ0 := idR 0 ss.next, ρ1 := [idR 0 ss.next] }] else bif Nat.beq k 20 then some [{ α := Nat, T := fun k => ⟨tt.n, (21, .int .i64 (k : Int)) :: keepF [1, 5, 7, 10, 14, 16] tt.m⟩, S := fun _ => ss, I := fun k => k ≤ q.toNat ∧ 0 ≤ k, m := fun k => q.toNat - k, ρ0 := idR 0 ss.next, ρ1 := [idR 0 ss.next] }] else bif Nat.beq k 26 then some [{ α := Nat, T := fun k => ⟨tt.n, (24, .int .i64 (k : Int)) :: keepF [1, 5, 7, 10, 14, 16] tt.m⟩, S := fun _ => ss, I := fun k => k ≤ 0 ∧ 0 ≤ k, m := fun k => 0 - k, ρ0 := idR 0 ss.next, ρ1 := [idR 0 ss.next] }] else none
def lwhoB_rA (ew nw cw : Nat) (fw : RF) (a : Int) (p : Int) (q : Int) : Ann := fun k tt ss => bif Nat.beq k 14 then some [{ α := Nat, T := fun k => ⟨tt.n, (18, .int .i64 (k : Int)) :: keepF [1, 5, 7, 10, 14, 16] tt.m⟩, S := fun _ => ss, I := fun k => k ≤ p.toNat ∧ 0 ≤ k, m := fun k => p.toNat - k, ρ0 := idR 1 ss.next, ρ1 := [idR 1 ss.next] }] else bif Nat.beq k 20 then some [{ α := Nat, T := fun k => ⟨tt.n, (21, .int .i64 (k : Int)) :: keepF [1, 5, 7, 10, 14, 16] tt.m⟩, S := fun _ => ss, I := fun k => k ≤ q.toNat ∧ 0 ≤ k, m := fun k => q.toNat - k, ρ0 := idR 1 ss.next, ρ1 := [idR 1 ss.next] }] else bif Nat.beq k 26 then some [{ α := Nat, T := fun k => ⟨tt.n, (24, .int .i64 (k : Int)) :: keepF [1, 5, 7, 10, 14, 16] tt.m⟩, S := fun _ => ss, I := fun k => k ≤ nw ∧ 0 ≤ k, m := fun k => nw - k, ρ0 := idR 1 ss.next, ρ1 := [idR 1 ss.next] }] else none
def lwhoB_nV (a : Int) (p : Int) (q : Int) (K : Value → List Blk → Prop) : Prop := let q0 := TS; (T0 ∧ (q0 ∧ (t6 (eB ∧ (((Ok64 (0 : Nat) zF) ∧ (¬mkE (0 : Nat) zF a p q = (0 : Int))) ∧ (T0 ∧ (q0 ∧ (T0 ∧ ((@Eq (List Value) ([]) ([])) ∧ (@Eq (Value) (Value.bool true) (Value.bool true)))))))))))
theorem lwhoB_nE (a : Int) (p : Int) (q : Int) (K : Value → List Blk → Prop) : lwhoB_nV a p q K = bodyX (mk X13B) (callN (mk X13B) 6) (lwhoB_nA a p q) Try.f13 [.slice none 0 0, .int .i64 a, .agg ⟨[.int .i64 p, .int .i64 q]⟩] (stOf []) fun v _ => v = .bool true := by kernel_rfl
set_option tactic.hygienic false in
theorem lwhoB_nP (a : Int) (p : Int) (q : Int) (K : Value → List Blk → Prop)  (hU : Ok64 0 zF) (h1 : ¬ mkE 0 zF a p q = 0) : lwhoB_nV a p q K := by
  unfold lwhoB_nV
  conv => zeta
  have z0 := (fun h => mk_ok hU h : mkE 0 zF a p q = 0 → _)
  have z1 := (fun h => mk_no hU h : mkE 0 zF a p q = 0 → _)
  have z2 := obN_cases 0 (mkF zF (Int.toNat a) (Int.toNat (1 + p + q)) (1 + 256 * p + 65536 * q)) a
  have z3 := szn_cases p q
  repeat' (first | (with_reducible exact rfl) | (with_reducible exact trivial) | (with_reducible refine And.intro ?_ ?_) | (intro) | (with_reducible refine br_d (fun hq => ?_) (fun hq => ?_)) | (with_reducible refine br_nd (fun hq => ?_) (fun hq => ?_)) | (with_reducible refine br_intro (fun hq => ?_) (fun hq => ?_)) | (with_reducible refine if_both (fun hz => ?_) (fun hz => ?_)) | fail)
  all_goals try simp only [eqL] at *
  all_goals try (rename DifL _ _ _ _ _ => hd; have hdl := dif_len hd)
  all_goals first
    | (with_reducible assumption)
    | (refine (id ?_ : False)
       first
        | contradiction
        | exact ⟨0, (by (refine And.intro (And.intro rfl (And.intro rfl (And.intro rfl rfl))) ?_; (repeat' (first | exact trivial | exact rfl | exact fun _ _ _ _ => rfl | refine And.intro ?_ ?_ | omega | fail)); done)), by omega, by omega⟩
        | exact ⟨y0 + 1, (by (refine And.intro (And.intro rfl (And.intro rfl (And.intro rfl rfl))) ?_; (repeat' (first | exact trivial | exact rfl | exact fun _ _ _ _ => rfl | refine And.intro ?_ ?_ | omega | fail)); done)), ⟨by omega, by omega⟩, by omega⟩
        | exact ⟨y1 + 1, (by (refine And.intro (And.intro rfl (And.intro rfl (And.intro rfl rfl))) ?_; (repeat' (first | exact trivial | exact rfl | exact fun _ _ _ _ => rfl | refine And.intro ?_ ?_ | omega | fail)); done)), ⟨by omega, by omega⟩, by omega⟩
        | exact ⟨y2 + 1, (by (refine And.intro (And.intro rfl (And.intro rfl (And.intro rfl rfl))) ?_; (repeat' (first | exact trivial | exact rfl | exact fun _ _ _ _ => rfl | refine And.intro ?_ ?_ | omega | fail)); done)), ⟨by omega, by omega⟩, by omega⟩
        | exact ⟨y3 + 1, (by (refine And.intro (And.intro rfl (And.intro rfl (And.intro rfl rfl))) ?_; (repeat' (first | exact trivial | exact rfl | exact fun _ _ _ _ => rfl | refine And.intro ?_ ?_ | omega | fail)); done)), ⟨by omega, by omega⟩, by omega⟩
        | exact ⟨y4 + 1, (by (refine And.intro (And.intro rfl (And.intro rfl (And.intro rfl rfl))) ?_; (repeat' (first | exact trivial | exact rfl | exact fun _ _ _ _ => rfl | refine And.intro ?_ ?_ | omega | fail)); done)), ⟨by omega, by omega⟩, by omega⟩
        | exact ⟨y5 + 1, (by (refine And.intro (And.intro rfl (And.intro rfl (And.intro rfl rfl))) ?_; (repeat' (first | exact trivial | exact rfl | exact fun _ _ _ _ => rfl | refine And.intro ?_ ?_ | omega | fail)); done)), ⟨by omega, by omega⟩, by omega⟩
        | exact ⟨y6 + 1, (by (refine And.intro (And.intro rfl (And.intro rfl (And.intro rfl rfl))) ?_; (repeat' (first | exact trivial | exact rfl | exact fun _ _ _ _ => rfl | refine And.intro ?_ ?_ | omega | fail)); done)), ⟨by omega, by omega⟩, by omega⟩
        | exact ⟨y7 + 1, (by (refine And.intro (And.intro rfl (And.intro rfl (And.intro rfl rfl))) ?_; (repeat' (first | exact trivial | exact rfl | exact fun _ _ _ _ => rfl | refine And.intro ?_ ?_ | omega | fail)); done)), ⟨by omega, by omega⟩, by omega⟩
        | exact ⟨y8 + 1, (by (refine And.intro (And.intro rfl (And.intro rfl (And.intro rfl rfl))) ?_; (repeat' (first | exact trivial | exact rfl | exact fun _ _ _ _ => rfl | refine And.intro ?_ ?_ | omega | fail)); done)), ⟨by omega, by omega⟩, by omega⟩
        | exact (z0 (by assumption)).2.2.2.2.2.2.2.2.1
        | exact absurd (And.intro (by omega) (by omega)) (by assumption)
        | (exfalso
           have q := mk_ptr hU (by assumption) (y0 : Int) (by omega) (by omega)
           first
             | omega
             | exact absurd (show slF a y0 0 = a + 1 + (y0 : Int) from rfl) (by assumption))
        | (exfalso
           have q := mk_raw hU (by assumption) (y0 : Int) (by omega) (by omega)
           omega)
        | (exfalso
           rename DifL _ _ _ _ _ => hd
           have q := dif_mk hU (by assumption) hd y0 (by omega)
           omega)
        | (exfalso
           have q := mk_ptr hU (by assumption) (y1 : Int) (by omega) (by omega)
           first
             | omega
             | exact absurd (show slF a y1 0 = a + 1 + (y1 : Int) from rfl) (by assumption))
        | (exfalso
           have q := mk_raw hU (by assumption) (y1 : Int) (by omega) (by omega)
           omega)
        | (exfalso
           rename DifL _ _ _ _ _ => hd
           have q := dif_mk hU (by assumption) hd y1 (by omega)
           omega)
        | (exfalso
           have q := mk_ptr hU (by assumption) (y2 : Int) (by omega) (by omega)
           first
             | omega
             | exact absurd (show slF a y2 0 = a + 1 + (y2 : Int) from rfl) (by assumption))
        | (exfalso
           have q := mk_raw hU (by assumption) (y2 : Int) (by omega) (by omega)
           omega)
        | (exfalso
           rename DifL _ _ _ _ _ => hd
           have q := dif_mk hU (by assumption) hd y2 (by omega)
           omega)
        | (exfalso
           have q := mk_ptr hU (by assumption) (y3 : Int) (by omega) (by omega)
           first
             | omega
             | exact absurd (show slF a y3 0 = a + 1 + (y3 : Int) from rfl) (by assumption))
        | (exfalso
           have q := mk_raw hU (by assumption) (y3 : Int) (by omega) (by omega)
           omega)
        | (exfalso
           rename DifL _ _ _ _ _ => hd
           have q := dif_mk hU (by assumption) hd y3 (by omega)
           omega)
        | (exfalso
           have q := mk_ptr hU (by assumption) (y4 : Int) (by omega) (by omega)
           first
             | omega
             | exact absurd (show slF a y4 0 = a + 1 + (y4 : Int) from rfl) (by assumption))
        | (exfalso
           have q := mk_raw hU (by assumption) (y4 : Int) (by omega) (by omega)
           omega)
        | (exfalso
           rename DifL _ _ _ _ _ => hd
           have q := dif_mk hU (by assumption) hd y4 (by omega)
           omega)
        | (exfalso
           have q := mk_ptr hU (by assumption) (y5 : Int) (by omega) (by omega)
           first
             | omega
             | exact absurd (show slF a y5 0 = a + 1 + (y5 : Int) from rfl) (by assumption))
        | (exfalso
           have q := mk_raw hU (by assumption) (y5 : Int) (by omega) (by omega)
           omega)
        | (exfalso
           rename DifL _ _ _ _ _ => hd
           have q := dif_mk hU (by assumption) hd y5 (by omega)
           omega)
        | (exfalso
           have q := mk_ptr hU (by assumption) (y6 : Int) (by omega) (by omega)
           first
             | omega
             | exact absurd (show slF a y6 0 = a + 1 + (y6 : Int) from rfl) (by assumption))
        | (exfalso
           have q := mk_raw hU (by assumption) (y6 : Int) (by omega) (by omega)
           omega)
        | (exfalso
           rename DifL _ _ _ _ _ => hd
           have q := dif_mk hU (by assumption) hd y6 (by omega)
           omega)
        | (exfalso
           have q := mk_ptr hU (by assumption) (y7 : Int) (by omega) (by omega)
           first
             | omega
             | exact absurd (show slF a y7 0 = a + 1 + (y7 : Int) from rfl) (by assumption))
        | (exfalso
           have q := mk_raw hU (by assumption) (y7 : Int) (by omega) (by omega)
           omega)
        | (exfalso
           rename DifL _ _ _ _ _ => hd
           have q := dif_mk hU (by assumption) hd y7 (by omega)
           omega)
        | (exfalso
           have q := mk_ptr hU (by assumption) (y8 : Int) (by omega) (by omega)
           first
             | omega
             | exact absurd (show slF a y8 0 = a + 1 + (y8 : Int) from rfl) (by assumption))
        | (exfalso
           have q := mk_raw hU (by assumption) (y8 : Int) (by omega) (by omega)
           omega)
        | (exfalso
           rename DifL _ _ _ _ _ => hd
           have q := dif_mk hU (by assumption) hd y8 (by omega)
           omega)
        | (rename DifL _ _ _ _ _ => hd
           have q := dif_len hd
           omega)
        | (exfalso; omega)
       )
    | omega
    | contradiction
    | exact ⟨0, (by (refine And.intro (And.intro rfl (And.intro rfl (And.intro rfl rfl))) ?_; (repeat' (first | exact trivial | exact rfl | exact fun _ _ _ _ => rfl | refine And.intro ?_ ?_ | omega | fail)); done)), by omega, by omega⟩
    | exact ⟨y0 + 1, (by (refine And.intro (And.intro rfl (And.intro rfl (And.intro rfl rfl))) ?_; (repeat' (first | exact trivial | exact rfl | exact fun _ _ _ _ => rfl | refine And.intro ?_ ?_ | omega | fail)); done)), ⟨by omega, by omega⟩, by omega⟩
    | exact ⟨y1 + 1, (by (refine And.intro (And.intro rfl (And.intro rfl (And.intro rfl rfl))) ?_; (repeat' (first | exact trivial | exact rfl | exact fun _ _ _ _ => rfl | refine And.intro ?_ ?_ | omega | fail)); done)), ⟨by omega, by omega⟩, by omega⟩
    | exact ⟨y2 + 1, (by (refine And.intro (And.intro rfl (And.intro rfl (And.intro rfl rfl))) ?_; (repeat' (first | exact trivial | exact rfl | exact fun _ _ _ _ => rfl | refine And.intro ?_ ?_ | omega | fail)); done)), ⟨by omega, by omega⟩, by omega⟩
    | exact ⟨y3 + 1, (by (refine And.intro (And.intro rfl (And.intro rfl (And.intro rfl rfl))) ?_; (repeat' (first | exact trivial | exact rfl | exact fun _ _ _ _ => rfl | refine And.intro ?_ ?_ | omega | fail)); done)), ⟨by omega, by omega⟩, by omega⟩
    | exact ⟨y4 + 1, (by (refine And.intro (And.intro rfl (And.intro rfl (And.intro rfl rfl))) ?_; (repeat' (first | exact trivial | exact rfl | exact fun _ _ _ _ => rfl | refine And.intro ?_ ?_ | omega | fail)); done)), ⟨by omega, by omega⟩, by omega⟩
    | exact ⟨y5 + 1, (by (refine And.intro (And.intro rfl (And.intro rfl (And.intro rfl rfl))) ?_; (repeat' (first | exact trivial | exact rfl | exact fun _ _ _ _ => rfl | refine And.intro ?_ ?_ | omega | fail)); done)), ⟨by omega, by omega⟩, by omega⟩
    | exact ⟨y6 + 1, (by (refine And.intro (And.intro rfl (And.intro rfl (And.intro rfl rfl))) ?_; (repeat' (first | exact trivial | exact rfl | exact fun _ _ _ _ => rfl | refine And.intro ?_ ?_ | omega | fail)); done)), ⟨by omega, by omega⟩, by omega⟩
    | exact ⟨y7 + 1, (by (refine And.intro (And.intro rfl (And.intro rfl (And.intro rfl rfl))) ?_; (repeat' (first | exact trivial | exact rfl | exact fun _ _ _ _ => rfl | refine And.intro ?_ ?_ | omega | fail)); done)), ⟨by omega, by omega⟩, by omega⟩
    | exact ⟨y8 + 1, (by (refine And.intro (And.intro rfl (And.intro rfl (And.intro rfl rfl))) ?_; (repeat' (first | exact trivial | exact rfl | exact fun _ _ _ _ => rfl | refine And.intro ?_ ?_ | omega | fail)); done)), ⟨by omega, by omega⟩, by omega⟩
    | exact (z0 (by assumption)).2.2.2.2.2.2.2.2.1
    | exact absurd (And.intro (by omega) (by omega)) (by assumption)
    | (exfalso
       have q := mk_ptr hU (by assumption) (y0 : Int) (by omega) (by omega)
       first
         | omega
         | exact absurd (show slF a y0 0 = a + 1 + (y0 : Int) from rfl) (by assumption))
    | (exfalso
       have q := mk_raw hU (by assumption) (y0 : Int) (by omega) (by omega)
       omega)
    | (exfalso
       rename DifL _ _ _ _ _ => hd
       have q := dif_mk hU (by assumption) hd y0 (by omega)
       omega)
    | (exfalso
       have q := mk_ptr hU (by assumption) (y1 : Int) (by omega) (by omega)
       first
         | omega
         | exact absurd (show slF a y1 0 = a + 1 + (y1 : Int) from rfl) (by assumption))
    | (exfalso
       have q := mk_raw hU (by assumption) (y1 : Int) (by omega) (by omega)
       omega)
    | (exfalso
       rename DifL _ _ _ _ _ => hd
       have q := dif_mk hU (by assumption) hd y1 (by omega)
       omega)
    | (exfalso
       have q := mk_ptr hU (by assumption) (y2 : Int) (by omega) (by omega)
       first
         | omega
         | exact absurd (show slF a y2 0 = a + 1 + (y2 : Int) from rfl) (by assumption))
    | (exfalso
       have q := mk_raw hU (by assumption) (y2 : Int) (by omega) (by omega)
       omega)
    | (exfalso
       rename DifL _ _ _ _ _ => hd
       have q := dif_mk hU (by assumption) hd y2 (by omega)
       omega)
    | (exfalso
       have q := mk_ptr hU (by assumption) (y3 : Int) (by omega) (by omega)
       first
         | omega
         | exact absurd (show slF a y3 0 = a + 1 + (y3 : Int) from rfl) (by assumption))
    | (exfalso
       have q := mk_raw hU (by assumption) (y3 : Int) (by omega) (by omega)
       omega)
    | (exfalso
       rename DifL _ _ _ _ _ => hd
       have q := dif_mk hU (by assumption) hd y3 (by omega)
       omega)
    | (exfalso
       have q := mk_ptr hU (by assumption) (y4 : Int) (by omega) (by omega)
       first
         | omega
         | exact absurd (show slF a y4 0 = a + 1 + (y4 : Int) from rfl) (by assumption))
    | (exfalso
       have q := mk_raw hU (by assumption) (y4 : Int) (by omega) (by omega)
       omega)
    | (exfalso
       rename DifL _ _ _ _ _ => hd
       have q := dif_mk hU (by assumption) hd y4 (by omega)
       omega)
    | (exfalso
       have q := mk_ptr hU (by assumption) (y5 : Int) (by omega) (by omega)
       first
         | omega
         | exact absurd (show slF a y5 0 = a + 1 + (y5 : Int) from rfl) (by assumption))
    | (exfalso
       have q := mk_raw hU (by assumption) (y5 : Int) (by omega) (by omega)
       omega)
    | (exfalso
       rename DifL _ _ _ _ _ => hd
       have q := dif_mk hU (by assumption) hd y5 (by omega)
       omega)
    | (exfalso
       have q := mk_ptr hU (by assumption) (y6 : Int) (by omega) (by omega)
       first
         | omega
         | exact absurd (show slF a y6 0 = a + 1 + (y6 : Int) from rfl) (by assumption))
    | (exfalso
       have q := mk_raw hU (by assumption) (y6 : Int) (by omega) (by omega)
       omega)
    | (exfalso
       rename DifL _ _ _ _ _ => hd
       have q := dif_mk hU (by assumption) hd y6 (by omega)
       omega)
    | (exfalso
       have q := mk_ptr hU (by assumption) (y7 : Int) (by omega) (by omega)
       first
         | omega
         | exact absurd (show slF a y7 0 = a + 1 + (y7 : Int) from rfl) (by assumption))
    | (exfalso
       have q := mk_raw hU (by assumption) (y7 : Int) (by omega) (by omega)
       omega)
    | (exfalso
       rename DifL _ _ _ _ _ => hd
       have q := dif_mk hU (by assumption) hd y7 (by omega)
       omega)
    | (exfalso
       have q := mk_ptr hU (by assumption) (y8 : Int) (by omega) (by omega)
       first
         | omega
         | exact absurd (show slF a y8 0 = a + 1 + (y8 : Int) from rfl) (by assumption))
    | (exfalso
       have q := mk_raw hU (by assumption) (y8 : Int) (by omega) (by omega)
       omega)
    | (exfalso
       rename DifL _ _ _ _ _ => hd
       have q := dif_mk hU (by assumption) hd y8 (by omega)
       omega)
    | (rename DifL _ _ _ _ _ => hd
       have q := dif_len hd
       omega)
    | (exfalso; omega)
def lwhoB_rV (ew nw cw : Nat) (fw : RF) (a : Int) (p : Int) (q : Int) (K : Value → List Blk → Prop) : Prop := let q0 := (9223372036854775807 : Int); let q1 := (-9223372036854775808 : Int); let q2 := TS; let q3 := ((@Eq (List Value) ([]) ([])) ∧ (@Eq (Value) (Value.bool true) (Value.bool true))); let q4 := ((q1 ≤ (1 : Int) + p) ∧ ((1 : Int) + p ≤ q0)); let q5 := ((q1 ≤ (1 : Int) + p + q) ∧ ((1 : Int) + p + q ≤ q0)); let q6 := (t4 (@Eq (Value) (Value.bool false) (Value.bool true))); let q7 := (t3 (q2 ∧ (t9 (t3 (q2 ∧ (t3 (q2 ∧ (T0 ∧ (if ((↑nw : Int) < (1 : Int)) then q6 else (q2 ∧ (T0 ∧ (if ((1601 : Int) < (↑nw : Int)) then q6 else ((q2 ∧ (@Eq Nat ((1 : Nat)) ((1 : Nat)))) ∧ ((((0 : Int) ≤ (0 : Int)) ∧ ((0 : Int) < (↑nw : Int))) ∧ ((Int.toNat (0 : Int) < nw) ∧ (T0 ∧ (if (@Eq Int (fw (Int.toNat (0 : Int)) (0 : Nat)) ((0 : Int))) then (t2 (q2 ∧ q6)) else q6))))))))))))))))); let q8 := (T0 ∧ q7); (T0 ∧ (q2 ∧ (T0 ∧ (if ((300 : Int) < (↑nw : Int)) then q3 else (T0 ∧ (((0 : Nat) + nw ≤ nw) ∧ (t3 (((@Eq Nat ((0 : Nat)) ((0 : Nat))) ∧ ((nw ≤ (100000 : Nat)) ∧ (nw ≤ cw))) ∧ (((@Eq (List IntKind) ([IntKind.u64]) ([IntKind.u64])) ∧ ((@Eq Nat (nw) (nw)) ∧ (@Eq Nat (cw) (cw)))) ∧ (eB ∧ (((Ok64 nw fw) ∧ (¬mkE nw fw a p q = (0 : Int))) ∧ (T0 ∧ (if (@Eq Int (mkE nw fw a p q) ((0 : Int))) then (t3 (q2 ∧ (t9 (t8 (q2 ∧ (t9 (t5 (if (p < (0 : Int)) then q8 else (t2 (if (q < (0 : Int)) then q8 else (t2 (if ((64 : Int) < p) then q8 else (t2 (if ((64 : Int) < q) then q8 else (t2 (q4 ∧ (t2 (q5 ∧ (T0 ∧ (if ((64 : Int) < (1 : Int) + p + q) then q8 else (t3 (q4 ∧ (t2 (q5 ∧ q7)))))))))))))))))))))))) else (q2 ∧ (T0 ∧ q3)))))))))))))))
theorem lwhoB_rE (ew nw cw : Nat) (fw : RF) (a : Int) (p : Int) (q : Int) (K : Value → List Blk → Prop) : lwhoB_rV ew nw cw fw a p q K = bodyX (mk X13B) (callN (mk X13B) 6) (lwhoB_rA ew nw cw fw a p q) Try.f13 [rsl 0 0 nw cw, .int .i64 a, .agg ⟨[.int .i64 p, .int .i64 q]⟩] (stOf [.row true [.u64] ew nw cw fw]) fun v _ => v = .bool true := by kernel_rfl
set_option tactic.hygienic false in
theorem lwhoB_rP (ew nw cw : Nat) (fw : RF) (a : Int) (p : Int) (q : Int) (K : Value → List Blk → Prop)  (hcw : nw ≤ cw) (hU : Ok64 nw fw) (h1 : ¬ mkE nw fw a p q = 0) : lwhoB_rV ew nw cw fw a p q K := by
  unfold lwhoB_rV
  conv => zeta
  have z0 := (fun h => mk_ok hU h : mkE nw fw a p q = 0 → _)
  have z1 := (fun h => mk_no hU h : mkE nw fw a p q = 0 → _)
  have z2 := obN_cases nw (mkF fw (Int.toNat a) (Int.toNat (1 + p + q)) (1 + 256 * p + 65536 * q)) a
  have z3 := szn_cases p q
  repeat' (first | (with_reducible exact rfl) | (with_reducible exact trivial) | (with_reducible refine And.intro ?_ ?_) | (intro) | (with_reducible refine br_d (fun hq => ?_) (fun hq => ?_)) | (with_reducible refine br_nd (fun hq => ?_) (fun hq => ?_)) | (with_reducible refine br_intro (fun hq => ?_) (fun hq => ?_)) | (with_reducible refine if_both (fun hz => ?_) (fun hz => ?_)) | fail)
  all_goals try simp only [eqL] at *
  all_goals try (rename DifL _ _ _ _ _ => hd; have hdl := dif_len hd)
  all_goals first
    | (with_reducible assumption)
    | (refine (id ?_ : False)
       first
        | contradiction
        | exact ⟨0, (by (refine And.intro (And.intro rfl (And.intro rfl (And.intro rfl rfl))) ?_; (repeat' (first | exact trivial | exact rfl | exact fun _ _ _ _ => rfl | refine And.intro ?_ ?_ | omega | fail)); done)), by omega, by omega⟩
        | exact ⟨y0 + 1, (by (refine And.intro (And.intro rfl (And.intro rfl (And.intro rfl rfl))) ?_; (repeat' (first | exact trivial | exact rfl | exact fun _ _ _ _ => rfl | refine And.intro ?_ ?_ | omega | fail)); done)), ⟨by omega, by omega⟩, by omega⟩
        | exact ⟨y1 + 1, (by (refine And.intro (And.intro rfl (And.intro rfl (And.intro rfl rfl))) ?_; (repeat' (first | exact trivial | exact rfl | exact fun _ _ _ _ => rfl | refine And.intro ?_ ?_ | omega | fail)); done)), ⟨by omega, by omega⟩, by omega⟩
        | exact ⟨y2 + 1, (by (refine And.intro (And.intro rfl (And.intro rfl (And.intro rfl rfl))) ?_; (repeat' (first | exact trivial | exact rfl | exact fun _ _ _ _ => rfl | refine And.intro ?_ ?_ | omega | fail)); done)), ⟨by omega, by omega⟩, by omega⟩
        | exact ⟨y3 + 1, (by (refine And.intro (And.intro rfl (And.intro rfl (And.intro rfl rfl))) ?_; (repeat' (first | exact trivial | exact rfl | exact fun _ _ _ _ => rfl | refine And.intro ?_ ?_ | omega | fail)); done)), ⟨by omega, by omega⟩, by omega⟩
        | exact ⟨y4 + 1, (by (refine And.intro (And.intro rfl (And.intro rfl (And.intro rfl rfl))) ?_; (repeat' (first | exact trivial | exact rfl | exact fun _ _ _ _ => rfl | refine And.intro ?_ ?_ | omega | fail)); done)), ⟨by omega, by omega⟩, by omega⟩
        | exact ⟨y5 + 1, (by (refine And.intro (And.intro rfl (And.intro rfl (And.intro rfl rfl))) ?_; (repeat' (first | exact trivial | exact rfl | exact fun _ _ _ _ => rfl | refine And.intro ?_ ?_ | omega | fail)); done)), ⟨by omega, by omega⟩, by omega⟩
        | exact ⟨y6 + 1, (by (refine And.intro (And.intro rfl (And.intro rfl (And.intro rfl rfl))) ?_; (repeat' (first | exact trivial | exact rfl | exact fun _ _ _ _ => rfl | refine And.intro ?_ ?_ | omega | fail)); done)), ⟨by omega, by omega⟩, by omega⟩
        | exact ⟨y7 + 1, (by (refine And.intro (And.intro rfl (And.intro rfl (And.intro rfl rfl))) ?_; (repeat' (first | exact trivial | exact rfl | exact fun _ _ _ _ => rfl | refine And.intro ?_ ?_ | omega | fail)); done)), ⟨by omega, by omega⟩, by omega⟩
        | exact ⟨y8 + 1, (by (refine And.intro (And.intro rfl (And.intro rfl (And.intro rfl rfl))) ?_; (repeat' (first | exact trivial | exact rfl | exact fun _ _ _ _ => rfl | refine And.intro ?_ ?_ | omega | fail)); done)), ⟨by omega, by omega⟩, by omega⟩
        | exact (z0 (by assumption)).2.2.2.2.2.2.2.2.1
        | exact absurd (And.intro (by omega) (by omega)) (by assumption)
        | (exfalso
           have q := mk_ptr hU (by assumption) (y0 : Int) (by omega) (by omega)
           first
             | omega
             | exact absurd (show slF a y0 0 = a + 1 + (y0 : Int) from rfl) (by assumption))
        | (exfalso
           have q := mk_raw hU (by assumption) (y0 : Int) (by omega) (by omega)
           omega)
        | (exfalso
           rename DifL _ _ _ _ _ => hd
           have q := dif_mk hU (by assumption) hd y0 (by omega)
           omega)
        | (exfalso
           have q := mk_ptr hU (by assumption) (y1 : Int) (by omega) (by omega)
           first
             | omega
             | exact absurd (show slF a y1 0 = a + 1 + (y1 : Int) from rfl) (by assumption))
        | (exfalso
           have q := mk_raw hU (by assumption) (y1 : Int) (by omega) (by omega)
           omega)
        | (exfalso
           rename DifL _ _ _ _ _ => hd
           have q := dif_mk hU (by assumption) hd y1 (by omega)
           omega)
        | (exfalso
           have q := mk_ptr hU (by assumption) (y2 : Int) (by omega) (by omega)
           first
             | omega
             | exact absurd (show slF a y2 0 = a + 1 + (y2 : Int) from rfl) (by assumption))
        | (exfalso
           have q := mk_raw hU (by assumption) (y2 : Int) (by omega) (by omega)
           omega)
        | (exfalso
           rename DifL _ _ _ _ _ => hd
           have q := dif_mk hU (by assumption) hd y2 (by omega)
           omega)
        | (exfalso
           have q := mk_ptr hU (by assumption) (y3 : Int) (by omega) (by omega)
           first
             | omega
             | exact absurd (show slF a y3 0 = a + 1 + (y3 : Int) from rfl) (by assumption))
        | (exfalso
           have q := mk_raw hU (by assumption) (y3 : Int) (by omega) (by omega)
           omega)
        | (exfalso
           rename DifL _ _ _ _ _ => hd
           have q := dif_mk hU (by assumption) hd y3 (by omega)
           omega)
        | (exfalso
           have q := mk_ptr hU (by assumption) (y4 : Int) (by omega) (by omega)
           first
             | omega
             | exact absurd (show slF a y4 0 = a + 1 + (y4 : Int) from rfl) (by assumption))
        | (exfalso
           have q := mk_raw hU (by assumption) (y4 : Int) (by omega) (by omega)
           omega)
        | (exfalso
           rename DifL _ _ _ _ _ => hd
           have q := dif_mk hU (by assumption) hd y4 (by omega)
           omega)
        | (exfalso
           have q := mk_ptr hU (by assumption) (y5 : Int) (by omega) (by omega)
           first
             | omega
             | exact absurd (show slF a y5 0 = a + 1 + (y5 : Int) from rfl) (by assumption))
        | (exfalso
           have q := mk_raw hU (by assumption) (y5 : Int) (by omega) (by omega)
           omega)
        | (exfalso
           rename DifL _ _ _ _ _ => hd
           have q := dif_mk hU (by assumption) hd y5 (by omega)
           omega)
        | (exfalso
           have q := mk_ptr hU (by assumption) (y6 : Int) (by omega) (by omega)
           first
             | omega
             | exact absurd (show slF a y6 0 = a + 1 + (y6 : Int) from rfl) (by assumption))
        | (exfalso
           have q := mk_raw hU (by assumption) (y6 : Int) (by omega) (by omega)
           omega)
        | (exfalso
           rename DifL _ _ _ _ _ => hd
           have q := dif_mk hU (by assumption) hd y6 (by omega)
           omega)
        | (exfalso
           have q := mk_ptr hU (by assumption) (y7 : Int) (by omega) (by omega)
           first
             | omega
             | exact absurd (show slF a y7 0 = a + 1 + (y7 : Int) from rfl) (by assumption))
        | (exfalso
           have q := mk_raw hU (by assumption) (y7 : Int) (by omega) (by omega)
           omega)
        | (exfalso
           rename DifL _ _ _ _ _ => hd
           have q := dif_mk hU (by assumption) hd y7 (by omega)
           omega)
        | (exfalso
           have q := mk_ptr hU (by assumption) (y8 : Int) (by omega) (by omega)
           first
             | omega
             | exact absurd (show slF a y8 0 = a + 1 + (y8 : Int) from rfl) (by assumption))
        | (exfalso
           have q := mk_raw hU (by assumption) (y8 : Int) (by omega) (by omega)
           omega)
        | (exfalso
           rename DifL _ _ _ _ _ => hd
           have q := dif_mk hU (by assumption) hd y8 (by omega)
           omega)
        | (rename DifL _ _ _ _ _ => hd
           have q := dif_len hd
           omega)
        | (exfalso; omega)
       )
    | omega
    | contradiction
    | exact ⟨0, (by (refine And.intro (And.intro rfl (And.intro rfl (And.intro rfl rfl))) ?_; (repeat' (first | exact trivial | exact rfl | exact fun _ _ _ _ => rfl | refine And.intro ?_ ?_ | omega | fail)); done)), by omega, by omega⟩
    | exact ⟨y0 + 1, (by (refine And.intro (And.intro rfl (And.intro rfl (And.intro rfl rfl))) ?_; (repeat' (first | exact trivial | exact rfl | exact fun _ _ _ _ => rfl | refine And.intro ?_ ?_ | omega | fail)); done)), ⟨by omega, by omega⟩, by omega⟩
    | exact ⟨y1 + 1, (by (refine And.intro (And.intro rfl (And.intro rfl (And.intro rfl rfl))) ?_; (repeat' (first | exact trivial | exact rfl | exact fun _ _ _ _ => rfl | refine And.intro ?_ ?_ | omega | fail)); done)), ⟨by omega, by omega⟩, by omega⟩
    | exact ⟨y2 + 1, (by (refine And.intro (And.intro rfl (And.intro rfl (And.intro rfl rfl))) ?_; (repeat' (first | exact trivial | exact rfl | exact fun _ _ _ _ => rfl | refine And.intro ?_ ?_ | omega | fail)); done)), ⟨by omega, by omega⟩, by omega⟩
    | exact ⟨y3 + 1, (by (refine And.intro (And.intro rfl (And.intro rfl (And.intro rfl rfl))) ?_; (repeat' (first | exact trivial | exact rfl | exact fun _ _ _ _ => rfl | refine And.intro ?_ ?_ | omega | fail)); done)), ⟨by omega, by omega⟩, by omega⟩
    | exact ⟨y4 + 1, (by (refine And.intro (And.intro rfl (And.intro rfl (And.intro rfl rfl))) ?_; (repeat' (first | exact trivial | exact rfl | exact fun _ _ _ _ => rfl | refine And.intro ?_ ?_ | omega | fail)); done)), ⟨by omega, by omega⟩, by omega⟩
    | exact ⟨y5 + 1, (by (refine And.intro (And.intro rfl (And.intro rfl (And.intro rfl rfl))) ?_; (repeat' (first | exact trivial | exact rfl | exact fun _ _ _ _ => rfl | refine And.intro ?_ ?_ | omega | fail)); done)), ⟨by omega, by omega⟩, by omega⟩
    | exact ⟨y6 + 1, (by (refine And.intro (And.intro rfl (And.intro rfl (And.intro rfl rfl))) ?_; (repeat' (first | exact trivial | exact rfl | exact fun _ _ _ _ => rfl | refine And.intro ?_ ?_ | omega | fail)); done)), ⟨by omega, by omega⟩, by omega⟩
    | exact ⟨y7 + 1, (by (refine And.intro (And.intro rfl (And.intro rfl (And.intro rfl rfl))) ?_; (repeat' (first | exact trivial | exact rfl | exact fun _ _ _ _ => rfl | refine And.intro ?_ ?_ | omega | fail)); done)), ⟨by omega, by omega⟩, by omega⟩
    | exact ⟨y8 + 1, (by (refine And.intro (And.intro rfl (And.intro rfl (And.intro rfl rfl))) ?_; (repeat' (first | exact trivial | exact rfl | exact fun _ _ _ _ => rfl | refine And.intro ?_ ?_ | omega | fail)); done)), ⟨by omega, by omega⟩, by omega⟩
    | exact (z0 (by assumption)).2.2.2.2.2.2.2.2.1
    | exact absurd (And.intro (by omega) (by omega)) (by assumption)
    | (exfalso
       have q := mk_ptr hU (by assumption) (y0 : Int) (by omega) (by omega)
       first
         | omega
         | exact absurd (show slF a y0 0 = a + 1 + (y0 : Int) from rfl) (by assumption))
    | (exfalso
       have q := mk_raw hU (by assumption) (y0 : Int) (by omega) (by omega)
       omega)
    | (exfalso
       rename DifL _ _ _ _ _ => hd
       have q := dif_mk hU (by assumption) hd y0 (by omega)
       omega)
    | (exfalso
       have q := mk_ptr hU (by assumption) (y1 : Int) (by omega) (by omega)
       first
         | omega
         | exact absurd (show slF a y1 0 = a + 1 + (y1 : Int) from rfl) (by assumption))
    | (exfalso
       have q := mk_raw hU (by assumption) (y1 : Int) (by omega) (by omega)
       omega)
    | (exfalso
       rename DifL _ _ _ _ _ => hd
       have q := dif_mk hU (by assumption) hd y1 (by omega)
       omega)
    | (exfalso
       have q := mk_ptr hU (by assumption) (y2 : Int) (by omega) (by omega)
       first
         | omega
         | exact absurd (show slF a y2 0 = a + 1 + (y2 : Int) from rfl) (by assumption))
    | (exfalso
       have q := mk_raw hU (by assumption) (y2 : Int) (by omega) (by omega)
       omega)
    | (exfalso
       rename DifL _ _ _ _ _ => hd
       have q := dif_mk hU (by assumption) hd y2 (by omega)
       omega)
    | (exfalso
       have q := mk_ptr hU (by assumption) (y3 : Int) (by omega) (by omega)
       first
         | omega
         | exact absurd (show slF a y3 0 = a + 1 + (y3 : Int) from rfl) (by assumption))
    | (exfalso
       have q := mk_raw hU (by assumption) (y3 : Int) (by omega) (by omega)
       omega)
    | (exfalso
       rename DifL _ _ _ _ _ => hd
       have q := dif_mk hU (by assumption) hd y3 (by omega)
       omega)
    | (exfalso
       have q := mk_ptr hU (by assumption) (y4 : Int) (by omega) (by omega)
       first
         | omega
         | exact absurd (show slF a y4 0 = a + 1 + (y4 : Int) from rfl) (by assumption))
    | (exfalso
       have q := mk_raw hU (by assumption) (y4 : Int) (by omega) (by omega)
       omega)
    | (exfalso
       rename DifL _ _ _ _ _ => hd
       have q := dif_mk hU (by assumption) hd y4 (by omega)
       omega)
    | (exfalso
       have q := mk_ptr hU (by assumption) (y5 : Int) (by omega) (by omega)
       first
         | omega
         | exact absurd (show slF a y5 0 = a + 1 + (y5 : Int) from rfl) (by assumption))
    | (exfalso
       have q := mk_raw hU (by assumption) (y5 : Int) (by omega) (by omega)
       omega)
    | (exfalso
       rename DifL _ _ _ _ _ => hd
       have q := dif_mk hU (by assumption) hd y5 (by omega)
       omega)
    | (exfalso
       have q := mk_ptr hU (by assumption) (y6 : Int) (by omega) (by omega)
       first
         | omega
         | exact absurd (show slF a y6 0 = a + 1 + (y6 : Int) from rfl) (by assumption))
    | (exfalso
       have q := mk_raw hU (by assumption) (y6 : Int) (by omega) (by omega)
       omega)
    | (exfalso
       rename DifL _ _ _ _ _ => hd
       have q := dif_mk hU (by assumption) hd y6 (by omega)
       omega)
    | (exfalso
       have q := mk_ptr hU (by assumption) (y7 : Int) (by omega) (by omega)
       first
         | omega
         | exact absurd (show slF a y7 0 = a + 1 + (y7 : Int) from rfl) (by assumption))
    | (exfalso
       have q := mk_raw hU (by assumption) (y7 : Int) (by omega) (by omega)
       omega)
    | (exfalso
       rename DifL _ _ _ _ _ => hd
       have q := dif_mk hU (by assumption) hd y7 (by omega)
       omega)
    | (exfalso
       have q := mk_ptr hU (by assumption) (y8 : Int) (by omega) (by omega)
       first
         | omega
         | exact absurd (show slF a y8 0 = a + 1 + (y8 : Int) from rfl) (by assumption))
    | (exfalso
       have q := mk_raw hU (by assumption) (y8 : Int) (by omega) (by omega)
       omega)
    | (exfalso
       rename DifL _ _ _ _ _ => hd
       have q := dif_mk hU (by assumption) hd y8 (by omega)
       omega)
    | (rename DifL _ _ _ _ _ => hd
       have q := dif_len hd
       omega)
    | (exfalso; omega)
end Go.Proofs.Ytfgeoglegebncaa.Fr
namespace Go.Proofs.Ytfgeoglegebncaa.Fr
set_option maxRecDepth 100000
set_option maxHeartbeats 4000000
open Go.Rx
open Go.RowKit (Below)
set_option linter.unusedVariables false

def lwhoGNN_nA (a : Int) (p : Int) (q : Int) : Ann := fun k tt ss => bif Nat.beq k 14 then some [{ α := Nat, T := fun k => ⟨tt.n, (18, .int .i64 (k : Int)) :: keepF [1, 5, 7, 10, 14, 16] tt.m⟩, S := fun _ => ss, I := fun k => k ≤ p.toNat ∧ 0 ≤ k, m := fun k => p.toNat - k, ρ0 := idR 0 ss.next, ρ1 := [idR 0 ss.next] }] else bif Nat.beq k 20 then some [{ α := Nat, T := fun k => ⟨tt.n, (21, .int .i64 (k : Int)) :: keepF [1, 5, 7, 10, 14, 16] tt.m⟩, S := fun _ => ss, I := fun k => k ≤ q.toNat ∧ 0 ≤ k, m := fun k => q.toNat - k, ρ0 := idR 0 ss.next, ρ1 := [idR 0 ss.next] }] else bif Nat.beq k 26 then some [{ α := Nat, T := fun k => ⟨tt.n, (24, .int .i64 (k : Int)) :: keepF [1, 5, 7, 10, 14, 16] tt.m⟩, S := fun _ => ss, I := fun k => k ≤ 0 ∧ 0 ≤ k, m := fun k => 0 - k, ρ0 := idR 0 ss.next, ρ1 := [idR 0 ss.next] }] else none
def lwhoGNN_rA (ew nw cw : Nat) (fw : RF) (a : Int) (p : Int) (q : Int) : Ann := fun k tt ss => bif Nat.beq k 14 then some [{ α := Nat, T := fun k => ⟨tt.n, (18, .int .i64 (k : Int)) :: keepF [1, 5, 7, 10, 14, 16] tt.m⟩, S := fun _ => ss, I := fun k => k ≤ p.toNat ∧ 0 ≤ k, m := fun k => p.toNat - k, ρ0 := idR 1 ss.next, ρ1 := [idR 1 ss.next] }] else bif Nat.beq k 20 then some [{ α := Nat, T := fun k => ⟨tt.n, (21, .int .i64 (k : Int)) :: keepF [1, 5, 7, 10, 14, 16] tt.m⟩, S := fun _ => ss, I := fun k => k ≤ q.toNat ∧ 0 ≤ k, m := fun k => q.toNat - k, ρ0 := idR 1 ss.next, ρ1 := [idR 1 ss.next] }] else bif Nat.beq k 26 then some [{ α := Nat, T := fun k => ⟨tt.n, (24, .int .i64 (k : Int)) :: keepF [1, 5, 7, 10, 14, 16] tt.m⟩, S := fun _ => ss, I := fun k => k ≤ nw ∧ 0 ≤ k, m := fun k => nw - k, ρ0 := idR 1 ss.next, ρ1 := [idR 1 ss.next] }] else none
def lwhoGNN_nV (a : Int) (p : Int) (q : Int) (K : Value → List Blk → Prop) : Prop := (T0 ∧ (TS ∧ (t6 (False))))
theorem lwhoGNN_nE (a : Int) (p : Int) (q : Int) (K : Value → List Blk → Prop) : lwhoGNN_nV a p q K = bodyX (mk X13GNN) (callN (mk X13GNN) 6) (lwhoGNN_nA a p q) Try.f13 [.slice none 0 0, .int .i64 a, .agg ⟨[.int .i64 p, .int .i64 q]⟩] (stOf []) fun v _ => v = .bool true := by kernel_rfl
set_option tactic.hygienic false in
theorem lwhoGNN_nP (a : Int) (p : Int) (q : Int) (K : Value → List Blk → Prop)  (hU : Ok64 0 zF) (h1 : mkE 0 zF a p q = 0) (h2 : ¬ 0 < p) (h3 : eqF 0 zF (mkF zF (Int.toNat a) (Int.toNat (1 + p + q)) (1 + 256 * p + 65536 * q))) : lwhoGNN_nV a p q K := by
  unfold lwhoGNN_nV
  have z0 := (fun h => mk_ok hU h : mkE 0 zF a p q = 0 → _)
  have z1 := (fun h => mk_no hU h : mkE 0 zF a p q = 0 → _)
  have z2 := obN_cases 0 (mkF zF (Int.toNat a) (Int.toNat (1 + p + q)) (1 + 256 * p + 65536 * q)) a
  have z3 := szn_cases p q
  repeat' (first | (with_reducible exact rfl) | (with_reducible exact trivial) | (with_reducible refine And.intro ?_ ?_) | (intro) | (with_reducible refine br_d (fun hq => ?_) (fun hq => ?_)) | (with_reducible refine br_nd (fun hq => ?_) (fun hq => ?_)) | (with_reducible refine br_intro (fun hq => ?_) (fun hq => ?_)) | (with_reducible refine if_both (fun hz => ?_) (fun hz => ?_)) | fail)
  all_goals try simp only [eqL] at *
  all_goals try (rename DifL _ _ _ _ _ => hd; have hdl := dif_len hd)
  all_goals first
    | (with_reducible assumption)
    | (refine (id ?_ : False)
       first
        | contradiction
        | exact ⟨0, (by (refine And.intro (And.intro rfl (And.intro rfl (And.intro rfl rfl))) ?_; (repeat' (first | exact trivial | exact rfl | exact fun _ _ _ _ => rfl | refine And.intro ?_ ?_ | omega | fail)); done)), by omega, by omega⟩
        | exact ⟨y0 + 1, (by (refine And.intro (And.intro rfl (And.intro rfl (And.intro rfl rfl))) ?_; (repeat' (first | exact trivial | exact rfl | exact fun _ _ _ _ => rfl | refine And.intro ?_ ?_ | omega | fail)); done)), ⟨by omega, by omega⟩, by omega⟩
        | exact ⟨y1 + 1, (by (refine And.intro (And.intro rfl (And.intro rfl (And.intro rfl rfl))) ?_; (repeat' (first | exact trivial | exact rfl | exact fun _ _ _ _ => rfl | refine And.intro ?_ ?_ | omega | fail)); done)), ⟨by omega, by omega⟩, by omega⟩
        | exact ⟨y2 + 1, (by (refine And.intro (And.intro rfl (And.intro rfl (And.intro rfl rfl))) ?_; (repeat' (first | exact trivial | exact rfl | exact fun _ _ _ _ => rfl | refine And.intro ?_ ?_ | omega | fail)); done)), ⟨by omega, by omega⟩, by omega⟩
        | exact ⟨y3 + 1, (by (refine And.intro (And.intro rfl (And.intro rfl (And.intro rfl rfl))) ?_; (repeat' (first | exact trivial | exact rfl | exact fun _ _ _ _ => rfl | refine And.intro ?_ ?_ | omega | fail)); done)), ⟨by omega, by omega⟩, by omega⟩
        | exact ⟨y4 + 1, (by (refine And.intro (And.intro rfl (And.intro rfl (And.intro rfl rfl))) ?_; (repeat' (first | exact trivial | exact rfl | exact fun _ _ _ _ => rfl | refine And.intro ?_ ?_ | omega | fail)); done)), ⟨by omega, by omega⟩, by omega⟩
        | exact ⟨y5 + 1, (by (refine And.intro (And.intro rfl (And.intro rfl (And.intro rfl rfl))) ?_; (repeat' (first | exact trivial | exact rfl | exact fun _ _ _ _ => rfl | refine And.intro ?_ ?_ | omega | fail)); done)), ⟨by omega, by omega⟩, by omega⟩
        | exact ⟨y6 + 1, (by (refine And.intro (And.intro rfl (And.intro rfl (And.intro rfl rfl))) ?_; (repeat' (first | exact trivial | exact rfl | exact fun _ _ _ _ => rfl | refine And.intro ?_ ?_ | omega | fail)); done)), ⟨by omega, by omega⟩, by omega⟩
        | exact ⟨y7 + 1, (by (refine And.intro (And.intro rfl (And.intro rfl (And.intro rfl rfl))) ?_; (repeat' (first | exact trivial | exact rfl | exact fun _ _ _ _ => rfl | refine And.intro ?_ ?_ | omega | fail)); done)), ⟨by omega, by omega⟩, by omega⟩
        | exact ⟨y8 + 1, (by (refine And.intro (And.intro rfl (And.intro rfl (And.intro rfl rfl))) ?_; (repeat' (first | exact trivial | exact rfl | exact fun _ _ _ _ => rfl | refine And.intro ?_ ?_ | omega | fail)); done)), ⟨by omega, by omega⟩, by omega⟩
        | exact (z0 (by assumption)).2.2.2.2.2.2.2.2.1
        | exact absurd (And.intro (by omega) (by omega)) (by assumption)
        | exact h3 _ (by assumption)
        | (exfalso
           have q := mk_ptr hU (by assumption) (y0 : Int) (by omega) (by omega)
           first
             | omega
             | exact absurd (show slF a y0 0 = a + 1 + (y0 : Int) from rfl) (by assumption))
        | (exfalso
           have q := mk_raw hU (by assumption) (y0 : Int) (by omega) (by omega)
           omega)
        | (exfalso
           rename DifL _ _ _ _ _ => hd
           have q := dif_mk hU (by assumption) hd y0 (by omega)
           omega)
        | (exfalso
           have q := mk_ptr hU (by assumption) (y1 : Int) (by omega) (by omega)
           first
             | omega
             | exact absurd (show slF a y1 0 = a + 1 + (y1 : Int) from rfl) (by assumption))
        | (exfalso
           have q := mk_raw hU (by assumption) (y1 : Int) (by omega) (by omega)
           omega)
        | (exfalso
           rename DifL _ _ _ _ _ => hd
           have q := dif_mk hU (by assumption) hd y1 (by omega)
           omega)
        | (exfalso
           have q := mk_ptr hU (by assumption) (y2 : Int) (by omega) (by omega)
           first
             | omega
             | exact absurd (show slF a y2 0 = a + 1 + (y2 : Int) from rfl) (by assumption))
        | (exfalso
           have q := mk_raw hU (by assumption) (y2 : Int) (by omega) (by omega)
           omega)
        | (exfalso
           rename DifL _ _ _ _ _ => hd
           have q := dif_mk hU (by assumption) hd y2 (by omega)
           omega)
        | (exfalso
           have q := mk_ptr hU (by assumption) (y3 : Int) (by omega) (by omega)
           first
             | omega
             | exact absurd (show slF a y3 0 = a + 1 + (y3 : Int) from rfl) (by assumption))
        | (exfalso
           have q := mk_raw hU (by assumption) (y3 : Int) (by omega) (by omega)
           omega)
        | (exfalso
           rename DifL _ _ _ _ _ => hd
           have q := dif_mk hU (by assumption) hd y3 (by omega)
           omega)
        | (exfalso
           have q := mk_ptr hU (by assumption) (y4 : Int) (by omega) (by omega)
           first
             | omega
             | exact absurd (show slF a y4 0 = a + 1 + (y4 : Int) from rfl) (by assumption))
        | (exfalso
           have q := mk_raw hU (by assumption) (y4 : Int) (by omega) (by omega)
           omega)
        | (exfalso
           rename DifL _ _ _ _ _ => hd
           have q := dif_mk hU (by assumption) hd y4 (by omega)
           omega)
        | (exfalso
           have q := mk_ptr hU (by assumption) (y5 : Int) (by omega) (by omega)
           first
             | omega
             | exact absurd (show slF a y5 0 = a + 1 + (y5 : Int) from rfl) (by assumption))
        | (exfalso
           have q := mk_raw hU (by assumption) (y5 : Int) (by omega) (by omega)
           omega)
        | (exfalso
           rename DifL _ _ _ _ _ => hd
           have q := dif_mk hU (by assumption) hd y5 (by omega)
           omega)
        | (exfalso
           have q := mk_ptr hU (by assumption) (y6 : Int) (by omega) (by omega)
           first
             | omega
             | exact absurd (show slF a y6 0 = a + 1 + (y6 : Int) from rfl) (by assumption))
        | (exfalso
           have q := mk_raw hU (by assumption) (y6 : Int) (by omega) (by omega)
           omega)
        | (exfalso
           rename DifL _ _ _ _ _ => hd
           have q := dif_mk hU (by assumption) hd y6 (by omega)
           omega)
        | (exfalso
           have q := mk_ptr hU (by assumption) (y7 : Int) (by omega) (by omega)
           first
             | omega
             | exact absurd (show slF a y7 0 = a + 1 + (y7 : Int) from rfl) (by assumption))
        | (exfalso
           have q := mk_raw hU (by assumption) (y7 : Int) (by omega) (by omega)
           omega)
        | (exfalso
           rename DifL _ _ _ _ _ => hd
           have q := dif_mk hU (by assumption) hd y7 (by omega)
           omega)
        | (exfalso
           have q := mk_ptr hU (by assumption) (y8 : Int) (by omega) (by omega)
           first
             | omega
             | exact absurd (show slF a y8 0 = a + 1 + (y8 : Int) from rfl) (by assumption))
        | (exfalso
           have q := mk_raw hU (by assumption) (y8 : Int) (by omega) (by omega)
           omega)
        | (exfalso
           rename DifL _ _ _ _ _ => hd
           have q := dif_mk hU (by assumption) hd y8 (by omega)
           omega)
        | (rename DifL _ _ _ _ _ => hd
           have q := dif_len hd
           omega)
        | (exfalso; omega)
       )
    | omega
    | contradiction
    | exact ⟨0, (by (refine And.intro (And.intro rfl (And.intro rfl (And.intro rfl rfl))) ?_; (repeat' (first | exact trivial | exact rfl | exact fun _ _ _ _ => rfl | refine And.intro ?_ ?_ | omega | fail)); done)), by omega, by omega⟩
    | exact ⟨y0 + 1, (by (refine And.intro (And.intro rfl (And.intro rfl (And.intro rfl rfl))) ?_; (repeat' (first | exact trivial | exact rfl | exact fun _ _ _ _ => rfl | refine And.intro ?_ ?_ | omega | fail)); done)), ⟨by omega, by omega⟩, by omega⟩
    | exact ⟨y1 + 1, (by (refine And.intro (And.intro rfl (And.intro rfl (And.intro rfl rfl))) ?_; (repeat' (first | exact trivial | exact rfl | exact fun _ _ _ _ => rfl | refine And.intro ?_ ?_ | omega | fail)); done)), ⟨by omega, by omega⟩, by omega⟩
    | exact ⟨y2 + 1, (by (refine And.intro (And.intro rfl (And.intro rfl (And.intro rfl rfl))) ?_; (repeat' (first | exact trivial | exact rfl | exact fun _ _ _ _ => rfl | refine And.intro ?_ ?_ | omega | fail)); done)), ⟨by omega, by omega⟩, by omega⟩
    | exact ⟨y3 + 1, (by (refine And.intro (And.intro rfl (And.intro rfl (And.intro rfl rfl))) ?_; (repeat' (first | exact trivial | exact rfl | exact fun _ _ _ _ => rfl | refine And.intro ?_ ?_ | omega | fail)); done)), ⟨by omega, by omega⟩, by omega⟩
    | exact ⟨y4 + 1, (by (refine And.intro (And.intro rfl (And.intro rfl (And.intro rfl rfl))) ?_; (repeat' (first | exact trivial | exact rfl | exact fun _ _ _ _ => rfl | refine And.intro ?_ ?_ | omega | fail)); done)), ⟨by omega, by omega⟩, by omega⟩
    | exact ⟨y5 + 1, (by (refine And.intro (And.intro rfl (And.intro rfl (And.intro rfl rfl))) ?_; (repeat' (first | exact trivial | exact rfl | exact fun _ _ _ _ => rfl | refine And.intro ?_ ?_ | omega | fail)); done)), ⟨by omega, by omega⟩, by omega⟩
    | exact ⟨y6 + 1, (by (refine And.intro (And.intro rfl (And.intro rfl (And.intro rfl rfl))) ?_; (repeat' (first | exact trivial | exact rfl | exact fun _ _ _ _ => rfl | refine And.intro ?_ ?_ | omega | fail)); done)), ⟨by omega, by omega⟩, by omega⟩
    | exact ⟨y7 + 1, (by (refine And.intro (And.intro rfl (And.intro rfl (And.intro rfl rfl))) ?_; (repeat' (first | exact trivial | exact rfl | exact fun _ _ _ _ => rfl | refine And.intro ?_ ?_ | omega | fail)); done)), ⟨by omega, by omega⟩, by omega⟩
    | exact ⟨y8 + 1, (by (refine And.intro (And.intro rfl (And.intro rfl (And.intro rfl rfl))) ?_; (repeat' (first | exact trivial | exact rfl | exact fun _ _ _ _ => rfl | refine And.intro ?_ ?_ | omega | fail)); done)), ⟨by omega, by omega⟩, by omega⟩
    | exact (z0 (by assumption)).2.2.2.2.2.2.2.2.1
    | exact absurd (And.intro (by omega) (by omega)) (by assumption)
    | exact h3 _ (by assumption)
    | (exfalso
       have q := mk_ptr hU (by assumption) (y0 : Int) (by omega) (by omega)
       first
         | omega
         | exact absurd (show slF a y0 0 = a + 1 + (y0 : Int) from rfl) (by assumption))
    | (exfalso
       have q := mk_raw hU (by assumption) (y0 : Int) (by omega) (by omega)
       omega)
    | (exfalso
       rename DifL _ _ _ _ _ => hd
       have q := dif_mk hU (by assumption) hd y0 (by omega)
       omega)
    | (exfalso
       have q := mk_ptr hU (by assumption) (y1 : Int) (by omega) (by omega)
       first
         | omega
         | exact absurd (show slF a y1 0 = a + 1 + (y1 : Int) from rfl) (by assumption))
    | (exfalso
       have q := mk_raw hU (by assumption) (y1 : Int) (by omega) (by omega)
       omega)
    | (exfalso
       rename DifL _ _ _ _ _ => hd
       have q := dif_mk hU (by assumption) hd y1 (by omega)
       omega)
    | (exfalso
       have q := mk_ptr hU (by assumption) (y2 : Int) (by omega) (by omega)
       first
         | omega
         | exact absurd (show slF a y2 0 = a + 1 + (y2 : Int) from rfl) (by assumption))
    | (exfalso
       have q := mk_raw hU (by assumption) (y2 : Int) (by omega) (by omega)
       omega)
    | (exfalso
       rename DifL _ _ _ _ _ => hd
       have q := dif_mk hU (by assumption) hd y2 (by omega)
       omega)
    | (exfalso
       have q := mk_ptr hU (by assumption) (y3 : Int) (by omega) (by omega)
       first
         | omega
         | exact absurd (show slF a y3 0 = a + 1 + (y3 : Int) from rfl) (by assumption))
    | (exfalso
       have q := mk_raw hU (by assumption) (y3 : Int) (by omega) (by omega)
       omega)
    | (exfalso
       rename DifL _ _ _ _ _ => hd
       have q := dif_mk hU (by assumption) hd y3 (by omega)
       omega)
    | (exfalso
       have q := mk_ptr hU (by assumption) (y4 : Int) (by omega) (by omega)
       first
         | omega
         | exact absurd (show slF a y4 0 = a + 1 + (y4 : Int) from rfl) (by assumption))
    | (exfalso
       have q := mk_raw hU (by assumption) (y4 : Int) (by omega) (by omega)
       omega)
    | (exfalso
       rename DifL _ _ _ _ _ => hd
       have q := dif_mk hU (by assumption) hd y4 (by omega)
       omega)
    | (exfalso
       have q := mk_ptr hU (by assumption) (y5 : Int) (by omega) (by omega)
       first
         | omega
         | exact absurd (show slF a y5 0 = a + 1 + (y5 : Int) from rfl) (by assumption))
    | (exfalso
       have q := mk_raw hU (by assumption) (y5 : Int) (by omega) (by omega)
       omega)
    | (exfalso
       rename DifL _ _ _ _ _ => hd
       have q := dif_mk hU (by assumption) hd y5 (by omega)
       omega)
    | (exfalso
       have q := mk_ptr hU (by assumption) (y6 : Int) (by omega) (by omega)
       first
         | omega
         | exact absurd (show slF a y6 0 = a + 1 + (y6 : Int) from rfl) (by assumption))
    | (exfalso
       have q := mk_raw hU (by assumption) (y6 : Int) (by omega) (by omega)
       omega)
    | (exfalso
       rename DifL _ _ _ _ _ => hd
       have q := dif_mk hU (by assumption) hd y6 (by omega)
       omega)
    | (exfalso
       have q := mk_ptr hU (by assumption) (y7 : Int) (by omega) (by omega)
       first
         | omega
         | exact absurd (show slF a y7 0 = a + 1 + (y7 : Int) from rfl) (by assumption))
    | (exfalso
       have q := mk_raw hU (by assumption) (y7 : Int) (by omega) (by omega)
       omega)
    | (exfalso
       rename DifL _ _ _ _ _ => hd
       have q := dif_mk hU (by assumption) hd y7 (by omega)
       omega)
    | (exfalso
       have q := mk_ptr hU (by assumption) (y8 : Int) (by omega) (by omega)
       first
         | omega
         | exact absurd (show slF a y8 0 = a + 1 + (y8 : Int) from rfl) (by assumption))
    | (exfalso
       have q := mk_raw hU (by assumption) (y8 : Int) (by omega) (by omega)
       omega)
    | (exfalso
       rename DifL _ _ _ _ _ => hd
       have q := dif_mk hU (by assumption) hd y8 (by omega)
       omega)
    | (rename DifL _ _ _ _ _ => hd
       have q := dif_len hd
       omega)
    | (exfalso; omega)
def lwhoGNN_rV (ew nw cw : Nat) (fw : RF) (a : Int) (p : Int) (q : Int) (K : Value → List Blk → Prop) : Prop := let q0 := ((0 : Nat) + nw ≤ nw); let q1 := (nw ≤ (100000 : Nat)); let q2 := ((1 : Nat), (1 : Nat)); let q3 := ((2 : Nat), (2 : Nat)); let q4 := ((3 : Nat), (3 : Nat)); let q5 := eB; let q6 := (1, vi a); let q7 := (Int.toNat ((1 : Int) + p + q)); let q8 := (@Eq Nat ((0 : Nat)) ((0 : Nat))); let q9 := ((1 : Nat), vi a); let q10 := TS; let q11 := (16, vn); let q12 := (14, vn); let q13 := (0, Blk.row true [IntKind.u64] ew nw cw fw); let q14 := ((1 : Int) + (256 : Int) * p + (65536 : Int) * q); let q15 := (@Eq (Value) (Value.bool false) (Value.bool true)); let q16 := ((16 : Nat), vn); let q17 := ((14 : Nat), vn); let q18 := (@Eq (List IntKind) ([IntKind.u64]) ([IntKind.u64])); let q19 := (5, Value.pointer (some { block := (1 : Nat), off := (0 : Nat) })); let q20 := (q8 ∧ (q1 ∧ (nw ≤ cw))); let q21 := ((5 : Nat), Value.pointer (some { block := (1 : Nat), off := (0 : Nat) })); let q22 := (1, Blk.cells [vi p, vi q] (60 : Nat)); let q23 := ((@Eq (List Value) ([]) ([])) ∧ (@Eq (Value) (Value.bool true) (Value.bool true))); let q24 := (q18 ∧ ((@Eq Nat (nw) (nw)) ∧ (@Eq Nat (cw) (cw)))); let q25 := (mkF fw (Int.toNat a) q7 q14); let q26 := (Ok64 nw q25); let q27 := (obP nw q25 a); let q28 := (obR nw q25 a); let q29 := (obN nw q25 a); let q30 := (10, vi q29); let q31 := ((10 : Nat), vi q29); let q32 := (3, Blk.cells [vi q27, vi q28] (60 : Nat)); (T0 ∧ (q10 ∧ (T0 ∧ (if ((300 : Int) < (↑nw : Int)) then q23 else (T0 ∧ (q0 ∧ (t3 (q20 ∧ (q24 ∧ (q5 ∧ (((Ok64 nw fw) ∧ (@Eq Int (mkE nw fw a p q) ((0 : Int)))) ∧ (∀ y0 : Nat, let q33 := (7, rsl (2 : Nat) (0 : Nat) nw y0); let q34 := (q1 ∧ (nw ≤ y0)); let q35 := ((7 : Nat), rsl (2 : Nat) (0 : Nat) nw y0); let q36 := (q8 ∧ q34); let q37 := (q18 ∧ ((@Eq Nat (nw) (nw)) ∧ (@Eq Nat (y0) (y0)))); let q38 := (2, Blk.row false [IntKind.u64] (25 : Nat) nw y0 q25); ((nw ≤ y0) → (T0 ∧ (q0 ∧ (T0 ∧ (q36 ∧ (q37 ∧ (q5 ∧ (q26 ∧ (t2 (q0 ∧ (T0 ∧ (q36 ∧ (q37 ∧ (q5 ∧ (q26 ∧ (t3 (q5 ∧ ((True) ∧ (q0 ∧ (T0 ∧ (q36 ∧ (q37 ∧ (q5 ∧ ((q26 ∧ (¬(obE nw q25 a = (0 : Int) ∧ (0 : Int) < obP nw q25 a))) ∧ (q0 ∧ (q0 ∧ (q20 ∧ (q24 ∧ (((@Eq Nat ((1 : Nat)) ((1 : Nat))) ∧ q34) ∧ (q37 ∧ (q5 ∧ (((@Eq Int (arE nw fw) ((0 : Int))) ∧ ((@Eq Int (arE nw q25) ((0 : Int))) ∧ ((@Eq Nat (nw) (nw)) ∧ (∀ y1 : Nat, ((y1 < nw) → (@Eq Int (fw y1 (0 : Nat)) (mkF fw (Int.toNat a) q7 q14 y1 (0 : Nat)))))))) ∧ (T0 ∧ (if (@Eq Int (obE nw q25 a) ((0 : Int))) then (T0 ∧ (if (@Eq Int (obE nw q25 a) ((0 : Int))) then (T0 ∧ (if (@Eq Int (sze p q) ((0 : Int))) then (T0 ∧ (if (@Eq Int (obE nw q25 a) ((0 : Int))) then (t3 (if (eqL [obP nw q25 a, obR nw q25 a] [p, q]) then (T0 ∧ (if (@Eq Int q29 (szn p q)) then (q10 ∧ (t2 (if (@Eq Int ((0 : Int)) (p)) then ((∃ y1 : Nat, ((Go.Rx.Sub 1 [q2, q3, q4] ⟨214, [(18, vi (0 : Int)), q11, q12, q30, q33, q19, q6]⟩ ⟨[q32, q38, q22, q13], 4⟩ ({ n := (214 : Nat), m := [((18 : Nat), vi (↑y1 : Int)), q16, q17, q31, q35, q21, q9] }) ({ h := [((3 : Nat), Blk.cells [vi q27, vi q28] (60 : Nat)), ((2 : Nat), Blk.row false [IntKind.u64] (25 : Nat) nw y0 q25), ((1 : Nat), Blk.cells [vi p, vi q] (60 : Nat)), ((0 : Nat), Blk.row true [IntKind.u64] ew nw cw fw)], next := (4 : Nat) })) ∧ ((y1 ≤ Int.toNat p) ∧ ((0 : Nat) ≤ y1)))) ∧ (∀ y1 : Nat, (((y1 ≤ Int.toNat p) ∧ ((0 : Nat) ≤ y1)) → (q10 ∧ (T0 ∧ ((∃ y2 : Nat, ((Go.Rx.Sub 1 [q2, q3, q4] ⟨214, [(21, vi (0 : Int)), q11, q12, q30, q33, q19, q6]⟩ ⟨[q32, q38, q22, q13], 4⟩ ({ n := (214 : Nat), m := [((21 : Nat), vi (↑y2 : Int)), q16, q17, q31, q35, q21, q9] }) ({ h := [((3 : Nat), Blk.cells [vi q27, vi q28] (60 : Nat)), ((2 : Nat), Blk.row false [IntKind.u64] (25 : Nat) nw y0 q25), ((1 : Nat), Blk.cells [vi p, vi q] (60 : Nat)), ((0 : Nat), Blk.row true [IntKind.u64] ew nw cw fw)], next := (4 : Nat) })) ∧ ((y2 ≤ Int.toNat q) ∧ ((0 : Nat) ≤ y2)))) ∧ (∀ y2 : Nat, (((y2 ≤ Int.toNat q) ∧ ((0 : Nat) ≤ y2)) → (t2 (if ((↑y2 : Int) < q) then (q0 ∧ (t2 (q36 ∧ (q37 ∧ (q5 ∧ (q26 ∧ (T0 ∧ (if (@Eq Int (rwE nw q25 a (↑y2 : Int)) ((0 : Int))) then (T0 ∧ (if (@Eq Int (rwV nw q25 a (↑y2 : Int)) ((0 : Int))) then (T0 ∧ ((((-9223372036854775808 : Int) ≤ (↑y2 : Int) + (1 : Int)) ∧ ((↑y2 : Int) + (1 : Int) ≤ (9223372036854775807 : Int))) ∧ (∃ y3 : Nat, ((Go.Rx.Sub 1 [q2, q3, q4] ⟨214, [(21, vi ((↑y2 : Int) + (1 : Int))), q11, q12, q30, q33, q19, q6]⟩ ⟨[q32, q38, q22, q13], 4⟩ ({ n := (214 : Nat), m := [((21 : Nat), vi (↑y3 : Int)), q16, q17, q31, q35, q21, q9] }) ({ h := [((3 : Nat), Blk.cells [vi q27, vi q28] (60 : Nat)), ((2 : Nat), Blk.row false [IntKind.u64] (25 : Nat) nw y0 q25), ((1 : Nat), Blk.cells [vi p, vi q] (60 : Nat)), ((0 : Nat), Blk.row true [IntKind.u64] ew nw cw fw)], next := (4 : Nat) })) ∧ (((y3 ≤ Int.toNat q) ∧ ((0 : Nat) ≤ y3)) ∧ (Int.toNat q - y3 < Int.toNat q - y2)))))) else q15)) else q15)))))))) else ((∃ y3 : Nat, ((Go.Rx.Sub 1 [q2, q3, q4] ⟨214, [(24, vi (0 : Int)), q11, q12, q30, q33, q19, q6]⟩ ⟨[q32, q38, q22, q13], 4⟩ ({ n := (214 : Nat), m := [((24 : Nat), vi (↑y3 : Int)), q16, q17, q31, q35, q21, q9] }) ({ h := [((3 : Nat), Blk.cells [vi q27, vi q28] (60 : Nat)), ((2 : Nat), Blk.row false [IntKind.u64] (25 : Nat) nw y0 q25), ((1 : Nat), Blk.cells [vi p, vi q] (60 : Nat)), ((0 : Nat), Blk.row true [IntKind.u64] ew nw cw fw)], next := (4 : Nat) })) ∧ ((y3 ≤ nw) ∧ ((0 : Nat) ≤ y3)))) ∧ (∀ y3 : Nat, (((y3 ≤ nw) ∧ ((0 : Nat) ≤ y3)) → (q10 ∧ (t2 (q0 ∧ (t2 (q36 ∧ (q37 ∧ (q5 ∧ (q26 ∧ (T0 ∧ (q0 ∧ (t2 (q36 ∧ (q37 ∧ (q5 ∧ (q26 ∧ (q0 ∧ (t2 (q36 ∧ (q37 ∧ (q5 ∧ (q26 ∧ (T0 ∧ (if (@Eq Int (ptE nw q25 a p) ((10 : Int))) then (T0 ∧ (if (@Eq Int (rwE nw q25 a q) ((10 : Int))) then (T0 ∧ (if (@Eq Int (rwE nw q25 a (-1 : Int)) ((10 : Int))) then q23 else q15)) else q15)) else q15)))))))))))))))))))))))))))))))))))) else q15))) else q15)) else q15)) else q15)) else q15)) else q15)) else q15))))))))))))))))))))))))))))))))))))))))))))))
theorem lwhoGNN_rE (ew nw cw : Nat) (fw : RF) (a : Int) (p : Int) (q : Int) (K : Value → List Blk → Prop) : lwhoGNN_rV ew nw cw fw a p q K = bodyX (mk X13GNN) (callN (mk X13GNN) 6) (lwhoGNN_rA ew nw cw fw a p q) Try.f13 [rsl 0 0 nw cw, .int .i64 a, .agg ⟨[.int .i64 p, .int .i64 q]⟩] (stOf [.row true [.u64] ew nw cw fw]) fun v _ => v = .bool true := by kernel_rfl
set_option tactic.hygienic false in
theorem lwhoGNN_rP (ew nw cw : Nat) (fw : RF) (a : Int) (p : Int) (q : Int) (K : Value → List Blk → Prop)  (hcw : nw ≤ cw) (hU : Ok64 nw fw) (h1 : mkE nw fw a p q = 0) (h2 : ¬ 0 < p) (h3 : eqF nw fw (mkF fw (Int.toNat a) (Int.toNat (1 + p + q)) (1 + 256 * p + 65536 * q))) : lwhoGNN_rV ew nw cw fw a p q K := by
  unfold lwhoGNN_rV
  conv => zeta
  have z0 := (fun h => mk_ok hU h : mkE nw fw a p q = 0 → _)
  have z1 := (fun h => mk_no hU h : mkE nw fw a p q = 0 → _)
  have z2 := obN_cases nw (mkF fw (Int.toNat a) (Int.toNat (1 + p + q)) (1 + 256 * p + 65536 * q)) a
  have z3 := szn_cases p q
  repeat' (first | (with_reducible exact rfl) | (with_reducible exact trivial) | (with_reducible refine And.intro ?_ ?_) | (intro) | (with_reducible refine br_d (fun hq => ?_) (fun hq => ?_)) | (with_reducible refine br_nd (fun hq => ?_) (fun hq => ?_)) | (with_reducible refine br_intro (fun hq => ?_) (fun hq => ?_)) | (with_reducible refine if_both (fun hz => ?_) (fun hz => ?_)) | fail)
  all_goals try simp only [eqL] at *
  all_goals try (rename DifL _ _ _ _ _ => hd; have hdl := dif_len hd)
  all_goals first
    | (with_reducible assumption)
    | (refine (id ?_ : False)
       first
        | contradiction
        | exact ⟨0, (by (refine And.intro (And.intro rfl (And.intro rfl (And.intro rfl rfl))) ?_; (repeat' (first | exact trivial | exact rfl | exact fun _ _ _ _ => rfl | refine And.intro ?_ ?_ | omega | fail)); done)), by omega, by omega⟩
        | exact ⟨y0 + 1, (by (refine And.intro (And.intro rfl (And.intro rfl (And.intro rfl rfl))) ?_; (repeat' (first | exact trivial | exact rfl | exact fun _ _ _ _ => rfl | refine And.intro ?_ ?_ | omega | fail)); done)), ⟨by omega, by omega⟩, by omega⟩
        | exact ⟨y1 + 1, (by (refine And.intro (And.intro rfl (And.intro rfl (And.intro rfl rfl))) ?_; (repeat' (first | exact trivial | exact rfl | exact fun _ _ _ _ => rfl | refine And.intro ?_ ?_ | omega | fail)); done)), ⟨by omega, by omega⟩, by omega⟩
        | exact ⟨y2 + 1, (by (refine And.intro (And.intro rfl (And.intro rfl (And.intro rfl rfl))) ?_; (repeat' (first | exact trivial | exact rfl | exact fun _ _ _ _ => rfl | refine And.intro ?_ ?_ | omega | fail)); done)), ⟨by omega, by omega⟩, by omega⟩
        | exact ⟨y3 + 1, (by (refine And.intro (And.intro rfl (And.intro rfl (And.intro rfl rfl))) ?_; (repeat' (first | exact trivial | exact rfl | exact fun _ _ _ _ => rfl | refine And.intro ?_ ?_ | omega | fail)); done)), ⟨by omega, by omega⟩, by omega⟩
        | exact ⟨y4 + 1, (by (refine And.intro (And.intro rfl (And.intro rfl (And.intro rfl rfl))) ?_; (repeat' (first | exact trivial | exact rfl | exact fun _ _ _ _ => rfl | refine And.intro ?_ ?_ | omega | fail)); done)), ⟨by omega, by omega⟩, by omega⟩
        | exact ⟨y5 + 1, (by (refine And.intro (And.intro rfl (And.intro rfl (And.intro rfl rfl))) ?_; (repeat' (first | exact trivial | exact rfl | exact fun _ _ _ _ => rfl | refine And.intro ?_ ?_ | omega | fail)); done)), ⟨by omega, by omega⟩, by omega⟩
        | exact ⟨y6 + 1, (by (refine And.intro (And.intro rfl (And.intro rfl (And.intro rfl rfl))) ?_; (repeat' (first | exact trivial | exact rfl | exact fun _ _ _ _ => rfl | refine And.intro ?_ ?_ | omega | fail)); done)), ⟨by omega, by omega⟩, by omega⟩
        | exact ⟨y7 + 1, (by (refine And.intro (And.intro rfl (And.intro rfl (And.intro rfl rfl))) ?_; (repeat' (first | exact trivial | exact rfl | exact fun _ _ _ _ => rfl | refine And.intro ?_ ?_ | omega | fail)); done)), ⟨by omega, by omega⟩, by omega⟩
        | exact ⟨y8 + 1, (by (refine And.intro (And.intro rfl (And.intro rfl (And.intro rfl rfl))) ?_; (repeat' (first | exact trivial | exact rfl | exact fun _ _ _ _ => rfl | refine And.intro ?_ ?_ | omega | fail)); done)), ⟨by omega, by omega⟩, by omega⟩
        | exact (z0 (by assumption)).2.2.2.2.2.2.2.2.1
        | exact absurd (And.intro (by omega) (by omega)) (by assumption)
        | exact h3 _ (by assumption)
        | (exfalso
           have q := mk_ptr hU (by assumption) (y0 : Int) (by omega) (by omega)
           first
             | omega
             | exact absurd (show slF a y0 0 = a + 1 + (y0 : Int) from rfl) (by assumption))
        | (exfalso
           have q := mk_raw hU (by assumption) (y0 : Int) (by omega) (by omega)
           omega)
        | (exfalso
           rename DifL _ _ _ _ _ => hd
           have q := dif_mk hU (by assumption) hd y0 (by omega)
           omega)
        | (exfalso
           have q := mk_ptr hU (by assumption) (y1 : Int) (by omega) (by omega)
           first
             | omega
             | exact absurd (show slF a y1 0 = a + 1 + (y1 : Int) from rfl) (by assumption))
        | (exfalso
           have q := mk_raw hU (by assumption) (y1 : Int) (by omega) (by omega)
           omega)
        | (exfalso
           rename DifL _ _ _ _ _ => hd
           have q := dif_mk hU (by assumption) hd y1 (by omega)
           omega)
        | (exfalso
           have q := mk_ptr hU (by assumption) (y2 : Int) (by omega) (by omega)
           first
             | omega
             | exact absurd (show slF a y2 0 = a + 1 + (y2 : Int) from rfl) (by assumption))
        | (exfalso
           have q := mk_raw hU (by assumption) (y2 : Int) (by omega) (by omega)
           omega)
        | (exfalso
           rename DifL _ _ _ _ _ => hd
           have q := dif_mk hU (by assumption) hd y2 (by omega)
           omega)
        | (exfalso
           have q := mk_ptr hU (by assumption) (y3 : Int) (by omega) (by omega)
           first
             | omega
             | exact absurd (show slF a y3 0 = a + 1 + (y3 : Int) from rfl) (by assumption))
        | (exfalso
           have q := mk_raw hU (by assumption) (y3 : Int) (by omega) (by omega)
           omega)
        | (exfalso
           rename DifL _ _ _ _ _ => hd
           have q := dif_mk hU (by assumption) hd y3 (by omega)
           omega)
        | (exfalso
           have q := mk_ptr hU (by assumption) (y4 : Int) (by omega) (by omega)
           first
             | omega
             | exact absurd (show slF a y4 0 = a + 1 + (y4 : Int) from rfl) (by assumption))
        | (exfalso
           have q := mk_raw hU (by assumption) (y4 : Int) (by omega) (by omega)
           omega)
        | (exfalso
           rename DifL _ _ _ _ _ => hd
           have q := dif_mk hU (by assumption) hd y4 (by omega)
           omega)
        | (exfalso
           have q := mk_ptr hU (by assumption) (y5 : Int) (by omega) (by omega)
           first
             | omega
             | exact absurd (show slF a y5 0 = a + 1 + (y5 : Int) from rfl) (by assumption))
        | (exfalso
           have q := mk_raw hU (by assumption) (y5 : Int) (by omega) (by omega)
           omega)
        | (exfalso
           rename DifL _ _ _ _ _ => hd
           have q := dif_mk hU (by assumption) hd y5 (by omega)
           omega)
        | (exfalso
           have q := mk_ptr hU (by assumption) (y6 : Int) (by omega) (by omega)
           first
             | omega
             | exact absurd (show slF a y6 0 = a + 1 + (y6 : Int) from rfl) (by assumption))
        | (exfalso
           have q := mk_raw hU (by assumption) (y6 : Int) (by omega) (by omega)
           omega)
        | (exfalso
           rename DifL _ _ _ _ _ => hd
           have q := dif_mk hU (by assumption) hd y6 (by omega)
           omega)
        | (exfalso
           have q := mk_ptr hU (by assumption) (y7 : Int) (by omega) (by omega)
           first
             | omega
             | exact absurd (show slF a y7 0 = a + 1 + (y7 : Int) from rfl) (by assumption))
        | (exfalso
           have q := mk_raw hU (by assumption) (y7 : Int) (by omega) (by omega)
           omega)
        | (exfalso
           rename DifL _ _ _ _ _ => hd
           have q := dif_mk hU (by assumption) hd y7 (by omega)
           omega)
        | (exfalso
           have q := mk_ptr hU (by assumption) (y8 : Int) (by omega) (by omega)
           first
             | omega
             | exact absurd (show slF a y8 0 = a + 1 + (y8 : Int) from rfl) (by assumption))
        | (exfalso
           have q := mk_raw hU (by assumption) (y8 : Int) (by omega) (by omega)
           omega)
        | (exfalso
           rename DifL _ _ _ _ _ => hd
           have q := dif_mk hU (by assumption) hd y8 (by omega)
           omega)
        | (rename DifL _ _ _ _ _ => hd
           have q := dif_len hd
           omega)
        | (exfalso; omega)
       )
    | omega
    | contradiction
    | exact ⟨0, (by (refine And.intro (And.intro rfl (And.intro rfl (And.intro rfl rfl))) ?_; (repeat' (first | exact trivial | exact rfl | exact fun _ _ _ _ => rfl | refine And.intro ?_ ?_ | omega | fail)); done)), by omega, by omega⟩
    | exact ⟨y0 + 1, (by (refine And.intro (And.intro rfl (And.intro rfl (And.intro rfl rfl))) ?_; (repeat' (first | exact trivial | exact rfl | exact fun _ _ _ _ => rfl | refine And.intro ?_ ?_ | omega | fail)); done)), ⟨by omega, by omega⟩, by omega⟩
    | exact ⟨y1 + 1, (by (refine And.intro (And.intro rfl (And.intro rfl (And.intro rfl rfl))) ?_; (repeat' (first | exact trivial | exact rfl | exact fun _ _ _ _ => rfl | refine And.intro ?_ ?_ | omega | fail)); done)), ⟨by omega, by omega⟩, by omega⟩
    | exact ⟨y2 + 1, (by (refine And.intro (And.intro rfl (And.intro rfl (And.intro rfl rfl))) ?_; (repeat' (first | exact trivial | exact rfl | exact fun _ _ _ _ => rfl | refine And.intro ?_ ?_ | omega | fail)); done)), ⟨by omega, by omega⟩, by omega⟩
    | exact ⟨y3 + 1, (by (refine And.intro (And.intro rfl (And.intro rfl (And.intro rfl rfl))) ?_; (repeat' (first | exact trivial | exact rfl | exact fun _ _ _ _ => rfl | refine And.intro ?_ ?_ | omega | fail)); done)), ⟨by omega, by omega⟩, by omega⟩
    | exact ⟨y4 + 1, (by (refine And.intro (And.intro rfl (And.intro rfl (And.intro rfl rfl))) ?_; (repeat' (first | exact trivial | exact rfl | exact fun _ _ _ _ => rfl | refine And.intro ?_ ?_ | omega | fail)); done)), ⟨by omega, by omega⟩, by omega⟩
    | exact ⟨y5 + 1, (by (refine And.intro (And.intro rfl (And.intro rfl (And.intro rfl rfl))) ?_; (repeat' (first | exact trivial | exact rfl | exact fun _ _ _ _ => rfl | refine And.intro ?_ ?_ | omega | fail)); done)), ⟨by omega, by omega⟩, by omega⟩
    | exact ⟨y6 + 1, (by (refine And.intro (And.intro rfl (And.intro rfl (And.intro rfl rfl))) ?_; (repeat' (first | exact trivial | exact rfl | exact fun _ _ _ _ => rfl | refine And.intro ?_ ?_ | omega | fail)); done)), ⟨by omega, by omega⟩, by omega⟩
    | exact ⟨y7 + 1, (by (refine And.intro (And.intro rfl (And.intro rfl (And.intro rfl rfl))) ?_; (repeat' (first | exact trivial | exact rfl | exact fun _ _ _ _ => rfl | refine And.intro ?_ ?_ | omega | fail)); done)), ⟨by omega, by omega⟩, by omega⟩
    | exact ⟨y8 + 1, (by (refine And.intro (And.intro rfl (And.intro rfl (And.intro rfl rfl))) ?_; (repeat' (first | exact trivial | exact rfl | exact fun _ _ _ _ => rfl | refine And.intro ?_ ?_ | omega | fail)); done)), ⟨by omega, by omega⟩, by omega⟩
    | exact (z0 (by assumption)).2.2.2.2.2.2.2.2.1
    | exact absurd (And.intro (by omega) (by omega)) (by assumption)
    | exact h3 _ (by assumption)
    | (exfalso
       have q := mk_ptr hU (by assumption) (y0 : Int) (by omega) (by omega)
       first
         | omega
         | exact absurd (show slF a y0 0 = a + 1 + (y0 : Int) from rfl) (by assumption))
    | (exfalso
       have q := mk_raw hU (by assumption) (y0 : Int) (by omega) (by omega)
       omega)
    | (exfalso
       rename DifL _ _ _ _ _ => hd
       have q := dif_mk hU (by assumption) hd y0 (by omega)
       omega)
    | (exfalso
       have q := mk_ptr hU (by assumption) (y1 : Int) (by omega) (by omega)
       first
         | omega
         | exact absurd (show slF a y1 0 = a + 1 + (y1 : Int) from rfl) (by assumption))
    | (exfalso
       have q := mk_raw hU (by assumption) (y1 : Int) (by omega) (by omega)
       omega)
    | (exfalso
       rename DifL _ _ _ _ _ => hd
       have q := dif_mk hU (by assumption) hd y1 (by omega)
       omega)
    | (exfalso
       have q := mk_ptr hU (by assumption) (y2 : Int) (by omega) (by omega)
       first
         | omega
         | exact absurd (show slF a y2 0 = a + 1 + (y2 : Int) from rfl) (by assumption))
    | (exfalso
       have q := mk_raw hU (by assumption) (y2 : Int) (by omega) (by omega)
       omega)
    | (exfalso
       rename DifL _ _ _ _ _ => hd
       have q := dif_mk hU (by assumption) hd y2 (by omega)
       omega)
    | (exfalso
       have q := mk_ptr hU (by assumption) (y3 : Int) (by omega) (by omega)
       first
         | omega
         | exact absurd (show slF a y3 0 = a + 1 + (y3 : Int) from rfl) (by assumption))
    | (exfalso
       have q := mk_raw hU (by assumption) (y3 : Int) (by omega) (by omega)
       omega)
    | (exfalso
       rename DifL _ _ _ _ _ => hd
       have q := dif_mk hU (by assumption) hd y3 (by omega)
       omega)
    | (exfalso
       have q := mk_ptr hU (by assumption) (y4 : Int) (by omega) (by omega)
       first
         | omega
         | exact absurd (show slF a y4 0 = a + 1 + (y4 : Int) from rfl) (by assumption))
    | (exfalso
       have q := mk_raw hU (by assumption) (y4 : Int) (by omega) (by omega)
       omega)
    | (exfalso
       rename DifL _ _ _ _ _ => hd
       have q := dif_mk hU (by assumption) hd y4 (by omega)
       omega)
    | (exfalso
       have q := mk_ptr hU (by assumption) (y5 : Int) (by omega) (by omega)
       first
         | omega
         | exact absurd (show slF a y5 0 = a + 1 + (y5 : Int) from rfl) (by assumption))
    | (exfalso
       have q := mk_raw hU (by assumption) (y5 : Int) (by omega) (by omega)
       omega)
    | (exfalso
       rename DifL _ _ _ _ _ => hd
       have q := dif_mk hU (by assumption) hd y5 (by omega)
       omega)
    | (exfalso
       have q := mk_ptr hU (by assumption) (y6 : Int) (by omega) (by omega)
       first
         | omega
         | exact absurd (show slF a y6 0 = a + 1 + (y6 : Int) from rfl) (by assumption))
    | (exfalso
       have q := mk_raw hU (by assumption) (y6 : Int) (by omega) (by omega)
       omega)
    | (exfalso
       rename DifL _ _ _ _ _ => hd
       have q := dif_mk hU (by assumption) hd y6 (by omega)
       omega)
    | (exfalso
       have q := mk_ptr hU (by assumption) (y7 : Int) (by omega) (by omega)
       first
         | omega
         | exact absurd (show slF a y7 0 = a + 1 + (y7 : Int) from rfl) (by assumption))
    | (exfalso
       have q := mk_raw hU (by assumption) (y7 : Int) (by omega) (by omega)
       omega)
    | (exfalso
       rename DifL _ _ _ _ _ => hd
       have q := dif_mk hU (by assumption) hd y7 (by omega)
       omega)
    | (exfalso
       have q := mk_ptr hU (by assumption) (y8 : Int) (by omega) (by omega)
       first
         | omega
         | exact absurd (show slF a y8 0 = a + 1 + (y8 : Int) from rfl) (by assumption))
    | (exfalso
       have q := mk_raw hU (by assumption) (y8 : Int) (by omega) (by omega)
       omega)
    | (exfalso
       rename DifL _ _ _ _ _ => hd
       have q := dif_mk hU (by assumption) hd y8 (by omega)
       omega)
    | (rename DifL _ _ _ _ _ => hd
       have q := dif_len hd
       omega)
    | (exfalso; omega)
end Go.Proofs.Ytfgeoglegebncaa.Fr
namespace Go.Proofs.Ytfgeoglegebncaa.Fr
set_option maxRecDepth 100000
set_option maxHeartbeats 4000000
open Go.Rx
open Go.RowKit (Below)
set_option linter.unusedVariables false

def lwhoGNR_nA (a : Int) (p : Int) (q : Int) : Ann := fun k tt ss => bif Nat.beq k 14 then some [{ α := Nat, T := fun k => ⟨tt.n, (18, .int .i64 (k : Int)) :: keepF [1, 5, 7, 10, 14, 16] tt.m⟩, S := fun _ => ss, I := fun k => k ≤ p.toNat ∧ 0 ≤ k, m := fun k => p.toNat - k, ρ0 := idR 0 ss.next, ρ1 := [idR 0 ss.next] }] else bif Nat.beq k 20 then some [{ α := Nat, T := fun k => ⟨tt.n, (21, .int .i64 (k : Int)) :: keepF [1, 5, 7, 10, 14, 16] tt.m⟩, S := fun _ => ss, I := fun k => k ≤ q.toNat ∧ 0 ≤ k, m := fun k => q.toNat - k, ρ0 := idR 0 ss.next, ρ1 := [idR 0 ss.next] }] else bif Nat.beq k 26 then some [{ α := Nat, T := fun k => ⟨tt.n, (24, .int .i64 (k : Int)) :: keepF [1, 5, 7, 10, 14, 16] tt.m⟩, S := fun _ => ss, I := fun k => k ≤ 0 ∧ 0 ≤ k, m := fun k => 0 - k, ρ0 := idR 0 ss.next, ρ1 := [idR 0 ss.next] }] else none
def lwhoGNR_rA (ew nw cw : Nat) (fw : RF) (a : Int) (p : Int) (q : Int) : Ann := fun k tt ss => bif Nat.beq k 14 then some [{ α := Nat, T := fun k => ⟨tt.n, (18, .int .i64 (k : Int)) :: keepF [1, 5, 7, 10, 14, 16] tt.m⟩, S := fun _ => ss, I := fun k => k ≤ p.toNat ∧ 0 ≤ k, m := fun k => p.toNat - k, ρ0 := idR 1 ss.next, ρ1 := [idR 1 ss.next] }] else bif Nat.beq k 20 then some [{ α := Nat, T := fun k => ⟨tt.n, (21, .int .i64 (k : Int)) :: keepF [1, 5, 7, 10, 14, 16] tt.m⟩, S := fun _ => ss, I := fun k => k ≤ q.toNat ∧ 0 ≤ k, m := fun k => q.toNat - k, ρ0 := idR 1 ss.next, ρ1 := [idR 1 ss.next] }] else bif Nat.beq k 26 then some [{ α := Nat, T := fun k => ⟨tt.n, (24, .int .i64 (k : Int)) :: keepF [1, 5, 7, 10, 14, 16] tt.m⟩, S := fun _ => ss, I := fun k => k ≤ nw ∧ 0 ≤ k, m := fun k => nw - k, ρ0 := idR 1 ss.next, ρ1 := [idR 1 ss.next] }] else none
def lwhoGNR_nV (a : Int) (p : Int) (q : Int) (K : Value → List Blk → Prop) : Prop := (T0 ∧ (TS ∧ (t6 (False))))
theorem lwhoGNR_nE (a : Int) (p : Int) (q : Int) (K : Value → List Blk → Prop) : lwhoGNR_nV a p q K = bodyX (mk X13GNR) (callN (mk X13GNR) 6) (lwhoGNR_nA a p q) Try.f13 [.slice none 0 0, .int .i64 a, .agg ⟨[.int .i64 p, .int .i64 q]⟩] (stOf []) fun v _ => v = .bool true := by kernel_rfl
set_option tactic.hygienic false in
theorem lwhoGNR_nP (a : Int) (p : Int) (q : Int) (K : Value → List Blk → Prop)  (hU : Ok64 0 zF) (h1 : mkE 0 zF a p q = 0) (h2 : ¬ 0 < p) (h3 : ¬ eqF 0 zF (mkF zF (Int.toNat a) (Int.toNat (1 + p + q)) (1 + 256 * p + 65536 * q))) : lwhoGNR_nV a p q K := by
  unfold lwhoGNR_nV
  have z0 := (fun h => mk_ok hU h : mkE 0 zF a p q = 0 → _)
  have z1 := (fun h => mk_no hU h : mkE 0 zF a p q = 0 → _)
  have z2 := obN_cases 0 (mkF zF (Int.toNat a) (Int.toNat (1 + p + q)) (1 + 256 * p + 65536 * q)) a
  have z3 := szn_cases p q
  repeat' (first | (with_reducible exact rfl) | (with_reducible exact trivial) | (with_reducible refine And.intro ?_ ?_) | (intro) | (with_reducible refine br_d (fun hq => ?_) (fun hq => ?_)) | (with_reducible refine br_nd (fun hq => ?_) (fun hq => ?_)) | (with_reducible refine br_intro (fun hq => ?_) (fun hq => ?_)) | (with_reducible refine if_both (fun hz => ?_) (fun hz => ?_)) | fail)
  all_goals try simp only [eqL] at *
  all_goals try (rename DifL _ _ _ _ _ => hd; have hdl := dif_len hd)
  all_goals first
    | (with_reducible assumption)
    | (refine (id ?_ : False)
       first
        | contradiction
        | exact ⟨0, (by (refine And.intro (And.intro rfl (And.intro rfl (And.intro rfl rfl))) ?_; (repeat' (first | exact trivial | exact rfl | exact fun _ _ _ _ => rfl | refine And.intro ?_ ?_ | omega | fail)); done)), by omega, by omega⟩
        | exact ⟨y0 + 1, (by (refine And.intro (And.intro rfl (And.intro rfl (And.intro rfl rfl))) ?_; (repeat' (first | exact trivial | exact rfl | exact fun _ _ _ _ => rfl | refine And.intro ?_ ?_ | omega | fail)); done)), ⟨by omega, by omega⟩, by omega⟩
        | exact ⟨y1 + 1, (by (refine And.intro (And.intro rfl (And.intro rfl (And.intro rfl rfl))) ?_; (repeat' (first | exact trivial | exact rfl | exact fun _ _ _ _ => rfl | refine And.intro ?_ ?_ | omega | fail)); done)), ⟨by omega, by omega⟩, by omega⟩
        | exact ⟨y2 + 1, (by (refine And.intro (And.intro rfl (And.intro rfl (And.intro rfl rfl))) ?_; (repeat' (first | exact trivial | exact rfl | exact fun _ _ _ _ => rfl | refine And.intro ?_ ?_ | omega | fail)); done)), ⟨by omega, by omega⟩, by omega⟩
        | exact ⟨y3 + 1, (by (refine And.intro (And.intro rfl (And.intro rfl (And.intro rfl rfl))) ?_; (repeat' (first | exact trivial | exact rfl | exact fun _ _ _ _ => rfl | refine And.intro ?_ ?_ | omega | fail)); done)), ⟨by omega, by omega⟩, by omega⟩
        | exact ⟨y4 + 1, (by (refine And.intro (And.intro rfl (And.intro rfl (And.intro rfl rfl))) ?_; (repeat' (first | exact trivial | exact rfl | exact fun _ _ _ _ => rfl | refine And.intro ?_ ?_ | omega | fail)); done)), ⟨by omega, by omega⟩, by omega⟩
        | exact ⟨y5 + 1, (by (refine And.intro (And.intro rfl (And.intro rfl (And.intro rfl rfl))) ?_; (repeat' (first | exact trivial | exact rfl | exact fun _ _ _ _ => rfl | refine And.intro ?_ ?_ | omega | fail)); done)), ⟨by omega, by omega⟩, by omega⟩
        | exact ⟨y6 + 1, (by (refine And.intro (And.intro rfl (And.intro rfl (And.intro rfl rfl))) ?_; (repeat' (first | exact trivial | exact rfl | exact fun _ _ _ _ => rfl | refine And.intro ?_ ?_ | omega | fail)); done)), ⟨by omega, by omega⟩, by omega⟩
        | exact ⟨y7 + 1, (by (refine And.intro (And.intro rfl (And.intro rfl (And.intro rfl rfl))) ?_; (repeat' (first | exact trivial | exact rfl | exact fun _ _ _ _ => rfl | refine And.intro ?_ ?_ | omega | fail)); done)), ⟨by omega, by omega⟩, by omega⟩
        | exact ⟨y8 + 1, (by (refine And.intro (And.intro rfl (And.intro rfl (And.intro rfl rfl))) ?_; (repeat' (first | exact trivial | exact rfl | exact fun _ _ _ _ => rfl | refine And.intro ?_ ?_ | omega | fail)); done)), ⟨by omega, by omega⟩, by omega⟩
        | exact (z0 (by assumption)).2.2.2.2.2.2.2.2.1
        | exact absurd (And.intro (by omega) (by omega)) (by assumption)
        | (exfalso
           have q := mk_ptr hU (by assumption) (y0 : Int) (by omega) (by omega)
           first
             | omega
             | exact absurd (show slF a y0 0 = a + 1 + (y0 : Int) from rfl) (by assumption))
        | (exfalso
           have q := mk_raw hU (by assumption) (y0 : Int) (by omega) (by omega)
           omega)
        | (exfalso
           rename DifL _ _ _ _ _ => hd
           have q := dif_mk hU (by assumption) hd y0 (by omega)
           omega)
        | (exfalso
           have q := mk_ptr hU (by assumption) (y1 : Int) (by omega) (by omega)
           first
             | omega
             | exact absurd (show slF a y1 0 = a + 1 + (y1 : Int) from rfl) (by assumption))
        | (exfalso
           have q := mk_raw hU (by assumption) (y1 : Int) (by omega) (by omega)
           omega)
        | (exfalso
           rename DifL _ _ _ _ _ => hd
           have q := dif_mk hU (by assumption) hd y1 (by omega)
           omega)
        | (exfalso
           have q := mk_ptr hU (by assumption) (y2 : Int) (by omega) (by omega)
           first
             | omega
             | exact absurd (show slF a y2 0 = a + 1 + (y2 : Int) from rfl) (by assumption))
        | (exfalso
           have q := mk_raw hU (by assumption) (y2 : Int) (by omega) (by omega)
           omega)
        | (exfalso
           rename DifL _ _ _ _ _ => hd
           have q := dif_mk hU (by assumption) hd y2 (by omega)
           omega)
        | (exfalso
           have q := mk_ptr hU (by assumption) (y3 : Int) (by omega) (by omega)
           first
             | omega
             | exact absurd (show slF a y3 0 = a + 1 + (y3 : Int) from rfl) (by assumption))
        | (exfalso
           have q := mk_raw hU (by assumption) (y3 : Int) (by omega) (by omega)
           omega)
        | (exfalso
           rename DifL _ _ _ _ _ => hd
           have q := dif_mk hU (by assumption) hd y3 (by omega)
           omega)
        | (exfalso
           have q := mk_ptr hU (by assumption) (y4 : Int) (by omega) (by omega)
           first
             | omega
             | exact absurd (show slF a y4 0 = a + 1 + (y4 : Int) from rfl) (by assumption))
        | (exfalso
           have q := mk_raw hU (by assumption) (y4 : Int) (by omega) (by omega)
           omega)
        | (exfalso
           rename DifL _ _ _ _ _ => hd
           have q := dif_mk hU (by assumption) hd y4 (by omega)
           omega)
        | (exfalso
           have q := mk_ptr hU (by assumption) (y5 : Int) (by omega) (by omega)
           first
             | omega
             | exact absurd (show slF a y5 0 = a + 1 + (y5 : Int) from rfl) (by assumption))
        | (exfalso
           have q := mk_raw hU (by assumption) (y5 : Int) (by omega) (by omega)
           omega)
        | (exfalso
           rename DifL _ _ _ _ _ => hd
           have q := dif_mk hU (by assumption) hd y5 (by omega)
           omega)
        | (exfalso
           have q := mk_ptr hU (by assumption) (y6 : Int) (by omega) (by omega)
           first
             | omega
             | exact absurd (show slF a y6 0 = a + 1 + (y6 : Int) from rfl) (by assumption))
        | (exfalso
           have q := mk_raw hU (by assumption) (y6 : Int) (by omega) (by omega)
           omega)
        | (exfalso
           rename DifL _ _ _ _ _ => hd
           have q := dif_mk hU (by assumption) hd y6 (by omega)
           omega)
        | (exfalso
           have q := mk_ptr hU (by assumption) (y7 : Int) (by omega) (by omega)
           first
             | omega
             | exact absurd (show slF a y7 0 = a + 1 + (y7 : Int) from rfl) (by assumption))
        | (exfalso
           have q := mk_raw hU (by assumption) (y7 : Int) (by omega) (by omega)
           omega)
        | (exfalso
           rename DifL _ _ _ _ _ => hd
           have q := dif_mk hU (by assumption) hd y7 (by omega)
           omega)
        | (exfalso
           have q := mk_ptr hU (by assumption) (y8 : Int) (by omega) (by omega)
           first
             | omega
             | exact absurd (show slF a y8 0 = a + 1 + (y8 : Int) from rfl) (by assumption))
        | (exfalso
           have q := mk_raw hU (by assumption) (y8 : Int) (by omega) (by omega)
           omega)
        | (exfalso
           rename DifL _ _ _ _ _ => hd
           have q := dif_mk hU (by assumption) hd y8 (by omega)
           omega)
        | (rename DifL _ _ _ _ _ => hd
           have q := dif_len hd
           omega)
        | (exfalso; omega)
       )
    | omega
    | contradiction
    | exact ⟨0, (by (refine And.intro (And.intro rfl (And.intro rfl (And.intro rfl rfl))) ?_; (repeat' (first | exact trivial | exact rfl | exact fun _ _ _ _ => rfl | refine And.intro ?_ ?_ | omega | fail)); done)), by omega, by omega⟩
    | exact ⟨y0 + 1, (by (refine And.intro (And.intro rfl (And.intro rfl (And.intro rfl rfl))) ?_; (repeat' (first | exact trivial | exact rfl | exact fun _ _ _ _ => rfl | refine And.intro ?_ ?_ | omega | fail)); done)), ⟨by omega, by omega⟩, by omega⟩
    | exact ⟨y1 + 1, (by (refine And.intro (And.intro rfl (And.intro rfl (And.intro rfl rfl))) ?_; (repeat' (first | exact trivial | exact rfl | exact fun _ _ _ _ => rfl | refine And.intro ?_ ?_ | omega | fail)); done)), ⟨by omega, by omega⟩, by omega⟩
    | exact ⟨y2 + 1, (by (refine And.intro (And.intro rfl (And.intro rfl (And.intro rfl rfl))) ?_; (repeat' (first | exact trivial | exact rfl | exact fun _ _ _ _ => rfl | refine And.intro ?_ ?_ | omega | fail)); done)), ⟨by omega, by omega⟩, by omega⟩
    | exact ⟨y3 + 1, (by (refine And.intro (And.intro rfl (And.intro rfl (And.intro rfl rfl))) ?_; (repeat' (first | exact trivial | exact rfl | exact fun _ _ _ _ => rfl | refine And.intro ?_ ?_ | omega | fail)); done)), ⟨by omega, by omega⟩, by omega⟩
    | exact ⟨y4 + 1, (by (refine And.intro (And.intro rfl (And.intro rfl (And.intro rfl rfl))) ?_; (repeat' (first | exact trivial | exact rfl | exact fun _ _ _ _ => rfl | refine And.intro ?_ ?_ | omega | fail)); done)), ⟨by omega, by omega⟩, by omega⟩
    | exact ⟨y5 + 1, (by (refine And.intro (And.intro rfl (And.intro rfl (And.intro rfl rfl))) ?_; (repeat' (first | exact trivial | exact rfl | exact fun _ _ _ _ => rfl | refine And.intro ?_ ?_ | omega | fail)); done)), ⟨by omega, by omega⟩, by omega⟩
    | exact ⟨y6 + 1, (by (refine And.intro (And.intro rfl (And.intro rfl (And.intro rfl rfl))) ?_; (repeat' (first | exact trivial | exact rfl | exact fun _ _ _ _ => rfl | refine And.intro ?_ ?_ | omega | fail)); done)), ⟨by omega, by omega⟩, by omega⟩
    | exact ⟨y7 + 1, (by (refine And.intro (And.intro rfl (And.intro rfl (And.intro rfl rfl))) ?_; (repeat' (first | exact trivial | exact rfl | exact fun _ _ _ _ => rfl | refine And.intro ?_ ?_ | omega | fail)); done)), ⟨by omega, by omega⟩, by omega⟩
    | exact ⟨y8 + 1, (by (refine And.intro (And.intro rfl (And.intro rfl (And.intro rfl rfl))) ?_; (repeat' (first | exact trivial | exact rfl | exact fun _ _ _ _ => rfl | refine And.intro ?_ ?_ | omega | fail)); done)), ⟨by omega, by omega⟩, by omega⟩
    | exact (z0 (by assumption)).2.2.2.2.2.2.2.2.1
    | exact absurd (And.intro (by omega) (by omega)) (by assumption)
    | (exfalso
       have q := mk_ptr hU (by assumption) (y0 : Int) (by omega) (by omega)
       first
         | omega
         | exact absurd (show slF a y0 0 = a + 1 + (y0 : Int) from rfl) (by assumption))
    | (exfalso
       have q := mk_raw hU (by assumption) (y0 : Int) (by omega) (by omega)
       omega)
    | (exfalso
       rename DifL _ _ _ _ _ => hd
       have q := dif_mk hU (by assumption) hd y0 (by omega)
       omega)
    | (exfalso
       have q := mk_ptr hU (by assumption) (y1 : Int) (by omega) (by omega)
       first
         | omega
         | exact absurd (show slF a y1 0 = a + 1 + (y1 : Int) from rfl) (by assumption))
    | (exfalso
       have q := mk_raw hU (by assumption) (y1 : Int) (by omega) (by omega)
       omega)
    | (exfalso
       rename DifL _ _ _ _ _ => hd
       have q := dif_mk hU (by assumption) hd y1 (by omega)
       omega)
    | (exfalso
       have q := mk_ptr hU (by assumption) (y2 : Int) (by omega) (by omega)
       first
         | omega
         | exact absurd (show slF a y2 0 = a + 1 + (y2 : Int) from rfl) (by assumption))
    | (exfalso
       have q := mk_raw hU (by assumption) (y2 : Int) (by omega) (by omega)
       omega)
    | (exfalso
       rename DifL _ _ _ _ _ => hd
       have q := dif_mk hU (by assumption) hd y2 (by omega)
       omega)
    | (exfalso
       have q := mk_ptr hU (by assumption) (y3 : Int) (by omega) (by omega)
       first
         | omega
         | exact absurd (show slF a y3 0 = a + 1 + (y3 : Int) from rfl) (by assumption))
    | (exfalso
       have q := mk_raw hU (by assumption) (y3 : Int) (by omega) (by omega)
       omega)
    | (exfalso
       rename DifL _ _ _ _ _ => hd
       have q := dif_mk hU (by assumption) hd y3 (by omega)
       omega)
    | (exfalso
       have q := mk_ptr hU (by assumption) (y4 : Int) (by omega) (by omega)
       first
         | omega
         | exact absurd (show slF a y4 0 = a + 1 + (y4 : Int) from rfl) (by assumption))
    | (exfalso
       have q := mk_raw hU (by assumption) (y4 : Int) (by omega) (by omega)
       omega)
    | (exfalso
       rename DifL _ _ _ _ _ => hd
       have q := dif_mk hU (by assumption) hd y4 (by omega)
       omega)
    | (exfalso
       have q := mk_ptr hU (by assumption) (y5 : Int) (by omega) (by omega)
       first
         | omega
         | exact absurd (show slF a y5 0 = a + 1 + (y5 : Int) from rfl) (by assumption))
    | (exfalso
       have q := mk_raw hU (by assumption) (y5 : Int) (by omega) (by omega)
       omega)
    | (exfalso
       rename DifL _ _ _ _ _ => hd
       have q := dif_mk hU (by assumption) hd y5 (by omega)
       omega)
    | (exfalso
       have q := mk_ptr hU (by assumption) (y6 : Int) (by omega) (by omega)
       first
         | omega
         | exact absurd (show slF a y6 0 = a + 1 + (y6 : Int) from rfl) (by assumption))
    | (exfalso
       have q := mk_raw hU (by assumption) (y6 : Int) (by omega) (by omega)
       omega)
    | (exfalso
       rename DifL _ _ _ _ _ => hd
       have q := dif_mk hU (by assumption) hd y6 (by omega)
       omega)
    | (exfalso
       have q := mk_ptr hU (by assumption) (y7 : Int) (by omega) (by omega)
       first
         | omega
         | exact absurd (show slF a y7 0 = a + 1 + (y7 : Int) from rfl) (by assumption))
    | (exfalso
       have q := mk_raw hU (by assumption) (y7 : Int) (by omega) (by omega)
       omega)
    | (exfalso
       rename DifL _ _ _ _ _ => hd
       have q := dif_mk hU (by assumption) hd y7 (by omega)
       omega)
    | (exfalso
       have q := mk_ptr hU (by assumption) (y8 : Int) (by omega) (by omega)
       first
         | omega
         | exact absurd (show slF a y8 0 = a + 1 + (y8 : Int) from rfl) (by assumption))
    | (exfalso
       have q := mk_raw hU (by assumption) (y8 : Int) (by omega) (by omega)
       omega)
    | (exfalso
       rename DifL _ _ _ _ _ => hd
       have q := dif_mk hU (by assumption) hd y8 (by omega)
       omega)
    | (rename DifL _ _ _ _ _ => hd
       have q := dif_len hd
       omega)
    | (exfalso; omega)
def lwhoGNR_rV (ew nw cw : Nat) (fw : RF) (a : Int) (p : Int) (q : Int) (K : Value → List Blk → Prop) : Prop := let q0 := ((0 : Nat) + nw ≤ nw); let q1 := (nw ≤ (100000 : Nat)); let q2 := ((1 : Nat), (1 : Nat)); let q3 := ((2 : Nat), (2 : Nat)); let q4 := ((3 : Nat), (3 : Nat)); let q5 := ((4 : Nat), (4 : Nat)); let q6 := eB; let q7 := (9223372036854775807 : Int); let q8 := (1, vi a); let q9 := (-9223372036854775808 : Int); let q10 := (@Eq Nat ((1 : Nat)) ((1 : Nat))); let q11 := (@Eq Nat ((0 : Nat)) ((0 : Nat))); let q12 := ((1 : Nat), vi a); let q13 := TS; let q14 := (14, vn); let q15 := (0, Blk.row true [IntKind.u64] ew nw cw fw); let q16 := (@Eq (Value) (Value.bool false) (Value.bool true)); let q17 := ((14 : Nat), vn); let q18 := (@Eq (List IntKind) ([IntKind.u64]) ([IntKind.u64])); let q19 := (5, Value.pointer (some { block := (1 : Nat), off := (0 : Nat) })); let q20 := (q11 ∧ (q1 ∧ (nw ≤ cw))); let q21 := ((5 : Nat), Value.pointer (some { block := (1 : Nat), off := (0 : Nat) })); let q22 := (1, Blk.cells [vi p, vi q] (60 : Nat)); let q23 := (q13 ∧ q10); let q24 := ((@Eq (List Value) ([]) ([])) ∧ (@Eq (Value) (Value.bool true) (Value.bool true))); let q25 := (q18 ∧ ((@Eq Nat (nw) (nw)) ∧ (@Eq Nat (cw) (cw)))); let q26 := (mkF fw (Int.toNat a) (Int.toNat ((1 : Int) + p + q)) ((1 : Int) + (256 : Int) * p + (65536 : Int) * q)); let q27 := (Ok64 nw q26); let q28 := (obP nw q26 a); let q29 := (obR nw q26 a); let q30 := (obN nw q26 a); let q31 := (10, vi q30); let q32 := ((10 : Nat), vi q30); let q33 := (3, Blk.cells [vi q28, vi q29] (60 : Nat)); (T0 ∧ (q13 ∧ (T0 ∧ (if ((300 : Int) < (↑nw : Int)) then q24 else (T0 ∧ (q0 ∧ (t3 (q20 ∧ (q25 ∧ (q6 ∧ (((Ok64 nw fw) ∧ (@Eq Int (mkE nw fw a p q) ((0 : Int)))) ∧ (∀ y0 : Nat, let q34 := (7, rsl (2 : Nat) (0 : Nat) nw y0); let q35 := (q1 ∧ (nw ≤ y0)); let q36 := ((7 : Nat), rsl (2 : Nat) (0 : Nat) nw y0); let q37 := (q11 ∧ q35); let q38 := (q18 ∧ ((@Eq Nat (nw) (nw)) ∧ (@Eq Nat (y0) (y0)))); let q39 := (2, Blk.row false [IntKind.u64] (25 : Nat) nw y0 q26); ((nw ≤ y0) → (T0 ∧ (q0 ∧ (T0 ∧ (q37 ∧ (q38 ∧ (q6 ∧ (q27 ∧ (t2 (q0 ∧ (T0 ∧ (q37 ∧ (q38 ∧ (q6 ∧ (q27 ∧ (t3 (q6 ∧ ((True) ∧ (q0 ∧ (T0 ∧ (q37 ∧ (q38 ∧ (q6 ∧ ((q27 ∧ (¬(obE nw q26 a = (0 : Int) ∧ (0 : Int) < obP nw q26 a))) ∧ (q0 ∧ (q0 ∧ (q20 ∧ (q25 ∧ ((q10 ∧ q35) ∧ (q38 ∧ (q6 ∧ (((@Eq Int (arE nw fw) ((0 : Int))) ∧ ((@Eq Int (arE nw q26) ((0 : Int))) ∧ ((@Eq Nat (nw) (nw)) ∧ (¬eqF nw fw q26)))) ∧ (∀ y1 : Nat, (∀ y2 : Nat → Nat → Int, ((DifL nw fw q26 y1 y2) → (∀ y3 : Nat, let q41 := (16, rsl (4 : Nat) (0 : Nat) y1 y3); let q42 := ((16 : Nat), rsl (4 : Nat) (0 : Nat) y1 y3); let q43 := (4, Blk.row false [IntKind.i64] (3 : Nat) y1 y3 y2); ((y1 ≤ y3) → (T0 ∧ (if (@Eq Int (obE nw q26 a) ((0 : Int))) then (T0 ∧ (if (@Eq Int (obE nw q26 a) ((0 : Int))) then (T0 ∧ (if (@Eq Int (sze p q) ((0 : Int))) then (T0 ∧ (if (@Eq Int (obE nw q26 a) ((0 : Int))) then (t3 (if (eqL [obP nw q26 a, obR nw q26 a] [p, q]) then (T0 ∧ (if (@Eq Int q30 (szn p q)) then (q13 ∧ (t2 (if (@Eq Int ((0 : Int)) (p)) then ((∃ y4 : Nat, ((Go.Rx.Sub 1 [q2, q3, q4, q5] ⟨214, [(18, vi (0 : Int)), q41, q14, q31, q34, q19, q8]⟩ ⟨[q43, q33, q39, q22, q15], 5⟩ ({ n := (214 : Nat), m := [((18 : Nat), vi (↑y4 : Int)), q42, q17, q32, q36, q21, q12] }) ({ h := [((4 : Nat), Blk.row false [IntKind.i64] (3 : Nat) y1 y3 y2), ((3 : Nat), Blk.cells [vi q28, vi q29] (60 : Nat)), ((2 : Nat), Blk.row false [IntKind.u64] (25 : Nat) nw y0 q26), ((1 : Nat), Blk.cells [vi p, vi q] (60 : Nat)), ((0 : Nat), Blk.row true [IntKind.u64] ew nw cw fw)], next := (5 : Nat) })) ∧ ((y4 ≤ Int.toNat p) ∧ ((0 : Nat) ≤ y4)))) ∧ (∀ y4 : Nat, (((y4 ≤ Int.toNat p) ∧ ((0 : Nat) ≤ y4)) → (q13 ∧ (T0 ∧ ((∃ y5 : Nat, ((Go.Rx.Sub 1 [q2, q3, q4, q5] ⟨214, [(21, vi (0 : Int)), q41, q14, q31, q34, q19, q8]⟩ ⟨[q43, q33, q39, q22, q15], 5⟩ ({ n := (214 : Nat), m := [((21 : Nat), vi (↑y5 : Int)), q42, q17, q32, q36, q21, q12] }) ({ h := [((4 : Nat), Blk.row false [IntKind.i64] (3 : Nat) y1 y3 y2), ((3 : Nat), Blk.cells [vi q28, vi q29] (60 : Nat)), ((2 : Nat), Blk.row false [IntKind.u64] (25 : Nat) nw y0 q26), ((1 : Nat), Blk.cells [vi p, vi q] (60 : Nat)), ((0 : Nat), Blk.row true [IntKind.u64] ew nw cw fw)], next := (5 : Nat) })) ∧ ((y5 ≤ Int.toNat q) ∧ ((0 : Nat) ≤ y5)))) ∧ (∀ y5 : Nat, (((y5 ≤ Int.toNat q) ∧ ((0 : Nat) ≤ y5)) → (t2 (if ((↑y5 : Int) < q) then (q0 ∧ (t2 (q37 ∧ (q38 ∧ (q6 ∧ (q27 ∧ (T0 ∧ (if (@Eq Int (rwE nw q26 a (↑y5 : Int)) ((0 : Int))) then (T0 ∧ (if (@Eq Int (rwV nw q26 a (↑y5 : Int)) ((0 : Int))) then (T0 ∧ (((q9 ≤ (↑y5 : Int) + (1 : Int)) ∧ ((↑y5 : Int) + (1 : Int) ≤ q7)) ∧ (∃ y6 : Nat, ((Go.Rx.Sub 1 [q2, q3, q4, q5] ⟨214, [(21, vi ((↑y5 : Int) + (1 : Int))), q41, q14, q31, q34, q19, q8]⟩ ⟨[q43, q33, q39, q22, q15], 5⟩ ({ n := (214 : Nat), m := [((21 : Nat), vi (↑y6 : Int)), q42, q17, q32, q36, q21, q12] }) ({ h := [((4 : Nat), Blk.row false [IntKind.i64] (3 : Nat) y1 y3 y2), ((3 : Nat), Blk.cells [vi q28, vi q29] (60 : Nat)), ((2 : Nat), Blk.row false [IntKind.u64] (25 : Nat) nw y0 q26), ((1 : Nat), Blk.cells [vi p, vi q] (60 : Nat)), ((0 : Nat), Blk.row true [IntKind.u64] ew nw cw fw)], next := (5 : Nat) })) ∧ (((y6 ≤ Int.toNat q) ∧ ((0 : Nat) ≤ y6)) ∧ (Int.toNat q - y6 < Int.toNat q - y5)))))) else q16)) else q16)))))))) else ((∃ y6 : Nat, ((Go.Rx.Sub 1 [q2, q3, q4, q5] ⟨214, [(24, vi (0 : Int)), q41, q14, q31, q34, q19, q8]⟩ ⟨[q43, q33, q39, q22, q15], 5⟩ ({ n := (214 : Nat), m := [((24 : Nat), vi (↑y6 : Int)), q42, q17, q32, q36, q21, q12] }) ({ h := [((4 : Nat), Blk.row false [IntKind.i64] (3 : Nat) y1 y3 y2), ((3 : Nat), Blk.cells [vi q28, vi q29] (60 : Nat)), ((2 : Nat), Blk.row false [IntKind.u64] (25 : Nat) nw y0 q26), ((1 : Nat), Blk.cells [vi p, vi q] (60 : Nat)), ((0 : Nat), Blk.row true [IntKind.u64] ew nw cw fw)], next := (5 : Nat) })) ∧ ((y6 ≤ nw) ∧ ((0 : Nat) ≤ y6)))) ∧ (∀ y6 : Nat, let q40 := (((0 : Int) ≤ (↑y6 : Int)) ∧ ((↑y6 : Int) < (↑y1 : Int))); (((y6 ≤ nw) ∧ ((0 : Nat) ≤ y6)) → (q13 ∧ (T0 ∧ (if ((↑y6 : Int) < (↑y1 : Int)) then (q23 ∧ (q40 ∧ ((y6 < y1) ∧ (T0 ∧ (if (y2 y6 (0 : Nat) < a) then q16 else (q23 ∧ (q40 ∧ ((y6 < y1) ∧ (T0 ∧ (((q9 ≤ a + obN nw q26 a) ∧ (a + obN nw q26 a ≤ q7)) ∧ (T0 ∧ (if (a + obN nw q26 a ≤ y2 y6 (0 : Nat)) then q16 else (T0 ∧ (((q9 ≤ (↑y6 : Int) + (1 : Int)) ∧ ((↑y6 : Int) + (1 : Int) ≤ q7)) ∧ (∃ y7 : Nat, ((Go.Rx.Sub 1 [q2, q3, q4, q5] ⟨214, [(24, vi ((↑y6 : Int) + (1 : Int))), q41, q14, q31, q34, q19, q8]⟩ ⟨[q43, q33, q39, q22, q15], 5⟩ ({ n := (214 : Nat), m := [((24 : Nat), vi (↑y7 : Int)), q42, q17, q32, q36, q21, q12] }) ({ h := [((4 : Nat), Blk.row false [IntKind.i64] (3 : Nat) y1 y3 y2), ((3 : Nat), Blk.cells [vi q28, vi q29] (60 : Nat)), ((2 : Nat), Blk.row false [IntKind.u64] (25 : Nat) nw y0 q26), ((1 : Nat), Blk.cells [vi p, vi q] (60 : Nat)), ((0 : Nat), Blk.row true [IntKind.u64] ew nw cw fw)], next := (5 : Nat) })) ∧ (((y7 ≤ nw) ∧ ((0 : Nat) ≤ y7)) ∧ (nw - y7 < nw - y6)))))))))))))))))) else (T0 ∧ (q0 ∧ (t2 (q37 ∧ (q38 ∧ (q6 ∧ (q27 ∧ (T0 ∧ (q0 ∧ (t2 (q37 ∧ (q38 ∧ (q6 ∧ (q27 ∧ (q0 ∧ (t2 (q37 ∧ (q38 ∧ (q6 ∧ (q27 ∧ (T0 ∧ (if (@Eq Int (ptE nw q26 a p) ((10 : Int))) then (T0 ∧ (if (@Eq Int (rwE nw q26 a q) ((10 : Int))) then (T0 ∧ (if (@Eq Int (rwE nw q26 a (-1 : Int)) ((10 : Int))) then q24 else q16)) else q16)) else q16)))))))))))))))))))))))))))))))))))))) else q16))) else q16)) else q16)) else q16)) else q16)) else q16)) else q16)))))))))))))))))))))))))))))))))))))))))))))))))))
theorem lwhoGNR_rE (ew nw cw : Nat) (fw : RF) (a : Int) (p : Int) (q : Int) (K : Value → List Blk → Prop) : lwhoGNR_rV ew nw cw fw a p q K = bodyX (mk X13GNR) (callN (mk X13GNR) 6) (lwhoGNR_rA ew nw cw fw a p q) Try.f13 [rsl 0 0 nw cw, .int .i64 a, .agg ⟨[.int .i64 p, .int .i64 q]⟩] (stOf [.row true [.u64] ew nw cw fw]) fun v _ => v = .bool true := by kernel_rfl
set_option tactic.hygienic false in
theorem lwhoGNR_rP (ew nw cw : Nat) (fw : RF) (a : Int) (p : Int) (q : Int) (K : Value → List Blk → Prop)  (hcw : nw ≤ cw) (hU : Ok64 nw fw) (h1 : mkE nw fw a p q = 0) (h2 : ¬ 0 < p) (h3 : ¬ eqF nw fw (mkF fw (Int.toNat a) (Int.toNat (1 + p + q)) (1 + 256 * p + 65536 * q))) : lwhoGNR_rV ew nw cw fw a p q K := by
  unfold lwhoGNR_rV
  conv => zeta
  have z0 := (fun h => mk_ok hU h : mkE nw fw a p q = 0 → _)
  have z1 := (fun h => mk_no hU h : mkE nw fw a p q = 0 → _)
  have z2 := obN_cases nw (mkF fw (Int.toNat a) (Int.toNat (1 + p + q)) (1 + 256 * p + 65536 * q)) a
  have z3 := szn_cases p q
  repeat' (first | (with_reducible exact rfl) | (with_reducible exact trivial) | (with_reducible refine And.intro ?_ ?_) | (intro) | (with_reducible refine br_d (fun hq => ?_) (fun hq => ?_)) | (with_reducible refine br_nd (fun hq => ?_) (fun hq => ?_)) | (with_reducible refine br_intro (fun hq => ?_) (fun hq => ?_)) | (with_reducible refine if_both (fun hz => ?_) (fun hz => ?_)) | fail)
  all_goals try simp only [eqL] at *
  all_goals try (rename DifL _ _ _ _ _ => hd; have hdl := dif_len hd)
  all_goals first
    | (with_reducible assumption)
    | (refine (id ?_ : False)
       first
        | contradiction
        | exact ⟨0, (by (refine And.intro (And.intro rfl (And.intro rfl (And.intro rfl rfl))) ?_; (repeat' (first | exact trivial | exact rfl | exact fun _ _ _ _ => rfl | refine And.intro ?_ ?_ | omega | fail)); done)), by omega, by omega⟩
        | exact ⟨y0 + 1, (by (refine And.intro (And.intro rfl (And.intro rfl (And.intro rfl rfl))) ?_; (repeat' (first | exact trivial | exact rfl | exact fun _ _ _ _ => rfl | refine And.intro ?_ ?_ | omega | fail)); done)), ⟨by omega, by omega⟩, by omega⟩
        | exact ⟨y1 + 1, (by (refine And.intro (And.intro rfl (And.intro rfl (And.intro rfl rfl))) ?_; (repeat' (first | exact trivial | exact rfl | exact fun _ _ _ _ => rfl | refine And.intro ?_ ?_ | omega | fail)); done)), ⟨by omega, by omega⟩, by omega⟩
        | exact ⟨y2 + 1, (by (refine And.intro (And.intro rfl (And.intro rfl (And.intro rfl rfl))) ?_; (repeat' (first | exact trivial | exact rfl | exact fun _ _ _ _ => rfl | refine And.intro ?_ ?_ | omega | fail)); done)), ⟨by omega, by omega⟩, by omega⟩
        | exact ⟨y3 + 1, (by (refine And.intro (And.intro rfl (And.intro rfl (And.intro rfl rfl))) ?_; (repeat' (first | exact trivial | exact rfl | exact fun _ _ _ _ => rfl | refine And.intro ?_ ?_ | omega | fail)); done)), ⟨by omega, by omega⟩, by omega⟩
        | exact ⟨y4 + 1, (by (refine And.intro (And.intro rfl (And.intro rfl (And.intro rfl rfl))) ?_; (repeat' (first | exact trivial | exact rfl | exact fun _ _ _ _ => rfl | refine And.intro ?_ ?_ | omega | fail)); done)), ⟨by omega, by omega⟩, by omega⟩
        | exact ⟨y5 + 1, (by (refine And.intro (And.intro rfl (And.intro rfl (And.intro rfl rfl))) ?_; (repeat' (first | exact trivial | exact rfl | exact fun _ _ _ _ => rfl | refine And.intro ?_ ?_ | omega | fail)); done)), ⟨by omega, by omega⟩, by omega⟩
        | exact ⟨y6 + 1, (by (refine And.intro (And.intro rfl (And.intro rfl (And.intro rfl rfl))) ?_; (repeat' (first | exact trivial | exact rfl | exact fun _ _ _ _ => rfl | refine And.intro ?_ ?_ | omega | fail)); done)), ⟨by omega, by omega⟩, by omega⟩
        | exact ⟨y7 + 1, (by (refine And.intro (And.intro rfl (And.intro rfl (And.intro rfl rfl))) ?_; (repeat' (first | exact trivial | exact rfl | exact fun _ _ _ _ => rfl | refine And.intro ?_ ?_ | omega | fail)); done)), ⟨by omega, by omega⟩, by omega⟩
        | exact ⟨y8 + 1, (by (refine And.intro (And.intro rfl (And.intro rfl (And.intro rfl rfl))) ?_; (repeat' (first | exact trivial | exact rfl | exact fun _ _ _ _ => rfl | refine And.intro ?_ ?_ | omega | fail)); done)), ⟨by omega, by omega⟩, by omega⟩
        | exact (z0 (by assumption)).2.2.2.2.2.2.2.2.1
        | exact absurd (And.intro (by omega) (by omega)) (by assumption)
        | (exfalso
           have q := mk_ptr hU (by assumption) (y0 : Int) (by omega) (by omega)
           first
             | omega
             | exact absurd (show slF a y0 0 = a + 1 + (y0 : Int) from rfl) (by assumption))
        | (exfalso
           have q := mk_raw hU (by assumption) (y0 : Int) (by omega) (by omega)
           omega)
        | (exfalso
           rename DifL _ _ _ _ _ => hd
           have q := dif_mk hU (by assumption) hd y0 (by omega)
           omega)
        | (exfalso
           have q := mk_ptr hU (by assumption) (y1 : Int) (by omega) (by omega)
           first
             | omega
             | exact absurd (show slF a y1 0 = a + 1 + (y1 : Int) from rfl) (by assumption))
        | (exfalso
           have q := mk_raw hU (by assumption) (y1 : Int) (by omega) (by omega)
           omega)
        | (exfalso
           rename DifL _ _ _ _ _ => hd
           have q := dif_mk hU (by assumption) hd y1 (by omega)
           omega)
        | (exfalso
           have q := mk_ptr hU (by assumption) (y2 : Int) (by omega) (by omega)
           first
             | omega
             | exact absurd (show slF a y2 0 = a + 1 + (y2 : Int) from rfl) (by assumption))
        | (exfalso
           have q := mk_raw hU (by assumption) (y2 : Int) (by omega) (by omega)
           omega)
        | (exfalso
           rename DifL _ _ _ _ _ => hd
           have q := dif_mk hU (by assumption) hd y2 (by omega)
           omega)
        | (exfalso
           have q := mk_ptr hU (by assumption) (y3 : Int) (by omega) (by omega)
           first
             | omega
             | exact absurd (show slF a y3 0 = a + 1 + (y3 : Int) from rfl) (by assumption))
        | (exfalso
           have q := mk_raw hU (by assumption) (y3 : Int) (by omega) (by omega)
           omega)
        | (exfalso
           rename DifL _ _ _ _ _ => hd
           have q := dif_mk hU (by assumption) hd y3 (by omega)
           omega)
        | (exfalso
           have q := mk_ptr hU (by assumption) (y4 : Int) (by omega) (by omega)
           first
             | omega
             | exact absurd (show slF a y4 0 = a + 1 + (y4 : Int) from rfl) (by assumption))
        | (exfalso
           have q := mk_raw hU (by assumption) (y4 : Int) (by omega) (by omega)
           omega)
        | (exfalso
           rename DifL _ _ _ _ _ => hd
           have q := dif_mk hU (by assumption) hd y4 (by omega)
           omega)
        | (exfalso
           have q := mk_ptr hU (by assumption) (y5 : Int) (by omega) (by omega)
           first
             | omega
             | exact absurd (show slF a y5 0 = a + 1 + (y5 : Int) from rfl) (by assumption))
        | (exfalso
           have q := mk_raw hU (by assumption) (y5 : Int) (by omega) (by omega)
           omega)
        | (exfalso
           rename DifL _ _ _ _ _ => hd
           have q := dif_mk hU (by assumption) hd y5 (by omega)
           omega)
        | (exfalso
           have q := mk_ptr hU (by assumption) (y6 : Int) (by omega) (by omega)
           first
             | omega
             | exact absurd (show slF a y6 0 = a + 1 + (y6 : Int) from rfl) (by assumption))
        | (exfalso
           have q := mk_raw hU (by assumption) (y6 : Int) (by omega) (by omega)
           omega)
        | (exfalso
           rename DifL _ _ _ _ _ => hd
           have q := dif_mk hU (by assumption) hd y6 (by omega)
           omega)
        | (exfalso
           have q := mk_ptr hU (by assumption) (y7 : Int) (by omega) (by omega)
           first
             | omega
             | exact absurd (show slF a y7 0 = a + 1 + (y7 : Int) from rfl) (by assumption))
        | (exfalso
           have q := mk_raw hU (by assumption) (y7 : Int) (by omega) (by omega)
           omega)
        | (exfalso
           rename DifL _ _ _ _ _ => hd
           have q := dif_mk hU (by assumption) hd y7 (by omega)
           omega)
        | (exfalso
           have q := mk_ptr hU (by assumption) (y8 : Int) (by omega) (by omega)
           first
             | omega
             | exact absurd (show slF a y8 0 = a + 1 + (y8 : Int) from rfl) (by assumption))
        | (exfalso
           have q := mk_raw hU (by assumption) (y8 : Int) (by omega) (by omega)
           omega)
        | (exfalso
           rename DifL _ _ _ _ _ => hd
           have q := dif_mk hU (by assumption) hd y8 (by omega)
           omega)
        | (rename DifL _ _ _ _ _ => hd
           have q := dif_len hd
           omega)
        | (exfalso; omega)
       )
    | omega
    | contradiction
    | exact ⟨0, (by (refine And.intro (And.intro rfl (And.intro rfl (And.intro rfl rfl))) ?_; (repeat' (first | exact trivial | exact rfl | exact fun _ _ _ _ => rfl | refine And.intro ?_ ?_ | omega | fail)); done)), by omega, by omega⟩
    | exact ⟨y0 + 1, (by (refine And.intro (And.intro rfl (And.intro rfl (And.intro rfl rfl))) ?_; (repeat' (first | exact trivial | exact rfl | exact fun _ _ _ _ => rfl | refine And.intro ?_ ?_ | omega | fail)); done)), ⟨by omega, by omega⟩, by omega⟩
    | exact ⟨y1 + 1, (by (refine And.intro (And.intro rfl (And.intro rfl (And.intro rfl rfl))) ?_; (repeat' (first | exact trivial | exact rfl | exact fun _ _ _ _ => rfl | refine And.intro ?_ ?_ | omega | fail)); done)), ⟨by omega, by omega⟩, by omega⟩
    | exact ⟨y2 + 1, (by (refine And.intro (And.intro rfl (And.intro rfl (And.intro rfl rfl))) ?_; (repeat' (first | exact trivial | exact rfl | exact fun _ _ _ _ => rfl | refine And.intro ?_ ?_ | omega | fail)); done)), ⟨by omega, by omega⟩, by omega⟩
    | exact ⟨y3 + 1, (by (refine And.intro (And.intro rfl (And.intro rfl (And.intro rfl rfl))) ?_; (repeat' (first | exact trivial | exact rfl | exact fun _ _ _ _ => rfl | refine And.intro ?_ ?_ | omega | fail)); done)), ⟨by omega, by omega⟩, by omega⟩
    | exact ⟨y4 + 1, (by (refine And.intro (And.intro rfl (And.intro rfl (And.intro rfl rfl))) ?_; (repeat' (first | exact trivial | exact rfl | exact fun _ _ _ _ => rfl | refine And.intro ?_ ?_ | omega | fail)); done)), ⟨by omega, by omega⟩, by omega⟩
    | exact ⟨y5 + 1, (by (refine And.intro (And.intro rfl (And.intro rfl (And.intro rfl rfl))) ?_; (repeat' (first | exact trivial | exact rfl | exact fun _ _ _ _ => rfl | refine And.intro ?_ ?_ | omega | fail)); done)), ⟨by omega, by omega⟩, by omega⟩
    | exact ⟨y6 + 1, (by (refine And.intro (And.intro rfl (And.intro rfl (And.intro rfl rfl))) ?_; (repeat' (first | exact trivial | exact rfl | exact fun _ _ _ _ => rfl | refine And.intro ?_ ?_ | omega | fail)); done)), ⟨by omega, by omega⟩, by omega⟩
    | exact ⟨y7 + 1, (by (refine And.intro (And.intro rfl (And.intro rfl (And.intro rfl rfl))) ?_; (repeat' (first | exact trivial | exact rfl | exact fun _ _ _ _ => rfl | refine And.intro ?_ ?_ | omega | fail)); done)), ⟨by omega, by omega⟩, by omega⟩
    | exact ⟨y8 + 1, (by (refine And.intro (And.intro rfl (And.intro rfl (And.intro rfl rfl))) ?_; (repeat' (first | exact trivial | exact rfl | exact fun _ _ _ _ => rfl | refine And.intro ?_ ?_ | omega | fail)); done)), ⟨by omega, by omega⟩, by omega⟩
    | exact (z0 (by assumption)).2.2.2.2.2.2.2.2.1
    | exact absurd (And.intro (by omega) (by omega)) (by assumption)
    | (exfalso
       have q := mk_ptr hU (by assumption) (y0 : Int) (by omega) (by omega)
       first
         | omega
         | exact absurd (show slF a y0 0 = a + 1 + (y0 : Int) from rfl) (by assumption))
    | (exfalso
       have q := mk_raw hU (by assumption) (y0 : Int) (by omega) (by omega)
       omega)
    | (exfalso
       rename DifL _ _ _ _ _ => hd
       have q := dif_mk hU (by assumption) hd y0 (by omega)
       omega)
    | (exfalso
       have q := mk_ptr hU (by assumption) (y1 : Int) (by omega) (by omega)
       first
         | omega
         | exact absurd (show slF a y1 0 = a + 1 + (y1 : Int) from rfl) (by assumption))
    | (exfalso
       have q := mk_raw hU (by assumption) (y1 : Int) (by omega) (by omega)
       omega)
    | (exfalso
       rename DifL _ _ _ _ _ => hd
       have q := dif_mk hU (by assumption) hd y1 (by omega)
       omega)
    | (exfalso
       have q := mk_ptr hU (by assumption) (y2 : Int) (by omega) (by omega)
       first
         | omega
         | exact absurd (show slF a y2 0 = a + 1 + (y2 : Int) from rfl) (by assumption))
    | (exfalso
       have q := mk_raw hU (by assumption) (y2 : Int) (by omega) (by omega)
       omega)
    | (exfalso
       rename DifL _ _ _ _ _ => hd
       have q := dif_mk hU (by assumption) hd y2 (by omega)
       omega)
    | (exfalso
       have q := mk_ptr hU (by assumption) (y3 : Int) (by omega) (by omega)
       first
         | omega
         | exact absurd (show slF a y3 0 = a + 1 + (y3 : Int) from rfl) (by assumption))
    | (exfalso
       have q := mk_raw hU (by assumption) (y3 : Int) (by omega) (by omega)
       omega)
    | (exfalso
       rename DifL _ _ _ _ _ => hd
       have q := dif_mk hU (by assumption) hd y3 (by omega)
       omega)
    | (exfalso
       have q := mk_ptr hU (by assumption) (y4 : Int) (by omega) (by omega)
       first
         | omega
         | exact absurd (show slF a y4 0 = a + 1 + (y4 : Int) from rfl) (by assumption))
    | (exfalso
       have q := mk_raw hU (by assumption) (y4 : Int) (by omega) (by omega)
       omega)
    | (exfalso
       rename DifL _ _ _ _ _ => hd
       have q := dif_mk hU (by assumption) hd y4 (by omega)
       omega)
    | (exfalso
       have q := mk_ptr hU (by assumption) (y5 : Int) (by omega) (by omega)
       first
         | omega
         | exact absurd (show slF a y5 0 = a + 1 + (y5 : Int) from rfl) (by assumption))
    | (exfalso
       have q := mk_raw hU (by assumption) (y5 : Int) (by omega) (by omega)
       omega)
    | (exfalso
       rename DifL _ _ _ _ _ => hd
       have q := dif_mk hU (by assumption) hd y5 (by omega)
       omega)
    | (exfalso
       have q := mk_ptr hU (by assumption) (y6 : Int) (by omega) (by omega)
       first
         | omega
         | exact absurd (show slF a y6 0 = a + 1 + (y6 : Int) from rfl) (by assumption))
    | (exfalso
       have q := mk_raw hU (by assumption) (y6 : Int) (by omega) (by omega)
       omega)
    | (exfalso
       rename DifL _ _ _ _ _ => hd
       have q := dif_mk hU (by assumption) hd y6 (by omega)
       omega)
    | (exfalso
       have q := mk_ptr hU (by assumption) (y7 : Int) (by omega) (by omega)
       first
         | omega
         | exact absurd (show slF a y7 0 = a + 1 + (y7 : Int) from rfl) (by assumption))
    | (exfalso
       have q := mk_raw hU (by assumption) (y7 : Int) (by omega) (by omega)
       omega)
    | (exfalso
       rename DifL _ _ _ _ _ => hd
       have q := dif_mk hU (by assumption) hd y7 (by omega)
       omega)
    | (exfalso
       have q := mk_ptr hU (by assumption) (y8 : Int) (by omega) (by omega)
       first
         | omega
         | exact absurd (show slF a y8 0 = a + 1 + (y8 : Int) from rfl) (by assumption))
    | (exfalso
       have q := mk_raw hU (by assumption) (y8 : Int) (by omega) (by omega)
       omega)
    | (exfalso
       rename DifL _ _ _ _ _ => hd
       have q := dif_mk hU (by assumption) hd y8 (by omega)
       omega)
    | (rename DifL _ _ _ _ _ => hd
       have q := dif_len hd
       omega)
    | (exfalso; omega)
end Go.Proofs.Ytfgeoglegebncaa.Fr
namespace Go.Proofs.Ytfgeoglegebncaa.Fr
set_option maxRecDepth 100000
set_option maxHeartbeats 4000000
open Go.Rx
open Go.RowKit (Below)
set_option linter.unusedVariables false

def lwhoGRN_nA (a : Int) (p : Int) (q : Int) : Ann := fun k tt ss => bif Nat.beq k 14 then some [{ α := Nat, T := fun k => ⟨tt.n, (18, .int .i64 (k : Int)) :: keepF [1, 5, 7, 10, 14, 16] tt.m⟩, S := fun _ => ss, I := fun k => k ≤ p.toNat ∧ 0 ≤ k, m := fun k => p.toNat - k, ρ0 := idR 0 ss.next, ρ1 := [idR 0 ss.next] }] else bif Nat.beq k 20 then some [{ α := Nat, T := fun k => ⟨tt.n, (21, .int .i64 (k : Int)) :: keepF [1, 5, 7, 10, 14, 16] tt.m⟩, S := fun _ => ss, I := fun k => k ≤ q.toNat ∧ 0 ≤ k, m := fun k => q.toNat - k, ρ0 := idR 0 ss.next, ρ1 := [idR 0 ss.next] }] else bif Nat.beq k 26 then some [{ α := Nat, T := fun k => ⟨tt.n, (24, .int .i64 (k : Int)) :: keepF [1, 5, 7, 10, 14, 16] tt.m⟩, S := fun _ => ss, I := fun k => k ≤ 0 ∧ 0 ≤ k, m := fun k => 0 - k, ρ0 := idR 0 ss.next, ρ1 := [idR 0 ss.next] }] else none
def lwhoGRN_rA (ew nw cw : Nat) (fw : RF) (a : Int) (p : Int) (q : Int) : Ann := fun k tt ss => bif Nat.beq k 14 then some [{ α := Nat, T := fun k => ⟨tt.n, (18, .int .i64 (k : Int)) :: keepF [1, 5, 7, 10, 14, 16] tt.m⟩, S := fun _ => ss, I := fun k => k ≤ p.toNat ∧ 0 ≤ k, m := fun k => p.toNat - k, ρ0 := idR 1 ss.next, ρ1 := [idR 1 ss.next] }] else bif Nat.beq k 20 then some [{ α := Nat, T := fun k => ⟨tt.n, (21, .int .i64 (k : Int)) :: keepF [1, 5, 7, 10, 14, 16] tt.m⟩, S := fun _ => ss, I := fun k => k ≤ q.toNat ∧ 0 ≤ k, m := fun k => q.toNat - k, ρ0 := idR 1 ss.next, ρ1 := [idR 1 ss.next] }] else bif Nat.beq k 26 then some [{ α := Nat, T := fun k => ⟨tt.n, (24, .int .i64 (k : Int)) :: keepF [1, 5, 7, 10, 14, 16] tt.m⟩, S := fun _ => ss, I := fun k => k ≤ nw ∧ 0 ≤ k, m := fun k => nw - k, ρ0 := idR 1 ss.next, ρ1 := [idR 1 ss.next] }] else none
def lwhoGRN_nV (a : Int) (p : Int) (q : Int) (K : Value → List Blk → Prop) : Prop := (T0 ∧ (TS ∧ (t6 (False))))
theorem lwhoGRN_nE (a : Int) (p : Int) (q : Int) (K : Value → List Blk → Prop) : lwhoGRN_nV a p q K = bodyX (mk X13GRN) (callN (mk X13GRN) 6) (lwhoGRN_nA a p q) Try.f13 [.slice none 0 0, .int .i64 a, .agg ⟨[.int .i64 p, .int .i64 q]⟩] (stOf []) fun v _ => v = .bool true := by kernel_rfl
set_option tactic.hygienic false in
theorem lwhoGRN_nP (a : Int) (p : Int) (q : Int) (K : Value → List Blk → Prop)  (hU : Ok64 0 zF) (h1 : mkE 0 zF a p q = 0) (h2 : 0 < p) (h3 : eqF 0 zF (mkF zF (Int.toNat a) (Int.toNat (1 + p + q)) (1 + 256 * p + 65536 * q))) : lwhoGRN_nV a p q K := by
  unfold lwhoGRN_nV
  have z0 := (fun h => mk_ok hU h : mkE 0 zF a p q = 0 → _)
  have z1 := (fun h => mk_no hU h : mkE 0 zF a p q = 0 → _)
  have z2 := obN_cases 0 (mkF zF (Int.toNat a) (Int.toNat (1 + p + q)) (1 + 256 * p + 65536 * q)) a
  have z3 := szn_cases p q
  repeat' (first | (with_reducible exact rfl) | (with_reducible exact trivial) | (with_reducible refine And.intro ?_ ?_) | (intro) | (with_reducible refine br_d (fun hq => ?_) (fun hq => ?_)) | (with_reducible refine br_nd (fun hq => ?_) (fun hq => ?_)) | (with_reducible refine br_intro (fun hq => ?_) (fun hq => ?_)) | (with_reducible refine if_both (fun hz => ?_) (fun hz => ?_)) | fail)
  all_goals try simp only [eqL] at *
  all_goals try (rename DifL _ _ _ _ _ => hd; have hdl := dif_len hd)
  all_goals first
    | (with_reducible assumption)
    | (refine (id ?_ : False)
       first
        | contradiction
        | exact ⟨0, (by (refine And.intro (And.intro rfl (And.intro rfl (And.intro rfl rfl))) ?_; (repeat' (first | exact trivial | exact rfl | exact fun _ _ _ _ => rfl | refine And.intro ?_ ?_ | omega | fail)); done)), by omega, by omega⟩
        | exact ⟨y0 + 1, (by (refine And.intro (And.intro rfl (And.intro rfl (And.intro rfl rfl))) ?_; (repeat' (first | exact trivial | exact rfl | exact fun _ _ _ _ => rfl | refine And.intro ?_ ?_ | omega | fail)); done)), ⟨by omega, by omega⟩, by omega⟩
        | exact ⟨y1 + 1, (by (refine And.intro (And.intro rfl (And.intro rfl (And.intro rfl rfl))) ?_; (repeat' (first | exact trivial | exact rfl | exact fun _ _ _ _ => rfl | refine And.intro ?_ ?_ | omega | fail)); done)), ⟨by omega, by omega⟩, by omega⟩
        | exact ⟨y2 + 1, (by (refine And.intro (And.intro rfl (And.intro rfl (And.intro rfl rfl))) ?_; (repeat' (first | exact trivial | exact rfl | exact fun _ _ _ _ => rfl | refine And.intro ?_ ?_ | omega | fail)); done)), ⟨by omega, by omega⟩, by omega⟩
        | exact ⟨y3 + 1, (by (refine And.intro (And.intro rfl (And.intro rfl (And.intro rfl rfl))) ?_; (repeat' (first | exact trivial | exact rfl | exact fun _ _ _ _ => rfl | refine And.intro ?_ ?_ | omega | fail)); done)), ⟨by omega, by omega⟩, by omega⟩
        | exact ⟨y4 + 1, (by (refine And.intro (And.intro rfl (And.intro rfl (And.intro rfl rfl))) ?_; (repeat' (first | exact trivial | exact rfl | exact fun _ _ _ _ => rfl | refine And.intro ?_ ?_ | omega | fail)); done)), ⟨by omega, by omega⟩, by omega⟩
        | exact ⟨y5 + 1, (by (refine And.intro (And.intro rfl (And.intro rfl (And.intro rfl rfl))) ?_; (repeat' (first | exact trivial | exact rfl | exact fun _ _ _ _ => rfl | refine And.intro ?_ ?_ | omega | fail)); done)), ⟨by omega, by omega⟩, by omega⟩
        | exact ⟨y6 + 1, (by (refine And.intro (And.intro rfl (And.intro rfl (And.intro rfl rfl))) ?_; (repeat' (first | exact trivial | exact rfl | exact fun _ _ _ _ => rfl | refine And.intro ?_ ?_ | omega | fail)); done)), ⟨by omega, by omega⟩, by omega⟩
        | exact ⟨y7 + 1, (by (refine And.intro (And.intro rfl (And.intro rfl (And.intro rfl rfl))) ?_; (repeat' (first | exact trivial | exact rfl | exact fun _ _ _ _ => rfl | refine And.intro ?_ ?_ | omega | fail)); done)), ⟨by omega, by omega⟩, by omega⟩
        | exact ⟨y8 + 1, (by (refine And.intro (And.intro rfl (And.intro rfl (And.intro rfl rfl))) ?_; (repeat' (first | exact trivial | exact rfl | exact fun _ _ _ _ => rfl | refine And.intro ?_ ?_ | omega | fail)); done)), ⟨by omega, by omega⟩, by omega⟩
        | exact (z0 (by assumption)).2.2.2.2.2.2.2.2.1
        | exact absurd (And.intro (by omega) (by omega)) (by assumption)
        | exact h3 _ (by assumption)
        | (exfalso
           have q := mk_ptr hU (by assumption) (y0 : Int) (by omega) (by omega)
           first
             | omega
             | exact absurd (show slF a y0 0 = a + 1 + (y0 : Int) from rfl) (by assumption))
        | (exfalso
           have q := mk_raw hU (by assumption) (y0 : Int) (by omega) (by omega)
           omega)
        | (exfalso
           rename DifL _ _ _ _ _ => hd
           have q := dif_mk hU (by assumption) hd y0 (by omega)
           omega)
        | (exfalso
           have q := mk_ptr hU (by assumption) (y1 : Int) (by omega) (by omega)
           first
             | omega
             | exact absurd (show slF a y1 0 = a + 1 + (y1 : Int) from rfl) (by assumption))
        | (exfalso
           have q := mk_raw hU (by assumption) (y1 : Int) (by omega) (by omega)
           omega)
        | (exfalso
           rename DifL _ _ _ _ _ => hd
           have q := dif_mk hU (by assumption) hd y1 (by omega)
           omega)
        | (exfalso
           have q := mk_ptr hU (by assumption) (y2 : Int) (by omega) (by omega)
           first
             | omega
             | exact absurd (show slF a y2 0 = a + 1 + (y2 : Int) from rfl) (by assumption))
        | (exfalso
           have q := mk_raw hU (by assumption) (y2 : Int) (by omega) (by omega)
           omega)
        | (exfalso
           rename DifL _ _ _ _ _ => hd
           have q := dif_mk hU (by assumption) hd y2 (by omega)
           omega)
        | (exfalso
           have q := mk_ptr hU (by assumption) (y3 : Int) (by omega) (by omega)
           first
             | omega
             | exact absurd (show slF a y3 0 = a + 1 + (y3 : Int) from rfl) (by assumption))
        | (exfalso
           have q := mk_raw hU (by assumption) (y3 : Int) (by omega) (by omega)
           omega)
        | (exfalso
           rename DifL _ _ _ _ _ => hd
           have q := dif_mk hU (by assumption) hd y3 (by omega)
           omega)
        | (exfalso
           have q := mk_ptr hU (by assumption) (y4 : Int) (by omega) (by omega)
           first
             | omega
             | exact absurd (show slF a y4 0 = a + 1 + (y4 : Int) from rfl) (by assumption))
        | (exfalso
           have q := mk_raw hU (by assumption) (y4 : Int) (by omega) (by omega)
           omega)
        | (exfalso
           rename DifL _ _ _ _ _ => hd
           have q := dif_mk hU (by assumption) hd y4 (by omega)
           omega)
        | (exfalso
           have q := mk_ptr hU (by assumption) (y5 : Int) (by omega) (by omega)
           first
             | omega
             | exact absurd (show slF a y5 0 = a + 1 + (y5 : Int) from rfl) (by assumption))
        | (exfalso
           have q := mk_raw hU (by assumption) (y5 : Int) (by omega) (by omega)
           omega)
        | (exfalso
           rename DifL _ _ _ _ _ => hd
           have q := dif_mk hU (by assumption) hd y5 (by omega)
           omega)
        | (exfalso
           have q := mk_ptr hU (by assumption) (y6 : Int) (by omega) (by omega)
           first
             | omega
             | exact absurd (show slF a y6 0 = a + 1 + (y6 : Int) from rfl) (by assumption))
        | (exfalso
           have q := mk_raw hU (by assumption) (y6 : Int) (by omega) (by omega)
           omega)
        | (exfalso
           rename DifL _ _ _ _ _ => hd
           have q := dif_mk hU (by assumption) hd y6 (by omega)
           omega)
        | (exfalso
           have q := mk_ptr hU (by assumption) (y7 : Int) (by omega) (by omega)
           first
             | omega
             | exact absurd (show slF a y7 0 = a + 1 + (y7 : Int) from rfl) (by assumption))
        | (exfalso
           have q := mk_raw hU (by assumption) (y7 : Int) (by omega) (by omega)
           omega)
        | (exfalso
           rename DifL _ _ _ _ _ => hd
           have q := dif_mk hU (by assumption) hd y7 (by omega)
           omega)
        | (exfalso
           have q := mk_ptr hU (by assumption) (y8 : Int) (by omega) (by omega)
           first
             | omega
             | exact absurd (show slF a y8 0 = a + 1 + (y8 : Int) from rfl) (by assumption))
        | (exfalso
           have q := mk_raw hU (by assumption) (y8 : Int) (by omega) (by omega)
           omega)
        | (exfalso
           rename DifL _ _ _ _ _ => hd
           have q := dif_mk hU (by assumption) hd y8 (by omega)
           omega)
        | (rename DifL _ _ _ _ _ => hd
           have q := dif_len hd
           omega)
        | (exfalso; omega)
       )
    | omega
    | contradiction
    | exact ⟨0, (by (refine And.intro (And.intro rfl (And.intro rfl (And.intro rfl rfl))) ?_; (repeat' (first | exact trivial | exact rfl | exact fun _ _ _ _ => rfl | refine And.intro ?_ ?_ | omega | fail)); done)), by omega, by omega⟩
    | exact ⟨y0 + 1, (by (refine And.intro (And.intro rfl (And.intro rfl (And.intro rfl rfl))) ?_; (repeat' (first | exact trivial | exact rfl | exact fun _ _ _ _ => rfl | refine And.intro ?_ ?_ | omega | fail)); done)), ⟨by omega, by omega⟩, by omega⟩
    | exact ⟨y1 + 1, (by (refine And.intro (And.intro rfl (And.intro rfl (And.intro rfl rfl))) ?_; (repeat' (first | exact trivial | exact rfl | exact fun _ _ _ _ => rfl | refine And.intro ?_ ?_ | omega | fail)); done)), ⟨by omega, by omega⟩, by omega⟩
    | exact ⟨y2 + 1, (by (refine And.intro (And.intro rfl (And.intro rfl (And.intro rfl rfl))) ?_; (repeat' (first | exact trivial | exact rfl | exact fun _ _ _ _ => rfl | refine And.intro ?_ ?_ | omega | fail)); done)), ⟨by omega, by omega⟩, by omega⟩
    | exact ⟨y3 + 1, (by (refine And.intro (And.intro rfl (And.intro rfl (And.intro rfl rfl))) ?_; (repeat' (first | exact trivial | exact rfl | exact fun _ _ _ _ => rfl | refine And.intro ?_ ?_ | omega | fail)); done)), ⟨by omega, by omega⟩, by omega⟩
    | exact ⟨y4 + 1, (by (refine And.intro (And.intro rfl (And.intro rfl (And.intro rfl rfl))) ?_; (repeat' (first | exact trivial | exact rfl | exact fun _ _ _ _ => rfl | refine And.intro ?_ ?_ | omega | fail)); done)), ⟨by omega, by omega⟩, by omega⟩
    | exact ⟨y5 + 1, (by (refine And.intro (And.intro rfl (And.intro rfl (And.intro rfl rfl))) ?_; (repeat' (first | exact trivial | exact rfl | exact fun _ _ _ _ => rfl | refine And.intro ?_ ?_ | omega | fail)); done)), ⟨by omega, by omega⟩, by omega⟩
    | exact ⟨y6 + 1, (by (refine And.intro (And.intro rfl (And.intro rfl (And.intro rfl rfl))) ?_; (repeat' (first | exact trivial | exact rfl | exact fun _ _ _ _ => rfl | refine And.intro ?_ ?_ | omega | fail)); done)), ⟨by omega, by omega⟩, by omega⟩
    | exact ⟨y7 + 1, (by (refine And.intro (And.intro rfl (And.intro rfl (And.intro rfl rfl))) ?_; (repeat' (first | exact trivial | exact rfl | exact fun _ _ _ _ => rfl | refine And.intro ?_ ?_ | omega | fail)); done)), ⟨by omega, by omega⟩, by omega⟩
    | exact ⟨y8 + 1, (by (refine And.intro (And.intro rfl (And.intro rfl (And.intro rfl rfl))) ?_; (repeat' (first | exact trivial | exact rfl | exact fun _ _ _ _ => rfl | refine And.intro ?_ ?_ | omega | fail)); done)), ⟨by omega, by omega⟩, by omega⟩
    | exact (z0 (by assumption)).2.2.2.2.2.2.2.2.1
    | exact absurd (And.intro (by omega) (by omega)) (by assumption)
    | exact h3 _ (by assumption)
    | (exfalso
       have q := mk_ptr hU (by assumption) (y0 : Int) (by omega) (by omega)
       first
         | omega
         | exact absurd (show slF a y0 0 = a + 1 + (y0 : Int) from rfl) (by assumption))
    | (exfalso
       have q := mk_raw hU (by assumption) (y0 : Int) (by omega) (by omega)
       omega)
    | (exfalso
       rename DifL _ _ _ _ _ => hd
       have q := dif_mk hU (by assumption) hd y0 (by omega)
       omega)
    | (exfalso
       have q := mk_ptr hU (by assumption) (y1 : Int) (by omega) (by omega)
       first
         | omega
         | exact absurd (show slF a y1 0 = a + 1 + (y1 : Int) from rfl) (by assumption))
    | (exfalso
       have q := mk_raw hU (by assumption) (y1 : Int) (by omega) (by omega)
       omega)
    | (exfalso
       rename DifL _ _ _ _ _ => hd
       have q := dif_mk hU (by assumption) hd y1 (by omega)
       omega)
    | (exfalso
       have q := mk_ptr hU (by assumption) (y2 : Int) (by omega) (by omega)
       first
         | omega
         | exact absurd (show slF a y2 0 = a + 1 + (y2 : Int) from rfl) (by assumption))
    | (exfalso
       have q := mk_raw hU (by assumption) (y2 : Int) (by omega) (by omega)
       omega)
    | (exfalso
       rename DifL _ _ _ _ _ => hd
       have q := dif_mk hU (by assumption) hd y2 (by omega)
       omega)
    | (exfalso
       have q := mk_ptr hU (by assumption) (y3 : Int) (by omega) (by omega)
       first
         | omega
         | exact absurd (show slF a y3 0 = a + 1 + (y3 : Int) from rfl) (by assumption))
    | (exfalso
       have q := mk_raw hU (by assumption) (y3 : Int) (by omega) (by omega)
       omega)
    | (exfalso
       rename DifL _ _ _ _ _ => hd
       have q := dif_mk hU (by assumption) hd y3 (by omega)
       omega)
    | (exfalso
       have q := mk_ptr hU (by assumption) (y4 : Int) (by omega) (by omega)
       first
         | omega
         | exact absurd (show slF a y4 0 = a + 1 + (y4 : Int) from rfl) (by assumption))
    | (exfalso
       have q := mk_raw hU (by assumption) (y4 : Int) (by omega) (by omega)
       omega)
    | (exfalso
       rename DifL _ _ _ _ _ => hd
       have q := dif_mk hU (by assumption) hd y4 (by omega)
       omega)
    | (exfalso
       have q := mk_ptr hU (by assumption) (y5 : Int) (by omega) (by omega)
       first
         | omega
         | exact absurd (show slF a y5 0 = a + 1 + (y5 : Int) from rfl) (by assumption))
    | (exfalso
       have q := mk_raw hU (by assumption) (y5 : Int) (by omega) (by omega)
       omega)
    | (exfalso
       rename DifL _ _ _ _ _ => hd
       have q := dif_mk hU (by assumption) hd y5 (by omega)
       omega)
    | (exfalso
       have q := mk_ptr hU (by assumption) (y6 : Int) (by omega) (by omega)
       first
         | omega
         | exact absurd (show slF a y6 0 = a + 1 + (y6 : Int) from rfl) (by assumption))
    | (exfalso
       have q := mk_raw hU (by assumption) (y6 : Int) (by omega) (by omega)
       omega)
    | (exfalso
       rename DifL _ _ _ _ _ => hd
       have q := dif_mk hU (by assumption) hd y6 (by omega)
       omega)
    | (exfalso
       have q := mk_ptr hU (by assumption) (y7 : Int) (by omega) (by omega)
       first
         | omega
         | exact absurd (show slF a y7 0 = a + 1 + (y7 : Int) from rfl) (by assumption))
    | (exfalso
       have q := mk_raw hU (by assumption) (y7 : Int) (by omega) (by omega)
       omega)
    | (exfalso
       rename DifL _ _ _ _ _ => hd
       have q := dif_mk hU (by assumption) hd y7 (by omega)
       omega)
    | (exfalso
       have q := mk_ptr hU (by assumption) (y8 : Int) (by omega) (by omega)
       first
         | omega
         | exact absurd (show slF a y8 0 = a + 1 + (y8 : Int) from rfl) (by assumption))
    | (exfalso
       have q := mk_raw hU (by assumption) (y8 : Int) (by omega) (by omega)
       omega)
    | (exfalso
       rename DifL _ _ _ _ _ => hd
       have q := dif_mk hU (by assumption) hd y8 (by omega)
       omega)
    | (rename DifL _ _ _ _ _ => hd
       have q := dif_len hd
       omega)
    | (exfalso; omega)
def lwhoGRN_rV (ew nw cw : Nat) (fw : RF) (a : Int) (p : Int) (q : Int) (K : Value → List Blk → Prop) : Prop := let q0 := ((0 : Nat) + nw ≤ nw); let q1 := (nw ≤ (100000 : Nat)); let q2 := ((1 : Nat), (1 : Nat)); let q3 := ((2 : Nat), (2 : Nat)); let q4 := ((3 : Nat), (3 : Nat)); let q5 := ((4 : Nat), (4 : Nat)); let q6 := eB; let q7 := (9223372036854775807 : Int); let q8 := (1, vi a); let q9 := (-9223372036854775808 : Int); let q10 := (Int.toNat ((1 : Int) + p + q)); let q11 := (@Eq Nat ((1 : Nat)) ((1 : Nat))); let q12 := (@Eq Nat ((0 : Nat)) ((0 : Nat))); let q13 := ((1 : Nat), vi a); let q14 := TS; let q15 := (16, vn); let q16 := (0, Blk.row true [IntKind.u64] ew nw cw fw); let q17 := ((1 : Int) + (256 : Int) * p + (65536 : Int) * q); let q18 := (@Eq (Value) (Value.bool false) (Value.bool true)); let q19 := ((16 : Nat), vn); let q20 := (@Eq (List IntKind) ([IntKind.u64]) ([IntKind.u64])); let q21 := (5, Value.pointer (some { block := (1 : Nat), off := (0 : Nat) })); let q22 := (q12 ∧ (q1 ∧ (nw ≤ cw))); let q23 := ((5 : Nat), Value.pointer (some { block := (1 : Nat), off := (0 : Nat) })); let q24 := (1, Blk.cells [vi p, vi q] (60 : Nat)); let q25 := ((@Eq (List Value) ([]) ([])) ∧ (@Eq (Value) (Value.bool true) (Value.bool true))); let q26 := (q20 ∧ ((@Eq Nat (nw) (nw)) ∧ (@Eq Nat (cw) (cw)))); let q27 := (mkF fw (Int.toNat a) q10 q17); let q28 := (Ok64 nw q27); let q29 := (obP nw q27 a); let q30 := (obR nw q27 a); let q31 := (obN nw q27 a); let q32 := (Int.toNat q29); let q33 := (↑q32 : Int); let q34 := (10, vi q31); let q35 := ((10 : Nat), vi q31); let q36 := (3, Blk.cells [vi q29, vi q30] (60 : Nat)); (T0 ∧ (q14 ∧ (T0 ∧ (if ((300 : Int) < (↑nw : Int)) then q25 else (T0 ∧ (q0 ∧ (t3 (q22 ∧ (q26 ∧ (q6 ∧ (((Ok64 nw fw) ∧ (@Eq Int (mkE nw fw a p q) ((0 : Int)))) ∧ (∀ y0 : Nat, let q37 := (7, rsl (2 : Nat) (0 : Nat) nw y0); let q38 := (q1 ∧ (nw ≤ y0)); let q39 := ((7 : Nat), rsl (2 : Nat) (0 : Nat) nw y0); let q40 := (q12 ∧ q38); let q41 := (q20 ∧ ((@Eq Nat (nw) (nw)) ∧ (@Eq Nat (y0) (y0)))); let q42 := (2, Blk.row false [IntKind.u64] (25 : Nat) nw y0 q27); ((nw ≤ y0) → (T0 ∧ (q0 ∧ (T0 ∧ (q40 ∧ (q41 ∧ (q6 ∧ (q28 ∧ (t2 (q0 ∧ (T0 ∧ (q40 ∧ (q41 ∧ (q6 ∧ (q28 ∧ (t3 (q6 ∧ ((True) ∧ (q0 ∧ (T0 ∧ (q40 ∧ (q41 ∧ (q6 ∧ ((q28 ∧ ((@Eq Int (obE nw q27 a) ((0 : Int))) ∧ ((0 : Int) < obP nw q27 a))) ∧ (∀ y1 : Nat, let q43 := (14, rsl (4 : Nat) (0 : Nat) q32 y1); let q44 := ((14 : Nat), rsl (4 : Nat) (0 : Nat) q32 y1); let q45 := (4, Blk.row false [IntKind.i64] (3 : Nat) q32 y1 (slF a)); ((Int.toNat q29 ≤ y1) → (q0 ∧ (q0 ∧ (q22 ∧ (q26 ∧ ((q11 ∧ q38) ∧ (q41 ∧ (q6 ∧ (((@Eq Int (arE nw fw) ((0 : Int))) ∧ ((@Eq Int (arE nw q27) ((0 : Int))) ∧ ((@Eq Nat (nw) (nw)) ∧ (∀ y2 : Nat, ((y2 < nw) → (@Eq Int (fw y2 (0 : Nat)) (mkF fw (Int.toNat a) q10 q17 y2 (0 : Nat)))))))) ∧ (T0 ∧ (if (@Eq Int (obE nw q27 a) ((0 : Int))) then (T0 ∧ (if (@Eq Int (obE nw q27 a) ((0 : Int))) then (T0 ∧ (if (@Eq Int (sze p q) ((0 : Int))) then (t4 (if (eqL [obP nw q27 a, obR nw q27 a] [p, q]) then (T0 ∧ (if (@Eq Int q31 (szn p q)) then (q14 ∧ (t2 (if (@Eq Int (q33) (p)) then ((∃ y2 : Nat, ((Go.Rx.Sub 1 [q2, q3, q4, q5] ⟨214, [(18, vi (0 : Int)), q15, q43, q34, q37, q21, q8]⟩ ⟨[q45, q36, q42, q24, q16], 5⟩ ({ n := (214 : Nat), m := [((18 : Nat), vi (↑y2 : Int)), q19, q44, q35, q39, q23, q13] }) ({ h := [((4 : Nat), Blk.row false [IntKind.i64] (3 : Nat) q32 y1 (slF a)), ((3 : Nat), Blk.cells [vi q29, vi q30] (60 : Nat)), ((2 : Nat), Blk.row false [IntKind.u64] (25 : Nat) nw y0 q27), ((1 : Nat), Blk.cells [vi p, vi q] (60 : Nat)), ((0 : Nat), Blk.row true [IntKind.u64] ew nw cw fw)], next := (5 : Nat) })) ∧ ((y2 ≤ Int.toNat p) ∧ ((0 : Nat) ≤ y2)))) ∧ (∀ y2 : Nat, (((y2 ≤ Int.toNat p) ∧ ((0 : Nat) ≤ y2)) → (q14 ∧ (T0 ∧ (if ((↑y2 : Int) < q33) then (q0 ∧ (t2 (q40 ∧ (q41 ∧ (q6 ∧ (q28 ∧ ((q14 ∧ q11) ∧ ((((0 : Int) ≤ (↑y2 : Int)) ∧ ((↑y2 : Int) < q33)) ∧ ((y2 < Int.toNat q29) ∧ (T0 ∧ (((q9 ≤ a + (1 : Int)) ∧ (a + (1 : Int) ≤ q7)) ∧ (T0 ∧ (((q9 ≤ a + (1 : Int) + (↑y2 : Int)) ∧ (a + (1 : Int) + (↑y2 : Int) ≤ q7)) ∧ (T0 ∧ (if (@Eq Int (slF a y2 (0 : Nat)) (a + (1 : Int) + (↑y2 : Int))) then (T0 ∧ (if (@Eq Int (ptE nw q27 a (↑y2 : Int)) ((0 : Int))) then (T0 ∧ (if (@Eq Int (ptV nw q27 a (↑y2 : Int)) ((0 : Int))) then (T0 ∧ (((q9 ≤ (↑y2 : Int) + (1 : Int)) ∧ ((↑y2 : Int) + (1 : Int) ≤ q7)) ∧ (∃ y3 : Nat, ((Go.Rx.Sub 1 [q2, q3, q4, q5] ⟨214, [(18, vi ((↑y2 : Int) + (1 : Int))), q15, q43, q34, q37, q21, q8]⟩ ⟨[q45, q36, q42, q24, q16], 5⟩ ({ n := (214 : Nat), m := [((18 : Nat), vi (↑y3 : Int)), q19, q44, q35, q39, q23, q13] }) ({ h := [((4 : Nat), Blk.row false [IntKind.i64] (3 : Nat) q32 y1 (slF a)), ((3 : Nat), Blk.cells [vi q29, vi q30] (60 : Nat)), ((2 : Nat), Blk.row false [IntKind.u64] (25 : Nat) nw y0 q27), ((1 : Nat), Blk.cells [vi p, vi q] (60 : Nat)), ((0 : Nat), Blk.row true [IntKind.u64] ew nw cw fw)], next := (5 : Nat) })) ∧ (((y3 ≤ Int.toNat p) ∧ ((0 : Nat) ≤ y3)) ∧ (Int.toNat p - y3 < Int.toNat p - y2)))))) else q18)) else q18)) else q18))))))))))))))) else ((∃ y3 : Nat, ((Go.Rx.Sub 1 [q2, q3, q4, q5] ⟨214, [(21, vi (0 : Int)), q15, q43, q34, q37, q21, q8]⟩ ⟨[q45, q36, q42, q24, q16], 5⟩ ({ n := (214 : Nat), m := [((21 : Nat), vi (↑y3 : Int)), q19, q44, q35, q39, q23, q13] }) ({ h := [((4 : Nat), Blk.row false [IntKind.i64] (3 : Nat) q32 y1 (slF a)), ((3 : Nat), Blk.cells [vi q29, vi q30] (60 : Nat)), ((2 : Nat), Blk.row false [IntKind.u64] (25 : Nat) nw y0 q27), ((1 : Nat), Blk.cells [vi p, vi q] (60 : Nat)), ((0 : Nat), Blk.row true [IntKind.u64] ew nw cw fw)], next := (5 : Nat) })) ∧ ((y3 ≤ Int.toNat q) ∧ ((0 : Nat) ≤ y3)))) ∧ (∀ y3 : Nat, (((y3 ≤ Int.toNat q) ∧ ((0 : Nat) ≤ y3)) → (t2 (if ((↑y3 : Int) < q) then (q0 ∧ (t2 (q40 ∧ (q41 ∧ (q6 ∧ (q28 ∧ (T0 ∧ (if (@Eq Int (rwE nw q27 a (↑y3 : Int)) ((0 : Int))) then (T0 ∧ (if (@Eq Int (rwV nw q27 a (↑y3 : Int)) ((0 : Int))) then (T0 ∧ (((q9 ≤ (↑y3 : Int) + (1 : Int)) ∧ ((↑y3 : Int) + (1 : Int) ≤ q7)) ∧ (∃ y4 : Nat, ((Go.Rx.Sub 1 [q2, q3, q4, q5] ⟨214, [(21, vi ((↑y3 : Int) + (1 : Int))), q15, q43, q34, q37, q21, q8]⟩ ⟨[q45, q36, q42, q24, q16], 5⟩ ({ n := (214 : Nat), m := [((21 : Nat), vi (↑y4 : Int)), q19, q44, q35, q39, q23, q13] }) ({ h := [((4 : Nat), Blk.row false [IntKind.i64] (3 : Nat) q32 y1 (slF a)), ((3 : Nat), Blk.cells [vi q29, vi q30] (60 : Nat)), ((2 : Nat), Blk.row false [IntKind.u64] (25 : Nat) nw y0 q27), ((1 : Nat), Blk.cells [vi p, vi q] (60 : Nat)), ((0 : Nat), Blk.row true [IntKind.u64] ew nw cw fw)], next := (5 : Nat) })) ∧ (((y4 ≤ Int.toNat q) ∧ ((0 : Nat) ≤ y4)) ∧ (Int.toNat q - y4 < Int.toNat q - y3)))))) else q18)) else q18)))))))) else ((∃ y4 : Nat, ((Go.Rx.Sub 1 [q2, q3, q4, q5] ⟨214, [(24, vi (0 : Int)), q15, q43, q34, q37, q21, q8]⟩ ⟨[q45, q36, q42, q24, q16], 5⟩ ({ n := (214 : Nat), m := [((24 : Nat), vi (↑y4 : Int)), q19, q44, q35, q39, q23, q13] }) ({ h := [((4 : Nat), Blk.row false [IntKind.i64] (3 : Nat) q32 y1 (slF a)), ((3 : Nat), Blk.cells [vi q29, vi q30] (60 : Nat)), ((2 : Nat), Blk.row false [IntKind.u64] (25 : Nat) nw y0 q27), ((1 : Nat), Blk.cells [vi p, vi q] (60 : Nat)), ((0 : Nat), Blk.row true [IntKind.u64] ew nw cw fw)], next := (5 : Nat) })) ∧ ((y4 ≤ nw) ∧ ((0 : Nat) ≤ y4)))) ∧ (∀ y4 : Nat, (((y4 ≤ nw) ∧ ((0 : Nat) ≤ y4)) → (q14 ∧ (t2 (q0 ∧ (t2 (q40 ∧ (q41 ∧ (q6 ∧ (q28 ∧ (T0 ∧ (q0 ∧ (t2 (q40 ∧ (q41 ∧ (q6 ∧ (q28 ∧ (q0 ∧ (t2 (q40 ∧ (q41 ∧ (q6 ∧ (q28 ∧ (T0 ∧ (if (@Eq Int (ptE nw q27 a p) ((10 : Int))) then (T0 ∧ (if (@Eq Int (rwE nw q27 a q) ((10 : Int))) then (T0 ∧ (if (@Eq Int (rwE nw q27 a (-1 : Int)) ((10 : Int))) then q25 else q18)) else q18)) else q18))))))))))))))))))))))))))))))))))))) else q18))) else q18)) else q18)) else q18)) else q18)) else q18))))))))))))))))))))))))))))))))))))))))))))))))
theorem lwhoGRN_rE (ew nw cw : Nat) (fw : RF) (a : Int) (p : Int) (q : Int) (K : Value → List Blk → Prop) : lwhoGRN_rV ew nw cw fw a p q K = bodyX (mk X13GRN) (callN (mk X13GRN) 6) (lwhoGRN_rA ew nw cw fw a p q) Try.f13 [rsl 0 0 nw cw, .int .i64 a, .agg ⟨[.int .i64 p, .int .i64 q]⟩] (stOf [.row true [.u64] ew nw cw fw]) fun v _ => v = .bool true := by kernel_rfl
set_option tactic.hygienic false in
theorem lwhoGRN_rP (ew nw cw : Nat) (fw : RF) (a : Int) (p : Int) (q : Int) (K : Value → List Blk → Prop)  (hcw : nw ≤ cw) (hU : Ok64 nw fw) (h1 : mkE nw fw a p q = 0) (h2 : 0 < p) (h3 : eqF nw fw (mkF fw (Int.toNat a) (Int.toNat (1 + p + q)) (1 + 256 * p + 65536 * q))) : lwhoGRN_rV ew nw cw fw a p q K := by
  unfold lwhoGRN_rV
  conv => zeta
  have z0 := (fun h => mk_ok hU h : mkE nw fw a p q = 0 → _)
  have z1 := (fun h => mk_no hU h : mkE nw fw a p q = 0 → _)
  have z2 := obN_cases nw (mkF fw (Int.toNat a) (Int.toNat (1 + p + q)) (1 + 256 * p + 65536 * q)) a
  have z3 := szn_cases p q
  repeat' (first | (with_reducible exact rfl) | (with_reducible exact trivial) | (with_reducible refine And.intro ?_ ?_) | (intro) | (with_reducible refine br_d (fun hq => ?_) (fun hq => ?_)) | (with_reducible refine br_nd (fun hq => ?_) (fun hq => ?_)) | (with_reducible refine br_intro (fun hq => ?_) (fun hq => ?_)) | (with_reducible refine if_both (fun hz => ?_) (fun hz => ?_)) | fail)
  all_goals try simp only [eqL] at *
  all_goals try (rename DifL _ _ _ _ _ => hd; have hdl := dif_len hd)
  all_goals first
    | (with_reducible assumption)
    | (refine (id ?_ : False)
       first
        | contradiction
        | exact ⟨0, (by (refine And.intro (And.intro rfl (And.intro rfl (And.intro rfl rfl))) ?_; (repeat' (first | exact trivial | exact rfl | exact fun _ _ _ _ => rfl | refine And.intro ?_ ?_ | omega | fail)); done)), by omega, by omega⟩
        | exact ⟨y0 + 1, (by (refine And.intro (And.intro rfl (And.intro rfl (And.intro rfl rfl))) ?_; (repeat' (first | exact trivial | exact rfl | exact fun _ _ _ _ => rfl | refine And.intro ?_ ?_ | omega | fail)); done)), ⟨by omega, by omega⟩, by omega⟩
        | exact ⟨y1 + 1, (by (refine And.intro (And.intro rfl (And.intro rfl (And.intro rfl rfl))) ?_; (repeat' (first | exact trivial | exact rfl | exact fun _ _ _ _ => rfl | refine And.intro ?_ ?_ | omega | fail)); done)), ⟨by omega, by omega⟩, by omega⟩
        | exact ⟨y2 + 1, (by (refine And.intro (And.intro rfl (And.intro rfl (And.intro rfl rfl))) ?_; (repeat' (first | exact trivial | exact rfl | exact fun _ _ _ _ => rfl | refine And.intro ?_ ?_ | omega | fail)); done)), ⟨by omega, by omega⟩, by omega⟩
        | exact ⟨y3 + 1, (by (refine And.intro (And.intro rfl (And.intro rfl (And.intro rfl rfl))) ?_; (repeat' (first | exact trivial | exact rfl | exact fun _ _ _ _ => rfl | refine And.intro ?_ ?_ | omega | fail)); done)), ⟨by omega, by omega⟩, by omega⟩
        | exact ⟨y4 + 1, (by (refine And.intro (And.intro rfl (And.intro rfl (And.intro rfl rfl))) ?_; (repeat' (first | exact trivial | exact rfl | exact fun _ _ _ _ => rfl | refine And.intro ?_ ?_ | omega | fail)); done)), ⟨by omega, by omega⟩, by omega⟩
        | exact ⟨y5 + 1, (by (refine And.intro (And.intro rfl (And.intro rfl (And.intro rfl rfl))) ?_; (repeat' (first | exact trivial | exact rfl | exact fun _ _ _ _ => rfl | refine And.intro ?_ ?_ | omega | fail)); done)), ⟨by omega, by omega⟩, by omega⟩
        | exact ⟨y6 + 1, (by (refine And.intro (And.intro rfl (And.intro rfl (And.intro rfl rfl))) ?_; (repeat' (first | exact trivial | exact rfl | exact fun _ _ _ _ => rfl | refine And.intro ?_ ?_ | omega | fail)); done)), ⟨by omega, by omega⟩, by omega⟩
        | exact ⟨y7 + 1, (by (refine And.intro (And.intro rfl (And.intro rfl (And.intro rfl rfl))) ?_; (repeat' (first | exact trivial | exact rfl | exact fun _ _ _ _ => rfl | refine And.intro ?_ ?_ | omega | fail)); done)), ⟨by omega, by omega⟩, by omega⟩
        | exact ⟨y8 + 1, (by (refine And.intro (And.intro rfl (And.intro rfl (And.intro rfl rfl))) ?_; (repeat' (first | exact trivial | exact rfl | exact fun _ _ _ _ => rfl | refine And.intro ?_ ?_ | omega | fail)); done)), ⟨by omega, by omega⟩, by omega⟩
        | exact (z0 (by assumption)).2.2.2.2.2.2.2.2.1
        | exact absurd (And.intro (by omega) (by omega)) (by assumption)
        | exact h3 _ (by assumption)
        | (exfalso
           have q := mk_ptr hU (by assumption) (y0 : Int) (by omega) (by omega)
           first
             | omega
             | exact absurd (show slF a y0 0 = a + 1 + (y0 : Int) from rfl) (by assumption))
        | (exfalso
           have q := mk_raw hU (by assumption) (y0 : Int) (by omega) (by omega)
           omega)
        | (exfalso
           rename DifL _ _ _ _ _ => hd
           have q := dif_mk hU (by assumption) hd y0 (by omega)
           omega)
        | (exfalso
           have q := mk_ptr hU (by assumption) (y1 : Int) (by omega) (by omega)
           first
             | omega
             | exact absurd (show slF a y1 0 = a + 1 + (y1 : Int) from rfl) (by assumption))
        | (exfalso
           have q := mk_raw hU (by assumption) (y1 : Int) (by omega) (by omega)
           omega)
        | (exfalso
           rename DifL _ _ _ _ _ => hd
           have q := dif_mk hU (by assumption) hd y1 (by omega)
           omega)
        | (exfalso
           have q := mk_ptr hU (by assumption) (y2 : Int) (by omega) (by omega)
           first
             | omega
             | exact absurd (show slF a y2 0 = a + 1 + (y2 : Int) from rfl) (by assumption))
        | (exfalso
           have q := mk_raw hU (by assumption) (y2 : Int) (by omega) (by omega)
           omega)
        | (exfalso
           rename DifL _ _ _ _ _ => hd
           have q := dif_mk hU (by assumption) hd y2 (by omega)
           omega)
        | (exfalso
           have q := mk_ptr hU (by assumption) (y3 : Int) (by omega) (by omega)
           first
             | omega
             | exact absurd (show slF a y3 0 = a + 1 + (y3 : Int) from rfl) (by assumption))
        | (exfalso
           have q := mk_raw hU (by assumption) (y3 : Int) (by omega) (by omega)
           omega)
        | (exfalso
           rename DifL _ _ _ _ _ => hd
           have q := dif_mk hU (by assumption) hd y3 (by omega)
           omega)
        | (exfalso
           have q := mk_ptr hU (by assumption) (y4 : Int) (by omega) (by omega)
           first
             | omega
             | exact absurd (show slF a y4 0 = a + 1 + (y4 : Int) from rfl) (by assumption))
        | (exfalso
           have q := mk_raw hU (by assumption) (y4 : Int) (by omega) (by omega)
           omega)
        | (exfalso
           rename DifL _ _ _ _ _ => hd
           have q := dif_mk hU (by assumption) hd y4 (by omega)
           omega)
        | (exfalso
           have q := mk_ptr hU (by assumption) (y5 : Int) (by omega) (by omega)
           first
             | omega
             | exact absurd (show slF a y5 0 = a + 1 + (y5 : Int) from rfl) (by assumption))
        | (exfalso
           have q := mk_raw hU (by assumption) (y5 : Int) (by omega) (by omega)
           omega)
        | (exfalso
           rename DifL _ _ _ _ _ => hd
           have q := dif_mk hU (by assumption) hd y5 (by omega)
           omega)
        | (exfalso
           have q := mk_ptr hU (by assumption) (y6 : Int) (by omega) (by omega)
           first
             | omega
             | exact absurd (show slF a y6 0 = a + 1 + (y6 : Int) from rfl) (by assumption))
        | (exfalso
           have q := mk_raw hU (by assumption) (y6 : Int) (by omega) (by omega)
           omega)
        | (exfalso
           rename DifL _ _ _ _ _ => hd
           have q := dif_mk hU (by assumption) hd y6 (by omega)
           omega)
        | (exfalso
           have q := mk_ptr hU (by assumption) (y7 : Int) (by omega) (by omega)
           first
             | omega
             | exact absurd (show slF a y7 0 = a + 1 + (y7 : Int) from rfl) (by assumption))
        | (exfalso
           have q := mk_raw hU (by assumption) (y7 : Int) (by omega) (by omega)
           omega)
        | (exfalso
           rename DifL _ _ _ _ _ => hd
           have q := dif_mk hU (by assumption) hd y7 (by omega)
           omega)
        | (exfalso
           have q := mk_ptr hU (by assumption) (y8 : Int) (by omega) (by omega)
           first
             | omega
             | exact absurd (show slF a y8 0 = a + 1 + (y8 : Int) from rfl) (by assumption))
        | (exfalso
           have q := mk_raw hU (by assumption) (y8 : Int) (by omega) (by omega)
           omega)
        | (exfalso
           rename DifL _ _ _ _ _ => hd
           have q := dif_mk hU (by assumption) hd y8 (by omega)
           omega)
        | (rename DifL _ _ _ _ _ => hd
           have q := dif_len hd
           omega)
        | (exfalso; omega)
       )
    | omega
    | contradiction
    | exact ⟨0, (by (refine And.intro (And.intro rfl (And.intro rfl (And.intro rfl rfl))) ?_; (repeat' (first | exact trivial | exact rfl | exact fun _ _ _ _ => rfl | refine And.intro ?_ ?_ | omega | fail)); done)), by omega, by omega⟩
    | exact ⟨y0 + 1, (by (refine And.intro (And.intro rfl (And.intro rfl (And.intro rfl rfl))) ?_; (repeat' (first | exact trivial | exact rfl | exact fun _ _ _ _ => rfl | refine And.intro ?_ ?_ | omega | fail)); done)), ⟨by omega, by omega⟩, by omega⟩
    | exact ⟨y1 + 1, (by (refine And.intro (And.intro rfl (And.intro rfl (And.intro rfl rfl))) ?_; (repeat' (first | exact trivial | exact rfl | exact fun _ _ _ _ => rfl | refine And.intro ?_ ?_ | omega | fail)); done)), ⟨by omega, by omega⟩, by omega⟩
    | exact ⟨y2 + 1, (by (refine And.intro (And.intro rfl (And.intro rfl (And.intro rfl rfl))) ?_; (repeat' (first | exact trivial | exact rfl | exact fun _ _ _ _ => rfl | refine And.intro ?_ ?_ | omega | fail)); done)), ⟨by omega, by omega⟩, by omega⟩
    | exact ⟨y3 + 1, (by (refine And.intro (And.intro rfl (And.intro rfl (And.intro rfl rfl))) ?_; (repeat' (first | exact trivial | exact rfl | exact fun _ _ _ _ => rfl | refine And.intro ?_ ?_ | omega | fail)); done)), ⟨by omega, by omega⟩, by omega⟩
    | exact ⟨y4 + 1, (by (refine And.intro (And.intro rfl (And.intro rfl (And.intro rfl rfl))) ?_; (repeat' (first | exact trivial | exact rfl | exact fun _ _ _ _ => rfl | refine And.intro ?_ ?_ | omega | fail)); done)), ⟨by omega, by omega⟩, by omega⟩
    | exact ⟨y5 + 1, (by (refine And.intro (And.intro rfl (And.intro rfl (And.intro rfl rfl))) ?_; (repeat' (first | exact trivial | exact rfl | exact fun _ _ _ _ => rfl | refine And.intro ?_ ?_ | omega | fail)); done)), ⟨by omega, by omega⟩, by omega⟩
    | exact ⟨y6 + 1, (by (refine And.intro (And.intro rfl (And.intro rfl (And.intro rfl rfl))) ?_; (repeat' (first | exact trivial | exact rfl | exact fun _ _ _ _ => rfl | refine And.intro ?_ ?_ | omega | fail)); done)), ⟨by omega, by omega⟩, by omega⟩
    | exact ⟨y7 + 1, (by (refine And.intro (And.intro rfl (And.intro rfl (And.intro rfl rfl))) ?_; (repeat' (first | exact trivial | exact rfl | exact fun _ _ _ _ => rfl | refine And.intro ?_ ?_ | omega | fail)); done)), ⟨by omega, by omega⟩, by omega⟩
    | exact ⟨y8 + 1, (by (refine And.intro (And.intro rfl (And.intro rfl (And.intro rfl rfl))) ?_; (repeat' (first | exact trivial | exact rfl | exact fun _ _ _ _ => rfl | refine And.intro ?_ ?_ | omega | fail)); done)), ⟨by omega, by omega⟩, by omega⟩
    | exact (z0 (by assumption)).2.2.2.2.2.2.2.2.1
    | exact absurd (And.intro (by omega) (by omega)) (by assumption)
    | exact h3 _ (by assumption)
    | (exfalso
       have q := mk_ptr hU (by assumption) (y0 : Int) (by omega) (by omega)
       first
         | omega
         | exact absurd (show slF a y0 0 = a + 1 + (y0 : Int) from rfl) (by assumption))
    | (exfalso
       have q := mk_raw hU (by assumption) (y0 : Int) (by omega) (by omega)
       omega)
    | (exfalso
       rename DifL _ _ _ _ _ => hd
       have q := dif_mk hU (by assumption) hd y0 (by omega)
       omega)
    | (exfalso
       have q := mk_ptr hU (by assumption) (y1 : Int) (by omega) (by omega)
       first
         | omega
         | exact absurd (show slF a y1 0 = a + 1 + (y1 : Int) from rfl) (by assumption))
    | (exfalso
       have q := mk_raw hU (by assumption) (y1 : Int) (by omega) (by omega)
       omega)
    | (exfalso
       rename DifL _ _ _ _ _ => hd
       have q := dif_mk hU (by assumption) hd y1 (by omega)
       omega)
    | (exfalso
       have q := mk_ptr hU (by assumption) (y2 : Int) (by omega) (by omega)
       first
         | omega
         | exact absurd (show slF a y2 0 = a + 1 + (y2 : Int) from rfl) (by assumption))
    | (exfalso
       have q := mk_raw hU (by assumption) (y2 : Int) (by omega) (by omega)
       omega)
    | (exfalso
       rename DifL _ _ _ _ _ => hd
       have q := dif_mk hU (by assumption) hd y2 (by omega)
       omega)
    | (exfalso
       have q := mk_ptr hU (by assumption) (y3 : Int) (by omega) (by omega)
       first
         | omega
         | exact absurd (show slF a y3 0 = a + 1 + (y3 : Int) from rfl) (by assumption))
    | (exfalso
       have q := mk_raw hU (by assumption) (y3 : Int) (by omega) (by omega)
       omega)
    | (exfalso
       rename DifL _ _ _ _ _ => hd
       have q := dif_mk hU (by assumption) hd y3 (by omega)
       omega)
    | (exfalso
       have q := mk_ptr hU (by assumption) (y4 : Int) (by omega) (by omega)
       first
         | omega
         | exact absurd (show slF a y4 0 = a + 1 + (y4 : Int) from rfl) (by assumption))
    | (exfalso
       have q := mk_raw hU (by assumption) (y4 : Int) (by omega) (by omega)
       omega)
    | (exfalso
       rename DifL _ _ _ _ _ => hd
       have q := dif_mk hU (by assumption) hd y4 (by omega)
       omega)
    | (exfalso
       have q := mk_ptr hU (by assumption) (y5 : Int) (by omega) (by omega)
       first
         | omega
         | exact absurd (show slF a y5 0 = a + 1 + (y5 : Int) from rfl) (by assumption))
    | (exfalso
       have q := mk_raw hU (by assumption) (y5 : Int) (by omega) (by omega)
       omega)
    | (exfalso
       rename DifL _ _ _ _ _ => hd
       have q := dif_mk hU (by assumption) hd y5 (by omega)
       omega)
    | (exfalso
       have q := mk_ptr hU (by assumption) (y6 : Int) (by omega) (by omega)
       first
         | omega
         | exact absurd (show slF a y6 0 = a + 1 + (y6 : Int) from rfl) (by assumption))
    | (exfalso
       have q := mk_raw hU (by assumption) (y6 : Int) (by omega) (by omega)
       omega)
    | (exfalso
       rename DifL _ _ _ _ _ => hd
       have q := dif_mk hU (by assumption) hd y6 (by omega)
       omega)
    | (exfalso
       have q := mk_ptr hU (by assumption) (y7 : Int) (by omega) (by omega)
       first
         | omega
         | exact absurd (show slF a y7 0 = a + 1 + (y7 : Int) from rfl) (by assumption))
    | (exfalso
       have q := mk_raw hU (by assumption) (y7 : Int) (by omega) (by omega)
       omega)
    | (exfalso
       rename DifL _ _ _ _ _ => hd
       have q := dif_mk hU (by assumption) hd y7 (by omega)
       omega)
    | (exfalso
       have q := mk_ptr hU (by assumption) (y8 : Int) (by omega) (by omega)
       first
         | omega
         | exact absurd (show slF a y8 0 = a + 1 + (y8 : Int) from rfl) (by assumption))
    | (exfalso
       have q := mk_raw hU (by assumption) (y8 : Int) (by omega) (by omega)
       omega)
    | (exfalso
       rename DifL _ _ _ _ _ => hd
       have q := dif_mk hU (by assumption) hd y8 (by omega)
       omega)
    | (rename DifL _ _ _ _ _ => hd
       have q := dif_len hd
       omega)
    | (exfalso; omega)
end Go.Proofs.Ytfgeoglegebncaa.Fr
