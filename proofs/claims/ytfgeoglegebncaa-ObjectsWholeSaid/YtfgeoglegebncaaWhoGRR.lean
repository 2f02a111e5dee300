/-
  ObjectsWhole: the body. No project text.
-/
import Derived.Test.YtfgeoglegebncaaZ6
namespace Go.Proofs.Ytfgeoglegebncaa.Fr
set_option maxRecDepth 100000
set_option maxHeartbeats 4000000
open Go.Rx
open Go.RowKit (Below)
set_option linter.unusedVariables false

def lwhoGRR_nA (a : Int) (p : Int) (q : Int) : Ann := fun k tt ss => bif Nat.beq k 14 then some [{ α := Nat, T := fun k => ⟨tt.n, (18, .int .i64 (k : Int)) :: keepF [1, 5, 7, 10, 14, 16] tt.m⟩, S := fun _ => ss, I := fun k => k ≤ p.toNat ∧ 0 ≤ k, m := fun k => p.toNat - k, ρ0 := idR 0 ss.next, ρ1 := [idR 0 ss.next] }] else bif Nat.beq k 20 then some [{ α := Nat, T := fun k => ⟨tt.n, (21, .int .i64 (k : Int)) :: keepF [1, 5, 7, 10, 14, 16] tt.m⟩, S := fun _ => ss, I := fun k => k ≤ q.toNat ∧ 0 ≤ k, m := fun k => q.toNat - k, ρ0 := idR 0 ss.next, ρ1 := [idR 0 ss.next] }] else bif Nat.beq k 26 then some [{ α := Nat, T := fun k => ⟨tt.n, (24, .int .i64 (k : Int)) :: keepF [1, 5, 7, 10, 14, 16] tt.m⟩, S := fun _ => ss, I := fun k => k ≤ 0 ∧ 0 ≤ k, m := fun k => 0 - k, ρ0 := idR 0 ss.next, ρ1 := [idR 0 ss.next] }] else none
def lwhoGRR_rA (ew nw cw : Nat) (fw : RF) (a : Int) (p : Int) (q : Int) : Ann := fun k tt ss => bif Nat.beq k 14 then some [{ α := Nat, T := fun k => ⟨tt.n, (18, .int .i64 (k : Int)) :: keepF [1, 5, 7, 10, 14, 16] tt.m⟩, S := fun _ => ss, I := fun k => k ≤ p.toNat ∧ 0 ≤ k, m := fun k => p.toNat - k, ρ0 := idR 1 ss.next, ρ1 := [idR 1 ss.next] }] else bif Nat.beq k 20 then some [{ α := Nat, T := fun k => ⟨tt.n, (21, .int .i64 (k : Int)) :: keepF [1, 5, 7, 10, 14, 16] tt.m⟩, S := fun _ => ss, I := fun k => k ≤ q.toNat ∧ 0 ≤ k, m := fun k => q.toNat - k, ρ0 := idR 1 ss.next, ρ1 := [idR 1 ss.next] }] else bif Nat.beq k 26 then some [{ α := Nat, T := fun k => ⟨tt.n, (24, .int .i64 (k : Int)) :: keepF [1, 5, 7, 10, 14, 16] tt.m⟩, S := fun _ => ss, I := fun k => k ≤ nw ∧ 0 ≤ k, m := fun k => nw - k, ρ0 := idR 1 ss.next, ρ1 := [idR 1 ss.next] }] else none
def lwhoGRR_nV (a : Int) (p : Int) (q : Int) (K : Value → List Blk → Prop) : Prop := (T0 ∧ (TS ∧ (t6 (False))))
theorem lwhoGRR_nE (a : Int) (p : Int) (q : Int) (K : Value → List Blk → Prop) : lwhoGRR_nV a p q K = bodyX (mk X13GRR) (callN (mk X13GRR) 6) (lwhoGRR_nA a p q) Try.f13 [.slice none 0 0, .int .i64 a, .agg ⟨[.int .i64 p, .int .i64 q]⟩] (stOf []) fun v _ => v = .bool true := by kernel_rfl
set_option tactic.hygienic false in
theorem lwhoGRR_nP (a : Int) (p : Int) (q : Int) (K : Value → List Blk → Prop)  (hU : Ok64 0 zF) (h1 : mkE 0 zF a p q = 0) (h2 : 0 < p) (h3 : ¬ eqF 0 zF (mkF zF (Int.toNat a) (Int.toNat (1 + p + q)) (1 + 256 * p + 65536 * q))) : lwhoGRR_nV a p q K := by
  unfold lwhoGRR_nV
  have z0 := (fun h => mk_ok hU h : mkE 0 zF a p q = 0 → _)
  have z1 := (fun h => mk_no hU h : mkE 0 zF a p q = 0 → _)
  have z2 := obN_cases 0 (mkF zF (Int.toNat a) (Int.toNat (1 + p + q)) (1 + 256 * p + 65536 * q)) a
  have z3 := szn_cases p q
  repeat' (first | (with_reducible exact rfl) | (with_reducible exact trivial) | (with_reducible refine And.intro ?_ ?_) | (intro) | (with_reducible refine br_d (fun hq => ?_) (fun hq => ?_)) | (with_reducible refine br_nd (fun hq => ?_) (fun hq => ?_)) | (with_reducible refine br_intro (fun hq => ?_) (fun hq => ?_)) | (with_reducible refine if_both (fun hz => ?_) (fun hz => ?_)) | fail)
  all_goals try simp only [eqL] at *
  all_goals try (rename DifL _ _ _ _ _ => hd; have hdl := dif_len hd)
  all_goals first
    | (with_reducible assumption)
    | (refine (id ?_ : False)
       first
        | contradiction
        | exact ⟨0, (by (refine And.intro (And.intro rfl (And.intro rfl (And.intro rfl rfl))) ?_; (repeat' (first | exact trivial | exact rfl | exact fun _ _ _ _ => rfl | refine And.intro ?_ ?_ | omega | fail)); done)), by omega, by omega⟩
        | exact ⟨y0 + 1, (by (refine And.intro (And.intro rfl (And.intro rfl (And.intro rfl rfl))) ?_; (repeat' (first | exact trivial | exact rfl | exact fun _ _ _ _ => rfl | refine And.intro ?_ ?_ | omega | fail)); done)), ⟨by omega, by omega⟩, by omega⟩
        | exact ⟨y1 + 1, (by (refine And.intro (And.intro rfl (And.intro rfl (And.intro rfl rfl))) ?_; (repeat' (first | exact trivial | exact rfl | exact fun _ _ _ _ => rfl | refine And.intro ?_ ?_ | omega | fail)); done)), ⟨by omega, by omega⟩, by omega⟩
        | exact ⟨y2 + 1, (by (refine And.intro (And.intro rfl (And.intro rfl (And.intro rfl rfl))) ?_; (repeat' (first | exact trivial | exact rfl | exact fun _ _ _ _ => rfl | refine And.intro ?_ ?_ | omega | fail)); done)), ⟨by omega, by omega⟩, by omega⟩
        | exact ⟨y3 + 1, (by (refine And.intro (And.intro rfl (And.intro rfl (And.intro rfl rfl))) ?_; (repeat' (first | exact trivial | exact rfl | exact fun _ _ _ _ => rfl | refine And.intro ?_ ?_ | omega | fail)); done)), ⟨by omega, by omega⟩, by omega⟩
        | exact ⟨y4 + 1, (by (refine And.intro (And.intro rfl (And.intro rfl (And.intro rfl rfl))) ?_; (repeat' (first | exact trivial | exact rfl | exact fun _ _ _ _ => rfl | refine And.intro ?_ ?_ | omega | fail)); done)), ⟨by omega, by omega⟩, by omega⟩
        | exact ⟨y5 + 1, (by (refine And.intro (And.intro rfl (And.intro rfl (And.intro rfl rfl))) ?_; (repeat' (first | exact trivial | exact rfl | exact fun _ _ _ _ => rfl | refine And.intro ?_ ?_ | omega | fail)); done)), ⟨by omega, by omega⟩, by omega⟩
        | exact ⟨y6 + 1, (by (refine And.intro (And.intro rfl (And.intro rfl (And.intro rfl rfl))) ?_; (repeat' (first | exact trivial | exact rfl | exact fun _ _ _ _ => rfl | refine And.intro ?_ ?_ | omega | fail)); done)), ⟨by omega, by omega⟩, by omega⟩
        | exact ⟨y7 + 1, (by (refine And.intro (And.intro rfl (And.intro rfl (And.intro rfl rfl))) ?_; (repeat' (first | exact trivial | exact rfl | exact fun _ _ _ _ => rfl | refine And.intro ?_ ?_ | omega | fail)); done)), ⟨by omega, by omega⟩, by omega⟩
        | exact ⟨y8 + 1, (by (refine And.intro (And.intro rfl (And.intro rfl (And.intro rfl rfl))) ?_; (repeat' (first | exact trivial | exact rfl | exact fun _ _ _ _ => rfl | refine And.intro ?_ ?_ | omega | fail)); done)), ⟨by omega, by omega⟩, by omega⟩
        | exact (z0 (by assumption)).2.2.2.2.2.2.2.2.1
        | exact absurd (And.intro (by omega) (by omega)) (by assumption)
        | (exfalso
           have q := mk_ptr hU (by assumption) (y0 : Int) (by omega) (by omega)
           first
             | omega
             | exact absurd (show slF a y0 0 = a + 1 + (y0 : Int) from rfl) (by assumption))
        | (exfalso
           have q := mk_raw hU (by assumption) (y0 : Int) (by omega) (by omega)
           omega)
        | (exfalso
           rename DifL _ _ _ _ _ => hd
           have q := dif_mk hU (by assumption) hd y0 (by omega)
           omega)
        | (exfalso
           have q := mk_ptr hU (by assumption) (y1 : Int) (by omega) (by omega)
           first
             | omega
             | exact absurd (show slF a y1 0 = a + 1 + (y1 : Int) from rfl) (by assumption))
        | (exfalso
           have q := mk_raw hU (by assumption) (y1 : Int) (by omega) (by omega)
           omega)
        | (exfalso
           rename DifL _ _ _ _ _ => hd
           have q := dif_mk hU (by assumption) hd y1 (by omega)
           omega)
        | (exfalso
           have q := mk_ptr hU (by assumption) (y2 : Int) (by omega) (by omega)
           first
             | omega
             | exact absurd (show slF a y2 0 = a + 1 + (y2 : Int) from rfl) (by assumption))
        | (exfalso
           have q := mk_raw hU (by assumption) (y2 : Int) (by omega) (by omega)
           omega)
        | (exfalso
           rename DifL _ _ _ _ _ => hd
           have q := dif_mk hU (by assumption) hd y2 (by omega)
           omega)
        | (exfalso
           have q := mk_ptr hU (by assumption) (y3 : Int) (by omega) (by omega)
           first
             | omega
             | exact absurd (show slF a y3 0 = a + 1 + (y3 : Int) from rfl) (by assumption))
        | (exfalso
           have q := mk_raw hU (by assumption) (y3 : Int) (by omega) (by omega)
           omega)
        | (exfalso
           rename DifL _ _ _ _ _ => hd
           have q := dif_mk hU (by assumption) hd y3 (by omega)
           omega)
        | (exfalso
           have q := mk_ptr hU (by assumption) (y4 : Int) (by omega) (by omega)
           first
             | omega
             | exact absurd (show slF a y4 0 = a + 1 + (y4 : Int) from rfl) (by assumption))
        | (exfalso
           have q := mk_raw hU (by assumption) (y4 : Int) (by omega) (by omega)
           omega)
        | (exfalso
           rename DifL _ _ _ _ _ => hd
           have q := dif_mk hU (by assumption) hd y4 (by omega)
           omega)
        | (exfalso
           have q := mk_ptr hU (by assumption) (y5 : Int) (by omega) (by omega)
           first
             | omega
             | exact absurd (show slF a y5 0 = a + 1 + (y5 : Int) from rfl) (by assumption))
        | (exfalso
           have q := mk_raw hU (by assumption) (y5 : Int) (by omega) (by omega)
           omega)
        | (exfalso
           rename DifL _ _ _ _ _ => hd
           have q := dif_mk hU (by assumption) hd y5 (by omega)
           omega)
        | (exfalso
           have q := mk_ptr hU (by assumption) (y6 : Int) (by omega) (by omega)
           first
             | omega
             | exact absurd (show slF a y6 0 = a + 1 + (y6 : Int) from rfl) (by assumption))
        | (exfalso
           have q := mk_raw hU (by assumption) (y6 : Int) (by omega) (by omega)
           omega)
        | (exfalso
           rename DifL _ _ _ _ _ => hd
           have q := dif_mk hU (by assumption) hd y6 (by omega)
           omega)
        | (exfalso
           have q := mk_ptr hU (by assumption) (y7 : Int) (by omega) (by omega)
           first
             | omega
             | exact absurd (show slF a y7 0 = a + 1 + (y7 : Int) from rfl) (by assumption))
        | (exfalso
           have q := mk_raw hU (by assumption) (y7 : Int) (by omega) (by omega)
           omega)
        | (exfalso
           rename DifL _ _ _ _ _ => hd
           have q := dif_mk hU (by assumption) hd y7 (by omega)
           omega)
        | (exfalso
           have q := mk_ptr hU (by assumption) (y8 : Int) (by omega) (by omega)
           first
             | omega
             | exact absurd (show slF a y8 0 = a + 1 + (y8 : Int) from rfl) (by assumption))
        | (exfalso
           have q := mk_raw hU (by assumption) (y8 : Int) (by omega) (by omega)
           omega)
        | (exfalso
           rename DifL _ _ _ _ _ => hd
           have q := dif_mk hU (by assumption) hd y8 (by omega)
           omega)
        | (rename DifL _ _ _ _ _ => hd
           have q := dif_len hd
           omega)
        | (exfalso; omega)
       )
    | omega
    | contradiction
    | exact ⟨0, (by (refine And.intro (And.intro rfl (And.intro rfl (And.intro rfl rfl))) ?_; (repeat' (first | exact trivial | exact rfl | exact fun _ _ _ _ => rfl | refine And.intro ?_ ?_ | omega | fail)); done)), by omega, by omega⟩
    | exact ⟨y0 + 1, (by (refine And.intro (And.intro rfl (And.intro rfl (And.intro rfl rfl))) ?_; (repeat' (first | exact trivial | exact rfl | exact fun _ _ _ _ => rfl | refine And.intro ?_ ?_ | omega | fail)); done)), ⟨by omega, by omega⟩, by omega⟩
    | exact ⟨y1 + 1, (by (refine And.intro (And.intro rfl (And.intro rfl (And.intro rfl rfl))) ?_; (repeat' (first | exact trivial | exact rfl | exact fun _ _ _ _ => rfl | refine And.intro ?_ ?_ | omega | fail)); done)), ⟨by omega, by omega⟩, by omega⟩
    | exact ⟨y2 + 1, (by (refine And.intro (And.intro rfl (And.intro rfl (And.intro rfl rfl))) ?_; (repeat' (first | exact trivial | exact rfl | exact fun _ _ _ _ => rfl | refine And.intro ?_ ?_ | omega | fail)); done)), ⟨by omega, by omega⟩, by omega⟩
    | exact ⟨y3 + 1, (by (refine And.intro (And.intro rfl (And.intro rfl (And.intro rfl rfl))) ?_; (repeat' (first | exact trivial | exact rfl | exact fun _ _ _ _ => rfl | refine And.intro ?_ ?_ | omega | fail)); done)), ⟨by omega, by omega⟩, by omega⟩
    | exact ⟨y4 + 1, (by (refine And.intro (And.intro rfl (And.intro rfl (And.intro rfl rfl))) ?_; (repeat' (first | exact trivial | exact rfl | exact fun _ _ _ _ => rfl | refine And.intro ?_ ?_ | omega | fail)); done)), ⟨by omega, by omega⟩, by omega⟩
    | exact ⟨y5 + 1, (by (refine And.intro (And.intro rfl (And.intro rfl (And.intro rfl rfl))) ?_; (repeat' (first | exact trivial | exact rfl | exact fun _ _ _ _ => rfl | refine And.intro ?_ ?_ | omega | fail)); done)), ⟨by omega, by omega⟩, by omega⟩
    | exact ⟨y6 + 1, (by (refine And.intro (And.intro rfl (And.intro rfl (And.intro rfl rfl))) ?_; (repeat' (first | exact trivial | exact rfl | exact fun _ _ _ _ => rfl | refine And.intro ?_ ?_ | omega | fail)); done)), ⟨by omega, by omega⟩, by omega⟩
    | exact ⟨y7 + 1, (by (refine And.intro (And.intro rfl (And.intro rfl (And.intro rfl rfl))) ?_; (repeat' (first | exact trivial | exact rfl | exact fun _ _ _ _ => rfl | refine And.intro ?_ ?_ | omega | fail)); done)), ⟨by omega, by omega⟩, by omega⟩
    | exact ⟨y8 + 1, (by (refine And.intro (And.intro rfl (And.intro rfl (And.intro rfl rfl))) ?_; (repeat' (first | exact trivial | exact rfl | exact fun _ _ _ _ => rfl | refine And.intro ?_ ?_ | omega | fail)); done)), ⟨by omega, by omega⟩, by omega⟩
    | exact (z0 (by assumption)).2.2.2.2.2.2.2.2.1
    | exact absurd (And.intro (by omega) (by omega)) (by assumption)
    | (exfalso
       have q := mk_ptr hU (by assumption) (y0 : Int) (by omega) (by omega)
       first
         | omega
         | exact absurd (show slF a y0 0 = a + 1 + (y0 : Int) from rfl) (by assumption))
    | (exfalso
       have q := mk_raw hU (by assumption) (y0 : Int) (by omega) (by omega)
       omega)
    | (exfalso
       rename DifL _ _ _ _ _ => hd
       have q := dif_mk hU (by assumption) hd y0 (by omega)
       omega)
    | (exfalso
       have q := mk_ptr hU (by assumption) (y1 : Int) (by omega) (by omega)
       first
         | omega
         | exact absurd (show slF a y1 0 = a + 1 + (y1 : Int) from rfl) (by assumption))
    | (exfalso
       have q := mk_raw hU (by assumption) (y1 : Int) (by omega) (by omega)
       omega)
    | (exfalso
       rename DifL _ _ _ _ _ => hd
       have q := dif_mk hU (by assumption) hd y1 (by omega)
       omega)
    | (exfalso
       have q := mk_ptr hU (by assumption) (y2 : Int) (by omega) (by omega)
       first
         | omega
         | exact absurd (show slF a y2 0 = a + 1 + (y2 : Int) from rfl) (by assumption))
    | (exfalso
       have q := mk_raw hU (by assumption) (y2 : Int) (by omega) (by omega)
       omega)
    | (exfalso
       rename DifL _ _ _ _ _ => hd
       have q := dif_mk hU (by assumption) hd y2 (by omega)
       omega)
    | (exfalso
       have q := mk_ptr hU (by assumption) (y3 : Int) (by omega) (by omega)
       first
         | omega
         | exact absurd (show slF a y3 0 = a + 1 + (y3 : Int) from rfl) (by assumption))
    | (exfalso
       have q := mk_raw hU (by assumption) (y3 : Int) (by omega) (by omega)
       omega)
    | (exfalso
       rename DifL _ _ _ _ _ => hd
       have q := dif_mk hU (by assumption) hd y3 (by omega)
       omega)
    | (exfalso
       have q := mk_ptr hU (by assumption) (y4 : Int) (by omega) (by omega)
       first
         | omega
         | exact absurd (show slF a y4 0 = a + 1 + (y4 : Int) from rfl) (by assumption))
    | (exfalso
       have q := mk_raw hU (by assumption) (y4 : Int) (by omega) (by omega)
       omega)
    | (exfalso
       rename DifL _ _ _ _ _ => hd
       have q := dif_mk hU (by assumption) hd y4 (by omega)
       omega)
    | (exfalso
       have q := mk_ptr hU (by assumption) (y5 : Int) (by omega) (by omega)
       first
         | omega
         | exact absurd (show slF a y5 0 = a + 1 + (y5 : Int) from rfl) (by assumption))
    | (exfalso
       have q := mk_raw hU (by assumption) (y5 : Int) (by omega) (by omega)
       omega)
    | (exfalso
       rename DifL _ _ _ _ _ => hd
       have q := dif_mk hU (by assumption) hd y5 (by omega)
       omega)
    | (exfalso
       have q := mk_ptr hU (by assumption) (y6 : Int) (by omega) (by omega)
       first
         | omega
         | exact absurd (show slF a y6 0 = a + 1 + (y6 : Int) from rfl) (by assumption))
    | (exfalso
       have q := mk_raw hU (by assumption) (y6 : Int) (by omega) (by omega)
       omega)
    | (exfalso
       rename DifL _ _ _ _ _ => hd
       have q := dif_mk hU (by assumption) hd y6 (by omega)
       omega)
    | (exfalso
       have q := mk_ptr hU (by assumption) (y7 : Int) (by omega) (by omega)
       first
         | omega
         | exact absurd (show slF a y7 0 = a + 1 + (y7 : Int) from rfl) (by assumption))
    | (exfalso
       have q := mk_raw hU (by assumption) (y7 : Int) (by omega) (by omega)
       omega)
    | (exfalso
       rename DifL _ _ _ _ _ => hd
       have q := dif_mk hU (by assumption) hd y7 (by omega)
       omega)
    | (exfalso
       have q := mk_ptr hU (by assumption) (y8 : Int) (by omega) (by omega)
       first
         | omega
         | exact absurd (show slF a y8 0 = a + 1 + (y8 : Int) from rfl) (by assumption))
    | (exfalso
       have q := mk_raw hU (by assumption) (y8 : Int) (by omega) (by omega)
       omega)
    | (exfalso
       rename DifL _ _ _ _ _ => hd
       have q := dif_mk hU (by assumption) hd y8 (by omega)
       omega)
    | (rename DifL _ _ _ _ _ => hd
       have q := dif_len hd
       omega)
    | (exfalso; omega)
def lwhoGRR_rV (ew nw cw : Nat) (fw : RF) (a : Int) (p : Int) (q : Int) (K : Value → List Blk → Prop) : Prop := let q0 := ((0 : Nat) + nw ≤ nw); let q1 := (nw ≤ (100000 : Nat)); let q2 := ((1 : Nat), (1 : Nat)); let q3 := ((2 : Nat), (2 : Nat)); let q4 := ((3 : Nat), (3 : Nat)); let q5 := ((4 : Nat), (4 : Nat)); let q6 := ((5 : Nat), (5 : Nat)); let q7 := eB; let q8 := (9223372036854775807 : Int); let q9 := (1, vi a); let q10 := (-9223372036854775808 : Int); let q11 := (@Eq Nat ((1 : Nat)) ((1 : Nat))); let q12 := (@Eq Nat ((0 : Nat)) ((0 : Nat))); let q13 := ((1 : Nat), vi a); let q14 := TS; let q15 := (0, Blk.row true [IntKind.u64] ew nw cw fw); let q16 := (@Eq (Value) (Value.bool false) (Value.bool true)); let q17 := (@Eq (List IntKind) ([IntKind.u64]) ([IntKind.u64])); let q18 := (5, Value.pointer (some { block := (1 : Nat), off := (0 : Nat) })); let q19 := (q12 ∧ (q1 ∧ (nw ≤ cw))); let q20 := ((5 : Nat), Value.pointer (some { block := (1 : Nat), off := (0 : Nat) })); let q21 := (1, Blk.cells [vi p, vi q] (60 : Nat)); let q22 := (q14 ∧ q11); let q23 := ((@Eq (List Value) ([]) ([])) ∧ (@Eq (Value) (Value.bool true) (Value.bool true))); let q24 := (q17 ∧ ((@Eq Nat (nw) (nw)) ∧ (@Eq Nat (cw) (cw)))); let q25 := (mkF fw (Int.toNat a) (Int.toNat ((1 : Int) + p + q)) ((1 : Int) + (256 : Int) * p + (65536 : Int) * q)); let q26 := (Ok64 nw q25); let q27 := (obP nw q25 a); let q28 := (obR nw q25 a); let q29 := (obN nw q25 a); let q30 := (Int.toNat q27); let q31 := (↑q30 : Int); let q32 := (10, vi q29); let q33 := ((10 : Nat), vi q29); let q34 := (3, Blk.cells [vi q27, vi q28] (60 : Nat)); (T0 ∧ (q14 ∧ (T0 ∧ (if ((300 : Int) < (↑nw : Int)) then q23 else (T0 ∧ (q0 ∧ (t3 (q19 ∧ (q24 ∧ (q7 ∧ (((Ok64 nw fw) ∧ (@Eq Int (mkE nw fw a p q) ((0 : Int)))) ∧ (∀ y0 : Nat, let q35 := (7, rsl (2 : Nat) (0 : Nat) nw y0); let q36 := (q1 ∧ (nw ≤ y0)); let q37 := ((7 : Nat), rsl (2 : Nat) (0 : Nat) nw y0); let q38 := (q12 ∧ q36); let q39 := (q17 ∧ ((@Eq Nat (nw) (nw)) ∧ (@Eq Nat (y0) (y0)))); let q40 := (2, Blk.row false [IntKind.u64] (25 : Nat) nw y0 q25); ((nw ≤ y0) → (T0 ∧ (q0 ∧ (T0 ∧ (q38 ∧ (q39 ∧ (q7 ∧ (q26 ∧ (t2 (q0 ∧ (T0 ∧ (q38 ∧ (q39 ∧ (q7 ∧ (q26 ∧ (t3 (q7 ∧ ((True) ∧ (q0 ∧ (T0 ∧ (q38 ∧ (q39 ∧ (q7 ∧ ((q26 ∧ ((@Eq Int (obE nw q25 a) ((0 : Int))) ∧ ((0 : Int) < obP nw q25 a))) ∧ (∀ y1 : Nat, let q45 := (14, rsl (4 : Nat) (0 : Nat) q30 y1); let q46 := ((14 : Nat), rsl (4 : Nat) (0 : Nat) q30 y1); let q47 := (4, Blk.row false [IntKind.i64] (3 : Nat) q30 y1 (slF a)); ((Int.toNat q27 ≤ y1) → (q0 ∧ (q0 ∧ (q19 ∧ (q24 ∧ ((q11 ∧ q36) ∧ (q39 ∧ (q7 ∧ (((@Eq Int (arE nw fw) ((0 : Int))) ∧ ((@Eq Int (arE nw q25) ((0 : Int))) ∧ ((@Eq Nat (nw) (nw)) ∧ (¬eqF nw fw q25)))) ∧ (∀ y2 : Nat, (∀ y3 : Nat → Nat → Int, ((DifL nw fw q25 y2 y3) → (∀ y4 : Nat, let q42 := (16, rsl (5 : Nat) (0 : Nat) y2 y4); let q43 := ((16 : Nat), rsl (5 : Nat) (0 : Nat) y2 y4); let q44 := (5, Blk.row false [IntKind.i64] (3 : Nat) y2 y4 y3); ((y2 ≤ y4) → (T0 ∧ (if (@Eq Int (obE nw q25 a) ((0 : Int))) then (T0 ∧ (if (@Eq Int (obE nw q25 a) ((0 : Int))) then (T0 ∧ (if (@Eq Int (sze p q) ((0 : Int))) then (t4 (if (eqL [obP nw q25 a, obR nw q25 a] [p, q]) then (T0 ∧ (if (@Eq Int q29 (szn p q)) then (q14 ∧ (t2 (if (@Eq Int (q31) (p)) then ((∃ y5 : Nat, ((Go.Rx.Sub 1 [q2, q3, q4, q5, q6] ⟨214, [(18, vi (0 : Int)), q42, q45, q32, q35, q18, q9]⟩ ⟨[q44, q47, q34, q40, q21, q15], 6⟩ ({ n := (214 : Nat), m := [((18 : Nat), vi (↑y5 : Int)), q43, q46, q33, q37, q20, q13] }) ({ h := [((5 : Nat), Blk.row false [IntKind.i64] (3 : Nat) y2 y4 y3), ((4 : Nat), Blk.row false [IntKind.i64] (3 : Nat) q30 y1 (slF a)), ((3 : Nat), Blk.cells [vi q27, vi q28] (60 : Nat)), ((2 : Nat), Blk.row false [IntKind.u64] (25 : Nat) nw y0 q25), ((1 : Nat), Blk.cells [vi p, vi q] (60 : Nat)), ((0 : Nat), Blk.row true [IntKind.u64] ew nw cw fw)], next := (6 : Nat) })) ∧ ((y5 ≤ Int.toNat p) ∧ ((0 : Nat) ≤ y5)))) ∧ (∀ y5 : Nat, (((y5 ≤ Int.toNat p) ∧ ((0 : Nat) ≤ y5)) → (q14 ∧ (T0 ∧ (if ((↑y5 : Int) < q31) then (q0 ∧ (t2 (q38 ∧ (q39 ∧ (q7 ∧ (q26 ∧ (q22 ∧ ((((0 : Int) ≤ (↑y5 : Int)) ∧ ((↑y5 : Int) < q31)) ∧ ((y5 < Int.toNat q27) ∧ (T0 ∧ (((q10 ≤ a + (1 : Int)) ∧ (a + (1 : Int) ≤ q8)) ∧ (T0 ∧ (((q10 ≤ a + (1 : Int) + (↑y5 : Int)) ∧ (a + (1 : Int) + (↑y5 : Int) ≤ q8)) ∧ (T0 ∧ (if (@Eq Int (slF a y5 (0 : Nat)) (a + (1 : Int) + (↑y5 : Int))) then (T0 ∧ (if (@Eq Int (ptE nw q25 a (↑y5 : Int)) ((0 : Int))) then (T0 ∧ (if (@Eq Int (ptV nw q25 a (↑y5 : Int)) ((0 : Int))) then (T0 ∧ (((q10 ≤ (↑y5 : Int) + (1 : Int)) ∧ ((↑y5 : Int) + (1 : Int) ≤ q8)) ∧ (∃ y6 : Nat, ((Go.Rx.Sub 1 [q2, q3, q4, q5, q6] ⟨214, [(18, vi ((↑y5 : Int) + (1 : Int))), q42, q45, q32, q35, q18, q9]⟩ ⟨[q44, q47, q34, q40, q21, q15], 6⟩ ({ n := (214 : Nat), m := [((18 : Nat), vi (↑y6 : Int)), q43, q46, q33, q37, q20, q13] }) ({ h := [((5 : Nat), Blk.row false [IntKind.i64] (3 : Nat) y2 y4 y3), ((4 : Nat), Blk.row false [IntKind.i64] (3 : Nat) q30 y1 (slF a)), ((3 : Nat), Blk.cells [vi q27, vi q28] (60 : Nat)), ((2 : Nat), Blk.row false [IntKind.u64] (25 : Nat) nw y0 q25), ((1 : Nat), Blk.cells [vi p, vi q] (60 : Nat)), ((0 : Nat), Blk.row true [IntKind.u64] ew nw cw fw)], next := (6 : Nat) })) ∧ (((y6 ≤ Int.toNat p) ∧ ((0 : Nat) ≤ y6)) ∧ (Int.toNat p - y6 < Int.toNat p - y5)))))) else q16)) else q16)) else q16))))))))))))))) else ((∃ y6 : Nat, ((Go.Rx.Sub 1 [q2, q3, q4, q5, q6] ⟨214, [(21, vi (0 : Int)), q42, q45, q32, q35, q18, q9]⟩ ⟨[q44, q47, q34, q40, q21, q15], 6⟩ ({ n := (214 : Nat), m := [((21 : Nat), vi (↑y6 : Int)), q43, q46, q33, q37, q20, q13] }) ({ h := [((5 : Nat), Blk.row false [IntKind.i64] (3 : Nat) y2 y4 y3), ((4 : Nat), Blk.row false [IntKind.i64] (3 : Nat) q30 y1 (slF a)), ((3 : Nat), Blk.cells [vi q27, vi q28] (60 : Nat)), ((2 : Nat), Blk.row false [IntKind.u64] (25 : Nat) nw y0 q25), ((1 : Nat), Blk.cells [vi p, vi q] (60 : Nat)), ((0 : Nat), Blk.row true [IntKind.u64] ew nw cw fw)], next := (6 : Nat) })) ∧ ((y6 ≤ Int.toNat q) ∧ ((0 : Nat) ≤ y6)))) ∧ (∀ y6 : Nat, (((y6 ≤ Int.toNat q) ∧ ((0 : Nat) ≤ y6)) → (t2 (if ((↑y6 : Int) < q) then (q0 ∧ (t2 (q38 ∧ (q39 ∧ (q7 ∧ (q26 ∧ (T0 ∧ (if (@Eq Int (rwE nw q25 a (↑y6 : Int)) ((0 : Int))) then (T0 ∧ (if (@Eq Int (rwV nw q25 a (↑y6 : Int)) ((0 : Int))) then (T0 ∧ (((q10 ≤ (↑y6 : Int) + (1 : Int)) ∧ ((↑y6 : Int) + (1 : Int) ≤ q8)) ∧ (∃ y7 : Nat, ((Go.Rx.Sub 1 [q2, q3, q4, q5, q6] ⟨214, [(21, vi ((↑y6 : Int) + (1 : Int))), q42, q45, q32, q35, q18, q9]⟩ ⟨[q44, q47, q34, q40, q21, q15], 6⟩ ({ n := (214 : Nat), m := [((21 : Nat), vi (↑y7 : Int)), q43, q46, q33, q37, q20, q13] }) ({ h := [((5 : Nat), Blk.row false [IntKind.i64] (3 : Nat) y2 y4 y3), ((4 : Nat), Blk.row false [IntKind.i64] (3 : Nat) q30 y1 (slF a)), ((3 : Nat), Blk.cells [vi q27, vi q28] (60 : Nat)), ((2 : Nat), Blk.row false [IntKind.u64] (25 : Nat) nw y0 q25), ((1 : Nat), Blk.cells [vi p, vi q] (60 : Nat)), ((0 : Nat), Blk.row true [IntKind.u64] ew nw cw fw)], next := (6 : Nat) })) ∧ (((y7 ≤ Int.toNat q) ∧ ((0 : Nat) ≤ y7)) ∧ (Int.toNat q - y7 < Int.toNat q - y6)))))) else q16)) else q16)))))))) else ((∃ y7 : Nat, ((Go.Rx.Sub 1 [q2, q3, q4, q5, q6] ⟨214, [(24, vi (0 : Int)), q42, q45, q32, q35, q18, q9]⟩ ⟨[q44, q47, q34, q40, q21, q15], 6⟩ ({ n := (214 : Nat), m := [((24 : Nat), vi (↑y7 : Int)), q43, q46, q33, q37, q20, q13] }) ({ h := [((5 : Nat), Blk.row false [IntKind.i64] (3 : Nat) y2 y4 y3), ((4 : Nat), Blk.row false [IntKind.i64] (3 : Nat) q30 y1 (slF a)), ((3 : Nat), Blk.cells [vi q27, vi q28] (60 : Nat)), ((2 : Nat), Blk.row false [IntKind.u64] (25 : Nat) nw y0 q25), ((1 : Nat), Blk.cells [vi p, vi q] (60 : Nat)), ((0 : Nat), Blk.row true [IntKind.u64] ew nw cw fw)], next := (6 : Nat) })) ∧ ((y7 ≤ nw) ∧ ((0 : Nat) ≤ y7)))) ∧ (∀ y7 : Nat, let q41 := (((0 : Int) ≤ (↑y7 : Int)) ∧ ((↑y7 : Int) < (↑y2 : Int))); (((y7 ≤ nw) ∧ ((0 : Nat) ≤ y7)) → (q14 ∧ (T0 ∧ (if ((↑y7 : Int) < (↑y2 : Int)) then (q22 ∧ (q41 ∧ ((y7 < y2) ∧ (T0 ∧ (if (y3 y7 (0 : Nat) < a) then q16 else (q22 ∧ (q41 ∧ ((y7 < y2) ∧ (T0 ∧ (((q10 ≤ a + obN nw q25 a) ∧ (a + obN nw q25 a ≤ q8)) ∧ (T0 ∧ (if (a + obN nw q25 a ≤ y3 y7 (0 : Nat)) then q16 else (T0 ∧ (((q10 ≤ (↑y7 : Int) + (1 : Int)) ∧ ((↑y7 : Int) + (1 : Int) ≤ q8)) ∧ (∃ y8 : Nat, ((Go.Rx.Sub 1 [q2, q3, q4, q5, q6] ⟨214, [(24, vi ((↑y7 : Int) + (1 : Int))), q42, q45, q32, q35, q18, q9]⟩ ⟨[q44, q47, q34, q40, q21, q15], 6⟩ ({ n := (214 : Nat), m := [((24 : Nat), vi (↑y8 : Int)), q43, q46, q33, q37, q20, q13] }) ({ h := [((5 : Nat), Blk.row false [IntKind.i64] (3 : Nat) y2 y4 y3), ((4 : Nat), Blk.row false [IntKind.i64] (3 : Nat) q30 y1 (slF a)), ((3 : Nat), Blk.cells [vi q27, vi q28] (60 : Nat)), ((2 : Nat), Blk.row false [IntKind.u64] (25 : Nat) nw y0 q25), ((1 : Nat), Blk.cells [vi p, vi q] (60 : Nat)), ((0 : Nat), Blk.row true [IntKind.u64] ew nw cw fw)], next := (6 : Nat) })) ∧ (((y8 ≤ nw) ∧ ((0 : Nat) ≤ y8)) ∧ (nw - y8 < nw - y7)))))))))))))))))) else (T0 ∧ (q0 ∧ (t2 (q38 ∧ (q39 ∧ (q7 ∧ (q26 ∧ (T0 ∧ (q0 ∧ (t2 (q38 ∧ (q39 ∧ (q7 ∧ (q26 ∧ (q0 ∧ (t2 (q38 ∧ (q39 ∧ (q7 ∧ (q26 ∧ (T0 ∧ (if (@Eq Int (ptE nw q25 a p) ((10 : Int))) then (T0 ∧ (if (@Eq Int (rwE nw q25 a q) ((10 : Int))) then (T0 ∧ (if (@Eq Int (rwE nw q25 a (-1 : Int)) ((10 : Int))) then q23 else q16)) else q16)) else q16))))))))))))))))))))))))))))))))))))))) else q16))) else q16)) else q16)) else q16)) else q16)) else q16)))))))))))))))))))))))))))))))))))))))))))))))))))))
theorem lwhoGRR_rE (ew nw cw : Nat) (fw : RF) (a : Int) (p : Int) (q : Int) (K : Value → List Blk → Prop) : lwhoGRR_rV ew nw cw fw a p q K = bodyX (mk X13GRR) (callN (mk X13GRR) 6) (lwhoGRR_rA ew nw cw fw a p q) Try.f13 [rsl 0 0 nw cw, .int .i64 a, .agg ⟨[.int .i64 p, .int .i64 q]⟩] (stOf [.row true [.u64] ew nw cw fw]) fun v _ => v = .bool true := by kernel_rfl
set_option tactic.hygienic false in
theorem lwhoGRR_rP (ew nw cw : Nat) (fw : RF) (a : Int) (p : Int) (q : Int) (K : Value → List Blk → Prop)  (hcw : nw ≤ cw) (hU : Ok64 nw fw) (h1 : mkE nw fw a p q = 0) (h2 : 0 < p) (h3 : ¬ eqF nw fw (mkF fw (Int.toNat a) (Int.toNat (1 + p + q)) (1 + 256 * p + 65536 * q))) : lwhoGRR_rV ew nw cw fw a p q K := by
  unfold lwhoGRR_rV
  conv => zeta
  have z0 := (fun h => mk_ok hU h : mkE nw fw a p q = 0 → _)
  have z1 := (fun h => mk_no hU h : mkE nw fw a p q = 0 → _)
  have z2 := obN_cases nw (mkF fw (Int.toNat a) (Int.toNat (1 + p + q)) (1 + 256 * p + 65536 * q)) a
  have z3 := szn_cases p q
  repeat' (first | (with_reducible exact rfl) | (with_reducible exact trivial) | (with_reducible refine And.intro ?_ ?_) | (intro) | (with_reducible refine br_d (fun hq => ?_) (fun hq => ?_)) | (with_reducible refine br_nd (fun hq => ?_) (fun hq => ?_)) | (with_reducible refine br_intro (fun hq => ?_) (fun hq => ?_)) | (with_reducible refine if_both (fun hz => ?_) (fun hz => ?_)) | fail)
  all_goals try simp only [eqL] at *
  all_goals try (rename DifL _ _ _ _ _ => hd; have hdl := dif_len hd)
  all_goals first
    | (with_reducible assumption)
    | (refine (id ?_ : False)
       first
        | contradiction
        | exact ⟨0, (by (refine And.intro (And.intro rfl (And.intro rfl (And.intro rfl rfl))) ?_; (repeat' (first | exact trivial | exact rfl | exact fun _ _ _ _ => rfl | refine And.intro ?_ ?_ | omega | fail)); done)), by omega, by omega⟩
        | exact ⟨y0 + 1, (by (refine And.intro (And.intro rfl (And.intro rfl (And.intro rfl rfl))) ?_; (repeat' (first | exact trivial | exact rfl | exact fun _ _ _ _ => rfl | refine And.intro ?_ ?_ | omega | fail)); done)), ⟨by omega, by omega⟩, by omega⟩
        | exact ⟨y1 + 1, (by (refine And.intro (And.intro rfl (And.intro rfl (And.intro rfl rfl))) ?_; (repeat' (first | exact trivial | exact rfl | exact fun _ _ _ _ => rfl | refine And.intro ?_ ?_ | omega | fail)); done)), ⟨by omega, by omega⟩, by omega⟩
        | exact ⟨y2 + 1, (by (refine And.intro (And.intro rfl (And.intro rfl (And.intro rfl rfl))) ?_; (repeat' (first | exact trivial | exact rfl | exact fun _ _ _ _ => rfl | refine And.intro ?_ ?_ | omega | fail)); done)), ⟨by omega, by omega⟩, by omega⟩
        | exact ⟨y3 + 1, (by (refine And.intro (And.intro rfl (And.intro rfl (And.intro rfl rfl))) ?_; (repeat' (first | exact trivial | exact rfl | exact fun _ _ _ _ => rfl | refine And.intro ?_ ?_ | omega | fail)); done)), ⟨by omega, by omega⟩, by omega⟩
        | exact ⟨y4 + 1, (by (refine And.intro (And.intro rfl (And.intro rfl (And.intro rfl rfl))) ?_; (repeat' (first | exact trivial | exact rfl | exact fun _ _ _ _ => rfl | refine And.intro ?_ ?_ | omega | fail)); done)), ⟨by omega, by omega⟩, by omega⟩
        | exact ⟨y5 + 1, (by (refine And.intro (And.intro rfl (And.intro rfl (And.intro rfl rfl))) ?_; (repeat' (first | exact trivial | exact rfl | exact fun _ _ _ _ => rfl | refine And.intro ?_ ?_ | omega | fail)); done)), ⟨by omega, by omega⟩, by omega⟩
        | exact ⟨y6 + 1, (by (refine And.intro (And.intro rfl (And.intro rfl (And.intro rfl rfl))) ?_; (repeat' (first | exact trivial | exact rfl | exact fun _ _ _ _ => rfl | refine And.intro ?_ ?_ | omega | fail)); done)), ⟨by omega, by omega⟩, by omega⟩
        | exact ⟨y7 + 1, (by (refine And.intro (And.intro rfl (And.intro rfl (And.intro rfl rfl))) ?_; (repeat' (first | exact trivial | exact rfl | exact fun _ _ _ _ => rfl | refine And.intro ?_ ?_ | omega | fail)); done)), ⟨by omega, by omega⟩, by omega⟩
        | exact ⟨y8 + 1, (by (refine And.intro (And.intro rfl (And.intro rfl (And.intro rfl rfl))) ?_; (repeat' (first | exact trivial | exact rfl | exact fun _ _ _ _ => rfl | refine And.intro ?_ ?_ | omega | fail)); done)), ⟨by omega, by omega⟩, by omega⟩
        | exact (z0 (by assumption)).2.2.2.2.2.2.2.2.1
        | exact absurd (And.intro (by omega) (by omega)) (by assumption)
        | (exfalso
           have q := mk_ptr hU (by assumption) (y0 : Int) (by omega) (by omega)
           first
             | omega
             | exact absurd (show slF a y0 0 = a + 1 + (y0 : Int) from rfl) (by assumption))
        | (exfalso
           have q := mk_raw hU (by assumption) (y0 : Int) (by omega) (by omega)
           omega)
        | (exfalso
           rename DifL _ _ _ _ _ => hd
           have q := dif_mk hU (by assumption) hd y0 (by omega)
           omega)
        | (exfalso
           have q := mk_ptr hU (by assumption) (y1 : Int) (by omega) (by omega)
           first
             | omega
             | exact absurd (show slF a y1 0 = a + 1 + (y1 : Int) from rfl) (by assumption))
        | (exfalso
           have q := mk_raw hU (by assumption) (y1 : Int) (by omega) (by omega)
           omega)
        | (exfalso
           rename DifL _ _ _ _ _ => hd
           have q := dif_mk hU (by assumption) hd y1 (by omega)
           omega)
        | (exfalso
           have q := mk_ptr hU (by assumption) (y2 : Int) (by omega) (by omega)
           first
             | omega
             | exact absurd (show slF a y2 0 = a + 1 + (y2 : Int) from rfl) (by assumption))
        | (exfalso
           have q := mk_raw hU (by assumption) (y2 : Int) (by omega) (by omega)
           omega)
        | (exfalso
           rename DifL _ _ _ _ _ => hd
           have q := dif_mk hU (by assumption) hd y2 (by omega)
           omega)
        | (exfalso
           have q := mk_ptr hU (by assumption) (y3 : Int) (by omega) (by omega)
           first
             | omega
             | exact absurd (show slF a y3 0 = a + 1 + (y3 : Int) from rfl) (by assumption))
        | (exfalso
           have q := mk_raw hU (by assumption) (y3 : Int) (by omega) (by omega)
           omega)
        | (exfalso
           rename DifL _ _ _ _ _ => hd
           have q := dif_mk hU (by assumption) hd y3 (by omega)
           omega)
        | (exfalso
           have q := mk_ptr hU (by assumption) (y4 : Int) (by omega) (by omega)
           first
             | omega
             | exact absurd (show slF a y4 0 = a + 1 + (y4 : Int) from rfl) (by assumption))
        | (exfalso
           have q := mk_raw hU (by assumption) (y4 : Int) (by omega) (by omega)
           omega)
        | (exfalso
           rename DifL _ _ _ _ _ => hd
           have q := dif_mk hU (by assumption) hd y4 (by omega)
           omega)
        | (exfalso
           have q := mk_ptr hU (by assumption) (y5 : Int) (by omega) (by omega)
           first
             | omega
             | exact absurd (show slF a y5 0 = a + 1 + (y5 : Int) from rfl) (by assumption))
        | (exfalso
           have q := mk_raw hU (by assumption) (y5 : Int) (by omega) (by omega)
           omega)
        | (exfalso
           rename DifL _ _ _ _ _ => hd
           have q := dif_mk hU (by assumption) hd y5 (by omega)
           omega)
        | (exfalso
           have q := mk_ptr hU (by assumption) (y6 : Int) (by omega) (by omega)
           first
             | omega
             | exact absurd (show slF a y6 0 = a + 1 + (y6 : Int) from rfl) (by assumption))
        | (exfalso
           have q := mk_raw hU (by assumption) (y6 : Int) (by omega) (by omega)
           omega)
        | (exfalso
           rename DifL _ _ _ _ _ => hd
           have q := dif_mk hU (by assumption) hd y6 (by omega)
           omega)
        | (exfalso
           have q := mk_ptr hU (by assumption) (y7 : Int) (by omega) (by omega)
           first
             | omega
             | exact absurd (show slF a y7 0 = a + 1 + (y7 : Int) from rfl) (by assumption))
        | (exfalso
           have q := mk_raw hU (by assumption) (y7 : Int) (by omega) (by omega)
           omega)
        | (exfalso
           rename DifL _ _ _ _ _ => hd
           have q := dif_mk hU (by assumption) hd y7 (by omega)
           omega)
        | (exfalso
           have q := mk_ptr hU (by assumption) (y8 : Int) (by omega) (by omega)
           first
             | omega
             | exact absurd (show slF a y8 0 = a + 1 + (y8 : Int) from rfl) (by assumption))
        | (exfalso
           have q := mk_raw hU (by assumption) (y8 : Int) (by omega) (by omega)
           omega)
        | (exfalso
           rename DifL _ _ _ _ _ => hd
           have q := dif_mk hU (by assumption) hd y8 (by omega)
           omega)
        | (rename DifL _ _ _ _ _ => hd
           have q := dif_len hd
           omega)
        | (exfalso; omega)
       )
    | omega
    | contradiction
    | exact ⟨0, (by (refine And.intro (And.intro rfl (And.intro rfl (And.intro rfl rfl))) ?_; (repeat' (first | exact trivial | exact rfl | exact fun _ _ _ _ => rfl | refine And.intro ?_ ?_ | omega | fail)); done)), by omega, by omega⟩
    | exact ⟨y0 + 1, (by (refine And.intro (And.intro rfl (And.intro rfl (And.intro rfl rfl))) ?_; (repeat' (first | exact trivial | exact rfl | exact fun _ _ _ _ => rfl | refine And.intro ?_ ?_ | omega | fail)); done)), ⟨by omega, by omega⟩, by omega⟩
    | exact ⟨y1 + 1, (by (refine And.intro (And.intro rfl (And.intro rfl (And.intro rfl rfl))) ?_; (repeat' (first | exact trivial | exact rfl | exact fun _ _ _ _ => rfl | refine And.intro ?_ ?_ | omega | fail)); done)), ⟨by omega, by omega⟩, by omega⟩
    | exact ⟨y2 + 1, (by (refine And.intro (And.intro rfl (And.intro rfl (And.intro rfl rfl))) ?_; (repeat' (first | exact trivial | exact rfl | exact fun _ _ _ _ => rfl | refine And.intro ?_ ?_ | omega | fail)); done)), ⟨by omega, by omega⟩, by omega⟩
    | exact ⟨y3 + 1, (by (refine And.intro (And.intro rfl (And.intro rfl (And.intro rfl rfl))) ?_; (repeat' (first | exact trivial | exact rfl | exact fun _ _ _ _ => rfl | refine And.intro ?_ ?_ | omega | fail)); done)), ⟨by omega, by omega⟩, by omega⟩
    | exact ⟨y4 + 1, (by (refine And.intro (And.intro rfl (And.intro rfl (And.intro rfl rfl))) ?_; (repeat' (first | exact trivial | exact rfl | exact fun _ _ _ _ => rfl | refine And.intro ?_ ?_ | omega | fail)); done)), ⟨by omega, by omega⟩, by omega⟩
    | exact ⟨y5 + 1, (by (refine And.intro (And.intro rfl (And.intro rfl (And.intro rfl rfl))) ?_; (repeat' (first | exact trivial | exact rfl | exact fun _ _ _ _ => rfl | refine And.intro ?_ ?_ | omega | fail)); done)), ⟨by omega, by omega⟩, by omega⟩
    | exact ⟨y6 + 1, (by (refine And.intro (And.intro rfl (And.intro rfl (And.intro rfl rfl))) ?_; (repeat' (first | exact trivial | exact rfl | exact fun _ _ _ _ => rfl | refine And.intro ?_ ?_ | omega | fail)); done)), ⟨by omega, by omega⟩, by omega⟩
    | exact ⟨y7 + 1, (by (refine And.intro (And.intro rfl (And.intro rfl (And.intro rfl rfl))) ?_; (repeat' (first | exact trivial | exact rfl | exact fun _ _ _ _ => rfl | refine And.intro ?_ ?_ | omega | fail)); done)), ⟨by omega, by omega⟩, by omega⟩
    | exact ⟨y8 + 1, (by (refine And.intro (And.intro rfl (And.intro rfl (And.intro rfl rfl))) ?_; (repeat' (first | exact trivial | exact rfl | exact fun _ _ _ _ => rfl | refine And.intro ?_ ?_ | omega | fail)); done)), ⟨by omega, by omega⟩, by omega⟩
    | exact (z0 (by assumption)).2.2.2.2.2.2.2.2.1
    | exact absurd (And.intro (by omega) (by omega)) (by assumption)
    | (exfalso
       have q := mk_ptr hU (by assumption) (y0 : Int) (by omega) (by omega)
       first
         | omega
         | exact absurd (show slF a y0 0 = a + 1 + (y0 : Int) from rfl) (by assumption))
    | (exfalso
       have q := mk_raw hU (by assumption) (y0 : Int) (by omega) (by omega)
       omega)
    | (exfalso
       rename DifL _ _ _ _ _ => hd
       have q := dif_mk hU (by assumption) hd y0 (by omega)
       omega)
    | (exfalso
       have q := mk_ptr hU (by assumption) (y1 : Int) (by omega) (by omega)
       first
         | omega
         | exact absurd (show slF a y1 0 = a + 1 + (y1 : Int) from rfl) (by assumption))
    | (exfalso
       have q := mk_raw hU (by assumption) (y1 : Int) (by omega) (by omega)
       omega)
    | (exfalso
       rename DifL _ _ _ _ _ => hd
       have q := dif_mk hU (by assumption) hd y1 (by omega)
       omega)
    | (exfalso
       have q := mk_ptr hU (by assumption) (y2 : Int) (by omega) (by omega)
       first
         | omega
         | exact absurd (show slF a y2 0 = a + 1 + (y2 : Int) from rfl) (by assumption))
    | (exfalso
       have q := mk_raw hU (by assumption) (y2 : Int) (by omega) (by omega)
       omega)
    | (exfalso
       rename DifL _ _ _ _ _ => hd
       have q := dif_mk hU (by assumption) hd y2 (by omega)
       omega)
    | (exfalso
       have q := mk_ptr hU (by assumption) (y3 : Int) (by omega) (by omega)
       first
         | omega
         | exact absurd (show slF a y3 0 = a + 1 + (y3 : Int) from rfl) (by assumption))
    | (exfalso
       have q := mk_raw hU (by assumption) (y3 : Int) (by omega) (by omega)
       omega)
    | (exfalso
       rename DifL _ _ _ _ _ => hd
       have q := dif_mk hU (by assumption) hd y3 (by omega)
       omega)
    | (exfalso
       have q := mk_ptr hU (by assumption) (y4 : Int) (by omega) (by omega)
       first
         | omega
         | exact absurd (show slF a y4 0 = a + 1 + (y4 : Int) from rfl) (by assumption))
    | (exfalso
       have q := mk_raw hU (by assumption) (y4 : Int) (by omega) (by omega)
       omega)
    | (exfalso
       rename DifL _ _ _ _ _ => hd
       have q := dif_mk hU (by assumption) hd y4 (by omega)
       omega)
    | (exfalso
       have q := mk_ptr hU (by assumption) (y5 : Int) (by omega) (by omega)
       first
         | omega
         | exact absurd (show slF a y5 0 = a + 1 + (y5 : Int) from rfl) (by assumption))
    | (exfalso
       have q := mk_raw hU (by assumption) (y5 : Int) (by omega) (by omega)
       omega)
    | (exfalso
       rename DifL _ _ _ _ _ => hd
       have q := dif_mk hU (by assumption) hd y5 (by omega)
       omega)
    | (exfalso
       have q := mk_ptr hU (by assumption) (y6 : Int) (by omega) (by omega)
       first
         | omega
         | exact absurd (show slF a y6 0 = a + 1 + (y6 : Int) from rfl) (by assumption))
    | (exfalso
       have q := mk_raw hU (by assumption) (y6 : Int) (by omega) (by omega)
       omega)
    | (exfalso
       rename DifL _ _ _ _ _ => hd
       have q := dif_mk hU (by assumption) hd y6 (by omega)
       omega)
    | (exfalso
       have q := mk_ptr hU (by assumption) (y7 : Int) (by omega) (by omega)
       first
         | omega
         | exact absurd (show slF a y7 0 = a + 1 + (y7 : Int) from rfl) (by assumption))
    | (exfalso
       have q := mk_raw hU (by assumption) (y7 : Int) (by omega) (by omega)
       omega)
    | (exfalso
       rename DifL _ _ _ _ _ => hd
       have q := dif_mk hU (by assumption) hd y7 (by omega)
       omega)
    | (exfalso
       have q := mk_ptr hU (by assumption) (y8 : Int) (by omega) (by omega)
       first
         | omega
         | exact absurd (show slF a y8 0 = a + 1 + (y8 : Int) from rfl) (by assumption))
    | (exfalso
       have q := mk_raw hU (by assumption) (y8 : Int) (by omega) (by omega)
       omega)
    | (exfalso
       rename DifL _ _ _ _ _ => hd
       have q := dif_mk hU (by assumption) hd y8 (by omega)
       omega)
    | (rename DifL _ _ _ _ _ => hd
       have q := dif_len hd
       omega)
    | (exfalso; omega)
end Go.Proofs.Ytfgeoglegebncaa.Fr
