/-
  AdmitSums: the body. No project text.
-/
import Derived.Test.YtnpgeeajlbglaaaHa5
namespace Go.Proofs.Ytnpgeeajlbglaaa.Fr
open Go.Rx
open Go.RowKit (Below)
set_option linter.unusedVariables false

def lsumA_nA (a b c d e : Int) (o : Int) (l : Int) : Ann := fun _ _ _ => none
def lsumA_rA (a b c d e : Int) (er nr cr : Nat) (fr : RF) (o : Int) (l : Int) : Ann := fun _ _ _ => none

def lsumB_nA (a b c d e : Int) (o : Int) (l : Int) : Ann := fun _ _ _ => none
def lsumB_rA (a b c d e : Int) (er nr cr : Nat) (fr : RF) (o : Int) (l : Int) : Ann := fun _ _ _ => none

def lsumG_nA (a b c d e : Int) (o : Int) (l : Int) : Ann := fun k tt ss => bif Nat.beq k 11 then some [{ α := Nat, T := fun k => ⟨165, [(2, .slice none 0 0), (3, .pointer (some ⟨0, 0, none⟩)), (4, .pointer (some ⟨1, 0, none⟩)), (7, .int .i64 ((rrn a b c d e o l 0 zF).1)), (8, .int .i64 ((rrn a b c d e o l 0 zF).2)), (9, .int .i64 (slv a b c d e o)), (11, .int .i64 (sm zF k)), (12, .int .i64 (k : Int))]⟩, S := fun _ => ⟨[(1, .cells [.int .i64 o, .int .i64 l] 56), (0, .cells [.int .i64 a, .int .i64 b, .int .i64 c, .int .i64 d, .int .i64 e] 54)], 2⟩, I := fun k => (k : Int) ≤ (rrn a b c d e o l 0 zF).1 ∧ 0 ≤ k, m := fun k => Int.toNat ((rrn a b c d e o l 0 zF).1) - k, ρ0 := [(0, 0), (1, 1)], ρ1 := [[(0, 0), (1, 1)]] }] else bif Nat.beq k 23 then some [{ α := Nat, T := fun k => ⟨165, [(2, .slice none 0 0), (3, .pointer (some ⟨0, 0, none⟩)), (4, .pointer (some ⟨1, 0, none⟩)), (7, .int .i64 ((rrn a b c d e o l 0 zF).1)), (8, .int .i64 ((rrn a b c d e o l 0 zF).2)), (13, .int .i64 ((rrn a b c d e o l 0 zF).1 / 2)), (14, .int .i64 (sm zF k)), (15, .int .i64 (k : Int))]⟩, S := fun _ => ⟨[(1, .cells [.int .i64 o, .int .i64 l] 56), (0, .cells [.int .i64 a, .int .i64 b, .int .i64 c, .int .i64 d, .int .i64 e] 54)], 2⟩, I := fun k => (k : Int) ≤ (rrn a b c d e o l 0 zF).1 / 2 ∧ 0 ≤ k, m := fun k => Int.toNat ((rrn a b c d e o l 0 zF).1 / 2) - k, ρ0 := [(0, 0), (1, 1)], ρ1 := [[(0, 0), (1, 1)]] }] else none
def lsumG_rA (a b c d e : Int) (er nr cr : Nat) (fr : RF) (o : Int) (l : Int) : Ann := fun k tt ss => bif Nat.beq k 11 then some [{ α := Nat, T := fun k => ⟨165, [(2, rsl 0 0 nr cr), (3, .pointer (some ⟨1, 0, none⟩)), (4, .pointer (some ⟨2, 0, none⟩)), (7, .int .i64 ((rrn a b c d e o l nr fr).1)), (8, .int .i64 ((rrn a b c d e o l nr fr).2)), (9, .int .i64 (slv a b c d e o)), (11, .int .i64 (sm fr k)), (12, .int .i64 (k : Int))]⟩, S := fun _ => ⟨[(2, .cells [.int .i64 o, .int .i64 l] 56), (1, .cells [.int .i64 a, .int .i64 b, .int .i64 c, .int .i64 d, .int .i64 e] 54), (0, .row true [.i64] er nr cr fr)], 3⟩, I := fun k => (k : Int) ≤ (rrn a b c d e o l nr fr).1 ∧ 0 ≤ k, m := fun k => Int.toNat ((rrn a b c d e o l nr fr).1) - k, ρ0 := [(1, 1), (2, 2)], ρ1 := [[(1, 1), (2, 2)]] }] else bif Nat.beq k 23 then some [{ α := Nat, T := fun k => ⟨165, [(2, rsl 0 0 nr cr), (3, .pointer (some ⟨1, 0, none⟩)), (4, .pointer (some ⟨2, 0, none⟩)), (7, .int .i64 ((rrn a b c d e o l nr fr).1)), (8, .int .i64 ((rrn a b c d e o l nr fr).2)), (13, .int .i64 ((rrn a b c d e o l nr fr).1 / 2)), (14, .int .i64 (sm fr k)), (15, .int .i64 (k : Int))]⟩, S := fun _ => ⟨[(2, .cells [.int .i64 o, .int .i64 l] 56), (1, .cells [.int .i64 a, .int .i64 b, .int .i64 c, .int .i64 d, .int .i64 e] 54), (0, .row true [.i64] er nr cr fr)], 3⟩, I := fun k => (k : Int) ≤ (rrn a b c d e o l nr fr).1 / 2 ∧ 0 ≤ k, m := fun k => Int.toNat ((rrn a b c d e o l nr fr).1 / 2) - k, ρ0 := [(1, 1), (2, 2)], ρ1 := [[(1, 1), (2, 2)]] }] else none
set_option maxRecDepth 100000 in
def lsumA_nV (a b c d e : Int) (o : Int) (l : Int) (K : Value → List Blk → Prop) : Prop := (T0 ∧ (TS ∧ (T0 ∧ (T0 ∧ (T0 ∧ (T0 ∧ (False)))))))
set_option maxRecDepth 100000 in
theorem lsumA_nE (a b c d e : Int) (o : Int) (l : Int) (K : Value → List Blk → Prop) : lsumA_nV a b c d e o l K = bodyX (mk XL11A) (callN (mk XL11A) 4) (lsumA_nA a b c d e o l) Try.f11 [.agg ⟨[.int .i64 a, .int .i64 b, .int .i64 c, .int .i64 d, .int .i64 e]⟩, .agg ⟨[.int .i64 o, .int .i64 l]⟩, .slice none 0 0] (stOf []) fun v _ => v = .bool true := by kernel_rfl
set_option maxRecDepth 100000 in
set_option maxHeartbeats 4000000 in
set_option tactic.hygienic false in
theorem lsumA_nP (a b c d e : Int) (o : Int) (l : Int) (K : Value → List Blk → Prop)  (hI : InC a b c d e) (hf : 60 < 0) : lsumA_nV a b c d e o l K := by
  unfold lsumA_nV
  have ck := chk_cases a b c d e
  have mb := mulC a b c d e
  obtain ⟨⟨i1, i2⟩, ⟨i3, i4⟩, ⟨i5, i6⟩, ⟨i7, i8⟩, ⟨i9, i10⟩⟩ := (show InC a b c d e from hI)

  repeat' (first | (with_reducible exact rfl) | (with_reducible exact trivial) | (with_reducible refine And.intro ?_ ?_) | (intro) | (with_reducible refine br_intro (fun hq => ?_) (fun hq => ?_)) | (with_reducible refine if_both (fun hz => ?_) (fun hz => ?_)) | fail)

  all_goals first
    | omega
    | assumption
    | contradiction
    | exact ⟨y1 + 1, (by (refine And.intro (And.intro rfl (And.intro rfl (And.intro rfl rfl))) ?_; (repeat' (first | exact trivial | exact rfl | exact fun _ _ _ _ => rfl | refine And.intro ?_ ?_ | omega | fail)); done)), ⟨by omega, by omega⟩, by omega⟩
    | exact ⟨y0 + 1, (by (refine And.intro (And.intro rfl (And.intro rfl (And.intro rfl rfl))) ?_; (repeat' (first | exact trivial | exact rfl | exact fun _ _ _ _ => rfl | refine And.intro ?_ ?_ | omega | fail)); done)), ⟨by omega, by omega⟩, by omega⟩
    | exact ⟨0, (by (refine And.intro (And.intro rfl (And.intro rfl (And.intro rfl rfl))) ?_; (repeat' (first | exact trivial | exact rfl | exact fun _ _ _ _ => rfl | refine And.intro ?_ ?_ | omega | fail)); done)), ⟨by omega, by omega⟩⟩
    | omega
    | (have F1 := FF y1 (by omega); have z1 := ste_cases a b c d e (o + sm zF y1) (l - sm zF y1); have ck := chk_cases a b c d e; have mb := mulC a b c d e; omega)
    | (have F0 := FF y0 (by omega); omega)
    | (have e1 : Int.toNat (((j : Nat) : Int) / 2) = y1 := (by omega)
       have e2 : Int.toNat (((0 : Nat) : Int) - ((j : Nat) : Int) / 2) = 0 - y1 := (by omega)
       rw [e1, e2, j3 y1 (by omega)] at hz
       first | exact absurd rfl hz | exact absurd (show ((j : Nat) : Int) - (y1 : Int) = ((j : Nat) : Int) - ((j : Nat) : Int) / 2 by omega) hz)
    | (have hq2 := of_decide_eq_false hq
       have hy : y1 = 0 := (by omega)
       have hn : 0 = 0 := (by omega)
       have e3 := j3 0 (by omega)
       rw [hn] at e3
       subst hy
       rw [show rrn a b c d e (o + sm zF 0) (l - sm zF 0) 0 zF = ((j : Int) - ((0 : Nat) : Int), r) from e3] at hz
       first | exact absurd rfl hz | exact absurd (show ((j : Nat) : Int) - ((0 : Nat) : Int) = ((j : Nat) : Int) - ((j : Nat) : Int) / 2 by omega) hz)
    | (have hy : y1 = 0 := (by omega)
       subst hy
       have e3 := j3 0 (by omega)
       rw [show rrn a b c d e (o + sm zF 0) (l - sm zF 0) 0 zF = ((j : Int) - ((0 : Nat) : Int), r) from e3] at hz
       first | exact absurd rfl hz | exact absurd (show ((j : Nat) : Int) - ((0 : Nat) : Int) = ((j : Nat) : Int) - ((j : Nat) : Int) / 2 by omega) hz)
    | (have ck := chk_cases a b c d e; have mb := mulC a b c d e; have z1 := ste_cases a b c d e o l; have z2 := oce_cases a b c d e o; have z3 := slv_cases a b c d e o; omega)
    | (obtain rfl : y0 = j := (by omega)
       try simp only [Int.toNat_natCast] at *
       have ck := chk_cases a b c d e; have mb := mulC a b c d e; have z1 := ste_cases a b c d e o l; have z2 := oce_cases a b c d e o; have z3 := slv_cases a b c d e o; have F0 := FF y0 (by omega); have s0 : y0 = 0 → sm zF y0 = 0 := (fun e => by rw [e]; rfl); have z4 := aft_cases a b c d e (o + sm zF y0) (l - sm zF y0) (zF y0 0); have z5 := ade_cases a b c d e (o + sm zF y0) (l - sm zF y0) (zF y0 0); have z6 := ste_cases a b c d e (o + sm zF y0) (l - sm zF y0); omega)
    | (exfalso; simp at hq; omega)
set_option maxRecDepth 100000 in
def lsumA_rV (a b c d e : Int) (er nr cr : Nat) (fr : RF) (o : Int) (l : Int) (K : Value → List Blk → Prop) : Prop := (T0 ∧ (TS ∧ (T0 ∧ (if ((60 : Int) < (↑nr : Int)) then ((@Eq (List Value) ([]) ([])) ∧ (@Eq (Value) (Value.bool true) (Value.bool true))) else (T0 ∧ (T0 ∧ (T0 ∧ (False))))))))
set_option maxRecDepth 100000 in
theorem lsumA_rE (a b c d e : Int) (er nr cr : Nat) (fr : RF) (o : Int) (l : Int) (K : Value → List Blk → Prop) : lsumA_rV a b c d e er nr cr fr o l K = bodyX (mk XL11A) (callN (mk XL11A) 4) (lsumA_rA a b c d e er nr cr fr o l) Try.f11 [.agg ⟨[.int .i64 a, .int .i64 b, .int .i64 c, .int .i64 d, .int .i64 e]⟩, .agg ⟨[.int .i64 o, .int .i64 l]⟩, rsl 0 0 nr cr] (stOf [.row true [.i64] er nr cr fr]) fun v _ => v = .bool true := by kernel_rfl
set_option maxRecDepth 100000 in
set_option maxHeartbeats 4000000 in
set_option tactic.hygienic false in
theorem lsumA_rP (a b c d e : Int) (er nr cr : Nat) (fr : RF) (o : Int) (l : Int) (K : Value → List Blk → Prop)  (hI : InC a b c d e) (hct : nr ≤ cr) (hf : 60 < nr) : lsumA_rV a b c d e er nr cr fr o l K := by
  unfold lsumA_rV
  have ck := chk_cases a b c d e
  have mb := mulC a b c d e
  obtain ⟨⟨i1, i2⟩, ⟨i3, i4⟩, ⟨i5, i6⟩, ⟨i7, i8⟩, ⟨i9, i10⟩⟩ := (show InC a b c d e from hI)

  repeat' (first | (with_reducible exact rfl) | (with_reducible exact trivial) | (with_reducible refine And.intro ?_ ?_) | (intro) | (with_reducible refine br_intro (fun hq => ?_) (fun hq => ?_)) | (with_reducible refine if_both (fun hz => ?_) (fun hz => ?_)) | fail)

  all_goals first
    | omega
    | assumption
    | contradiction
    | exact ⟨y1 + 1, (by (refine And.intro (And.intro rfl (And.intro rfl (And.intro rfl rfl))) ?_; (repeat' (first | exact trivial | exact rfl | exact fun _ _ _ _ => rfl | refine And.intro ?_ ?_ | omega | fail)); done)), ⟨by omega, by omega⟩, by omega⟩
    | exact ⟨y0 + 1, (by (refine And.intro (And.intro rfl (And.intro rfl (And.intro rfl rfl))) ?_; (repeat' (first | exact trivial | exact rfl | exact fun _ _ _ _ => rfl | refine And.intro ?_ ?_ | omega | fail)); done)), ⟨by omega, by omega⟩, by omega⟩
    | exact ⟨0, (by (refine And.intro (And.intro rfl (And.intro rfl (And.intro rfl rfl))) ?_; (repeat' (first | exact trivial | exact rfl | exact fun _ _ _ _ => rfl | refine And.intro ?_ ?_ | omega | fail)); done)), ⟨by omega, by omega⟩⟩
    | omega
    | (have F1 := FF y1 (by omega); have z1 := ste_cases a b c d e (o + sm fr y1) (l - sm fr y1); have ck := chk_cases a b c d e; have mb := mulC a b c d e; omega)
    | (have F0 := FF y0 (by omega); omega)
    | (have e1 : Int.toNat (((j : Nat) : Int) / 2) = y1 := (by omega)
       have e2 : Int.toNat (((nr : Nat) : Int) - ((j : Nat) : Int) / 2) = nr - y1 := (by omega)
       rw [e1, e2, j3 y1 (by omega)] at hz
       first | exact absurd rfl hz | exact absurd (show ((j : Nat) : Int) - (y1 : Int) = ((j : Nat) : Int) - ((j : Nat) : Int) / 2 by omega) hz)
    | (have hq2 := of_decide_eq_false hq
       have hy : y1 = 0 := (by omega)
       have hn : nr = 0 := (by omega)
       have e3 := j3 0 (by omega)
       rw [hn] at e3
       subst hy
       rw [show rrn a b c d e (o + sm fr 0) (l - sm fr 0) 0 fr = ((j : Int) - ((0 : Nat) : Int), r) from e3] at hz
       first | exact absurd rfl hz | exact absurd (show ((j : Nat) : Int) - ((0 : Nat) : Int) = ((j : Nat) : Int) - ((j : Nat) : Int) / 2 by omega) hz)
    | (have hy : y1 = 0 := (by omega)
       subst hy
       have e3 := j3 0 (by omega)
       rw [show rrn a b c d e (o + sm fr 0) (l - sm fr 0) 0 fr = ((j : Int) - ((0 : Nat) : Int), r) from e3] at hz
       first | exact absurd rfl hz | exact absurd (show ((j : Nat) : Int) - ((0 : Nat) : Int) = ((j : Nat) : Int) - ((j : Nat) : Int) / 2 by omega) hz)
    | (have ck := chk_cases a b c d e; have mb := mulC a b c d e; have z1 := ste_cases a b c d e o l; have z2 := oce_cases a b c d e o; have z3 := slv_cases a b c d e o; omega)
    | (obtain rfl : y0 = j := (by omega)
       try simp only [Int.toNat_natCast] at *
       have ck := chk_cases a b c d e; have mb := mulC a b c d e; have z1 := ste_cases a b c d e o l; have z2 := oce_cases a b c d e o; have z3 := slv_cases a b c d e o; have F0 := FF y0 (by omega); have s0 : y0 = 0 → sm fr y0 = 0 := (fun e => by rw [e]; rfl); have z4 := aft_cases a b c d e (o + sm fr y0) (l - sm fr y0) (fr y0 0); have z5 := ade_cases a b c d e (o + sm fr y0) (l - sm fr y0) (fr y0 0); have z6 := ste_cases a b c d e (o + sm fr y0) (l - sm fr y0); omega)
    | (exfalso; simp at hq; omega)
set_option maxRecDepth 100000 in
def lsumB_nV (a b c d e : Int) (o : Int) (l : Int) (K : Value → List Blk → Prop) : Prop := let q0 := eB; let q1 := (rrn a b c d e o l (0 : Nat) zF); let q2 := (@Eq (Value) (Value.bool false) (Value.bool true)); (T0 ∧ (TS ∧ (T0 ∧ (T0 ∧ (T0 ∧ (T0 ∧ (T0 ∧ (T0 ∧ (T0 ∧ (T0 ∧ ((InC a b c d e) ∧ (q0 ∧ ((True) ∧ (T0 ∧ (T0 ∧ (T0 ∧ (T0 ∧ (T0 ∧ (T0 ∧ ((InC a b c d e) ∧ (q0 ∧ ((True) ∧ (T0 ∧ (if (@Eq Int (ste a b c d e o l) ((0 : Int))) then (T0 ∧ (T0 ∧ (False))) else (T0 ∧ (if (@Eq Int (Prod.fst q1) ((0 : Int))) then (T0 ∧ (if (@Eq Int (Prod.snd q1) ((0 : Int))) then q2 else ((@Eq (List Value) ([]) ([])) ∧ (@Eq (Value) (Value.bool true) (Value.bool true))))) else q2))))))))))))))))))))))))))
set_option maxRecDepth 100000 in
theorem lsumB_nE (a b c d e : Int) (o : Int) (l : Int) (K : Value → List Blk → Prop) : lsumB_nV a b c d e o l K = bodyX (mk XL11B) (callN (mk XL11B) 4) (lsumB_nA a b c d e o l) Try.f11 [.agg ⟨[.int .i64 a, .int .i64 b, .int .i64 c, .int .i64 d, .int .i64 e]⟩, .agg ⟨[.int .i64 o, .int .i64 l]⟩, .slice none 0 0] (stOf []) fun v _ => v = .bool true := by kernel_rfl
set_option maxRecDepth 100000 in
set_option maxHeartbeats 4000000 in
set_option tactic.hygienic false in
theorem lsumB_nP (a b c d e : Int) (o : Int) (l : Int) (K : Value → List Blk → Prop)  (hI : InC a b c d e) (hf1 : 0 ≤ 60) (h1 : ¬ ste a b c d e o l = 0) : lsumB_nV a b c d e o l K := by
  unfold lsumB_nV
  conv => zeta
  have ck := chk_cases a b c d e
  have mb := mulC a b c d e
  obtain ⟨⟨i1, i2⟩, ⟨i3, i4⟩, ⟨i5, i6⟩, ⟨i7, i8⟩, ⟨i9, i10⟩⟩ := (show InC a b c d e from hI)
  have z1 := ste_cases a b c d e o l
  have e0 := rrn_bad (n := 0) (f := zF) h1
  rw [e0]

  repeat' (first | (with_reducible exact rfl) | (with_reducible exact trivial) | (with_reducible refine And.intro ?_ ?_) | (intro) | (with_reducible refine br_intro (fun hq => ?_) (fun hq => ?_)) | (with_reducible refine if_both (fun hz => ?_) (fun hz => ?_)) | fail)

  all_goals first
    | omega
    | assumption
    | contradiction
    | exact ⟨y1 + 1, (by (refine And.intro (And.intro rfl (And.intro rfl (And.intro rfl rfl))) ?_; (repeat' (first | exact trivial | exact rfl | exact fun _ _ _ _ => rfl | refine And.intro ?_ ?_ | omega | fail)); done)), ⟨by omega, by omega⟩, by omega⟩
    | exact ⟨y0 + 1, (by (refine And.intro (And.intro rfl (And.intro rfl (And.intro rfl rfl))) ?_; (repeat' (first | exact trivial | exact rfl | exact fun _ _ _ _ => rfl | refine And.intro ?_ ?_ | omega | fail)); done)), ⟨by omega, by omega⟩, by omega⟩
    | exact ⟨0, (by (refine And.intro (And.intro rfl (And.intro rfl (And.intro rfl rfl))) ?_; (repeat' (first | exact trivial | exact rfl | exact fun _ _ _ _ => rfl | refine And.intro ?_ ?_ | omega | fail)); done)), ⟨by omega, by omega⟩⟩
    | omega
    | (have F1 := FF y1 (by omega); have z1 := ste_cases a b c d e (o + sm zF y1) (l - sm zF y1); have ck := chk_cases a b c d e; have mb := mulC a b c d e; omega)
    | (have F0 := FF y0 (by omega); omega)
    | (have e1 : Int.toNat (((j : Nat) : Int) / 2) = y1 := (by omega)
       have e2 : Int.toNat (((0 : Nat) : Int) - ((j : Nat) : Int) / 2) = 0 - y1 := (by omega)
       rw [e1, e2, j3 y1 (by omega)] at hz
       first | exact absurd rfl hz | exact absurd (show ((j : Nat) : Int) - (y1 : Int) = ((j : Nat) : Int) - ((j : Nat) : Int) / 2 by omega) hz)
    | (have hq2 := of_decide_eq_false hq
       have hy : y1 = 0 := (by omega)
       have hn : 0 = 0 := (by omega)
       have e3 := j3 0 (by omega)
       rw [hn] at e3
       subst hy
       rw [show rrn a b c d e (o + sm zF 0) (l - sm zF 0) 0 zF = ((j : Int) - ((0 : Nat) : Int), r) from e3] at hz
       first | exact absurd rfl hz | exact absurd (show ((j : Nat) : Int) - ((0 : Nat) : Int) = ((j : Nat) : Int) - ((j : Nat) : Int) / 2 by omega) hz)
    | (have hy : y1 = 0 := (by omega)
       subst hy
       have e3 := j3 0 (by omega)
       rw [show rrn a b c d e (o + sm zF 0) (l - sm zF 0) 0 zF = ((j : Int) - ((0 : Nat) : Int), r) from e3] at hz
       first | exact absurd rfl hz | exact absurd (show ((j : Nat) : Int) - ((0 : Nat) : Int) = ((j : Nat) : Int) - ((j : Nat) : Int) / 2 by omega) hz)
    | (have ck := chk_cases a b c d e; have mb := mulC a b c d e; have z1 := ste_cases a b c d e o l; have z2 := oce_cases a b c d e o; have z3 := slv_cases a b c d e o; omega)
    | (obtain rfl : y0 = j := (by omega)
       try simp only [Int.toNat_natCast] at *
       have ck := chk_cases a b c d e; have mb := mulC a b c d e; have z1 := ste_cases a b c d e o l; have z2 := oce_cases a b c d e o; have z3 := slv_cases a b c d e o; have F0 := FF y0 (by omega); have s0 : y0 = 0 → sm zF y0 = 0 := (fun e => by rw [e]; rfl); have z4 := aft_cases a b c d e (o + sm zF y0) (l - sm zF y0) (zF y0 0); have z5 := ade_cases a b c d e (o + sm zF y0) (l - sm zF y0) (zF y0 0); have z6 := ste_cases a b c d e (o + sm zF y0) (l - sm zF y0); omega)
    | (exfalso; simp at hq; omega)
set_option maxRecDepth 100000 in
def lsumB_rV (a b c d e : Int) (er nr cr : Nat) (fr : RF) (o : Int) (l : Int) (K : Value → List Blk → Prop) : Prop := let q0 := (rrn a b c d e o l nr fr); let q1 := eB; let q2 := (@Eq (Value) (Value.bool false) (Value.bool true)); let q3 := ((@Eq (List Value) ([]) ([])) ∧ (@Eq (Value) (Value.bool true) (Value.bool true))); (T0 ∧ (TS ∧ (T0 ∧ (if ((60 : Int) < (↑nr : Int)) then q3 else (T0 ∧ (T0 ∧ (T0 ∧ (T0 ∧ (T0 ∧ (T0 ∧ (((0 : Nat) + nr ≤ nr) ∧ ((InC a b c d e) ∧ ((@Eq Nat ((0 : Nat)) ((0 : Nat))) ∧ ((nr ≤ (100000 : Nat)) ∧ (((@Eq (List IntKind) ([IntKind.i64]) ([IntKind.i64])) ∧ ((@Eq Nat (nr) (nr)) ∧ (@Eq Nat (cr) (cr)))) ∧ (q1 ∧ ((True) ∧ (T0 ∧ (T0 ∧ (T0 ∧ (T0 ∧ (T0 ∧ (T0 ∧ ((InC a b c d e) ∧ (q1 ∧ ((True) ∧ (T0 ∧ (if (@Eq Int (ste a b c d e o l) ((0 : Int))) then (T0 ∧ (T0 ∧ (False))) else (T0 ∧ (if (@Eq Int (Prod.fst q0) ((0 : Int))) then (T0 ∧ (if (@Eq Int (Prod.snd q0) ((0 : Int))) then q2 else q3)) else q2))))))))))))))))))))))))))))))
set_option maxRecDepth 100000 in
theorem lsumB_rE (a b c d e : Int) (er nr cr : Nat) (fr : RF) (o : Int) (l : Int) (K : Value → List Blk → Prop) : lsumB_rV a b c d e er nr cr fr o l K = bodyX (mk XL11B) (callN (mk XL11B) 4) (lsumB_rA a b c d e er nr cr fr o l) Try.f11 [.agg ⟨[.int .i64 a, .int .i64 b, .int .i64 c, .int .i64 d, .int .i64 e]⟩, .agg ⟨[.int .i64 o, .int .i64 l]⟩, rsl 0 0 nr cr] (stOf [.row true [.i64] er nr cr fr]) fun v _ => v = .bool true := by kernel_rfl
set_option maxRecDepth 100000 in
set_option maxHeartbeats 4000000 in
set_option tactic.hygienic false in
theorem lsumB_rP (a b c d e : Int) (er nr cr : Nat) (fr : RF) (o : Int) (l : Int) (K : Value → List Blk → Prop)  (hI : InC a b c d e) (hct : nr ≤ cr) (hf1 : nr ≤ 60) (h1 : ¬ ste a b c d e o l = 0) : lsumB_rV a b c d e er nr cr fr o l K := by
  unfold lsumB_rV
  conv => zeta
  have ck := chk_cases a b c d e
  have mb := mulC a b c d e
  obtain ⟨⟨i1, i2⟩, ⟨i3, i4⟩, ⟨i5, i6⟩, ⟨i7, i8⟩, ⟨i9, i10⟩⟩ := (show InC a b c d e from hI)
  have z1 := ste_cases a b c d e o l
  have e0 := rrn_bad (n := nr) (f := fr) h1
  rw [e0]

  repeat' (first | (with_reducible exact rfl) | (with_reducible exact trivial) | (with_reducible refine And.intro ?_ ?_) | (intro) | (with_reducible refine br_intro (fun hq => ?_) (fun hq => ?_)) | (with_reducible refine if_both (fun hz => ?_) (fun hz => ?_)) | fail)

  all_goals first
    | omega
    | assumption
    | contradiction
    | exact ⟨y1 + 1, (by (refine And.intro (And.intro rfl (And.intro rfl (And.intro rfl rfl))) ?_; (repeat' (first | exact trivial | exact rfl | exact fun _ _ _ _ => rfl | refine And.intro ?_ ?_ | omega | fail)); done)), ⟨by omega, by omega⟩, by omega⟩
    | exact ⟨y0 + 1, (by (refine And.intro (And.intro rfl (And.intro rfl (And.intro rfl rfl))) ?_; (repeat' (first | exact trivial | exact rfl | exact fun _ _ _ _ => rfl | refine And.intro ?_ ?_ | omega | fail)); done)), ⟨by omega, by omega⟩, by omega⟩
    | exact ⟨0, (by (refine And.intro (And.intro rfl (And.intro rfl (And.intro rfl rfl))) ?_; (repeat' (first | exact trivial | exact rfl | exact fun _ _ _ _ => rfl | refine And.intro ?_ ?_ | omega | fail)); done)), ⟨by omega, by omega⟩⟩
    | omega
    | (have F1 := FF y1 (by omega); have z1 := ste_cases a b c d e (o + sm fr y1) (l - sm fr y1); have ck := chk_cases a b c d e; have mb := mulC a b c d e; omega)
    | (have F0 := FF y0 (by omega); omega)
    | (have e1 : Int.toNat (((j : Nat) : Int) / 2) = y1 := (by omega)
       have e2 : Int.toNat (((nr : Nat) : Int) - ((j : Nat) : Int) / 2) = nr - y1 := (by omega)
       rw [e1, e2, j3 y1 (by omega)] at hz
       first | exact absurd rfl hz | exact absurd (show ((j : Nat) : Int) - (y1 : Int) = ((j : Nat) : Int) - ((j : Nat) : Int) / 2 by omega) hz)
    | (have hq2 := of_decide_eq_false hq
       have hy : y1 = 0 := (by omega)
       have hn : nr = 0 := (by omega)
       have e3 := j3 0 (by omega)
       rw [hn] at e3
       subst hy
       rw [show rrn a b c d e (o + sm fr 0) (l - sm fr 0) 0 fr = ((j : Int) - ((0 : Nat) : Int), r) from e3] at hz
       first | exact absurd rfl hz | exact absurd (show ((j : Nat) : Int) - ((0 : Nat) : Int) = ((j : Nat) : Int) - ((j : Nat) : Int) / 2 by omega) hz)
    | (have hy : y1 = 0 := (by omega)
       subst hy
       have e3 := j3 0 (by omega)
       rw [show rrn a b c d e (o + sm fr 0) (l - sm fr 0) 0 fr = ((j : Int) - ((0 : Nat) : Int), r) from e3] at hz
       first | exact absurd rfl hz | exact absurd (show ((j : Nat) : Int) - ((0 : Nat) : Int) = ((j : Nat) : Int) - ((j : Nat) : Int) / 2 by omega) hz)
    | (have ck := chk_cases a b c d e; have mb := mulC a b c d e; have z1 := ste_cases a b c d e o l; have z2 := oce_cases a b c d e o; have z3 := slv_cases a b c d e o; omega)
    | (obtain rfl : y0 = j := (by omega)
       try simp only [Int.toNat_natCast] at *
       have ck := chk_cases a b c d e; have mb := mulC a b c d e; have z1 := ste_cases a b c d e o l; have z2 := oce_cases a b c d e o; have z3 := slv_cases a b c d e o; have F0 := FF y0 (by omega); have s0 : y0 = 0 → sm fr y0 = 0 := (fun e => by rw [e]; rfl); have z4 := aft_cases a b c d e (o + sm fr y0) (l - sm fr y0) (fr y0 0); have z5 := ade_cases a b c d e (o + sm fr y0) (l - sm fr y0) (fr y0 0); have z6 := ste_cases a b c d e (o + sm fr y0) (l - sm fr y0); omega)
    | (exfalso; simp at hq; omega)
set_option maxRecDepth 100000 in
def lsumG_nV (a b c d e : Int) (o : Int) (l : Int) (K : Value → List Blk → Prop) : Prop := let q0 := ((0 : Nat), (0 : Nat)); let q1 := ((1 : Nat), (1 : Nat)); let q2 := eB; let q3 := (9223372036854775807 : Int); let q4 := (-9223372036854775808 : Int); let q5 := (rrn a b c d e o l (0 : Nat) zF); let q6 := (@Eq Int ((0 : Int)) ((0 : Int))); let q7 := TS; let q8 := (2, vn); let q9 := (Prod.snd q5); let q10 := (Prod.fst q5); let q11 := ((2 : Nat), vn); let q12 := (@Eq (Value) (Value.bool false) (Value.bool true)); let q13 := (Prod.fst q5 / (2 : Int)); let q14 := (3, Value.pointer (some { block := (0 : Nat), off := (0 : Nat) })); let q15 := (4, Value.pointer (some { block := (1 : Nat), off := (0 : Nat) })); let q16 := (T0 ∧ q12); let q17 := (7, vi q10); let q18 := (8, vi q9); let q19 := ((3 : Nat), Value.pointer (some { block := (0 : Nat), off := (0 : Nat) })); let q20 := ((4 : Nat), Value.pointer (some { block := (1 : Nat), off := (0 : Nat) })); let q21 := (1, Blk.cells [vi o, vi l] (56 : Nat)); let q22 := ((7 : Nat), vi q10); let q23 := ((8 : Nat), vi q9); let q24 := (some (Blk.cells [vi o, vi l] (56 : Nat))); let q25 := ((@Eq (List Value) ([]) ([])) ∧ (@Eq (Value) (Value.bool true) (Value.bool true))); let q26 := (0, Blk.cells [vi a, vi b, vi c, vi d, vi e] (54 : Nat)); let q27 := (some (Blk.cells [vi a, vi b, vi c, vi d, vi e] (54 : Nat))); let q28 := ((@Eq (Option Blk) q24 q24) ∧ ((@Eq (Option Blk) q27 q27) ∧ (True))); let q29 := (T0 ∧ ((∃ y0 : Nat, ((Go.Rx.Sub 0 [q0, q1] ⟨165, [(12, vi (0 : Int)), (11, vi (0 : Int)), (9, vi (slv a b c d e o)), q18, q17, q15, q14, q8]⟩ ⟨[q21, q26], 2⟩ ({ n := (165 : Nat), m := [q11, q19, q20, q22, q23, ((9 : Nat), vi (slv a b c d e o)), ((11 : Nat), vi (sm zF y0)), ((12 : Nat), vi (↑y0 : Int))] }) ({ h := [((1 : Nat), Blk.cells [vi o, vi l] (56 : Nat)), ((0 : Nat), Blk.cells [vi a, vi b, vi c, vi d, vi e] (54 : Nat))], next := (2 : Nat) })) ∧ (((↑y0 : Int) ≤ Prod.fst q5) ∧ ((0 : Nat) ≤ y0)))) ∧ (∀ y0 : Nat, ((((↑y0 : Int) ≤ Prod.fst q5) ∧ ((0 : Nat) ≤ y0)) → (T0 ∧ (if ((↑y0 : Int) < Prod.fst q5) then (False) else (T0 ∧ (T0 ∧ (if (l < sm zF y0) then q12 else (T0 ∧ (if (slv a b c d e o < sm zF y0) then q12 else (T0 ∧ (T0 ∧ (T0 ∧ (T0 ∧ (if (@Eq Int q9 ((5 : Int))) then (T0 ∧ (T0 ∧ (T0 ∧ (T0 ∧ (T0 ∧ (False)))))) else (T0 ∧ (T0 ∧ (T0 ∧ (T0 ∧ (T0 ∧ ((((0 : Int) ≤ Prod.fst q5) ∧ ((Prod.fst q5 ≤ q3) ∧ ((0 : Int) < (2 : Int)))) ∧ ((∃ y1 : Nat, ((Go.Rx.Sub 0 [q0, q1] ⟨165, [(15, vi (0 : Int)), (14, vi (0 : Int)), (13, vi q13), q8, q14, q15, q17, q18]⟩ ⟨[q21, q26], 2⟩ ({ n := (165 : Nat), m := [q11, q19, q20, q22, q23, ((13 : Nat), vi q13), ((14 : Nat), vi (sm zF y1)), ((15 : Nat), vi (↑y1 : Int))] }) ({ h := [((1 : Nat), Blk.cells [vi o, vi l] (56 : Nat)), ((0 : Nat), Blk.cells [vi a, vi b, vi c, vi d, vi e] (54 : Nat))], next := (2 : Nat) })) ∧ (((↑y1 : Int) ≤ Prod.fst q5 / (2 : Int)) ∧ ((0 : Nat) ≤ y1)))) ∧ (∀ y1 : Nat, let q30 := (rrn a b c d e (o + sm zF y1) (l - sm zF y1) (0 : Nat) zF); ((((↑y1 : Int) ≤ Prod.fst q5 / (2 : Int)) ∧ ((0 : Nat) ≤ y1)) → (T0 ∧ (if ((↑y1 : Int) < Prod.fst q5 / (2 : Int)) then (False) else (T0 ∧ (T0 ∧ (T0 ∧ (T0 ∧ (T0 ∧ (T0 ∧ (T0 ∧ (T0 ∧ (T0 ∧ (((q4 ≤ o + sm zF y1) ∧ (o + sm zF y1 ≤ q3)) ∧ (T0 ∧ (T0 ∧ (T0 ∧ (T0 ∧ (T0 ∧ (T0 ∧ (((q4 ≤ l - sm zF y1) ∧ (l - sm zF y1 ≤ q3)) ∧ (T0 ∧ (T0 ∧ (q7 ∧ (T0 ∧ (T0 ∧ (T0 ∧ (T0 ∧ (((@Eq Int q13 ((0 : Int))) ∧ (q6 ∧ q6)) ∧ (q28 ∧ (T0 ∧ (T0 ∧ (T0 ∧ (T0 ∧ ((InC a b c d e) ∧ (q2 ∧ ((True) ∧ (q28 ∧ (T0 ∧ (T0 ∧ (if (@Eq Int (Prod.snd q30) q9) then (T0 ∧ (((q4 ≤ Prod.fst q5 - Prod.fst q5 / (2 : Int)) ∧ (Prod.fst q5 - Prod.fst q5 / (2 : Int) ≤ q3)) ∧ (T0 ∧ (if (@Eq Int (Prod.fst q30) (Prod.fst q5 - Prod.fst q5 / (2 : Int))) then q25 else q12)))) else q12)))))))))))))))))))))))))))))))))))))))))))))))))))))))))))))))); (T0 ∧ (q7 ∧ (T0 ∧ (T0 ∧ (T0 ∧ (T0 ∧ (T0 ∧ (T0 ∧ (T0 ∧ (T0 ∧ ((InC a b c d e) ∧ (q2 ∧ ((True) ∧ (T0 ∧ (T0 ∧ (T0 ∧ (T0 ∧ (T0 ∧ (T0 ∧ ((InC a b c d e) ∧ (q2 ∧ ((True) ∧ (T0 ∧ (if (@Eq Int (ste a b c d e o l) ((0 : Int))) then (T0 ∧ (T0 ∧ (T0 ∧ (T0 ∧ ((InC a b c d e) ∧ (q2 ∧ ((True) ∧ (T0 ∧ (if (@Eq Int (oce a b c d e o) ((0 : Int))) then (T0 ∧ (if (Prod.fst q5 < (0 : Int)) then q12 else (q7 ∧ (T0 ∧ (if ((↑(0 : Nat) : Int) < Prod.fst q5) then q12 else (T0 ∧ (if (@Eq Int q9 ((0 : Int))) then (q7 ∧ (T0 ∧ (if (@Eq Int q10 ((0 : Int))) then q29 else q16))) else (q7 ∧ (T0 ∧ (if (@Eq Int q10 ((0 : Int))) then q16 else q29)))))))))) else q12))))))))) else (T0 ∧ (if (@Eq Int q10 ((0 : Int))) then (T0 ∧ (if (@Eq Int q9 ((0 : Int))) then q12 else q25)) else q12))))))))))))))))))))))))))
set_option maxRecDepth 100000 in
theorem lsumG_nE (a b c d e : Int) (o : Int) (l : Int) (K : Value → List Blk → Prop) : lsumG_nV a b c d e o l K = bodyX (mk XL11G) (callN (mk XL11G) 4) (lsumG_nA a b c d e o l) Try.f11 [.agg ⟨[.int .i64 a, .int .i64 b, .int .i64 c, .int .i64 d, .int .i64 e]⟩, .agg ⟨[.int .i64 o, .int .i64 l]⟩, .slice none 0 0] (stOf []) fun v _ => v = .bool true := by kernel_rfl
set_option maxRecDepth 100000 in
set_option maxHeartbeats 4000000 in
set_option tactic.hygienic false in
theorem lsumG_nP (a b c d e : Int) (o : Int) (l : Int) (K : Value → List Blk → Prop)  (hI : InC a b c d e) (hf1 : 0 ≤ 60) (h1 : ste a b c d e o l = 0) : lsumG_nV a b c d e o l K := by
  unfold lsumG_nV
  conv => zeta
  obtain ⟨j, r, J⟩ := runS (n := 0) (f := zF) h1 hf1
  have FF := J.pre
  have j1 := J.le
  have j2 := J.last
  have j3 := J.rest
  have fj := FF j (Nat.le_refl _)
  rw [J.done, J.err]

  repeat' (first | (with_reducible exact rfl) | (with_reducible exact trivial) | (with_reducible refine And.intro ?_ ?_) | (intro) | (with_reducible refine br_intro (fun hq => ?_) (fun hq => ?_)) | (with_reducible refine if_both (fun hz => ?_) (fun hz => ?_)) | fail)

  all_goals first
    | omega
    | assumption
    | contradiction
    | exact ⟨y1 + 1, (by (refine And.intro (And.intro rfl (And.intro rfl (And.intro rfl rfl))) ?_; (repeat' (first | exact trivial | exact rfl | exact fun _ _ _ _ => rfl | refine And.intro ?_ ?_ | omega | fail)); done)), ⟨by omega, by omega⟩, by omega⟩
    | exact ⟨y0 + 1, (by (refine And.intro (And.intro rfl (And.intro rfl (And.intro rfl rfl))) ?_; (repeat' (first | exact trivial | exact rfl | exact fun _ _ _ _ => rfl | refine And.intro ?_ ?_ | omega | fail)); done)), ⟨by omega, by omega⟩, by omega⟩
    | exact ⟨0, (by (refine And.intro (And.intro rfl (And.intro rfl (And.intro rfl rfl))) ?_; (repeat' (first | exact trivial | exact rfl | exact fun _ _ _ _ => rfl | refine And.intro ?_ ?_ | omega | fail)); done)), ⟨by omega, by omega⟩⟩
    | omega
    | (have F1 := FF y1 (by omega); have z1 := ste_cases a b c d e (o + sm zF y1) (l - sm zF y1); have ck := chk_cases a b c d e; have mb := mulC a b c d e; omega)
    | (have F0 := FF y0 (by omega); omega)
    | (have e1 : Int.toNat (((j : Nat) : Int) / 2) = y1 := (by omega)
       have e2 : Int.toNat (((0 : Nat) : Int) - ((j : Nat) : Int) / 2) = 0 - y1 := (by omega)
       rw [e1, e2, j3 y1 (by omega)] at hz
       first | exact absurd rfl hz | exact absurd (show ((j : Nat) : Int) - (y1 : Int) = ((j : Nat) : Int) - ((j : Nat) : Int) / 2 by omega) hz)
    | (have hq2 := of_decide_eq_false hq
       have hy : y1 = 0 := (by omega)
       have hn : 0 = 0 := (by omega)
       have e3 := j3 0 (by omega)
       rw [hn] at e3
       subst hy
       rw [show rrn a b c d e (o + sm zF 0) (l - sm zF 0) 0 zF = ((j : Int) - ((0 : Nat) : Int), r) from e3] at hz
       first | exact absurd rfl hz | exact absurd (show ((j : Nat) : Int) - ((0 : Nat) : Int) = ((j : Nat) : Int) - ((j : Nat) : Int) / 2 by omega) hz)
    | (have hy : y1 = 0 := (by omega)
       subst hy
       have e3 := j3 0 (by omega)
       rw [show rrn a b c d e (o + sm zF 0) (l - sm zF 0) 0 zF = ((j : Int) - ((0 : Nat) : Int), r) from e3] at hz
       first | exact absurd rfl hz | exact absurd (show ((j : Nat) : Int) - ((0 : Nat) : Int) = ((j : Nat) : Int) - ((j : Nat) : Int) / 2 by omega) hz)
    | (have ck := chk_cases a b c d e; have mb := mulC a b c d e; have z1 := ste_cases a b c d e o l; have z2 := oce_cases a b c d e o; have z3 := slv_cases a b c d e o; omega)
    | (obtain rfl : y0 = j := (by omega)
       try simp only [Int.toNat_natCast] at *
       have ck := chk_cases a b c d e; have mb := mulC a b c d e; have z1 := ste_cases a b c d e o l; have z2 := oce_cases a b c d e o; have z3 := slv_cases a b c d e o; have F0 := FF y0 (by omega); have s0 : y0 = 0 → sm zF y0 = 0 := (fun e => by rw [e]; rfl); have z4 := aft_cases a b c d e (o + sm zF y0) (l - sm zF y0) (zF y0 0); have z5 := ade_cases a b c d e (o + sm zF y0) (l - sm zF y0) (zF y0 0); have z6 := ste_cases a b c d e (o + sm zF y0) (l - sm zF y0); omega)
    | (exfalso; simp at hq; omega)
set_option maxRecDepth 100000 in
def lsumG_rV (a b c d e : Int) (er nr cr : Nat) (fr : RF) (o : Int) (l : Int) (K : Value → List Blk → Prop) : Prop := let q0 := ((1 : Nat), (1 : Nat)); let q1 := ((2 : Nat), (2 : Nat)); let q2 := (rrn a b c d e o l nr fr); let q3 := eB; let q4 := (9223372036854775807 : Int); let q5 := (-9223372036854775808 : Int); let q6 := (@Eq Nat ((0 : Nat)) ((0 : Nat))); let q7 := (@Eq Nat ((1 : Nat)) ((1 : Nat))); let q8 := (2, rsl (0 : Nat) (0 : Nat) nr cr); let q9 := (Prod.snd q2); let q10 := (Prod.fst q2); let q11 := TS; let q12 := ((2 : Nat), rsl (0 : Nat) (0 : Nat) nr cr); let q13 := (0, Blk.row true [IntKind.i64] er nr cr fr); let q14 := (9, vi (slv a b c d e o)); let q15 := (some (Blk.row true [IntKind.i64] er nr cr fr)); let q16 := (Prod.fst q2 / (2 : Int)); let q17 := ((0 : Int) ≤ Prod.fst q2); let q18 := (Int.toNat q10); let q19 := (@Eq (Value) (Value.bool false) (Value.bool true)); let q20 := (@Eq (List IntKind) ([IntKind.i64]) ([IntKind.i64])); let q21 := ((9 : Nat), vi (slv a b c d e o)); let q22 := (Int.toNat q10 < nr); let q23 := ((↑nr : Int) - Prod.fst q2 / (2 : Int)); let q24 := (7, vi q10); let q25 := (8, vi q9); let q26 := (3, Value.pointer (some { block := (1 : Nat), off := (0 : Nat) })); let q27 := (4, Value.pointer (some { block := (2 : Nat), off := (0 : Nat) })); let q28 := (T0 ∧ q19); let q29 := ((7 : Nat), vi q10); let q30 := ((8 : Nat), vi q9); let q31 := (Int.toNat q23); let q32 := (Int.toNat ((↑cr : Int) - Prod.fst q2 / (2 : Int))); let q33 := ((3 : Nat), Value.pointer (some { block := (1 : Nat), off := (0 : Nat) })); let q34 := ((4 : Nat), Value.pointer (some { block := (2 : Nat), off := (0 : Nat) })); let q35 := (13, vi q16); let q36 := (2, Blk.cells [vi o, vi l] (56 : Nat)); let q37 := (q11 ∧ q7); let q38 := (some (Blk.cells [vi o, vi l] (56 : Nat))); let q39 := ((@Eq (List Value) ([]) ([])) ∧ (@Eq (Value) (Value.bool true) (Value.bool true))); let q40 := ((13 : Nat), vi q16); let q41 := (Prod.fst q2 - Prod.fst q2 / (2 : Int)); let q42 := (q17 ∧ (Prod.fst q2 < (↑nr : Int))); let q43 := (1, Blk.cells [vi a, vi b, vi c, vi d, vi e] (54 : Nat)); let q44 := (some (Blk.cells [vi a, vi b, vi c, vi d, vi e] (54 : Nat))); let q45 := ((q5 ≤ Prod.fst q2 - Prod.fst q2 / (2 : Int)) ∧ (Prod.fst q2 - Prod.fst q2 / (2 : Int) ≤ q4)); let q46 := ((@Eq (Option Blk) q38 q38) ∧ ((@Eq (Option Blk) q44 q44) ∧ ((@Eq (Option Blk) q15 q15) ∧ (True)))); let q47 := (T0 ∧ (T0 ∧ ((q17 ∧ ((Prod.fst q2 ≤ q4) ∧ ((0 : Int) < (2 : Int)))) ∧ ((∃ y1 : Nat, ((Go.Rx.Sub 1 [q0, q1] ⟨165, [(15, vi (0 : Int)), (14, vi (0 : Int)), q35, q8, q26, q27, q24, q25]⟩ ⟨[q36, q43, q13], 3⟩ ({ n := (165 : Nat), m := [q12, q33, q34, q29, q30, q40, ((14 : Nat), vi (sm fr y1)), ((15 : Nat), vi (↑y1 : Int))] }) ({ h := [((2 : Nat), Blk.cells [vi o, vi l] (56 : Nat)), ((1 : Nat), Blk.cells [vi a, vi b, vi c, vi d, vi e] (54 : Nat)), ((0 : Nat), Blk.row true [IntKind.i64] er nr cr fr)], next := (3 : Nat) })) ∧ (((↑y1 : Int) ≤ Prod.fst q2 / (2 : Int)) ∧ ((0 : Nat) ≤ y1)))) ∧ (∀ y1 : Nat, let q50 := (rrn a b c d e (o + sm fr y1) (l - sm fr y1) (0 : Nat) fr); let q51 := (rrn a b c d e (o + sm fr y1) (l - sm fr y1) q31 (shiftF fr (Int.toNat q16))); ((((↑y1 : Int) ≤ Prod.fst q2 / (2 : Int)) ∧ ((0 : Nat) ≤ y1)) → (T0 ∧ (if ((↑y1 : Int) < Prod.fst q2 / (2 : Int)) then (q37 ∧ ((((0 : Int) ≤ (↑y1 : Int)) ∧ ((↑y1 : Int) < (↑nr : Int))) ∧ ((y1 < nr) ∧ (T0 ∧ (((q5 ≤ sm fr y1 + fr y1 (0 : Nat)) ∧ (sm fr y1 + fr y1 (0 : Nat) ≤ q4)) ∧ (T0 ∧ (((q5 ≤ (↑y1 : Int) + (1 : Int)) ∧ ((↑y1 : Int) + (1 : Int) ≤ q4)) ∧ (∃ y2 : Nat, ((Go.Rx.Sub 1 [q0, q1] ⟨165, [(15, vi ((↑y1 : Int) + (1 : Int))), (14, vi (sm fr y1 + fr y1 (0 : Nat))), q8, q26, q27, q24, q25, q35]⟩ ⟨[q36, q43, q13], 3⟩ ({ n := (165 : Nat), m := [q12, q33, q34, q29, q30, q40, ((14 : Nat), vi (sm fr y2)), ((15 : Nat), vi (↑y2 : Int))] }) ({ h := [((2 : Nat), Blk.cells [vi o, vi l] (56 : Nat)), ((1 : Nat), Blk.cells [vi a, vi b, vi c, vi d, vi e] (54 : Nat)), ((0 : Nat), Blk.row true [IntKind.i64] er nr cr fr)], next := (3 : Nat) })) ∧ ((((↑y2 : Int) ≤ Prod.fst q2 / (2 : Int)) ∧ ((0 : Nat) ≤ y2)) ∧ (Int.toNat q16 - y2 < Int.toNat q16 - y1))))))))))) else (T0 ∧ (T0 ∧ (T0 ∧ (T0 ∧ (T0 ∧ (T0 ∧ (T0 ∧ (T0 ∧ (T0 ∧ (((q5 ≤ o + sm fr y1) ∧ (o + sm fr y1 ≤ q4)) ∧ (T0 ∧ (T0 ∧ (T0 ∧ (T0 ∧ (T0 ∧ (T0 ∧ (((q5 ≤ l - sm fr y1) ∧ (l - sm fr y1 ≤ q4)) ∧ (T0 ∧ (T0 ∧ (q11 ∧ (T0 ∧ (T0 ∧ (T0 ∧ (T0 ∧ (q7 ∧ ((((0 : Int) ≤ Prod.fst q2 / (2 : Int)) ∧ ((Prod.fst q2 / (2 : Int) ≤ (↑nr : Int)) ∧ (((↑nr : Int) ≤ (↑cr : Int)) ∧ ((↑cr : Int) ≤ (↑cr : Int))))) ∧ (Go.Rx.br (decide (Prod.fst q2 / (2 : Int) < (↑cr : Int))) (q46 ∧ (T0 ∧ (T0 ∧ (T0 ∧ ((Int.toNat q16 + Int.toNat q23 ≤ nr) ∧ ((InC a b c d e) ∧ (q6 ∧ ((Int.toNat q23 ≤ (100000 : Nat)) ∧ ((q20 ∧ ((@Eq Nat q31 q31) ∧ (@Eq Nat q32 q32))) ∧ (q3 ∧ ((True) ∧ (q46 ∧ (T0 ∧ (T0 ∧ (if (@Eq Int (Prod.snd q51) q9) then (T0 ∧ (q45 ∧ (T0 ∧ (if (@Eq Int (Prod.fst q51) q41) then q39 else q19)))) else q19))))))))))))))) (q46 ∧ (T0 ∧ (T0 ∧ (T0 ∧ (((0 : Nat) ≤ nr) ∧ ((InC a b c d e) ∧ (q6 ∧ (((0 : Nat) ≤ (100000 : Nat)) ∧ ((q20 ∧ (q6 ∧ q6)) ∧ (q3 ∧ ((True) ∧ (q46 ∧ (T0 ∧ (T0 ∧ (if (@Eq Int (Prod.snd q50) q9) then (T0 ∧ (q45 ∧ (T0 ∧ (if (@Eq Int (Prod.fst q50) q41) then q39 else q19)))) else q19)))))))))))))))))))))))))))))))))))))))))))))))))); let q48 := (T0 ∧ (T0 ∧ q47)); let q49 := (T0 ∧ ((∃ y0 : Nat, ((Go.Rx.Sub 1 [q0, q1] ⟨165, [(12, vi (0 : Int)), (11, vi (0 : Int)), q14, q25, q24, q27, q26, q8]⟩ ⟨[q36, q43, q13], 3⟩ ({ n := (165 : Nat), m := [q12, q33, q34, q29, q30, q21, ((11 : Nat), vi (sm fr y0)), ((12 : Nat), vi (↑y0 : Int))] }) ({ h := [((2 : Nat), Blk.cells [vi o, vi l] (56 : Nat)), ((1 : Nat), Blk.cells [vi a, vi b, vi c, vi d, vi e] (54 : Nat)), ((0 : Nat), Blk.row true [IntKind.i64] er nr cr fr)], next := (3 : Nat) })) ∧ (((↑y0 : Int) ≤ Prod.fst q2) ∧ ((0 : Nat) ≤ y0)))) ∧ (∀ y0 : Nat, let q52 := (((0 : Int) ≤ (↑y0 : Int)) ∧ ((↑y0 : Int) < (↑nr : Int))); let q53 := ((q5 ≤ sm fr y0 + fr q18 (0 : Nat)) ∧ (sm fr y0 + fr q18 (0 : Nat) ≤ q4)); ((((↑y0 : Int) ≤ Prod.fst q2) ∧ ((0 : Nat) ≤ y0)) → (T0 ∧ (if ((↑y0 : Int) < Prod.fst q2) then (q37 ∧ (q52 ∧ ((y0 < nr) ∧ (T0 ∧ (if (fr y0 (0 : Nat) < (1 : Int)) then q19 else (q37 ∧ (q52 ∧ ((y0 < nr) ∧ (T0 ∧ (((q5 ≤ sm fr y0 + fr y0 (0 : Nat)) ∧ (sm fr y0 + fr y0 (0 : Nat) ≤ q4)) ∧ (T0 ∧ (((q5 ≤ (↑y0 : Int) + (1 : Int)) ∧ ((↑y0 : Int) + (1 : Int) ≤ q4)) ∧ (∃ y1 : Nat, ((Go.Rx.Sub 1 [q0, q1] ⟨165, [(12, vi ((↑y0 : Int) + (1 : Int))), (11, vi (sm fr y0 + fr y0 (0 : Nat))), q8, q26, q27, q24, q25, q14]⟩ ⟨[q36, q43, q13], 3⟩ ({ n := (165 : Nat), m := [q12, q33, q34, q29, q30, q21, ((11 : Nat), vi (sm fr y1)), ((12 : Nat), vi (↑y1 : Int))] }) ({ h := [((2 : Nat), Blk.cells [vi o, vi l] (56 : Nat)), ((1 : Nat), Blk.cells [vi a, vi b, vi c, vi d, vi e] (54 : Nat)), ((0 : Nat), Blk.row true [IntKind.i64] er nr cr fr)], next := (3 : Nat) })) ∧ ((((↑y1 : Int) ≤ Prod.fst q2) ∧ ((0 : Nat) ≤ y1)) ∧ (Int.toNat q10 - y1 < Int.toNat q10 - y0)))))))))))))))) else (T0 ∧ (T0 ∧ (if (l < sm fr y0) then q19 else (T0 ∧ (if (slv a b c d e o < sm fr y0) then q19 else (T0 ∧ (T0 ∧ (T0 ∧ (T0 ∧ (if (@Eq Int q9 ((5 : Int))) then (T0 ∧ (T0 ∧ (T0 ∧ (T0 ∧ (T0 ∧ (q37 ∧ (q42 ∧ (T0 ∧ (q22 ∧ (T0 ∧ (T0 ∧ (q53 ∧ (T0 ∧ (T0 ∧ (T0 ∧ (T0 ∧ (T0 ∧ (if (sm fr y0 + fr q18 (0 : Nat) ≤ l) then (T0 ∧ (T0 ∧ (T0 ∧ (T0 ∧ (T0 ∧ (T0 ∧ (q37 ∧ (q42 ∧ (T0 ∧ (q22 ∧ (T0 ∧ (T0 ∧ (q53 ∧ (T0 ∧ (T0 ∧ (T0 ∧ (if (sm fr y0 + fr q18 (0 : Nat) ≤ slv a b c d e o) then q28 else q47))))))))))))))))) else q48)))))))))))))))))) else (T0 ∧ q48))))))))))))))))); (T0 ∧ (q11 ∧ (T0 ∧ (if ((60 : Int) < (↑nr : Int)) then q39 else (T0 ∧ (T0 ∧ (T0 ∧ (T0 ∧ (T0 ∧ (T0 ∧ (((0 : Nat) + nr ≤ nr) ∧ ((InC a b c d e) ∧ (q6 ∧ ((nr ≤ (100000 : Nat)) ∧ ((q20 ∧ ((@Eq Nat (nr) (nr)) ∧ (@Eq Nat (cr) (cr)))) ∧ (q3 ∧ ((True) ∧ (T0 ∧ (T0 ∧ (T0 ∧ (T0 ∧ (T0 ∧ (T0 ∧ ((InC a b c d e) ∧ (q3 ∧ ((True) ∧ (T0 ∧ (if (@Eq Int (ste a b c d e o l) ((0 : Int))) then (T0 ∧ (T0 ∧ (T0 ∧ (T0 ∧ ((InC a b c d e) ∧ (q3 ∧ ((True) ∧ (T0 ∧ (if (@Eq Int (oce a b c d e o) ((0 : Int))) then (T0 ∧ (if (Prod.fst q2 < (0 : Int)) then q19 else (q11 ∧ (T0 ∧ (if ((↑nr : Int) < Prod.fst q2) then q19 else (T0 ∧ (if (@Eq Int q9 ((0 : Int))) then (q11 ∧ (T0 ∧ (if (@Eq Int q10 ((↑nr : Int))) then q49 else q28))) else (q11 ∧ (T0 ∧ (if (@Eq Int q10 ((↑nr : Int))) then q28 else q49)))))))))) else q19))))))))) else (T0 ∧ (if (@Eq Int q10 ((0 : Int))) then (T0 ∧ (if (@Eq Int q9 ((0 : Int))) then q19 else q39)) else q19))))))))))))))))))))))))))))))
set_option maxRecDepth 100000 in
theorem lsumG_rE (a b c d e : Int) (er nr cr : Nat) (fr : RF) (o : Int) (l : Int) (K : Value → List Blk → Prop) : lsumG_rV a b c d e er nr cr fr o l K = bodyX (mk XL11G) (callN (mk XL11G) 4) (lsumG_rA a b c d e er nr cr fr o l) Try.f11 [.agg ⟨[.int .i64 a, .int .i64 b, .int .i64 c, .int .i64 d, .int .i64 e]⟩, .agg ⟨[.int .i64 o, .int .i64 l]⟩, rsl 0 0 nr cr] (stOf [.row true [.i64] er nr cr fr]) fun v _ => v = .bool true := by kernel_rfl
set_option maxRecDepth 100000 in
set_option maxHeartbeats 4000000 in
set_option tactic.hygienic false in
theorem lsumG_rP (a b c d e : Int) (er nr cr : Nat) (fr : RF) (o : Int) (l : Int) (K : Value → List Blk → Prop)  (hI : InC a b c d e) (hct : nr ≤ cr) (hf1 : nr ≤ 60) (h1 : ste a b c d e o l = 0) : lsumG_rV a b c d e er nr cr fr o l K := by
  unfold lsumG_rV
  conv => zeta
  obtain ⟨j, r, J⟩ := runS (n := nr) (f := fr) h1 hf1
  have FF := J.pre
  have j1 := J.le
  have j2 := J.last
  have j3 := J.rest
  have fj := FF j (Nat.le_refl _)
  rw [J.done, J.err]

  repeat' (first | (with_reducible exact rfl) | (with_reducible exact trivial) | (with_reducible refine And.intro ?_ ?_) | (intro) | (with_reducible refine br_intro (fun hq => ?_) (fun hq => ?_)) | (with_reducible refine if_both (fun hz => ?_) (fun hz => ?_)) | fail)

  all_goals first
    | omega
    | assumption
    | contradiction
    | exact ⟨y1 + 1, (by (refine And.intro (And.intro rfl (And.intro rfl (And.intro rfl rfl))) ?_; (repeat' (first | exact trivial | exact rfl | exact fun _ _ _ _ => rfl | refine And.intro ?_ ?_ | omega | fail)); done)), ⟨by omega, by omega⟩, by omega⟩
    | exact ⟨y0 + 1, (by (refine And.intro (And.intro rfl (And.intro rfl (And.intro rfl rfl))) ?_; (repeat' (first | exact trivial | exact rfl | exact fun _ _ _ _ => rfl | refine And.intro ?_ ?_ | omega | fail)); done)), ⟨by omega, by omega⟩, by omega⟩
    | exact ⟨0, (by (refine And.intro (And.intro rfl (And.intro rfl (And.intro rfl rfl))) ?_; (repeat' (first | exact trivial | exact rfl | exact fun _ _ _ _ => rfl | refine And.intro ?_ ?_ | omega | fail)); done)), ⟨by omega, by omega⟩⟩
    | omega
    | (have F1 := FF y1 (by omega); have z1 := ste_cases a b c d e (o + sm fr y1) (l - sm fr y1); have ck := chk_cases a b c d e; have mb := mulC a b c d e; omega)
    | (have F0 := FF y0 (by omega); omega)
    | (have e1 : Int.toNat (((j : Nat) : Int) / 2) = y1 := (by omega)
       have e2 : Int.toNat (((nr : Nat) : Int) - ((j : Nat) : Int) / 2) = nr - y1 := (by omega)
       rw [e1, e2, j3 y1 (by omega)] at hz
       first | exact absurd rfl hz | exact absurd (show ((j : Nat) : Int) - (y1 : Int) = ((j : Nat) : Int) - ((j : Nat) : Int) / 2 by omega) hz)
    | (have hq2 := of_decide_eq_false hq
       have hy : y1 = 0 := (by omega)
       have hn : nr = 0 := (by omega)
       have e3 := j3 0 (by omega)
       rw [hn] at e3
       subst hy
       rw [show rrn a b c d e (o + sm fr 0) (l - sm fr 0) 0 fr = ((j : Int) - ((0 : Nat) : Int), r) from e3] at hz
       first | exact absurd rfl hz | exact absurd (show ((j : Nat) : Int) - ((0 : Nat) : Int) = ((j : Nat) : Int) - ((j : Nat) : Int) / 2 by omega) hz)
    | (have hy : y1 = 0 := (by omega)
       subst hy
       have e3 := j3 0 (by omega)
       rw [show rrn a b c d e (o + sm fr 0) (l - sm fr 0) 0 fr = ((j : Int) - ((0 : Nat) : Int), r) from e3] at hz
       first | exact absurd rfl hz | exact absurd (show ((j : Nat) : Int) - ((0 : Nat) : Int) = ((j : Nat) : Int) - ((j : Nat) : Int) / 2 by omega) hz)
    | (have ck := chk_cases a b c d e; have mb := mulC a b c d e; have z1 := ste_cases a b c d e o l; have z2 := oce_cases a b c d e o; have z3 := slv_cases a b c d e o; omega)
    | (obtain rfl : y0 = j := (by omega)
       try simp only [Int.toNat_natCast] at *
       have ck := chk_cases a b c d e; have mb := mulC a b c d e; have z1 := ste_cases a b c d e o l; have z2 := oce_cases a b c d e o; have z3 := slv_cases a b c d e o; have F0 := FF y0 (by omega); have s0 : y0 = 0 → sm fr y0 = 0 := (fun e => by rw [e]; rfl); have z4 := aft_cases a b c d e (o + sm fr y0) (l - sm fr y0) (fr y0 0); have z5 := ade_cases a b c d e (o + sm fr y0) (l - sm fr y0) (fr y0 0); have z6 := ste_cases a b c d e (o + sm fr y0) (l - sm fr y0); omega)
    | (exfalso; simp at hq; omega)
end Go.Proofs.Ytnpgeeajlbglaaa.Fr
