/-
  Bump: own. No project text.
-/
import Derived.Test.YtkflmglpniebfaaZ4
import Derived.Test.YtkflmglpniebfaaZ3
namespace Go.Proofs.Ytkflmglpniebfaa.Fr
set_option maxRecDepth 100000
set_option maxHeartbeats 4000000
open Go.Rx
open Go.RowKit (Below)
set_option linter.unusedVariables false
def con57B : Con := fun vs bs K => match vs with
  | [u, vl, vt, .int .i64 y] => five u fun a b c d e => parse [.i64, .i64] 0 vl bs fun nl fl j0 bs0 => parse [.i64] j0 vt bs0 fun nt ft j1 bs1 => bs1 = [] ∧ ((capOk (vt)) ∧ (¬ askT a b c d e nl fl nt ft (-1) y = 0)) ∧ (K (.tuple ⟨[.int .i64 (0), .slice none 0 0, .slice none 0 0, .int .i64 (askT a b c d e nl fl nt ft (-1) y)]⟩) [])
  | _ => False

def con57B_nnA (a b c d e : Int) (y : Int) : Ann := fun _ _ _ => none
def con57B_nrA (a b c d e : Int) (et nt ct : Nat) (ft : RF) (y : Int) : Ann := fun _ _ _ => none
def con57B_rnA (a b c d e : Int) (el nl cl : Nat) (fl : RF) (y : Int) : Ann := fun _ _ _ => none
def con57B_rrA (a b c d e : Int) (el nl cl : Nat) (fl : RF) (et nt ct : Nat) (ft : RF) (y : Int) : Ann := fun _ _ _ => none
def con57F : Con := fun vs bs K => match vs with
  | [u, vl, vt, .int .i64 y] => five u fun a b c d e => parseR [.i64, .i64] 0 vl bs fun nl fl j0 bs0 => parse [.i64] j0 vt bs0 fun nt ft j1 bs1 => bs1 = [] ∧ ((capOk (vt)) ∧ (askT a b c d e nl fl nt ft (-1) y = 0) ∧ (sel (selE fl 0) nl = [] ∨ List.length (sel (selE fl 2) nl) = 2)) ∧ (K (.tuple ⟨[.int .i64 (0), .slice none 0 0, .slice none 0 0, .int .i64 (5)]⟩) [])
  | _ => False

def con57F_rnA (a b c d e : Int) (el nl cl : Nat) (fl : RF) (y : Int) : Ann := fun _ _ _ => none
def con57F_rrA (a b c d e : Int) (el nl cl : Nat) (fl : RF) (et nt ct : Nat) (ft : RF) (y : Int) : Ann := fun _ _ _ => none
def con57B_nnV (a b c d e : Int) (y : Int) (K : Value → List Blk → Prop) : Prop := let q0 := (T0 ∧ (False)); let q1 := TS; let q2 := (Prod.snd (bck a b c d e (0 : Nat) zF (0 : Nat) zF)); let q3 := (T0 ∧ (∃ y0 : Value, (∃ y1 : List Blk, ((Go.Rx.Found 0 (Value.tuple { toList := [vi (0 : Int), vn, vn, vi (7 : Int)] }) ({ h := [((2 : Nat), Blk.cells [vi a, vi b, vi c, vi d, vi e] (23 : Nat)), ((1 : Nat), Blk.row false [IntKind.i64] (3 : Nat) (1 : Nat) (1 : Nat) (litF (List.length [IntKind.i64]) ([y] ++ []))), ((0 : Nat), Blk.cells [vi a, vi b, vi c, vi d, vi e] (23 : Nat))], next := (3 : Nat) }) (y0) (y1)) ∧ (K y0 y1))))); (t2 (q1 ∧ (t9 ((InC a b c d e) ∧ (eB ∧ ((Nat.le (0 : Nat) (0 : Nat)) ∧ (T0 ∧ (if (@Eq Int q2 ((0 : Int))) then (q1 ∧ (T0 ∧ ((q1 ∧ (@Eq Nat ((1 : Nat)) ((1 : Nat)))) ∧ ((((0 : Int) ≤ (0 : Int)) ∧ ((0 : Int) < (↑(1 : Nat) : Int))) ∧ ((Int.toNat (0 : Int) < (1 : Nat)) ∧ (T0 ∧ (if (y < (1 : Int)) then q3 else (t2 (if (a < y) then q3 else (T0 ∧ ((((-9223372036854775808 : Int) ≤ (0 : Int) + (1 : Int)) ∧ ((0 : Int) + (1 : Int) ≤ (9223372036854775807 : Int))) ∧ (t4 (if (b ≤ (-1 : Int)) then q3 else (t6 q0)))))))))))))) else (T0 ∧ (if (@Eq Int q2 ((0 : Int))) then q0 else (∃ y0 : Value, (∃ y1 : List Blk, ((Go.Rx.Found 0 (Value.tuple { toList := [vi (0 : Int), vn, vn, vi q2] }) ({ h := [((2 : Nat), Blk.cells [vi a, vi b, vi c, vi d, vi e] (23 : Nat)), ((1 : Nat), Blk.row false [IntKind.i64] (3 : Nat) (1 : Nat) (1 : Nat) (litF (List.length [IntKind.i64]) ([y] ++ []))), ((0 : Nat), Blk.cells [vi a, vi b, vi c, vi d, vi e] (23 : Nat))], next := (3 : Nat) }) (y0) (y1)) ∧ (K y0 y1))))))))))))))
theorem con57B_nnE (a b c d e : Int) (y : Int) (K : Value → List Blk → Prop) : con57B_nnV a b c d e y K = bodyX (mkB X57B) (callN (mkB X57B) 7) (con57B_nnA a b c d e y) Try.f57 [five' a b c d e, .slice none 0 0, .slice none 0 0, .int .i64 y] (stOf []) (Fd 0 K) := by kernel_rfl
set_option tactic.hygienic false in
theorem con57B_nnP (a b c d e : Int) (y : Int) (K : Value → List Blk → Prop)  (hI : InC a b c d e) (hct : capOk (.slice none 0 0)) (h1 : ¬ askT a b c d e 0 zF 0 zF (-1) y = 0) (h : K (.tuple ⟨[.int .i64 (0), .slice none 0 0, .slice none 0 0, .int .i64 (askT a b c d e 0 zF 0 zF (-1) y)]⟩) []) : con57B_nnV a b c d e y K := by
  unfold con57B_nnV
  conv => zeta
  unfold askT at h1 h
  have G : (bck a b c d e 0 zF 0 zF).2 = 0 → good a b c d e ∧ ((0 : Nat) : Int) = b ∧ ∀ i, i < 0 → fok a zF i := fun q => ckF_zero (bck_ck q)
  repeat' (first | (with_reducible first | exact rfl | exact trivial | refine And.intro ?_ ?_ | refine br_intro (fun hq => ?_) fun hq => ?_ | refine if_both (fun hz => ?_) fun hz => ?_) | (intro) | fail)

  all_goals first
    | omega
    | assumption
    | contradiction
    | (refine fin0 (by kernel_rfl) (by kernel_rfl) ?_
       repeat' (split at h)
       all_goals first | exact h | omega | (rw [show (bck _ _ _ _ _ _ _ _ _).2 = 0 by assumption]; exact h) | (exfalso; simp_all; omega))
    | (have g := G (by assumption); omega)
    | (exfalso; apply h1; rw [if_pos (by assumption), if_neg (by omega), if_neg (by omega)])
    | (exfalso; apply h1; rw [if_pos (by assumption), if_neg (by omega), if_neg (by first | omega | (have g := G (by assumption); simp at hq; omega))])
    | (exfalso; simp at hq; omega)
def con57B_nrV (a b c d e : Int) (et nt ct : Nat) (ft : RF) (y : Int) (K : Value → List Blk → Prop) : Prop := let q0 := (T0 ∧ (False)); let q1 := TS; let q2 := (Prod.snd (bck a b c d e (0 : Nat) zF nt ft)); let q3 := (T0 ∧ (∃ y0 : Value, (∃ y1 : List Blk, ((Go.Rx.Found 1 (Value.tuple { toList := [vi (0 : Int), vn, vn, vi (7 : Int)] }) ({ h := [((3 : Nat), Blk.cells [vi a, vi b, vi c, vi d, vi e] (23 : Nat)), ((2 : Nat), Blk.row false [IntKind.i64] (3 : Nat) (1 : Nat) (1 : Nat) (litF (List.length [IntKind.i64]) ([y] ++ []))), ((1 : Nat), Blk.cells [vi a, vi b, vi c, vi d, vi e] (23 : Nat)), ((0 : Nat), Blk.row true [IntKind.i64] et nt ct ft)], next := (4 : Nat) }) (y0) (y1)) ∧ (K y0 y1))))); (t2 (q1 ∧ (t8 (((0 : Nat) + nt ≤ nt) ∧ ((InC a b c d e) ∧ ((@Eq Nat ((0 : Nat)) ((0 : Nat))) ∧ ((nt ≤ (100000 : Nat)) ∧ (((@Eq (List IntKind) ([IntKind.i64]) ([IntKind.i64])) ∧ ((@Eq Nat (nt) (nt)) ∧ (@Eq Nat (ct) (ct)))) ∧ (eB ∧ ((Nat.le nt ct) ∧ (T0 ∧ (if (@Eq Int q2 ((0 : Int))) then (q1 ∧ (T0 ∧ ((q1 ∧ (@Eq Nat ((1 : Nat)) ((1 : Nat)))) ∧ ((((0 : Int) ≤ (0 : Int)) ∧ ((0 : Int) < (↑(1 : Nat) : Int))) ∧ ((Int.toNat (0 : Int) < (1 : Nat)) ∧ (T0 ∧ (if (y < (1 : Int)) then q3 else (t2 (if (a < y) then q3 else (T0 ∧ ((((-9223372036854775808 : Int) ≤ (0 : Int) + (1 : Int)) ∧ ((0 : Int) + (1 : Int) ≤ (9223372036854775807 : Int))) ∧ (t4 (if (b ≤ (-1 : Int)) then q3 else (t6 q0)))))))))))))) else (T0 ∧ (if (@Eq Int q2 ((0 : Int))) then q0 else (∃ y0 : Value, (∃ y1 : List Blk, ((Go.Rx.Found 1 (Value.tuple { toList := [vi (0 : Int), vn, vn, vi q2] }) ({ h := [((3 : Nat), Blk.cells [vi a, vi b, vi c, vi d, vi e] (23 : Nat)), ((2 : Nat), Blk.row false [IntKind.i64] (3 : Nat) (1 : Nat) (1 : Nat) (litF (List.length [IntKind.i64]) ([y] ++ []))), ((1 : Nat), Blk.cells [vi a, vi b, vi c, vi d, vi e] (23 : Nat)), ((0 : Nat), Blk.row true [IntKind.i64] et nt ct ft)], next := (4 : Nat) }) (y0) (y1)) ∧ (K y0 y1))))))))))))))))))
theorem con57B_nrE (a b c d e : Int) (et nt ct : Nat) (ft : RF) (y : Int) (K : Value → List Blk → Prop) : con57B_nrV a b c d e et nt ct ft y K = bodyX (mkB X57B) (callN (mkB X57B) 7) (con57B_nrA a b c d e et nt ct ft y) Try.f57 [five' a b c d e, .slice none 0 0, rsl 0 0 nt ct, .int .i64 y] (stOf [.row true [.i64] et nt ct ft]) (Fd 1 K) := by kernel_rfl
set_option tactic.hygienic false in
theorem con57B_nrP (a b c d e : Int) (et nt ct : Nat) (ft : RF) (y : Int) (K : Value → List Blk → Prop)  (hI : InC a b c d e) (hnt : nt ≤ 100000) (hct : capOk (rsl 0 0 nt ct)) (h1 : ¬ askT a b c d e 0 zF nt ft (-1) y = 0) (h : K (.tuple ⟨[.int .i64 (0), .slice none 0 0, .slice none 0 0, .int .i64 (askT a b c d e 0 zF nt ft (-1) y)]⟩) []) : con57B_nrV a b c d e et nt ct ft y K := by
  unfold con57B_nrV
  conv => zeta
  unfold askT at h1 h
  have G : (bck a b c d e 0 zF nt ft).2 = 0 → good a b c d e ∧ ((0 : Nat) : Int) = b ∧ ∀ i, i < 0 → fok a zF i := fun q => ckF_zero (bck_ck q)
  repeat' (first | (with_reducible first | exact rfl | exact trivial | refine And.intro ?_ ?_ | refine br_intro (fun hq => ?_) fun hq => ?_ | refine if_both (fun hz => ?_) fun hz => ?_) | (intro) | fail)

  all_goals first
    | omega
    | assumption
    | contradiction
    | (refine fin0 (by kernel_rfl) (by kernel_rfl) ?_
       repeat' (split at h)
       all_goals first | exact h | omega | (rw [show (bck _ _ _ _ _ _ _ _ _).2 = 0 by assumption]; exact h) | (exfalso; simp_all; omega))
    | (have g := G (by assumption); omega)
    | (exfalso; apply h1; rw [if_pos (by assumption), if_neg (by omega), if_neg (by omega)])
    | (exfalso; apply h1; rw [if_pos (by assumption), if_neg (by omega), if_neg (by first | omega | (have g := G (by assumption); simp at hq; omega))])
    | (exfalso; simp at hq; omega)
def con57B_rnV (a b c d e : Int) (el nl cl : Nat) (fl : RF) (y : Int) (K : Value → List Blk → Prop) : Prop := let q0 := (T0 ∧ (False)); let q1 := TS; let q2 := (Prod.snd (bck a b c d e nl fl (0 : Nat) zF)); let q3 := (T0 ∧ (∃ y0 : Value, (∃ y1 : List Blk, ((Go.Rx.Found 1 (Value.tuple { toList := [vi (0 : Int), vn, vn, vi (7 : Int)] }) ({ h := [((3 : Nat), Blk.cells [vi a, vi b, vi c, vi d, vi e] (23 : Nat)), ((2 : Nat), Blk.row false [IntKind.i64] (3 : Nat) (1 : Nat) (1 : Nat) (litF (List.length [IntKind.i64]) ([y] ++ []))), ((1 : Nat), Blk.cells [vi a, vi b, vi c, vi d, vi e] (23 : Nat)), ((0 : Nat), rT el nl cl fl)], next := (4 : Nat) }) (y0) (y1)) ∧ (K y0 y1))))); (t2 (q1 ∧ (t7 (((0 : Nat) + nl ≤ nl) ∧ (T0 ∧ ((InC a b c d e) ∧ ((@Eq Nat ((0 : Nat)) ((0 : Nat))) ∧ ((nl ≤ (100000 : Nat)) ∧ ((eK ∧ ((@Eq Nat (nl) (nl)) ∧ (@Eq Nat (cl) (cl)))) ∧ (eB ∧ ((Nat.le (0 : Nat) (0 : Nat)) ∧ (T0 ∧ (if (@Eq Int q2 ((0 : Int))) then (q1 ∧ (T0 ∧ ((q1 ∧ (@Eq Nat ((1 : Nat)) ((1 : Nat)))) ∧ ((((0 : Int) ≤ (0 : Int)) ∧ ((0 : Int) < (↑(1 : Nat) : Int))) ∧ ((Int.toNat (0 : Int) < (1 : Nat)) ∧ (T0 ∧ (if (y < (1 : Int)) then q3 else (t2 (if (a < y) then q3 else (T0 ∧ ((((-9223372036854775808 : Int) ≤ (0 : Int) + (1 : Int)) ∧ ((0 : Int) + (1 : Int) ≤ (9223372036854775807 : Int))) ∧ (t4 (if (b ≤ (-1 : Int)) then q3 else (t6 q0)))))))))))))) else (T0 ∧ (if (@Eq Int q2 ((0 : Int))) then q0 else (∃ y0 : Value, (∃ y1 : List Blk, ((Go.Rx.Found 1 (Value.tuple { toList := [vi (0 : Int), vn, vn, vi q2] }) ({ h := [((3 : Nat), Blk.cells [vi a, vi b, vi c, vi d, vi e] (23 : Nat)), ((2 : Nat), Blk.row false [IntKind.i64] (3 : Nat) (1 : Nat) (1 : Nat) (litF (List.length [IntKind.i64]) ([y] ++ []))), ((1 : Nat), Blk.cells [vi a, vi b, vi c, vi d, vi e] (23 : Nat)), ((0 : Nat), rT el nl cl fl)], next := (4 : Nat) }) (y0) (y1)) ∧ (K y0 y1)))))))))))))))))))
theorem con57B_rnE (a b c d e : Int) (el nl cl : Nat) (fl : RF) (y : Int) (K : Value → List Blk → Prop) : con57B_rnV a b c d e el nl cl fl y K = bodyX (mkB X57B) (callN (mkB X57B) 7) (con57B_rnA a b c d e el nl cl fl y) Try.f57 [five' a b c d e, rsl 0 0 nl cl, .slice none 0 0, .int .i64 y] (stOf [.row true [.i64, .i64] el nl cl fl]) (Fd 1 K) := by kernel_rfl
set_option tactic.hygienic false in
theorem con57B_rnP (a b c d e : Int) (el nl cl : Nat) (fl : RF) (y : Int) (K : Value → List Blk → Prop)  (hI : InC a b c d e) (hnl : nl ≤ 100000) (hct : capOk (.slice none 0 0)) (h1 : ¬ askT a b c d e nl fl 0 zF (-1) y = 0) (h : K (.tuple ⟨[.int .i64 (0), .slice none 0 0, .slice none 0 0, .int .i64 (askT a b c d e nl fl 0 zF (-1) y)]⟩) []) : con57B_rnV a b c d e el nl cl fl y K := by
  unfold con57B_rnV
  conv => zeta
  unfold askT at h1 h
  have G : (bck a b c d e nl fl 0 zF).2 = 0 → good a b c d e ∧ ((nl : Nat) : Int) = b ∧ ∀ i, i < nl → fok a fl i := fun q => ckF_zero (bck_ck q)
  repeat' (first | (with_reducible first | exact rfl | exact trivial | refine And.intro ?_ ?_ | refine br_intro (fun hq => ?_) fun hq => ?_ | refine if_both (fun hz => ?_) fun hz => ?_) | (intro) | fail)

  all_goals first
    | omega
    | assumption
    | contradiction
    | (refine fin0 (by kernel_rfl) (by kernel_rfl) ?_
       repeat' (split at h)
       all_goals first | exact h | omega | (rw [show (bck _ _ _ _ _ _ _ _ _).2 = 0 by assumption]; exact h) | (exfalso; simp_all; omega))
    | (have g := G (by assumption); omega)
    | (exfalso; apply h1; rw [if_pos (by assumption), if_neg (by omega), if_neg (by omega)])
    | (exfalso; apply h1; rw [if_pos (by assumption), if_neg (by omega), if_neg (by first | omega | (have g := G (by assumption); simp at hq; omega))])
    | (exfalso; simp at hq; omega)
def con57B_rrV (a b c d e : Int) (el nl cl : Nat) (fl : RF) (et nt ct : Nat) (ft : RF) (y : Int) (K : Value → List Blk → Prop) : Prop := let q0 := (T0 ∧ (False)); let q1 := (@Eq Nat ((1 : Nat)) ((1 : Nat))); let q2 := (Prod.snd (bck a b c d e nl fl nt ft)); let q3 := TS; let q4 := (T0 ∧ (∃ y0 : Value, (∃ y1 : List Blk, ((Go.Rx.Found 2 (Value.tuple { toList := [vi (0 : Int), vn, vn, vi (7 : Int)] }) ({ h := [((4 : Nat), Blk.cells [vi a, vi b, vi c, vi d, vi e] (23 : Nat)), ((3 : Nat), Blk.row false [IntKind.i64] (3 : Nat) (1 : Nat) (1 : Nat) (litF (List.length [IntKind.i64]) ([y] ++ []))), ((2 : Nat), Blk.cells [vi a, vi b, vi c, vi d, vi e] (23 : Nat)), ((0 : Nat), rT el nl cl fl), ((1 : Nat), Blk.row true [IntKind.i64] et nt ct ft)], next := (5 : Nat) }) (y0) (y1)) ∧ (K y0 y1))))); (t2 (q3 ∧ (t7 (((0 : Nat) + nl ≤ nl) ∧ (((0 : Nat) + nt ≤ nt) ∧ ((InC a b c d e) ∧ ((@Eq Nat ((0 : Nat)) ((0 : Nat))) ∧ ((nl ≤ (100000 : Nat)) ∧ ((eK ∧ ((@Eq Nat (nl) (nl)) ∧ (@Eq Nat (cl) (cl)))) ∧ (q1 ∧ ((nt ≤ (100000 : Nat)) ∧ (((@Eq (List IntKind) ([IntKind.i64]) ([IntKind.i64])) ∧ ((@Eq Nat (nt) (nt)) ∧ (@Eq Nat (ct) (ct)))) ∧ (eB ∧ ((Nat.le nt ct) ∧ (T0 ∧ (if (@Eq Int q2 ((0 : Int))) then (q3 ∧ (T0 ∧ ((q3 ∧ q1) ∧ ((((0 : Int) ≤ (0 : Int)) ∧ ((0 : Int) < (↑(1 : Nat) : Int))) ∧ ((Int.toNat (0 : Int) < (1 : Nat)) ∧ (T0 ∧ (if (y < (1 : Int)) then q4 else (t2 (if (a < y) then q4 else (T0 ∧ ((((-9223372036854775808 : Int) ≤ (0 : Int) + (1 : Int)) ∧ ((0 : Int) + (1 : Int) ≤ (9223372036854775807 : Int))) ∧ (t4 (if (b ≤ (-1 : Int)) then q4 else (t6 q0)))))))))))))) else (T0 ∧ (if (@Eq Int q2 ((0 : Int))) then q0 else (∃ y0 : Value, (∃ y1 : List Blk, ((Go.Rx.Found 2 (Value.tuple { toList := [vi (0 : Int), vn, vn, vi q2] }) ({ h := [((4 : Nat), Blk.cells [vi a, vi b, vi c, vi d, vi e] (23 : Nat)), ((3 : Nat), Blk.row false [IntKind.i64] (3 : Nat) (1 : Nat) (1 : Nat) (litF (List.length [IntKind.i64]) ([y] ++ []))), ((2 : Nat), Blk.cells [vi a, vi b, vi c, vi d, vi e] (23 : Nat)), ((0 : Nat), rT el nl cl fl), ((1 : Nat), Blk.row true [IntKind.i64] et nt ct ft)], next := (5 : Nat) }) (y0) (y1)) ∧ (K y0 y1))))))))))))))))))))))
theorem con57B_rrE (a b c d e : Int) (el nl cl : Nat) (fl : RF) (et nt ct : Nat) (ft : RF) (y : Int) (K : Value → List Blk → Prop) : con57B_rrV a b c d e el nl cl fl et nt ct ft y K = bodyX (mkB X57B) (callN (mkB X57B) 7) (con57B_rrA a b c d e el nl cl fl et nt ct ft y) Try.f57 [five' a b c d e, rsl 0 0 nl cl, rsl 1 0 nt ct, .int .i64 y] (stOf [.row true [.i64, .i64] el nl cl fl, .row true [.i64] et nt ct ft]) (Fd 2 K) := by kernel_rfl
set_option tactic.hygienic false in
theorem con57B_rrP (a b c d e : Int) (el nl cl : Nat) (fl : RF) (et nt ct : Nat) (ft : RF) (y : Int) (K : Value → List Blk → Prop)  (hI : InC a b c d e) (hnl : nl ≤ 100000) (hnt : nt ≤ 100000) (hct : capOk (rsl 1 0 nt ct)) (h1 : ¬ askT a b c d e nl fl nt ft (-1) y = 0) (h : K (.tuple ⟨[.int .i64 (0), .slice none 0 0, .slice none 0 0, .int .i64 (askT a b c d e nl fl nt ft (-1) y)]⟩) []) : con57B_rrV a b c d e el nl cl fl et nt ct ft y K := by
  unfold con57B_rrV
  conv => zeta
  unfold askT at h1 h
  have G : (bck a b c d e nl fl nt ft).2 = 0 → good a b c d e ∧ ((nl : Nat) : Int) = b ∧ ∀ i, i < nl → fok a fl i := fun q => ckF_zero (bck_ck q)
  repeat' (first | (with_reducible first | exact rfl | exact trivial | refine And.intro ?_ ?_ | refine br_intro (fun hq => ?_) fun hq => ?_ | refine if_both (fun hz => ?_) fun hz => ?_) | (intro) | fail)

  all_goals first
    | omega
    | assumption
    | contradiction
    | (refine fin0 (by kernel_rfl) (by kernel_rfl) ?_
       repeat' (split at h)
       all_goals first | exact h | omega | (rw [show (bck _ _ _ _ _ _ _ _ _).2 = 0 by assumption]; exact h) | (exfalso; simp_all; omega))
    | (have g := G (by assumption); omega)
    | (exfalso; apply h1; rw [if_pos (by assumption), if_neg (by omega), if_neg (by omega)])
    | (exfalso; apply h1; rw [if_pos (by assumption), if_neg (by omega), if_neg (by first | omega | (have g := G (by assumption); simp at hq; omega))])
    | (exfalso; simp at hq; omega)
theorem con57B_ok : BodyOk (mkB X57B) 7 Try.f57 con57B := by
  intro vs bs K hh hro
  clear hro
  unfold con57B at hh
  split at hh
  · rename_i u vl vt y
    obtain ⟨a, b, c, d, e, rfl, hI, hh0⟩ := five_inv hh
    rcases parse_inv hh0 with ⟨rfl, hh1⟩ | ⟨el, nl, cl, fl, btl, rfl, hnl, rfl, hh1⟩ <;> clear hh0
    · rcases parse_inv hh1 with ⟨rfl, hh2⟩ | ⟨et, nt, ct, ft, btt, rfl, hnt, rfl, hh2⟩ <;> clear hh1
      · obtain ⟨rfl, ⟨hct, h1⟩, hc⟩ := hh2
        exact ⟨_, _, cast (con57B_nnE a b c d e  y K) (con57B_nnP a b c d e  y K hI  hct h1 hc)⟩
      · obtain ⟨rfl, ⟨hct, h1⟩, hc⟩ := hh2
        exact ⟨_, _, cast (con57B_nrE a b c d e et nt ct ft y K) (con57B_nrP a b c d e et nt ct ft y K hI hnt hct h1 hc)⟩
    · rcases parse_inv hh1 with ⟨rfl, hh2⟩ | ⟨et, nt, ct, ft, btt, rfl, hnt, rfl, hh2⟩ <;> clear hh1
      · obtain ⟨rfl, ⟨hct, h1⟩, hc⟩ := hh2
        exact ⟨_, _, cast (con57B_rnE a b c d e el nl cl fl y K) (con57B_rnP a b c d e el nl cl fl y K hI hnl hct h1 hc)⟩
      · obtain ⟨rfl, ⟨hct, h1⟩, hc⟩ := hh2
        exact ⟨_, _, cast (con57B_rrE a b c d e el nl cl fl et nt ct ft y K) (con57B_rrP a b c d e el nl cl fl et nt ct ft y K hI hnl hnt hct h1 hc)⟩
  · exact hh.elim
theorem con57B_told : Told 57 (specOf con57B) := toldB (X := X57B) X57B_told (by kernel_rfl) (by kernel_rfl) (by kernel_rfl) con57B_ok
def con57F_rnV (a b c d e : Int) (el nl cl : Nat) (fl : RF) (y : Int) (K : Value → List Blk → Prop) : Prop := let q0 := ((0 : Nat) + nl ≤ nl); let q1 := (nl ≤ (100000 : Nat)); let q2 := eB; let q3 := (@Eq Nat ((0 : Nat)) ((0 : Nat))); let q4 := TS; let q5 := (litF (List.length [IntKind.i64]) ([y] ++ [])); let q6 := (some (rT el nl cl fl)); let q7 := ((0 : Nat), rT el nl cl fl); let q8 := eK; let q9 := (some (Blk.row false [IntKind.i64] (3 : Nat) (1 : Nat) (1 : Nat) q5)); let q10 := ((2 : Nat), Blk.row false [IntKind.i64] (3 : Nat) (1 : Nat) (1 : Nat) q5); let q11 := (q8 ∧ ((@Eq Nat (nl) (nl)) ∧ (@Eq Nat (cl) (cl)))); let q12 := (some (Blk.cells [vi a, vi b, vi c, vi d, vi e] (23 : Nat))); let q13 := ((3 : Nat), Blk.cells [vi a, vi b, vi c, vi d, vi e] (23 : Nat)); let q14 := ((1 : Nat), Blk.cells [vi a, vi b, vi c, vi d, vi e] (23 : Nat)); let q15 := (@Eq (Option Blk) q12 q12); let q16 := (T0 ∧ (∃ y0 : Value, (∃ y1 : List Blk, ((Go.Rx.Found 1 (Value.tuple { toList := [vi (0 : Int), vn, vn, vi (7 : Int)] }) ({ h := [q13, q10, q14, q7], next := (4 : Nat) }) (y0) (y1)) ∧ (K y0 y1))))); let q17 := (q15 ∧ ((@Eq (Option Blk) q9 q9) ∧ (q15 ∧ ((@Eq (Option Blk) q6 q6) ∧ (True))))); (t2 (q4 ∧ (t7 (q0 ∧ (T0 ∧ ((InC a b c d e) ∧ (q3 ∧ (q1 ∧ (q11 ∧ (q2 ∧ (((Nat.le (0 : Nat) (0 : Nat)) ∧ (@Eq Int (Prod.snd (bck a b c d e nl fl (0 : Nat) zF)) ((0 : Int)))) ∧ (T0 ∧ (q4 ∧ (T0 ∧ ((q4 ∧ (@Eq Nat ((1 : Nat)) ((1 : Nat)))) ∧ ((((0 : Int) ≤ (0 : Int)) ∧ ((0 : Int) < (↑(1 : Nat) : Int))) ∧ ((Int.toNat (0 : Int) < (1 : Nat)) ∧ (T0 ∧ (if (y < (1 : Int)) then q16 else (t2 (if (a < y) then q16 else (T0 ∧ ((((-9223372036854775808 : Int) ≤ (0 : Int) + (1 : Int)) ∧ ((0 : Int) + (1 : Int) ≤ (9223372036854775807 : Int))) ∧ (t4 (if (b ≤ (-1 : Int)) then q16 else (t7 (q0 ∧ (q3 ∧ (q1 ∧ (q11 ∧ (q2 ∧ (∀ y0 : Nat, let q18 := (some (rF (54 : Nat) nl y0 fl)); let q19 := (some (Blk.cells [vi a, vi b, vi c, vi d, vi e, rsl (4 : Nat) (0 : Nat) nl y0, vn, vi (-1 : Int)] (100 : Nat))); ((nl ≤ y0) → (q17 ∧ (q17 ∧ (T0 ∧ (q2 ∧ (q17 ∧ (q17 ∧ (q17 ∧ (q17 ∧ (t9 (t9 (T0 ∧ (q0 ∧ (T0 ∧ ((InC a b c d e) ∧ (q3 ∧ (q1 ∧ ((q8 ∧ ((@Eq Nat (nl) (nl)) ∧ (@Eq Nat (y0) (y0)))) ∧ (q2 ∧ (((@Eq Int (Prod.snd (ckF a b c d e nl fl)) ((0 : Int))) ∧ ((sel (selE fl (0 : Int)) nl = []) ∨ (@Eq Nat (List.length (sel (selE fl (2 : Int)) nl)) ((2 : Nat))))) ∧ (((@Eq (Option Blk) q19 q19) ∧ ((@Eq (Option Blk) q18 q18) ∧ q17)) ∧ (t4 (∃ y1 : Value, (∃ y2 : List Blk, ((Go.Rx.Found 1 (Value.tuple { toList := [vi (0 : Int), vn, vn, vi (5 : Int)] }) ({ h := [((5 : Nat), Blk.cells [vi a, vi b, vi c, vi d, vi e, rsl (4 : Nat) (0 : Nat) nl y0, vn, vi (-1 : Int)] (100 : Nat)), ((4 : Nat), rF (54 : Nat) nl y0 fl), q13, q10, q14, q7], next := (6 : Nat) }) (y1) (y2)) ∧ (K y1 y2))))))))))))))))))))))))))))))))))))))))))))))))))))))))))
theorem con57F_rnE (a b c d e : Int) (el nl cl : Nat) (fl : RF) (y : Int) (K : Value → List Blk → Prop) : con57F_rnV a b c d e el nl cl fl y K = bodyX (mkB X57F) (callN (mkB X57F) 7) (con57F_rnA a b c d e el nl cl fl y) Try.f57 [five' a b c d e, rsl 0 0 nl cl, .slice none 0 0, .int .i64 y] (stOf [.row true [.i64, .i64] el nl cl fl]) (Fd 1 K) := by kernel_rfl
set_option tactic.hygienic false in
theorem con57F_rnP (a b c d e : Int) (el nl cl : Nat) (fl : RF) (y : Int) (K : Value → List Blk → Prop)  (hI : InC a b c d e) (hnl : nl ≤ 100000) (hct : capOk (.slice none 0 0)) (h1 : askT a b c d e nl fl 0 zF (-1) y = 0) (hf : sel (selE fl 0) nl = [] ∨ List.length (sel (selE fl 2) nl) = 2) (h : K (.tuple ⟨[.int .i64 (0), .slice none 0 0, .slice none 0 0, .int .i64 (5)]⟩) []) : con57F_rnV a b c d e el nl cl fl y K := by
  unfold con57F_rnV
  conv => zeta
  obtain ⟨k0, k1, k2, k3, k4, k5⟩ := askT_bck h1
  obtain ⟨g1, g2, g3, g4⟩ := bck_ok k0
  have gc := bck_ck k0
  have go := bck_one k0
  repeat' (first | (with_reducible first | exact rfl | exact trivial | refine And.intro ?_ ?_ | refine br_intro (fun hq => ?_) fun hq => ?_ | refine if_both (fun hz => ?_) fun hz => ?_) | (intro) | fail)
  all_goals try (have gk := gk (by omega))
  all_goals try (rename Taken _ _ _ _ _ _ _ _ _ _ => T; have T0 := T.now0; have T1 := T.now1)
  all_goals try (have tl := taken_rest T (j := (ft (Int.toNat (((nt : Nat) : Int) - 1)) 0).toNat) (by omega))
  all_goals first
    | omega
    | assumption
    | contradiction
    | exact fin0 (by kernel_rfl) (by kernel_rfl) (by first | exact h | simpa using h)
    | exact T.ask
    | exact bck_ck k0
    | exact hf (.inl (by assumption))
    | exact hf (.inr (by assumption))
    | exact fin2x rfl rfl rfl (fun _ _ _ _ => rfl) (fun _ _ _ _ => rfl) (h _ _ _ (placed (.inr rfl) T ‹_›) (by omega) _ (by constructor <;> (try intro k hk) <;> simp [appF, litF] <;> omega) _ (by omega) _ (by omega))
    | exact fin2x rfl rfl rfl (fun _ _ _ _ => rfl) (fun _ _ _ _ => rfl) (h _ _ _ (placed (.inr rfl) T ‹_›) (by omega) _ (by constructor <;> (try intro k hk) <;> simp [appF, litF, hk]) _ (by omega) _ (by omega))
    | (obtain rfl : nt = 0 := (by simp at hq; omega)
       first
         | exact fin2x rfl rfl rfl (fun _ _ _ _ => rfl) (fun _ _ _ _ => rfl) (h _ _ _ (placed (.inr rfl) T ‹_›) (by omega) _ (by constructor <;> (try intro k hk) <;> simp [appF, litF] <;> omega) _ (by omega) _ (by omega))
         | exact fin2x rfl rfl rfl (fun _ _ _ _ => rfl) (fun _ _ _ _ => rfl) (h _ _ _ (placed (.inr rfl) T ‹_›) (by omega) _ (by constructor <;> (try intro k hk) <;> simp [appF, litF, hk]) _ (by omega) _ (by omega)))
    | (exfalso; simp at hq; omega)
    | (exfalso; simp at hq; simp_all; omega)
def con57F_rrV (a b c d e : Int) (el nl cl : Nat) (fl : RF) (et nt ct : Nat) (ft : RF) (y : Int) (K : Value → List Blk → Prop) : Prop := let q0 := ((0 : Nat) + nl ≤ nl); let q1 := ((0 : Nat) + nt ≤ nt); let q2 := (nl ≤ (100000 : Nat)); let q3 := (nt ≤ (100000 : Nat)); let q4 := eB; let q5 := (@Eq Nat ((0 : Nat)) ((0 : Nat))); let q6 := (@Eq Nat ((1 : Nat)) ((1 : Nat))); let q7 := TS; let q8 := (litF (List.length [IntKind.i64]) ([y] ++ [])); let q9 := (some (Blk.row true [IntKind.i64] et nt ct ft)); let q10 := ((1 : Nat), Blk.row true [IntKind.i64] et nt ct ft); let q11 := (some (rT el nl cl fl)); let q12 := ((0 : Nat), rT el nl cl fl); let q13 := eK; let q14 := ((@Eq (List IntKind) ([IntKind.i64]) ([IntKind.i64])) ∧ ((@Eq Nat (nt) (nt)) ∧ (@Eq Nat (ct) (ct)))); let q15 := (some (Blk.row false [IntKind.i64] (3 : Nat) (1 : Nat) (1 : Nat) q8)); let q16 := ((3 : Nat), Blk.row false [IntKind.i64] (3 : Nat) (1 : Nat) (1 : Nat) q8); let q17 := (q13 ∧ ((@Eq Nat (nl) (nl)) ∧ (@Eq Nat (cl) (cl)))); let q18 := (some (Blk.cells [vi a, vi b, vi c, vi d, vi e] (23 : Nat))); let q19 := ((4 : Nat), Blk.cells [vi a, vi b, vi c, vi d, vi e] (23 : Nat)); let q20 := ((2 : Nat), Blk.cells [vi a, vi b, vi c, vi d, vi e] (23 : Nat)); let q21 := (@Eq (Option Blk) q18 q18); let q22 := (T0 ∧ (∃ y0 : Value, (∃ y1 : List Blk, ((Go.Rx.Found 2 (Value.tuple { toList := [vi (0 : Int), vn, vn, vi (7 : Int)] }) ({ h := [q19, q16, q20, q12, q10], next := (5 : Nat) }) (y0) (y1)) ∧ (K y0 y1))))); let q23 := (q21 ∧ ((@Eq (Option Blk) q15 q15) ∧ (q21 ∧ ((@Eq (Option Blk) q11 q11) ∧ ((@Eq (Option Blk) q9 q9) ∧ (True)))))); (t2 (q7 ∧ (t7 (q0 ∧ (q1 ∧ ((InC a b c d e) ∧ (q5 ∧ (q2 ∧ (q17 ∧ (q6 ∧ (q3 ∧ (q14 ∧ (q4 ∧ (((Nat.le nt ct) ∧ (@Eq Int (Prod.snd (bck a b c d e nl fl nt ft)) ((0 : Int)))) ∧ (T0 ∧ (q7 ∧ (T0 ∧ ((q7 ∧ q6) ∧ ((((0 : Int) ≤ (0 : Int)) ∧ ((0 : Int) < (↑(1 : Nat) : Int))) ∧ ((Int.toNat (0 : Int) < (1 : Nat)) ∧ (T0 ∧ (if (y < (1 : Int)) then q22 else (t2 (if (a < y) then q22 else (T0 ∧ ((((-9223372036854775808 : Int) ≤ (0 : Int) + (1 : Int)) ∧ ((0 : Int) + (1 : Int) ≤ (9223372036854775807 : Int))) ∧ (t4 (if (b ≤ (-1 : Int)) then q22 else (t7 (q0 ∧ (q5 ∧ (q2 ∧ (q17 ∧ (q4 ∧ (∀ y0 : Nat, let q24 := (some (rF (54 : Nat) nl y0 fl)); ((nl ≤ y0) → (q23 ∧ (q23 ∧ (q1 ∧ (q5 ∧ (q3 ∧ (q14 ∧ (q4 ∧ (∀ y1 : Nat, let q25 := (some (Blk.row false [IntKind.i64] (3 : Nat) nt y1 ft)); let q26 := (some (Blk.cells [vi a, vi b, vi c, vi d, vi e, rsl (5 : Nat) (0 : Nat) nl y0, rsl (6 : Nat) (0 : Nat) nt y1, vi (-1 : Int)] (100 : Nat))); ((nt ≤ y1) → (q23 ∧ (q23 ∧ (q23 ∧ (q23 ∧ (t9 (t9 (T0 ∧ (q0 ∧ (T0 ∧ ((InC a b c d e) ∧ (q5 ∧ (q2 ∧ ((q13 ∧ ((@Eq Nat (nl) (nl)) ∧ (@Eq Nat (y0) (y0)))) ∧ (q4 ∧ (((@Eq Int (Prod.snd (ckF a b c d e nl fl)) ((0 : Int))) ∧ ((sel (selE fl (0 : Int)) nl = []) ∨ (@Eq Nat (List.length (sel (selE fl (2 : Int)) nl)) ((2 : Nat))))) ∧ (((@Eq (Option Blk) q26 q26) ∧ ((@Eq (Option Blk) q25 q25) ∧ ((@Eq (Option Blk) q24 q24) ∧ q23))) ∧ (t4 (∃ y2 : Value, (∃ y3 : List Blk, ((Go.Rx.Found 2 (Value.tuple { toList := [vi (0 : Int), vn, vn, vi (5 : Int)] }) ({ h := [((7 : Nat), Blk.cells [vi a, vi b, vi c, vi d, vi e, rsl (5 : Nat) (0 : Nat) nl y0, rsl (6 : Nat) (0 : Nat) nt y1, vi (-1 : Int)] (100 : Nat)), ((6 : Nat), Blk.row false [IntKind.i64] (3 : Nat) nt y1 ft), ((5 : Nat), rF (54 : Nat) nl y0 fl), q19, q16, q20, q12, q10], next := (8 : Nat) }) (y2) (y3)) ∧ (K y2 y3))))))))))))))))))))))))))))))))))))))))))))))))))))))))))))))))))
theorem con57F_rrE (a b c d e : Int) (el nl cl : Nat) (fl : RF) (et nt ct : Nat) (ft : RF) (y : Int) (K : Value → List Blk → Prop) : con57F_rrV a b c d e el nl cl fl et nt ct ft y K = bodyX (mkB X57F) (callN (mkB X57F) 7) (con57F_rrA a b c d e el nl cl fl et nt ct ft y) Try.f57 [five' a b c d e, rsl 0 0 nl cl, rsl 1 0 nt ct, .int .i64 y] (stOf [.row true [.i64, .i64] el nl cl fl, .row true [.i64] et nt ct ft]) (Fd 2 K) := by kernel_rfl
set_option tactic.hygienic false in
theorem con57F_rrP (a b c d e : Int) (el nl cl : Nat) (fl : RF) (et nt ct : Nat) (ft : RF) (y : Int) (K : Value → List Blk → Prop)  (hI : InC a b c d e) (hnl : nl ≤ 100000) (hnt : nt ≤ 100000) (hct : capOk (rsl 1 0 nt ct)) (h1 : askT a b c d e nl fl nt ft (-1) y = 0) (hf : sel (selE fl 0) nl = [] ∨ List.length (sel (selE fl 2) nl) = 2) (h : K (.tuple ⟨[.int .i64 (0), .slice none 0 0, .slice none 0 0, .int .i64 (5)]⟩) []) : con57F_rrV a b c d e el nl cl fl et nt ct ft y K := by
  unfold con57F_rrV
  conv => zeta
  obtain ⟨k0, k1, k2, k3, k4, k5⟩ := askT_bck h1
  obtain ⟨g1, g2, g3, g4⟩ := bck_ok k0
  have gc := bck_ck k0
  have go := bck_one k0
  have gk := fun h : 0 < nt => go (Int.toNat ((nt : Int) - 1)) (by omega)
  repeat' (first | (with_reducible first | exact rfl | exact trivial | refine And.intro ?_ ?_ | refine br_intro (fun hq => ?_) fun hq => ?_ | refine if_both (fun hz => ?_) fun hz => ?_) | (intro) | fail)
  all_goals try (have gk := gk (by omega))
  all_goals try (rename Taken _ _ _ _ _ _ _ _ _ _ => T; have T0 := T.now0; have T1 := T.now1)
  all_goals try (have tl := taken_rest T (j := (ft (Int.toNat (((nt : Nat) : Int) - 1)) 0).toNat) (by omega))
  all_goals first
    | omega
    | assumption
    | contradiction
    | exact fin0 (by kernel_rfl) (by kernel_rfl) (by first | exact h | simpa using h)
    | exact T.ask
    | exact bck_ck k0
    | exact hf (.inl (by assumption))
    | exact hf (.inr (by assumption))
    | exact fin2x rfl rfl rfl (fun _ _ _ _ => rfl) (fun _ _ _ _ => rfl) (h _ _ _ (placed (.inr rfl) T ‹_›) (by omega) _ (by constructor <;> (try intro k hk) <;> simp [appF, litF] <;> omega) _ (by omega) _ (by omega))
    | exact fin2x rfl rfl rfl (fun _ _ _ _ => rfl) (fun _ _ _ _ => rfl) (h _ _ _ (placed (.inr rfl) T ‹_›) (by omega) _ (by constructor <;> (try intro k hk) <;> simp [appF, litF, hk]) _ (by omega) _ (by omega))
    | (obtain rfl : nt = 0 := (by simp at hq; omega)
       first
         | exact fin2x rfl rfl rfl (fun _ _ _ _ => rfl) (fun _ _ _ _ => rfl) (h _ _ _ (placed (.inr rfl) T ‹_›) (by omega) _ (by constructor <;> (try intro k hk) <;> simp [appF, litF] <;> omega) _ (by omega) _ (by omega))
         | exact fin2x rfl rfl rfl (fun _ _ _ _ => rfl) (fun _ _ _ _ => rfl) (h _ _ _ (placed (.inr rfl) T ‹_›) (by omega) _ (by constructor <;> (try intro k hk) <;> simp [appF, litF, hk]) _ (by omega) _ (by omega)))
    | (exfalso; simp at hq; omega)
    | (exfalso; simp at hq; simp_all; omega)
theorem con57F_ok : BodyOk (mkB X57F) 7 Try.f57 con57F := by
  intro vs bs K hh hro
  clear hro
  unfold con57F at hh
  split at hh
  · rename_i u vl vt y
    obtain ⟨a, b, c, d, e, rfl, hI, hh0⟩ := five_inv hh
    obtain ⟨el, nl, cl, fl, btl, rfl, hnl, rfl, hh1⟩ := parseR_inv hh0
    rcases parse_inv hh1 with ⟨rfl, hh2⟩ | ⟨et, nt, ct, ft, btt, rfl, hnt, rfl, hh2⟩ <;> clear hh1
    · obtain ⟨rfl, ⟨hct, h1, hf⟩, hc⟩ := hh2
      exact ⟨_, _, cast (con57F_rnE a b c d e el nl cl fl y K) (con57F_rnP a b c d e el nl cl fl y K hI hnl hct h1 hf hc)⟩
    · obtain ⟨rfl, ⟨hct, h1, hf⟩, hc⟩ := hh2
      exact ⟨_, _, cast (con57F_rrE a b c d e el nl cl fl et nt ct ft y K) (con57F_rrP a b c d e el nl cl fl et nt ct ft y K hI hnl hnt hct h1 hf hc)⟩
  · exact hh.elim
theorem con57F_told : Told 57 (specOf con57F) := toldB (X := X57F) X57F_told (by kernel_rfl) (by kernel_rfl) (by kernel_rfl) con57F_ok
end Go.Proofs.Ytkflmglpniebfaa.Fr
namespace Go.Proofs.Ytkflmglpniebfaa.Fr
set_option maxRecDepth 100000
set_option maxHeartbeats 4000000
open Go.Rx
open Go.RowKit (Below)
set_option linter.unusedVariables false
def con57AN : Con := fun vs bs K => match vs with
  | [u, vl, .slice none 0 0, .int .i64 y] => five u fun a b c d e => parseR [.i64, .i64] 0 vl bs fun nl fl j0 bs0 => bs0 = [] ∧ ((capOk (.slice none 0 0)) ∧ (askT a b c d e nl fl 0 zF (-1) y = 0) ∧ (0 ≤ 1000) ∧ (¬ (sel (selE fl 0) nl = [] ∨ List.length (sel (selE fl 2) nl) = 2))) ∧ (∀ i g z, Placed a b c d e nl fl 2 i y g → z = 1 + c + (i : Int) * a → ∀ h, App 0 zF i h → ∀ cp, nl ≤ cp → ∀ cp2, 0 + 1 ≤ cp2 → K (.tuple ⟨[.int .i64 z, rsl j0 0 nl cp, rsl (j0 + 1) 0 (0 + 1) cp2, .int .i64 0]⟩) [.row false [.i64, .i64] 54 nl cp g, .row false [.i64] 3 (0 + 1) cp2 h])
  | _ => False

def con57AN_rA (a b c d e : Int) (el nl cl : Nat) (fl : RF) (y : Int) : Ann := fun _ _ _ => none
def con57AE : Con := fun vs bs K => match vs with
  | [u, vl, vt, .int .i64 y] => five u fun a b c d e => parseR [.i64, .i64] 0 vl bs fun nl fl j0 bs0 => parseR [.i64] j0 vt bs0 fun nt ft j1 bs1 => bs1 = [] ∧ ((capOk (vt)) ∧ (askT a b c d e nl fl nt ft (-1) y = 0) ∧ (nt ≤ 1000) ∧ (¬ (sel (selE fl 0) nl = [] ∨ List.length (sel (selE fl 2) nl) = 2)) ∧ (nt = 0)) ∧ (∀ i g z, Placed a b c d e nl fl 2 i y g → z = 1 + c + (i : Int) * a → ∀ h, App nt ft i h → ∀ cp, nl ≤ cp → ∀ cp2, nt + 1 ≤ cp2 → K (.tuple ⟨[.int .i64 z, rsl j1 0 nl cp, rsl (j1 + 1) 0 (nt + 1) cp2, .int .i64 0]⟩) [.row false [.i64, .i64] 54 nl cp g, .row false [.i64] 3 (nt + 1) cp2 h])
  | _ => False

def con57AE_rrA (a b c d e : Int) (el nl cl : Nat) (fl : RF) (et nt ct : Nat) (ft : RF) (y : Int) : Ann := fun _ _ _ => none
def con57AG : Con := fun vs bs K => match vs with
  | [u, vl, vt, .int .i64 y] => five u fun a b c d e => parseR [.i64, .i64] 0 vl bs fun nl fl j0 bs0 => parseR [.i64] j0 vt bs0 fun nt ft j1 bs1 => bs1 = [] ∧ ((capOk (vt)) ∧ (askT a b c d e nl fl nt ft (-1) y = 0) ∧ (nt ≤ 1000) ∧ (¬ (sel (selE fl 0) nl = [] ∨ List.length (sel (selE fl 2) nl) = 2)) ∧ (0 < nt) ∧ (¬ (0 < nt ∧ fl (ft (Int.toNat (((nt : Nat) : Int) - 1)) 0).toNat 0 = 1))) ∧ (∀ i g z, Placed a b c d e nl fl 2 i y g → z = 1 + c + (i : Int) * a → ∀ h, App nt ft i h → ∀ cp, nl ≤ cp → ∀ cp2, nt + 1 ≤ cp2 → K (.tuple ⟨[.int .i64 z, rsl j1 0 nl cp, rsl (j1 + 1) 0 (nt + 1) cp2, .int .i64 0]⟩) [.row false [.i64, .i64] 54 nl cp g, .row false [.i64] 3 (nt + 1) cp2 h])
  | _ => False

def con57AG_rrA (a b c d e : Int) (el nl cl : Nat) (fl : RF) (et nt ct : Nat) (ft : RF) (y : Int) : Ann := fun _ _ _ => none
def con57AN_rV (a b c d e : Int) (el nl cl : Nat) (fl : RF) (y : Int) (K : Value → List Blk → Prop) : Prop := let q0 := ((0 : Nat) + nl ≤ nl); let q1 := (nl ≤ (100000 : Nat)); let q2 := eB; let q3 := (List.length [IntKind.i64]); let q4 := (@Eq Nat ((0 : Nat)) ((0 : Nat))); let q5 := TS; let q6 := (litF q3 ([y] ++ [])); let q7 := (some (rT el nl cl fl)); let q8 := ((0 : Nat), rT el nl cl fl); let q9 := eK; let q10 := (some (Blk.row false [IntKind.i64] (3 : Nat) (1 : Nat) (1 : Nat) q6)); let q11 := ((2 : Nat), Blk.row false [IntKind.i64] (3 : Nat) (1 : Nat) (1 : Nat) q6); let q12 := (q9 ∧ ((@Eq Nat (nl) (nl)) ∧ (@Eq Nat (cl) (cl)))); let q13 := (some (Blk.cells [vi a, vi b, vi c, vi d, vi e] (23 : Nat))); let q14 := ((3 : Nat), Blk.cells [vi a, vi b, vi c, vi d, vi e] (23 : Nat)); let q15 := ((1 : Nat), Blk.cells [vi a, vi b, vi c, vi d, vi e] (23 : Nat)); let q16 := (@Eq (Option Blk) q13 q13); let q17 := (T0 ∧ (∃ y0 : Value, (∃ y1 : List Blk, ((Go.Rx.Found 1 (Value.tuple { toList := [vi (0 : Int), vn, vn, vi (7 : Int)] }) ({ h := [q14, q11, q15, q8], next := (4 : Nat) }) (y0) (y1)) ∧ (K y0 y1))))); let q18 := (q16 ∧ ((@Eq (Option Blk) q10 q10) ∧ (q16 ∧ ((@Eq (Option Blk) q7 q7) ∧ (True))))); (t2 (q5 ∧ (t7 (q0 ∧ (T0 ∧ ((InC a b c d e) ∧ (q4 ∧ (q1 ∧ (q12 ∧ (q2 ∧ (((Nat.le (0 : Nat) (0 : Nat)) ∧ (@Eq Int (Prod.snd (bck a b c d e nl fl (0 : Nat) zF)) ((0 : Int)))) ∧ (T0 ∧ (q5 ∧ (T0 ∧ ((q5 ∧ (@Eq Nat ((1 : Nat)) ((1 : Nat)))) ∧ ((((0 : Int) ≤ (0 : Int)) ∧ ((0 : Int) < (↑(1 : Nat) : Int))) ∧ ((Int.toNat (0 : Int) < (1 : Nat)) ∧ (T0 ∧ (if (y < (1 : Int)) then q17 else (t2 (if (a < y) then q17 else (T0 ∧ ((((-9223372036854775808 : Int) ≤ (0 : Int) + (1 : Int)) ∧ ((0 : Int) + (1 : Int) ≤ (9223372036854775807 : Int))) ∧ (t4 (if (b ≤ (-1 : Int)) then q17 else (t7 (q0 ∧ (q4 ∧ (q1 ∧ (q12 ∧ (q2 ∧ (∀ y0 : Nat, let q25 := (some (rF (54 : Nat) nl y0 fl)); let q26 := (some (Blk.cells [vi a, vi b, vi c, vi d, vi e, rsl (4 : Nat) (0 : Nat) nl y0, vn, vi (-1 : Int)] (100 : Nat))); let q27 := ((@Eq (Option Blk) q25 q25) ∧ q18); ((nl ≤ y0) → (q18 ∧ (q18 ∧ (T0 ∧ (q2 ∧ ((True) ∧ (q18 ∧ (q18 ∧ (q18 ∧ (q18 ∧ (t9 (t9 (T0 ∧ (q0 ∧ (T0 ∧ ((InC a b c d e) ∧ (q4 ∧ (q1 ∧ ((q9 ∧ ((@Eq Nat (nl) (nl)) ∧ (@Eq Nat (y0) (y0)))) ∧ (q2 ∧ (((@Eq Int (Prod.snd (ckF a b c d e nl fl)) ((0 : Int))) ∧ ((¬sel (selE fl (0 : Int)) nl = []) ∧ (¬List.length (sel (selE fl (2 : Int)) nl) = (2 : Nat)))) ∧ (∀ y1 : Nat, let q22 := (litF q3 ([(↑y1 : Int)] ++ [])); let q23 := (appF (fun x x_1 ↦ (0 : Int)) (0 : Nat) q22 (0 : Nat)); let q24 := (some (Blk.row false [IntKind.i64] (3 : Nat) (1 : Nat) (1 : Nat) q22)); (∀ y2 : Nat → Nat → Int, ((Taken a b c d e nl fl (2 : Int) y1 y2) → (∀ y3 : Nat, let q28 := (some (rF (54 : Nat) nl y3 y2)); ((nl ≤ y3) → (((@Eq (Option Blk) q26 q26) ∧ q27) ∧ (t9 (q5 ∧ (t4 (q5 ∧ (t4 (q5 ∧ (q5 ∧ (t4 (((1 : Nat) ≤ (1 : Nat)) ∧ (((1 : Nat) ≤ (100000 : Nat)) ∧ (∀ y4 : Nat, let q19 := (y4 - (1 : Nat) + (1 : Nat)); let q20 := (some (Blk.row false [IntKind.i64] (3 : Nat) (1 : Nat) q19 q23)); let q21 := (some (Blk.cells [vi a, vi b, vi c, vi d, vi e, rsl (6 : Nat) (0 : Nat) nl y3, rsl (8 : Nat) (0 : Nat) (1 : Nat) q19, vi (-1 : Int)] (100 : Nat))); (((1 : Nat) ≤ y4) → (t9 (t9 (t2 (q0 ∧ (t2 ((InC a b c d e) ∧ (q4 ∧ (q1 ∧ ((q9 ∧ ((@Eq Nat (nl) (nl)) ∧ (@Eq Nat (y3) (y3)))) ∧ (q2 ∧ (((@Eq Int (askF a b c d e nl y2 (↑y1 : Int)) ((0 : Int))) ∧ (((1 : Int) ≤ y) ∧ ((¬y2 y1 (0 : Nat) = (0 : Int)) ∧ (y ≤ a - y2 y1 (1 : Nat))))) ∧ (∀ y5 : Nat → Nat → Int, ((Bumped a b c d e nl y2 (↑y1 : Int) y y5) → (∀ y6 : Nat, ((nl ≤ y6) → (((@Eq (Option Blk) q20 q20) ∧ ((@Eq (Option Blk) q24 q24) ∧ ((@Eq (Option Blk) q28 q28) ∧ ((@Eq (Option Blk) q21 q21) ∧ q27)))) ∧ (t9 (t9 (t8 (∃ y7 : Value, (∃ y8 : List Blk, ((Go.Rx.Found 1 (Value.tuple { toList := [vi ((1 : Int) + c + (↑y1 : Int) * a + y2 y1 (1 : Nat)), rsl (9 : Nat) (0 : Nat) nl y6, rsl (8 : Nat) (0 : Nat) (1 : Nat) q19, vi (0 : Int)] }) ({ h := [((9 : Nat), rF (54 : Nat) nl y6 y5), ((8 : Nat), Blk.row false [IntKind.i64] (3 : Nat) (1 : Nat) q19 q23), ((7 : Nat), Blk.row false [IntKind.i64] (3 : Nat) (1 : Nat) (1 : Nat) q22), ((6 : Nat), rF (54 : Nat) nl y3 y2), ((5 : Nat), Blk.cells [vi a, vi b, vi c, vi d, vi e, rsl (9 : Nat) (0 : Nat) nl y6, rsl (8 : Nat) (0 : Nat) (1 : Nat) q19, vi (-1 : Int)] (100 : Nat)), ((4 : Nat), rF (54 : Nat) nl y0 fl), q14, q11, q15, q8], next := (10 : Nat) }) (y7) (y8)) ∧ (K y7 y8))))))))))))))))))))))))))))))))))))))))))))))))))))))))))))))))))))))))))))))))))))))))))))))
theorem con57AN_rE (a b c d e : Int) (el nl cl : Nat) (fl : RF) (y : Int) (K : Value → List Blk → Prop) : con57AN_rV a b c d e el nl cl fl y K = bodyX (mkB X57AN) (callN (mkB X57AN) 7) (con57AN_rA a b c d e el nl cl fl y) Try.f57 [five' a b c d e, rsl 0 0 nl cl, .slice none 0 0, .int .i64 y] (stOf [.row true [.i64, .i64] el nl cl fl]) (Fd 1 K) := by kernel_rfl
set_option tactic.hygienic false in
theorem con57AN_rP (a b c d e : Int) (el nl cl : Nat) (fl : RF) (y : Int) (K : Value → List Blk → Prop)  (hI : InC a b c d e) (hnl : nl ≤ 100000) (hct : capOk (.slice none 0 0)) (h1 : askT a b c d e nl fl 0 zF (-1) y = 0) (hbd : 0 ≤ 1000) (hf : ¬ (sel (selE fl 0) nl = [] ∨ List.length (sel (selE fl 2) nl) = 2)) (h : ∀ i g z, Placed a b c d e nl fl 2 i y g → z = 1 + c + (i : Int) * a → ∀ h, App 0 zF i h → ∀ cp, nl ≤ cp → ∀ cp2, 0 + 1 ≤ cp2 → K (.tuple ⟨[.int .i64 z, rsl 1 0 nl cp, rsl (1 + 1) 0 (0 + 1) cp2, .int .i64 0]⟩) [.row false [.i64, .i64] 54 nl cp g, .row false [.i64] 3 (0 + 1) cp2 h]) : con57AN_rV a b c d e el nl cl fl y K := by
  unfold con57AN_rV
  conv => zeta
  obtain ⟨k0, k1, k2, k3, k4, k5⟩ := askT_bck h1
  obtain ⟨g1, g2, g3, g4⟩ := bck_ok k0
  have gc := bck_ck k0
  have go := bck_one k0
  repeat' (first | (with_reducible first | exact rfl | exact trivial | refine And.intro ?_ ?_ | refine br_intro (fun hq => ?_) fun hq => ?_ | refine if_both (fun hz => ?_) fun hz => ?_) | (intro) | fail)
  all_goals try (have gk := gk (by omega))
  all_goals try (rename Taken _ _ _ _ _ _ _ _ _ _ => T; have T0 := T.now0; have T1 := T.now1)
  all_goals try (have tl := taken_rest T (j := (ft (Int.toNat (((nt : Nat) : Int) - 1)) 0).toNat) (by omega))
  all_goals first
    | omega
    | assumption
    | contradiction
    | exact fin0 (by kernel_rfl) (by kernel_rfl) (by first | exact h | simpa using h)
    | exact T.ask
    | exact bck_ck k0
    | exact hf (.inl (by assumption))
    | exact hf (.inr (by assumption))
    | exact fin2x rfl rfl rfl (fun _ _ _ _ => rfl) (fun _ _ _ _ => rfl) (h _ _ _ (placed (.inr rfl) T ‹_›) (by omega) _ (by constructor <;> (try intro k hk) <;> simp [appF, litF] <;> omega) _ (by omega) _ (by omega))
    | exact fin2x rfl rfl rfl (fun _ _ _ _ => rfl) (fun _ _ _ _ => rfl) (h _ _ _ (placed (.inr rfl) T ‹_›) (by omega) _ (by constructor <;> (try intro k hk) <;> simp [appF, litF, hk]) _ (by omega) _ (by omega))
    | (obtain rfl : nt = 0 := (by simp at hq; omega)
       first
         | exact fin2x rfl rfl rfl (fun _ _ _ _ => rfl) (fun _ _ _ _ => rfl) (h _ _ _ (placed (.inr rfl) T ‹_›) (by omega) _ (by constructor <;> (try intro k hk) <;> simp [appF, litF] <;> omega) _ (by omega) _ (by omega))
         | exact fin2x rfl rfl rfl (fun _ _ _ _ => rfl) (fun _ _ _ _ => rfl) (h _ _ _ (placed (.inr rfl) T ‹_›) (by omega) _ (by constructor <;> (try intro k hk) <;> simp [appF, litF, hk]) _ (by omega) _ (by omega)))
    | (exfalso; simp at hq; omega)
    | (exfalso; simp at hq; simp_all; omega)
theorem con57AN_ok : BodyOk (mkB X57AN) 7 Try.f57 con57AN := by
  intro vs bs K hh hro
  clear hro
  unfold con57AN at hh
  split at hh
  · rename_i u vl y
    obtain ⟨a, b, c, d, e, rfl, hI, hh0⟩ := five_inv hh
    obtain ⟨el, nl, cl, fl, btl, rfl, hnl, rfl, hh1⟩ := parseR_inv hh0
    obtain ⟨rfl, ⟨hct, h1, hbd, hf⟩, hc⟩ := hh1
    exact ⟨_, _, cast (con57AN_rE a b c d e el nl cl fl y K) (con57AN_rP a b c d e el nl cl fl y K hI hnl hct h1 hbd hf hc)⟩
  · exact hh.elim
theorem con57AN_told : Told 57 (specOf con57AN) := toldB (X := X57AN) X57AN_told (by kernel_rfl) (by kernel_rfl) (by kernel_rfl) con57AN_ok
def con57AE_rrV (a b c d e : Int) (el nl cl : Nat) (fl : RF) (et nt ct : Nat) (ft : RF) (y : Int) (K : Value → List Blk → Prop) : Prop := let q0 := ((0 : Nat) + nl ≤ nl); let q1 := ((0 : Nat) + nt ≤ nt); let q2 := (nl ≤ (100000 : Nat)); let q3 := (nt ≤ (100000 : Nat)); let q4 := eB; let q5 := (List.length [IntKind.i64]); let q6 := (@Eq Nat ((0 : Nat)) ((0 : Nat))); let q7 := (@Eq Nat ((1 : Nat)) ((1 : Nat))); let q8 := TS; let q9 := (litF q5 ([y] ++ [])); let q10 := (some (Blk.row true [IntKind.i64] et nt ct ft)); let q11 := ((1 : Nat), Blk.row true [IntKind.i64] et nt ct ft); let q12 := (some (rT el nl cl fl)); let q13 := ((0 : Nat), rT el nl cl fl); let q14 := (some (Blk.row false [IntKind.i64] (3 : Nat) (0 : Nat) (0 : Nat) ft)); let q15 := eK; let q16 := ((@Eq (List IntKind) ([IntKind.i64]) ([IntKind.i64])) ∧ ((@Eq Nat (nt) (nt)) ∧ (@Eq Nat (ct) (ct)))); let q17 := (some (Blk.row false [IntKind.i64] (3 : Nat) (1 : Nat) (1 : Nat) q9)); let q18 := ((3 : Nat), Blk.row false [IntKind.i64] (3 : Nat) (1 : Nat) (1 : Nat) q9); let q19 := (q15 ∧ ((@Eq Nat (nl) (nl)) ∧ (@Eq Nat (cl) (cl)))); let q20 := (some (Blk.cells [vi a, vi b, vi c, vi d, vi e] (23 : Nat))); let q21 := ((4 : Nat), Blk.cells [vi a, vi b, vi c, vi d, vi e] (23 : Nat)); let q22 := ((2 : Nat), Blk.cells [vi a, vi b, vi c, vi d, vi e] (23 : Nat)); let q23 := (@Eq (Option Blk) q20 q20); let q24 := (T0 ∧ (∃ y0 : Value, (∃ y1 : List Blk, ((Go.Rx.Found 2 (Value.tuple { toList := [vi (0 : Int), vn, vn, vi (7 : Int)] }) ({ h := [q21, q18, q22, q13, q11], next := (5 : Nat) }) (y0) (y1)) ∧ (K y0 y1))))); let q25 := (q23 ∧ ((@Eq (Option Blk) q17 q17) ∧ (q23 ∧ ((@Eq (Option Blk) q12 q12) ∧ ((@Eq (Option Blk) q10 q10) ∧ (True)))))); (t2 (q8 ∧ (t7 (q0 ∧ (q1 ∧ ((InC a b c d e) ∧ (q6 ∧ (q2 ∧ (q19 ∧ (q7 ∧ (q3 ∧ (q16 ∧ (q4 ∧ (((Nat.le nt ct) ∧ (@Eq Int (Prod.snd (bck a b c d e nl fl nt ft)) ((0 : Int)))) ∧ (T0 ∧ (q8 ∧ (T0 ∧ ((q8 ∧ q7) ∧ ((((0 : Int) ≤ (0 : Int)) ∧ ((0 : Int) < (↑(1 : Nat) : Int))) ∧ ((Int.toNat (0 : Int) < (1 : Nat)) ∧ (T0 ∧ (if (y < (1 : Int)) then q24 else (t2 (if (a < y) then q24 else (T0 ∧ ((((-9223372036854775808 : Int) ≤ (0 : Int) + (1 : Int)) ∧ ((0 : Int) + (1 : Int) ≤ (9223372036854775807 : Int))) ∧ (t4 (if (b ≤ (-1 : Int)) then q24 else (t7 (q0 ∧ (q6 ∧ (q2 ∧ (q19 ∧ (q4 ∧ (∀ y0 : Nat, let q32 := (some (rF (54 : Nat) nl y0 fl)); let q33 := (some (Blk.cells [vi a, vi b, vi c, vi d, vi e, rsl (5 : Nat) (0 : Nat) nl y0, rsl (6 : Nat) (0 : Nat) (0 : Nat) (0 : Nat), vi (-1 : Int)] (100 : Nat))); let q34 := ((@Eq (Option Blk) q14 q14) ∧ ((@Eq (Option Blk) q32 q32) ∧ q25)); ((nl ≤ y0) → (q25 ∧ (q25 ∧ (q1 ∧ (q6 ∧ (q3 ∧ (q16 ∧ (q4 ∧ ((@Eq Nat (nt) ((0 : Nat))) ∧ (q25 ∧ (q25 ∧ (q25 ∧ (q25 ∧ (t9 (t9 (T0 ∧ (q0 ∧ (T0 ∧ ((InC a b c d e) ∧ (q6 ∧ (q2 ∧ ((q15 ∧ ((@Eq Nat (nl) (nl)) ∧ (@Eq Nat (y0) (y0)))) ∧ (q4 ∧ (((@Eq Int (Prod.snd (ckF a b c d e nl fl)) ((0 : Int))) ∧ ((¬sel (selE fl (0 : Int)) nl = []) ∧ (¬List.length (sel (selE fl (2 : Int)) nl) = (2 : Nat)))) ∧ (∀ y1 : Nat, let q29 := (litF q5 ([(↑y1 : Int)] ++ [])); let q30 := (appF (fun x x_1 ↦ (0 : Int)) (0 : Nat) q29 (0 : Nat)); let q31 := (some (Blk.row false [IntKind.i64] (3 : Nat) (1 : Nat) (1 : Nat) q29)); (∀ y2 : Nat → Nat → Int, ((Taken a b c d e nl fl (2 : Int) y1 y2) → (∀ y3 : Nat, let q35 := (some (rF (54 : Nat) nl y3 y2)); ((nl ≤ y3) → (((@Eq (Option Blk) q33 q33) ∧ q34) ∧ (t9 (q8 ∧ (t4 (q8 ∧ (t4 (q8 ∧ (q8 ∧ (t4 (((1 : Nat) ≤ (1 : Nat)) ∧ (((1 : Nat) ≤ (100000 : Nat)) ∧ (T0 ∧ (q6 ∧ (∀ y4 : Nat, let q26 := (y4 - (1 : Nat) + (1 : Nat)); let q27 := (some (Blk.row false [IntKind.i64] (3 : Nat) (1 : Nat) q26 q30)); let q28 := (some (Blk.cells [vi a, vi b, vi c, vi d, vi e, rsl (8 : Nat) (0 : Nat) nl y3, rsl (10 : Nat) (0 : Nat) (1 : Nat) q26, vi (-1 : Int)] (100 : Nat))); (((1 : Nat) ≤ y4) → (t9 (t9 (t2 (q0 ∧ (t2 ((InC a b c d e) ∧ (q6 ∧ (q2 ∧ ((q15 ∧ ((@Eq Nat (nl) (nl)) ∧ (@Eq Nat (y3) (y3)))) ∧ (q4 ∧ (((@Eq Int (askF a b c d e nl y2 (↑y1 : Int)) ((0 : Int))) ∧ (((1 : Int) ≤ y) ∧ ((¬y2 y1 (0 : Nat) = (0 : Int)) ∧ (y ≤ a - y2 y1 (1 : Nat))))) ∧ (∀ y5 : Nat → Nat → Int, ((Bumped a b c d e nl y2 (↑y1 : Int) y y5) → (∀ y6 : Nat, ((nl ≤ y6) → (((@Eq (Option Blk) q27 q27) ∧ ((@Eq (Option Blk) q31 q31) ∧ ((@Eq (Option Blk) q35 q35) ∧ ((@Eq (Option Blk) q28 q28) ∧ q34)))) ∧ (t9 (t9 (t8 (∃ y7 : Value, (∃ y8 : List Blk, ((Go.Rx.Found 2 (Value.tuple { toList := [vi ((1 : Int) + c + (↑y1 : Int) * a + y2 y1 (1 : Nat)), rsl (11 : Nat) (0 : Nat) nl y6, rsl (10 : Nat) (0 : Nat) (1 : Nat) q26, vi (0 : Int)] }) ({ h := [((11 : Nat), rF (54 : Nat) nl y6 y5), ((10 : Nat), Blk.row false [IntKind.i64] (3 : Nat) (1 : Nat) q26 q30), ((9 : Nat), Blk.row false [IntKind.i64] (3 : Nat) (1 : Nat) (1 : Nat) q29), ((8 : Nat), rF (54 : Nat) nl y3 y2), ((7 : Nat), Blk.cells [vi a, vi b, vi c, vi d, vi e, rsl (11 : Nat) (0 : Nat) nl y6, rsl (10 : Nat) (0 : Nat) (1 : Nat) q26, vi (-1 : Int)] (100 : Nat)), ((6 : Nat), Blk.row false [IntKind.i64] (3 : Nat) (0 : Nat) (0 : Nat) ft), ((5 : Nat), rF (54 : Nat) nl y0 fl), q21, q18, q22, q13, q11], next := (12 : Nat) }) (y7) (y8)) ∧ (K y7 y8))))))))))))))))))))))))))))))))))))))))))))))))))))))))))))))))))))))))))))))))))))))))))))))))))))))
theorem con57AE_rrE (a b c d e : Int) (el nl cl : Nat) (fl : RF) (et nt ct : Nat) (ft : RF) (y : Int) (K : Value → List Blk → Prop) : con57AE_rrV a b c d e el nl cl fl et nt ct ft y K = bodyX (mkB X57AE) (callN (mkB X57AE) 7) (con57AE_rrA a b c d e el nl cl fl et nt ct ft y) Try.f57 [five' a b c d e, rsl 0 0 nl cl, rsl 1 0 nt ct, .int .i64 y] (stOf [.row true [.i64, .i64] el nl cl fl, .row true [.i64] et nt ct ft]) (Fd 2 K) := by kernel_rfl
set_option tactic.hygienic false in
theorem con57AE_rrP (a b c d e : Int) (el nl cl : Nat) (fl : RF) (et nt ct : Nat) (ft : RF) (y : Int) (K : Value → List Blk → Prop)  (hI : InC a b c d e) (hnl : nl ≤ 100000) (hnt : nt ≤ 100000) (hct : capOk (rsl 1 0 nt ct)) (h1 : askT a b c d e nl fl nt ft (-1) y = 0) (hbd : nt ≤ 1000) (hf : ¬ (sel (selE fl 0) nl = [] ∨ List.length (sel (selE fl 2) nl) = 2)) (ht : nt = 0) (h : ∀ i g z, Placed a b c d e nl fl 2 i y g → z = 1 + c + (i : Int) * a → ∀ h, App nt ft i h → ∀ cp, nl ≤ cp → ∀ cp2, nt + 1 ≤ cp2 → K (.tuple ⟨[.int .i64 z, rsl 2 0 nl cp, rsl (2 + 1) 0 (nt + 1) cp2, .int .i64 0]⟩) [.row false [.i64, .i64] 54 nl cp g, .row false [.i64] 3 (nt + 1) cp2 h]) : con57AE_rrV a b c d e el nl cl fl et nt ct ft y K := by
  unfold con57AE_rrV
  conv => zeta
  obtain ⟨k0, k1, k2, k3, k4, k5⟩ := askT_bck h1
  obtain ⟨g1, g2, g3, g4⟩ := bck_ok k0
  have gc := bck_ck k0
  have go := bck_one k0
  have gk := fun h : 0 < nt => go (Int.toNat ((nt : Int) - 1)) (by omega)
  subst ht
  repeat' (first | (with_reducible first | exact rfl | exact trivial | refine And.intro ?_ ?_ | refine br_intro (fun hq => ?_) fun hq => ?_ | refine if_both (fun hz => ?_) fun hz => ?_) | (intro) | fail)
  all_goals try (have gk := gk (by omega))
  all_goals try (rename Taken _ _ _ _ _ _ _ _ _ _ => T; have T0 := T.now0; have T1 := T.now1)
  all_goals try (have tl := taken_rest T (j := (ft (Int.toNat (((nt : Nat) : Int) - 1)) 0).toNat) (by omega))
  all_goals first
    | omega
    | assumption
    | contradiction
    | exact fin0 (by kernel_rfl) (by kernel_rfl) (by first | exact h | simpa using h)
    | exact T.ask
    | exact bck_ck k0
    | exact hf (.inl (by assumption))
    | exact hf (.inr (by assumption))
    | exact fin2x rfl rfl rfl (fun _ _ _ _ => rfl) (fun _ _ _ _ => rfl) (h _ _ _ (placed (.inr rfl) T ‹_›) (by omega) _ (by constructor <;> (try intro k hk) <;> simp [appF, litF] <;> omega) _ (by omega) _ (by omega))
    | exact fin2x rfl rfl rfl (fun _ _ _ _ => rfl) (fun _ _ _ _ => rfl) (h _ _ _ (placed (.inr rfl) T ‹_›) (by omega) _ (by constructor <;> (try intro k hk) <;> simp [appF, litF, hk]) _ (by omega) _ (by omega))
    | (obtain rfl : nt = 0 := (by simp at hq; omega)
       first
         | exact fin2x rfl rfl rfl (fun _ _ _ _ => rfl) (fun _ _ _ _ => rfl) (h _ _ _ (placed (.inr rfl) T ‹_›) (by omega) _ (by constructor <;> (try intro k hk) <;> simp [appF, litF] <;> omega) _ (by omega) _ (by omega))
         | exact fin2x rfl rfl rfl (fun _ _ _ _ => rfl) (fun _ _ _ _ => rfl) (h _ _ _ (placed (.inr rfl) T ‹_›) (by omega) _ (by constructor <;> (try intro k hk) <;> simp [appF, litF, hk]) _ (by omega) _ (by omega)))
    | (exfalso; simp at hq; omega)
    | (exfalso; simp at hq; simp_all; omega)
theorem con57AE_ok : BodyOk (mkB X57AE) 7 Try.f57 con57AE := by
  intro vs bs K hh hro
  clear hro
  unfold con57AE at hh
  split at hh
  · rename_i u vl vt y
    obtain ⟨a, b, c, d, e, rfl, hI, hh0⟩ := five_inv hh
    obtain ⟨el, nl, cl, fl, btl, rfl, hnl, rfl, hh1⟩ := parseR_inv hh0
    obtain ⟨et, nt, ct, ft, btt, rfl, hnt, rfl, hh2⟩ := parseR_inv hh1
    obtain ⟨rfl, ⟨hct, h1, hbd, hf, ht⟩, hc⟩ := hh2
    exact ⟨_, _, cast (con57AE_rrE a b c d e el nl cl fl et nt ct ft y K) (con57AE_rrP a b c d e el nl cl fl et nt ct ft y K hI hnl hnt hct h1 hbd hf ht hc)⟩
  · exact hh.elim
theorem con57AE_told : Told 57 (specOf con57AE) := toldB (X := X57AE) X57AE_told (by kernel_rfl) (by kernel_rfl) (by kernel_rfl) con57AE_ok
def con57AG_rrV (a b c d e : Int) (el nl cl : Nat) (fl : RF) (et nt ct : Nat) (ft : RF) (y : Int) (K : Value → List Blk → Prop) : Prop := let q0 := ((0 : Nat) + nl ≤ nl); let q1 := ((0 : Nat) + nt ≤ nt); let q2 := (nl ≤ (100000 : Nat)); let q3 := (nt ≤ (100000 : Nat)); let q4 := ((1 : Nat) ≤ (1 : Nat)); let q5 := ((0 : Int) ≤ (0 : Int)); let q6 := ((↑nt : Int) - (1 : Int)); let q7 := eB; let q8 := (List.length [IntKind.i64]); let q9 := (9223372036854775807 : Int); let q10 := ((1 : Nat) ≤ (100000 : Nat)); let q11 := ((2 : Nat) ≤ (100000 : Nat)); let q12 := (-9223372036854775808 : Int); let q13 := (@Eq Nat ((0 : Nat)) ((0 : Nat))); let q14 := (@Eq Nat ((1 : Nat)) ((1 : Nat))); let q15 := (Int.toNat q6); let q16 := ((↑nt : Int) - (1 : Int) - (0 : Int)); let q17 := ((0 : Int) ≤ (↑nt : Int) - (1 : Int)); let q18 := TS; let q19 := (Int.toNat q6 < nt); let q20 := (litF q8 ([y] ++ [])); let q21 := (some (Blk.row true [IntKind.i64] et nt ct ft)); let q22 := (Int.toNat q16); let q23 := ((1 : Nat), Blk.row true [IntKind.i64] et nt ct ft); let q24 := (ft q15 (0 : Nat)); let q25 := (some (rT el nl cl fl)); let q26 := (Int.toNat q16 + (1 : Nat)); let q27 := ((0 : Nat), rT el nl cl fl); let q28 := (Int.toNat q16 + (1 : Nat) + (1 : Nat)); let q29 := eK; let q30 := (q18 ∧ q14); let q31 := (q17 ∧ ((↑nt : Int) - (1 : Int) < (↑nt : Int))); let q32 := (Int.toNat q16 + (1 : Nat) + (1 : Nat) ≤ (100000 : Nat)); let q33 := (litF q8 ([ft q15 (0 : Nat)] ++ [])); let q34 := ((@Eq (List IntKind) ([IntKind.i64]) ([IntKind.i64])) ∧ ((@Eq Nat (nt) (nt)) ∧ (@Eq Nat (ct) (ct)))); let q35 := (@Eq Nat q22 q22); let q36 := (some (Blk.row false [IntKind.i64] (3 : Nat) (1 : Nat) (1 : Nat) q20)); let q37 := ((q12 ≤ (↑nt : Int) - (1 : Int)) ∧ ((↑nt : Int) - (1 : Int) ≤ q9)); let q38 := ((3 : Nat), Blk.row false [IntKind.i64] (3 : Nat) (1 : Nat) (1 : Nat) q20); let q39 := (q29 ∧ ((@Eq Nat (nl) (nl)) ∧ (@Eq Nat (cl) (cl)))); let q40 := (@Eq Nat q26 q26); let q41 := (some (Blk.cells [vi a, vi b, vi c, vi d, vi e] (23 : Nat))); let q42 := ((4 : Nat), Blk.cells [vi a, vi b, vi c, vi d, vi e] (23 : Nat)); let q43 := ((2 : Nat), Blk.cells [vi a, vi b, vi c, vi d, vi e] (23 : Nat)); let q44 := (some (Blk.row false [IntKind.i64] (3 : Nat) (1 : Nat) (1 : Nat) q33)); let q45 := ((9 : Nat), Blk.row false [IntKind.i64] (3 : Nat) (1 : Nat) (1 : Nat) q33); let q46 := ((10 : Nat), Blk.row false [IntKind.i64] (3 : Nat) (1 : Nat) (1 : Nat) q33); let q47 := ((11 : Nat), Blk.row false [IntKind.i64] (3 : Nat) (1 : Nat) (1 : Nat) q33); let q48 := (T0 ∧ ((Int.toNat (0 : Int) + Int.toNat q16 ≤ nt) ∧ ((Int.toNat q16 + (1 : Nat) ≤ (100000 : Nat)) ∧ ((0 : Nat) < (1 : Nat))))); let q49 := (@Eq (Option Blk) q41 q41); let q50 := (@Eq (Option Blk) q44 q44); let q51 := (T0 ∧ (∃ y0 : Value, (∃ y1 : List Blk, ((Go.Rx.Found 2 (Value.tuple { toList := [vi (0 : Int), vn, vn, vi (7 : Int)] }) ({ h := [q42, q38, q43, q27, q23], next := (5 : Nat) }) (y0) (y1)) ∧ (K y0 y1))))); let q52 := (q49 ∧ ((@Eq (Option Blk) q36 q36) ∧ (q49 ∧ ((@Eq (Option Blk) q25 q25) ∧ ((@Eq (Option Blk) q21 q21) ∧ (True)))))); (t2 (q18 ∧ (t7 (q0 ∧ (q1 ∧ ((InC a b c d e) ∧ (q13 ∧ (q2 ∧ (q39 ∧ (q14 ∧ (q3 ∧ (q34 ∧ (q7 ∧ (((Nat.le nt ct) ∧ (@Eq Int (Prod.snd (bck a b c d e nl fl nt ft)) ((0 : Int)))) ∧ (T0 ∧ (q18 ∧ (T0 ∧ (q30 ∧ ((q5 ∧ ((0 : Int) < (↑(1 : Nat) : Int))) ∧ ((Int.toNat (0 : Int) < (1 : Nat)) ∧ (T0 ∧ (if (y < (1 : Int)) then q51 else (t2 (if (a < y) then q51 else (T0 ∧ (((q12 ≤ (0 : Int) + (1 : Int)) ∧ ((0 : Int) + (1 : Int) ≤ q9)) ∧ (t4 (if (b ≤ (-1 : Int)) then q51 else (t7 (q0 ∧ (q13 ∧ (q2 ∧ (q39 ∧ (q7 ∧ (∀ y0 : Nat, let q74 := (some (rF (54 : Nat) nl y0 fl)); let q75 := ((5 : Nat), rF (54 : Nat) nl y0 fl); let q76 := ((@Eq (Option Blk) q74 q74) ∧ q52); ((nl ≤ y0) → (q52 ∧ (q52 ∧ (q1 ∧ (q13 ∧ (q3 ∧ (q34 ∧ (q7 ∧ (((0 : Nat) < nt) ∧ (∀ y1 : Nat, let q70 := (some (Blk.row false [IntKind.i64] (3 : Nat) nt (y1 + (1 : Nat)) ft)); let q71 := ((6 : Nat), Blk.row false [IntKind.i64] (3 : Nat) nt (y1 + (1 : Nat)) ft); let q72 := (some (Blk.cells [vi a, vi b, vi c, vi d, vi e, rsl (5 : Nat) (0 : Nat) nl y0, rsl (6 : Nat) (0 : Nat) nt (y1 + (1 : Nat)), vi (-1 : Int)] (100 : Nat))); let q73 := ((@Eq (Option Blk) q70 q70) ∧ q76); ((nt ≤ y1 + (1 : Nat)) → (q52 ∧ (q52 ∧ (q52 ∧ (q52 ∧ (t9 (t9 (T0 ∧ (q0 ∧ (T0 ∧ ((InC a b c d e) ∧ (q13 ∧ (q2 ∧ ((q29 ∧ ((@Eq Nat (nl) (nl)) ∧ (@Eq Nat (y0) (y0)))) ∧ (q7 ∧ (((@Eq Int (Prod.snd (ckF a b c d e nl fl)) ((0 : Int))) ∧ ((¬sel (selE fl (0 : Int)) nl = []) ∧ (¬List.length (sel (selE fl (2 : Int)) nl) = (2 : Nat)))) ∧ (∀ y2 : Nat, let q62 := (litF q8 ([(↑y2 : Int)] ++ [])); let q63 := (appF ft nt q62 (0 : Nat)); let q64 := (some (Blk.row false [IntKind.i64] (3 : Nat) (1 : Nat) (1 : Nat) q62)); let q65 := ((9 : Nat), Blk.row false [IntKind.i64] (3 : Nat) (1 : Nat) (1 : Nat) q62); let q66 := ((10 : Nat), Blk.row false [IntKind.i64] (3 : Nat) (1 : Nat) (1 : Nat) q62); let q67 := (appF (appF (fun x x_1 ↦ (0 : Int)) (0 : Nat) q62 (0 : Nat)) (1 : Nat) q33 (0 : Nat)); let q68 := (@Eq (Option Blk) q64 q64); let q69 := (appF (appF (fun a ↦ ft (Int.toNat (0 : Int) + a)) q22 q62 (0 : Nat)) q26 q33 (0 : Nat)); (∀ y3 : Nat → Nat → Int, let q60 := ((1 : Int) + c + (↑y2 : Int) * a + y3 y2 (1 : Nat)); let q61 := ((@Eq Int (askF a b c d e nl y3 (↑y2 : Int)) ((0 : Int))) ∧ (((1 : Int) ≤ y) ∧ ((¬y3 y2 (0 : Nat) = (0 : Int)) ∧ (y ≤ a - y3 y2 (1 : Nat))))); ((Taken a b c d e nl fl (2 : Int) y2 y3) → (∀ y4 : Nat, let q53 := (some (rF (54 : Nat) nl y4 y3)); let q54 := ((8 : Nat), rF (54 : Nat) nl y4 y3); let q55 := (q29 ∧ ((@Eq Nat (nl) (nl)) ∧ (@Eq Nat (y4) (y4)))); let q56 := (@Eq (Option Blk) q53 q53); let q57 := (some (Blk.cells [vi a, vi b, vi c, vi d, vi e, rsl (8 : Nat) (0 : Nat) nl y4, rsl (6 : Nat) (0 : Nat) nt (y1 + (1 : Nat)), vi (-1 : Int)] (100 : Nat))); let q58 := (q56 ∧ ((@Eq (Option Blk) q57 q57) ∧ q73)); let q59 := (t3 (q18 ∧ (t4 (q18 ∧ (q18 ∧ (t4 (q4 ∧ (q10 ∧ (T0 ∧ ((T0 ∧ ((false = false) ∧ (q13 ∧ ((@Eq Nat (nt) (nt)) ∧ ((@Eq Nat (y1 + (1 : Nat)) (y1 + (1 : Nat))) ∧ (nt + (1 : Nat) ≤ (100000 : Nat))))))) ∧ (∀ y5 : Nat, let q101 := (y5 - (1 : Nat) + (1 : Nat)); let q102 := (some (Blk.row false [IntKind.i64] (3 : Nat) (nt + (1 : Nat)) q101 q63)); let q103 := (some (Blk.cells [vi a, vi b, vi c, vi d, vi e, rsl (8 : Nat) (0 : Nat) nl y4, rsl (10 : Nat) (0 : Nat) (nt + (1 : Nat)) q101, vi (-1 : Int)] (100 : Nat))); ((nt + (1 : Nat) ≤ y5) → (t9 (t9 (t2 (q0 ∧ (t2 ((InC a b c d e) ∧ (q13 ∧ (q2 ∧ (q55 ∧ (q7 ∧ (q61 ∧ (∀ y6 : Nat → Nat → Int, ((Bumped a b c d e nl y3 (↑y2 : Int) y y6) → (∀ y7 : Nat, ((nl ≤ y7) → (((@Eq (Option Blk) q102 q102) ∧ (q68 ∧ (q56 ∧ ((@Eq (Option Blk) q103 q103) ∧ q76)))) ∧ (t9 (t9 (t8 (∃ y8 : Value, (∃ y9 : List Blk, ((Go.Rx.Found 2 (Value.tuple { toList := [vi q60, rsl (11 : Nat) (0 : Nat) nl y7, rsl (10 : Nat) (0 : Nat) (nt + (1 : Nat)) q101, vi (0 : Int)] }) ({ h := [((11 : Nat), rF (54 : Nat) nl y7 y6), ((10 : Nat), Blk.row false [IntKind.i64] (3 : Nat) (nt + (1 : Nat)) q101 q63), q65, q54, ((7 : Nat), Blk.cells [vi a, vi b, vi c, vi d, vi e, rsl (11 : Nat) (0 : Nat) nl y7, rsl (10 : Nat) (0 : Nat) (nt + (1 : Nat)) q101, vi (-1 : Int)] (100 : Nat)), q75, q42, q38, q43, q27, q23], next := (12 : Nat) }) (y8) (y9)) ∧ (K y8 y9))))))))))))))))))))))))))))))))))); ((nl ≤ y4) → (((@Eq (Option Blk) q72 q72) ∧ q73) ∧ (t9 (q18 ∧ (T0 ∧ (if (@Eq Int ((↑nt : Int)) ((0 : Int))) then q59 else (t9 (t3 (q18 ∧ (t2 (q37 ∧ (T0 ∧ (q30 ∧ (q31 ∧ (T0 ∧ (q19 ∧ (t5 ((q18 ∧ (@Eq Nat ((2 : Nat)) ((2 : Nat)))) ∧ ((((0 : Int) ≤ ft q15 (0 : Nat)) ∧ (ft q15 (0 : Nat) < (↑nl : Int))) ∧ (T0 ∧ ((Int.toNat q24 < nl) ∧ (T0 ∧ (if (@Eq Int (y3 (Int.toNat q24) (0 : Nat)) ((2 : Int))) then q59 else (t3 (q18 ∧ (T0 ∧ (q37 ∧ (T0 ∧ (q18 ∧ (t4 (q14 ∧ ((q5 ∧ (q17 ∧ (((↑nt : Int) - (1 : Int) ≤ (↑nt : Int) - (1 : Int)) ∧ ((↑nt : Int) - (1 : Int) ≤ (↑(y1 + (1 : Nat)) : Int))))) ∧ ((@Eq Int q6 q6) ∧ (Go.Rx.br (decide ((0 : Int) < (↑nt : Int) - (1 : Int))) (t9 (t2 (q30 ∧ (q31 ∧ (T0 ∧ (q19 ∧ ((q18 ∧ (t4 (q58 ∧ ((q18 ∧ (q18 ∧ (t4 (q4 ∧ (q10 ∧ (q35 ∧ (q48 ∧ (∀ y5 : Nat, let q100 := (y5 - (1 : Nat) + (1 : Nat)); ((Int.toNat q16 + (1 : Nat) ≤ y5) → (q58 ∧ (q18 ∧ (t4 (q58 ∧ (q18 ∧ (q18 ∧ (t4 (q4 ∧ (q10 ∧ (T0 ∧ ((T0 ∧ ((false = false) ∧ (q13 ∧ (q40 ∧ ((@Eq Nat q100 q100) ∧ q32))))) ∧ (∀ y6 : Nat, let q97 := (y6 - (1 : Nat) + (1 : Nat)); let q98 := (some (Blk.cells [vi a, vi b, vi c, vi d, vi e, rsl (8 : Nat) (0 : Nat) nl y4, rsl (12 : Nat) (0 : Nat) q28 q97, vi (-1 : Int)] (100 : Nat))); let q99 := (some (Blk.row false [IntKind.i64] (3 : Nat) q28 q97 q69)); ((Int.toNat q16 + (1 : Nat) + (1 : Nat) ≤ y6) → (q58 ∧ (t3 ((True) ∧ (t9 (t9 (q0 ∧ (t2 ((InC a b c d e) ∧ (q13 ∧ (q2 ∧ (q55 ∧ (q7 ∧ (q61 ∧ (∀ y7 : Nat → Nat → Int, ((Bumped a b c d e nl y3 (↑y2 : Int) y y7) → (∀ y8 : Nat, ((nl ≤ y8) → (((@Eq (Option Blk) q99 q99) ∧ (q50 ∧ (q68 ∧ (q56 ∧ ((@Eq (Option Blk) q98 q98) ∧ q73))))) ∧ (t9 (t9 (t8 (∃ y9 : Value, (∃ y10 : List Blk, ((Go.Rx.Found 2 (Value.tuple { toList := [vi q60, rsl (13 : Nat) (0 : Nat) nl y8, rsl (12 : Nat) (0 : Nat) q28 q97, vi (0 : Int)] }) ({ h := [((13 : Nat), rF (54 : Nat) nl y8 y7), ((12 : Nat), Blk.row false [IntKind.i64] (3 : Nat) q28 q97 q69), q47, q65, q54, ((7 : Nat), Blk.cells [vi a, vi b, vi c, vi d, vi e, rsl (13 : Nat) (0 : Nat) nl y8, rsl (12 : Nat) (0 : Nat) q28 q97, vi (-1 : Int)] (100 : Nat)), q71, q75, q42, q38, q43, q27, q23], next := (14 : Nat) }) (y9) (y10)) ∧ (K y9 y10))))))))))))))))))))))))))))))))))))))))))))))) ∧ (q18 ∧ (t4 (q58 ∧ (q18 ∧ (q18 ∧ (t4 (q4 ∧ (q10 ∧ (q35 ∧ (q48 ∧ (∀ y5 : Nat, let q96 := (y5 - (1 : Nat) + (1 : Nat)); ((Int.toNat q16 + (1 : Nat) ≤ y5) → (q58 ∧ (q18 ∧ (q18 ∧ (t4 (q4 ∧ (q10 ∧ (T0 ∧ ((T0 ∧ ((false = false) ∧ (q13 ∧ (q40 ∧ ((@Eq Nat q96 q96) ∧ q32))))) ∧ (∀ y6 : Nat, let q93 := (y6 - (1 : Nat) + (1 : Nat)); let q94 := (some (Blk.cells [vi a, vi b, vi c, vi d, vi e, rsl (8 : Nat) (0 : Nat) nl y4, rsl (12 : Nat) (0 : Nat) q28 q93, vi (-1 : Int)] (100 : Nat))); let q95 := (some (Blk.row false [IntKind.i64] (3 : Nat) q28 q93 q69)); ((Int.toNat q16 + (1 : Nat) + (1 : Nat) ≤ y6) → (q58 ∧ (t3 ((True) ∧ (t9 (t9 (q0 ∧ (t2 ((InC a b c d e) ∧ (q13 ∧ (q2 ∧ (q55 ∧ (q7 ∧ (q61 ∧ (∀ y7 : Nat → Nat → Int, ((Bumped a b c d e nl y3 (↑y2 : Int) y y7) → (∀ y8 : Nat, ((nl ≤ y8) → (((@Eq (Option Blk) q95 q95) ∧ (q50 ∧ (q68 ∧ (q56 ∧ ((@Eq (Option Blk) q94 q94) ∧ q73))))) ∧ (t9 (t9 (t8 (∃ y9 : Value, (∃ y10 : List Blk, ((Go.Rx.Found 2 (Value.tuple { toList := [vi q60, rsl (13 : Nat) (0 : Nat) nl y8, rsl (12 : Nat) (0 : Nat) q28 q93, vi (0 : Int)] }) ({ h := [((13 : Nat), rF (54 : Nat) nl y8 y7), ((12 : Nat), Blk.row false [IntKind.i64] (3 : Nat) q28 q93 q69), q46, q65, q54, ((7 : Nat), Blk.cells [vi a, vi b, vi c, vi d, vi e, rsl (13 : Nat) (0 : Nat) nl y8, rsl (12 : Nat) (0 : Nat) q28 q93, vi (-1 : Int)] (100 : Nat)), q71, q75, q42, q38, q43, q27, q23], next := (14 : Nat) }) (y9) (y10)) ∧ (K y9 y10))))))))))))))))))))))))))))))))))))))))))))))))))) ∧ (q18 ∧ (t4 (q58 ∧ (q18 ∧ (t4 (q58 ∧ (q18 ∧ (q18 ∧ (t4 (q4 ∧ (q10 ∧ (q35 ∧ (q48 ∧ (∀ y5 : Nat, let q92 := (y5 - (1 : Nat) + (1 : Nat)); ((Int.toNat q16 + (1 : Nat) ≤ y5) → (q58 ∧ (q18 ∧ (q18 ∧ (t4 (q4 ∧ (q10 ∧ (T0 ∧ ((T0 ∧ ((false = false) ∧ (q13 ∧ (q40 ∧ ((@Eq Nat q92 q92) ∧ q32))))) ∧ (∀ y6 : Nat, let q89 := (y6 - (1 : Nat) + (1 : Nat)); let q90 := (some (Blk.cells [vi a, vi b, vi c, vi d, vi e, rsl (8 : Nat) (0 : Nat) nl y4, rsl (12 : Nat) (0 : Nat) q28 q89, vi (-1 : Int)] (100 : Nat))); let q91 := (some (Blk.row false [IntKind.i64] (3 : Nat) q28 q89 q69)); ((Int.toNat q16 + (1 : Nat) + (1 : Nat) ≤ y6) → (q58 ∧ (t3 ((True) ∧ (t9 (t9 (q0 ∧ (t2 ((InC a b c d e) ∧ (q13 ∧ (q2 ∧ (q55 ∧ (q7 ∧ (q61 ∧ (∀ y7 : Nat → Nat → Int, ((Bumped a b c d e nl y3 (↑y2 : Int) y y7) → (∀ y8 : Nat, ((nl ≤ y8) → (((@Eq (Option Blk) q91 q91) ∧ (q68 ∧ (q50 ∧ (q56 ∧ ((@Eq (Option Blk) q90 q90) ∧ q73))))) ∧ (t9 (t9 (t8 (∃ y9 : Value, (∃ y10 : List Blk, ((Go.Rx.Found 2 (Value.tuple { toList := [vi q60, rsl (13 : Nat) (0 : Nat) nl y8, rsl (12 : Nat) (0 : Nat) q28 q89, vi (0 : Int)] }) ({ h := [((13 : Nat), rF (54 : Nat) nl y8 y7), ((12 : Nat), Blk.row false [IntKind.i64] (3 : Nat) q28 q89 q69), q66, q45, q54, ((7 : Nat), Blk.cells [vi a, vi b, vi c, vi d, vi e, rsl (13 : Nat) (0 : Nat) nl y8, rsl (12 : Nat) (0 : Nat) q28 q89, vi (-1 : Int)] (100 : Nat)), q71, q75, q42, q38, q43, q27, q23], next := (14 : Nat) }) (y9) (y10)) ∧ (K y9 y10))))))))))))))))))))))))))))))))))))))))))))))))))))))))) (t9 (t2 (q30 ∧ (q31 ∧ (T0 ∧ (q19 ∧ ((q18 ∧ (t4 (q58 ∧ ((q18 ∧ (q18 ∧ (t4 (q4 ∧ (q10 ∧ (T0 ∧ (q13 ∧ (∀ y5 : Nat, let q88 := (y5 - (1 : Nat) + (1 : Nat)); (((1 : Nat) ≤ y5) → (q58 ∧ (q18 ∧ (t4 (q58 ∧ (q18 ∧ (q18 ∧ (t4 (q4 ∧ (q10 ∧ (T0 ∧ ((T0 ∧ ((false = false) ∧ (q13 ∧ (q14 ∧ ((@Eq Nat q88 q88) ∧ q11))))) ∧ (∀ y6 : Nat, let q85 := (y6 - (1 : Nat) + (1 : Nat)); let q86 := (some (Blk.cells [vi a, vi b, vi c, vi d, vi e, rsl (8 : Nat) (0 : Nat) nl y4, rsl (12 : Nat) (0 : Nat) (2 : Nat) q85, vi (-1 : Int)] (100 : Nat))); let q87 := (some (Blk.row false [IntKind.i64] (3 : Nat) (2 : Nat) q85 q67)); (((2 : Nat) ≤ y6) → (q58 ∧ (t3 ((True) ∧ (t9 (t9 (q0 ∧ (t2 ((InC a b c d e) ∧ (q13 ∧ (q2 ∧ (q55 ∧ (q7 ∧ (q61 ∧ (∀ y7 : Nat → Nat → Int, ((Bumped a b c d e nl y3 (↑y2 : Int) y y7) → (∀ y8 : Nat, ((nl ≤ y8) → (((@Eq (Option Blk) q87 q87) ∧ (q50 ∧ (q68 ∧ (q56 ∧ ((@Eq (Option Blk) q86 q86) ∧ q73))))) ∧ (t9 (t9 (t8 (∃ y9 : Value, (∃ y10 : List Blk, ((Go.Rx.Found 2 (Value.tuple { toList := [vi q60, rsl (13 : Nat) (0 : Nat) nl y8, rsl (12 : Nat) (0 : Nat) (2 : Nat) q85, vi (0 : Int)] }) ({ h := [((13 : Nat), rF (54 : Nat) nl y8 y7), ((12 : Nat), Blk.row false [IntKind.i64] (3 : Nat) (2 : Nat) q85 q67), q47, q65, q54, ((7 : Nat), Blk.cells [vi a, vi b, vi c, vi d, vi e, rsl (13 : Nat) (0 : Nat) nl y8, rsl (12 : Nat) (0 : Nat) (2 : Nat) q85, vi (-1 : Int)] (100 : Nat)), q71, q75, q42, q38, q43, q27, q23], next := (14 : Nat) }) (y9) (y10)) ∧ (K y9 y10))))))))))))))))))))))))))))))))))))))))))))))) ∧ (q18 ∧ (t4 (q58 ∧ (q18 ∧ (q18 ∧ (t4 (q4 ∧ (q10 ∧ (T0 ∧ (q13 ∧ (∀ y5 : Nat, let q84 := (y5 - (1 : Nat) + (1 : Nat)); (((1 : Nat) ≤ y5) → (q58 ∧ (q18 ∧ (q18 ∧ (t4 (q4 ∧ (q10 ∧ (T0 ∧ ((T0 ∧ ((false = false) ∧ (q13 ∧ (q14 ∧ ((@Eq Nat q84 q84) ∧ q11))))) ∧ (∀ y6 : Nat, let q81 := (y6 - (1 : Nat) + (1 : Nat)); let q82 := (some (Blk.cells [vi a, vi b, vi c, vi d, vi e, rsl (8 : Nat) (0 : Nat) nl y4, rsl (12 : Nat) (0 : Nat) (2 : Nat) q81, vi (-1 : Int)] (100 : Nat))); let q83 := (some (Blk.row false [IntKind.i64] (3 : Nat) (2 : Nat) q81 q67)); (((2 : Nat) ≤ y6) → (q58 ∧ (t3 ((True) ∧ (t9 (t9 (q0 ∧ (t2 ((InC a b c d e) ∧ (q13 ∧ (q2 ∧ (q55 ∧ (q7 ∧ (q61 ∧ (∀ y7 : Nat → Nat → Int, ((Bumped a b c d e nl y3 (↑y2 : Int) y y7) → (∀ y8 : Nat, ((nl ≤ y8) → (((@Eq (Option Blk) q83 q83) ∧ (q50 ∧ (q68 ∧ (q56 ∧ ((@Eq (Option Blk) q82 q82) ∧ q73))))) ∧ (t9 (t9 (t8 (∃ y9 : Value, (∃ y10 : List Blk, ((Go.Rx.Found 2 (Value.tuple { toList := [vi q60, rsl (13 : Nat) (0 : Nat) nl y8, rsl (12 : Nat) (0 : Nat) (2 : Nat) q81, vi (0 : Int)] }) ({ h := [((13 : Nat), rF (54 : Nat) nl y8 y7), ((12 : Nat), Blk.row false [IntKind.i64] (3 : Nat) (2 : Nat) q81 q67), q46, q65, q54, ((7 : Nat), Blk.cells [vi a, vi b, vi c, vi d, vi e, rsl (13 : Nat) (0 : Nat) nl y8, rsl (12 : Nat) (0 : Nat) (2 : Nat) q81, vi (-1 : Int)] (100 : Nat)), q71, q75, q42, q38, q43, q27, q23], next := (14 : Nat) }) (y9) (y10)) ∧ (K y9 y10))))))))))))))))))))))))))))))))))))))))))))))))))) ∧ (q18 ∧ (t4 (q58 ∧ (q18 ∧ (t4 (q58 ∧ (q18 ∧ (q18 ∧ (t4 (q4 ∧ (q10 ∧ (T0 ∧ (q13 ∧ (∀ y5 : Nat, let q80 := (y5 - (1 : Nat) + (1 : Nat)); (((1 : Nat) ≤ y5) → (q58 ∧ (q18 ∧ (q18 ∧ (t4 (q4 ∧ (q10 ∧ (T0 ∧ ((T0 ∧ ((false = false) ∧ (q13 ∧ (q14 ∧ ((@Eq Nat q80 q80) ∧ q11))))) ∧ (∀ y6 : Nat, let q77 := (y6 - (1 : Nat) + (1 : Nat)); let q78 := (some (Blk.cells [vi a, vi b, vi c, vi d, vi e, rsl (8 : Nat) (0 : Nat) nl y4, rsl (12 : Nat) (0 : Nat) (2 : Nat) q77, vi (-1 : Int)] (100 : Nat))); let q79 := (some (Blk.row false [IntKind.i64] (3 : Nat) (2 : Nat) q77 q67)); (((2 : Nat) ≤ y6) → (q58 ∧ (t3 ((True) ∧ (t9 (t9 (q0 ∧ (t2 ((InC a b c d e) ∧ (q13 ∧ (q2 ∧ (q55 ∧ (q7 ∧ (q61 ∧ (∀ y7 : Nat → Nat → Int, ((Bumped a b c d e nl y3 (↑y2 : Int) y y7) → (∀ y8 : Nat, ((nl ≤ y8) → (((@Eq (Option Blk) q79 q79) ∧ (q68 ∧ (q50 ∧ (q56 ∧ ((@Eq (Option Blk) q78 q78) ∧ q73))))) ∧ (t9 (t9 (t8 (∃ y9 : Value, (∃ y10 : List Blk, ((Go.Rx.Found 2 (Value.tuple { toList := [vi q60, rsl (13 : Nat) (0 : Nat) nl y8, rsl (12 : Nat) (0 : Nat) (2 : Nat) q77, vi (0 : Int)] }) ({ h := [((13 : Nat), rF (54 : Nat) nl y8 y7), ((12 : Nat), Blk.row false [IntKind.i64] (3 : Nat) (2 : Nat) q77 q67), q66, q45, q54, ((7 : Nat), Blk.cells [vi a, vi b, vi c, vi d, vi e, rsl (13 : Nat) (0 : Nat) nl y8, rsl (12 : Nat) (0 : Nat) (2 : Nat) q77, vi (-1 : Int)] (100 : Nat)), q71, q75, q42, q38, q43, q27, q23], next := (14 : Nat) }) (y9) (y10)) ∧ (K y9 y10))))))))))))))))))))))))))))))))))))))))))))))))))))))))))))))))))))))))))))))))))))))))))))))))))))))))))))))))))))))))))))))))))))))))))))))))))))))))))))
theorem con57AG_rrE (a b c d e : Int) (el nl cl : Nat) (fl : RF) (et nt ct : Nat) (ft : RF) (y : Int) (K : Value → List Blk → Prop) : con57AG_rrV a b c d e el nl cl fl et nt ct ft y K = bodyX (mkB X57G) (callN (mkB X57G) 7) (con57AG_rrA a b c d e el nl cl fl et nt ct ft y) Try.f57 [five' a b c d e, rsl 0 0 nl cl, rsl 1 0 nt ct, .int .i64 y] (stOf [.row true [.i64, .i64] el nl cl fl, .row true [.i64] et nt ct ft]) (Fd 2 K) := by kernel_rfl
set_option tactic.hygienic false in
theorem con57AG_rrP (a b c d e : Int) (el nl cl : Nat) (fl : RF) (et nt ct : Nat) (ft : RF) (y : Int) (K : Value → List Blk → Prop)  (hI : InC a b c d e) (hnl : nl ≤ 100000) (hnt : nt ≤ 100000) (hct : capOk (rsl 1 0 nt ct)) (h1 : askT a b c d e nl fl nt ft (-1) y = 0) (hbd : nt ≤ 1000) (hf : ¬ (sel (selE fl 0) nl = [] ∨ List.length (sel (selE fl 2) nl) = 2)) (ht : 0 < nt) (hi : ¬ (0 < nt ∧ fl (ft (Int.toNat (((nt : Nat) : Int) - 1)) 0).toNat 0 = 1)) (h : ∀ i g z, Placed a b c d e nl fl 2 i y g → z = 1 + c + (i : Int) * a → ∀ h, App nt ft i h → ∀ cp, nl ≤ cp → ∀ cp2, nt + 1 ≤ cp2 → K (.tuple ⟨[.int .i64 z, rsl 2 0 nl cp, rsl (2 + 1) 0 (nt + 1) cp2, .int .i64 0]⟩) [.row false [.i64, .i64] 54 nl cp g, .row false [.i64] 3 (nt + 1) cp2 h]) : con57AG_rrV a b c d e el nl cl fl et nt ct ft y K := by
  unfold con57AG_rrV
  conv => zeta
  obtain ⟨k0, k1, k2, k3, k4, k5⟩ := askT_bck h1
  obtain ⟨g1, g2, g3, g4⟩ := bck_ok k0
  have gc := bck_ck k0
  have go := bck_one k0
  have gk := fun h : 0 < nt => go (Int.toNat ((nt : Int) - 1)) (by omega)
  repeat' (first | (with_reducible first | exact rfl | exact trivial | refine And.intro ?_ ?_ | refine br_intro (fun hq => ?_) fun hq => ?_ | refine if_both (fun hz => ?_) fun hz => ?_) | (intro) | fail)
  all_goals try (have gk := gk (by omega))
  all_goals try (rename Taken _ _ _ _ _ _ _ _ _ _ => T; have T0 := T.now0; have T1 := T.now1)
  all_goals try (have tl := taken_rest T (j := (ft (Int.toNat (((nt : Nat) : Int) - 1)) 0).toNat) (by omega))
  all_goals first
    | omega
    | assumption
    | contradiction
    | exact fin0 (by kernel_rfl) (by kernel_rfl) (by first | exact h | simpa using h)
    | exact T.ask
    | exact bck_ck k0
    | exact hf (.inl (by assumption))
    | exact hf (.inr (by assumption))
    | exact fin2x rfl rfl rfl (fun _ _ _ _ => rfl) (fun _ _ _ _ => rfl) (h _ _ _ (placed (.inr rfl) T ‹_›) (by omega) _ (by constructor <;> (try intro k hk) <;> simp [appF, litF] <;> omega) _ (by omega) _ (by omega))
    | exact fin2x rfl rfl rfl (fun _ _ _ _ => rfl) (fun _ _ _ _ => rfl) (h _ _ _ (placed (.inr rfl) T ‹_›) (by omega) _ (by constructor <;> (try intro k hk) <;> simp [appF, litF, hk]) _ (by omega) _ (by omega))
    | (obtain rfl : nt = 0 := (by simp at hq; omega)
       first
         | exact fin2x rfl rfl rfl (fun _ _ _ _ => rfl) (fun _ _ _ _ => rfl) (h _ _ _ (placed (.inr rfl) T ‹_›) (by omega) _ (by constructor <;> (try intro k hk) <;> simp [appF, litF] <;> omega) _ (by omega) _ (by omega))
         | exact fin2x rfl rfl rfl (fun _ _ _ _ => rfl) (fun _ _ _ _ => rfl) (h _ _ _ (placed (.inr rfl) T ‹_›) (by omega) _ (by constructor <;> (try intro k hk) <;> simp [appF, litF, hk]) _ (by omega) _ (by omega)))
    | (exfalso; simp at hq; omega)
    | (exfalso; simp at hq; simp_all; omega)
theorem con57AG_ok : BodyOk (mkB X57G) 7 Try.f57 con57AG := by
  intro vs bs K hh hro
  clear hro
  unfold con57AG at hh
  split at hh
  · rename_i u vl vt y
    obtain ⟨a, b, c, d, e, rfl, hI, hh0⟩ := five_inv hh
    obtain ⟨el, nl, cl, fl, btl, rfl, hnl, rfl, hh1⟩ := parseR_inv hh0
    obtain ⟨et, nt, ct, ft, btt, rfl, hnt, rfl, hh2⟩ := parseR_inv hh1
    obtain ⟨rfl, ⟨hct, h1, hbd, hf, ht, hi⟩, hc⟩ := hh2
    exact ⟨_, _, cast (con57AG_rrE a b c d e el nl cl fl et nt ct ft y K) (con57AG_rrP a b c d e el nl cl fl et nt ct ft y K hI hnl hnt hct h1 hbd hf ht hi hc)⟩
  · exact hh.elim
theorem con57AG_told : Told 57 (specOf con57AG) := toldB (X := X57G) X57G_told (by kernel_rfl) (by kernel_rfl) (by kernel_rfl) con57AG_ok
end Go.Proofs.Ytkflmglpniebfaa.Fr
namespace Go.Proofs.Ytkflmglpniebfaa.Fr
set_option maxRecDepth 100000
set_option maxHeartbeats 4000000
open Go.Rx
open Go.RowKit (Below)
set_option linter.unusedVariables false
def con58B : Con := fun vs bs K => match vs with
  | [u, vl, vt, .int .i64 y] => five u fun a b c d e => parse [.i64, .i64] 0 vl bs fun nl fl j0 bs0 => parse [.i64] j0 vt bs0 fun nt ft j1 bs1 => bs1 = [] ∧ ((¬ askT a b c d e nl fl nt ft (-1) y = 0)) ∧ (K (.tuple ⟨[.int .i64 (0), .slice none 0 0, .slice none 0 0, .int .i64 (askT a b c d e nl fl nt ft (-1) y)]⟩) [])
  | _ => False

def con58B_nnA (a b c d e : Int) (y : Int) : Ann := fun _ _ _ => none
def con58B_nrA (a b c d e : Int) (et nt ct : Nat) (ft : RF) (y : Int) : Ann := fun _ _ _ => none
def con58B_rnA (a b c d e : Int) (el nl cl : Nat) (fl : RF) (y : Int) : Ann := fun _ _ _ => none
def con58B_rrA (a b c d e : Int) (el nl cl : Nat) (fl : RF) (et nt ct : Nat) (ft : RF) (y : Int) : Ann := fun _ _ _ => none
def con58F : Con := fun vs bs K => match vs with
  | [u, vl, vt, .int .i64 y] => five u fun a b c d e => parseR [.i64, .i64] 0 vl bs fun nl fl j0 bs0 => parse [.i64] j0 vt bs0 fun nt ft j1 bs1 => bs1 = [] ∧ ((askT a b c d e nl fl nt ft (-1) y = 0) ∧ (sel (selE fl 0) nl = [] ∨ List.length (sel (selE fl 2) nl) = 2)) ∧ (K (.tuple ⟨[.int .i64 (0), .slice none 0 0, .slice none 0 0, .int .i64 (5)]⟩) [])
  | _ => False

def con58F_rnA (a b c d e : Int) (el nl cl : Nat) (fl : RF) (y : Int) : Ann := fun _ _ _ => none
def con58F_rrA (a b c d e : Int) (el nl cl : Nat) (fl : RF) (et nt ct : Nat) (ft : RF) (y : Int) : Ann := fun _ _ _ => none
def con58A : Con := fun vs bs K => match vs with
  | [u, vl, vt, .int .i64 y] => five u fun a b c d e => parseR [.i64, .i64] 0 vl bs fun nl fl j0 bs0 => parse [.i64] j0 vt bs0 fun nt ft j1 bs1 => bs1 = [] ∧ ((askT a b c d e nl fl nt ft (-1) y = 0) ∧ (nt ≤ 1000) ∧ (¬ (sel (selE fl 0) nl = [] ∨ List.length (sel (selE fl 2) nl) = 2)) ∧ (¬ (0 < nt ∧ fl (ft (Int.toNat (((nt : Nat) : Int) - 1)) 0).toNat 0 = 1))) ∧ (∀ i g z, Placed a b c d e nl fl 2 i y g → z = 1 + c + (i : Int) * a → ∀ h, App nt ft i h → ∀ cp, nl ≤ cp → ∀ cp2, nt + 1 ≤ cp2 → K (.tuple ⟨[.int .i64 z, rsl j1 0 nl cp, rsl (j1 + 1) 0 (nt + 1) cp2, .int .i64 0]⟩) [.row false [.i64, .i64] 54 nl cp g, .row false [.i64] 3 (nt + 1) cp2 h])
  | _ => False

def con58A_rnA (a b c d e : Int) (el nl cl : Nat) (fl : RF) (y : Int) : Ann := fun _ _ _ => none
def con58A_rrA (a b c d e : Int) (el nl cl : Nat) (fl : RF) (et nt ct : Nat) (ft : RF) (y : Int) : Ann := fun _ _ _ => none
def con58I : Con := fun vs bs K => match vs with
  | [u, vl, vt, .int .i64 y] => five u fun a b c d e => parseR [.i64, .i64] 0 vl bs fun nl fl j0 bs0 => parseR [.i64] j0 vt bs0 fun nt ft j1 bs1 => bs1 = [] ∧ ((capOk (vt)) ∧ (askT a b c d e nl fl nt ft (-1) y = 0) ∧ (nt ≤ 1000) ∧ (¬ (sel (selE fl 0) nl = [] ∨ List.length (sel (selE fl 2) nl) = 2)) ∧ (0 < nt ∧ fl (ft (Int.toNat (((nt : Nat) : Int) - 1)) 0).toNat 0 = 1)) ∧ (∀ i g z, Placed a b c d e nl fl 2 i y g → z = 1 + c + (i : Int) * a → ∀ h, Ins nt ft i h → ∀ cp, nl ≤ cp → ∀ cp2, nt + 1 ≤ cp2 → K (.tuple ⟨[.int .i64 z, rsl j1 0 nl cp, rsl (j1 + 1) 0 (nt + 1) cp2, .int .i64 0]⟩) [.row false [.i64, .i64] 54 nl cp g, .row false [.i64] 3 (nt + 1) cp2 h])
  | _ => False

def con58I_rrA (a b c d e : Int) (el nl cl : Nat) (fl : RF) (et nt ct : Nat) (ft : RF) (y : Int) : Ann := fun _ _ _ => none
def con58B_nnV (a b c d e : Int) (y : Int) (K : Value → List Blk → Prop) : Prop := let q0 := (askT a b c d e (0 : Nat) zF (0 : Nat) zF (-1 : Int) y); (t7 ((InC a b c d e) ∧ (eB ∧ ((True) ∧ (T0 ∧ (if (@Eq Int q0 ((0 : Int))) then (T0 ∧ (False)) else (∃ y0 : Value, (∃ y1 : List Blk, ((Go.Rx.Found 0 (Value.tuple { toList := [vi (0 : Int), vn, vn, vi q0] }) ({ h := [((0 : Nat), Blk.cells [vi a, vi b, vi c, vi d, vi e] (23 : Nat))], next := (1 : Nat) }) (y0) (y1)) ∧ (K y0 y1))))))))))
theorem con58B_nnE (a b c d e : Int) (y : Int) (K : Value → List Blk → Prop) : con58B_nnV a b c d e y K = bodyX (mkB X58B) (callN (mkB X58B) 7) (con58B_nnA a b c d e y) Try.f58 [five' a b c d e, .slice none 0 0, .slice none 0 0, .int .i64 y] (stOf []) (Fd 0 K) := by kernel_rfl
set_option tactic.hygienic false in
theorem con58B_nnP (a b c d e : Int) (y : Int) (K : Value → List Blk → Prop)  (hI : InC a b c d e) (h1 : ¬ askT a b c d e 0 zF 0 zF (-1) y = 0) (h : K (.tuple ⟨[.int .i64 (0), .slice none 0 0, .slice none 0 0, .int .i64 (askT a b c d e 0 zF 0 zF (-1) y)]⟩) []) : con58B_nnV a b c d e y K := by
  unfold con58B_nnV
  conv => zeta

  repeat' (first | (with_reducible first | exact rfl | exact trivial | refine And.intro ?_ ?_ | refine br_intro (fun hq => ?_) fun hq => ?_ | refine if_both (fun hz => ?_) fun hz => ?_) | (intro) | fail)

  all_goals first
    | omega
    | assumption
    | contradiction
    | exact fin0 (by kernel_rfl) (by kernel_rfl) (by first | exact h | simpa using h)
    | exact T.ask
    | exact bck_ck k0
    | exact hf (.inl (by assumption))
    | exact hf (.inr (by assumption))
    | exact fin2x rfl rfl rfl (fun _ _ _ _ => rfl) (fun _ _ _ _ => rfl) (h _ _ _ (placed (.inr rfl) T ‹_›) (by omega) _ (by constructor <;> (try intro k hk) <;> simp [appF, litF] <;> omega) _ (by omega) _ (by omega))
    | exact fin2x rfl rfl rfl (fun _ _ _ _ => rfl) (fun _ _ _ _ => rfl) (h _ _ _ (placed (.inr rfl) T ‹_›) (by omega) _ (by constructor <;> (try intro k hk) <;> simp [appF, litF, hk]) _ (by omega) _ (by omega))
    | (obtain rfl : nt = 0 := (by simp at hq; omega)
       first
         | exact fin2x rfl rfl rfl (fun _ _ _ _ => rfl) (fun _ _ _ _ => rfl) (h _ _ _ (placed (.inr rfl) T ‹_›) (by omega) _ (by constructor <;> (try intro k hk) <;> simp [appF, litF] <;> omega) _ (by omega) _ (by omega))
         | exact fin2x rfl rfl rfl (fun _ _ _ _ => rfl) (fun _ _ _ _ => rfl) (h _ _ _ (placed (.inr rfl) T ‹_›) (by omega) _ (by constructor <;> (try intro k hk) <;> simp [appF, litF, hk]) _ (by omega) _ (by omega)))
    | (exfalso; simp at hq; omega)
    | (exfalso; simp at hq; simp_all; omega)
def con58B_nrV (a b c d e : Int) (et nt ct : Nat) (ft : RF) (y : Int) (K : Value → List Blk → Prop) : Prop := let q0 := (askT a b c d e (0 : Nat) zF nt ft (-1 : Int) y); (t4 (((0 : Nat) + nt ≤ nt) ∧ (t2 ((InC a b c d e) ∧ ((@Eq Nat ((0 : Nat)) ((0 : Nat))) ∧ ((nt ≤ (100000 : Nat)) ∧ (((@Eq (List IntKind) ([IntKind.i64]) ([IntKind.i64])) ∧ ((@Eq Nat (nt) (nt)) ∧ (@Eq Nat (ct) (ct)))) ∧ (eB ∧ ((True) ∧ (T0 ∧ (if (@Eq Int q0 ((0 : Int))) then (T0 ∧ (False)) else (∃ y0 : Value, (∃ y1 : List Blk, ((Go.Rx.Found 1 (Value.tuple { toList := [vi (0 : Int), vn, vn, vi q0] }) ({ h := [((1 : Nat), Blk.cells [vi a, vi b, vi c, vi d, vi e] (23 : Nat)), ((0 : Nat), Blk.row true [IntKind.i64] et nt ct ft)], next := (2 : Nat) }) (y0) (y1)) ∧ (K y0 y1)))))))))))))))
theorem con58B_nrE (a b c d e : Int) (et nt ct : Nat) (ft : RF) (y : Int) (K : Value → List Blk → Prop) : con58B_nrV a b c d e et nt ct ft y K = bodyX (mkB X58B) (callN (mkB X58B) 7) (con58B_nrA a b c d e et nt ct ft y) Try.f58 [five' a b c d e, .slice none 0 0, rsl 0 0 nt ct, .int .i64 y] (stOf [.row true [.i64] et nt ct ft]) (Fd 1 K) := by kernel_rfl
set_option tactic.hygienic false in
theorem con58B_nrP (a b c d e : Int) (et nt ct : Nat) (ft : RF) (y : Int) (K : Value → List Blk → Prop)  (hI : InC a b c d e) (hnt : nt ≤ 100000) (h1 : ¬ askT a b c d e 0 zF nt ft (-1) y = 0) (h : K (.tuple ⟨[.int .i64 (0), .slice none 0 0, .slice none 0 0, .int .i64 (askT a b c d e 0 zF nt ft (-1) y)]⟩) []) : con58B_nrV a b c d e et nt ct ft y K := by
  unfold con58B_nrV
  conv => zeta

  repeat' (first | (with_reducible first | exact rfl | exact trivial | refine And.intro ?_ ?_ | refine br_intro (fun hq => ?_) fun hq => ?_ | refine if_both (fun hz => ?_) fun hz => ?_) | (intro) | fail)

  all_goals first
    | omega
    | assumption
    | contradiction
    | exact fin0 (by kernel_rfl) (by kernel_rfl) (by first | exact h | simpa using h)
    | exact T.ask
    | exact bck_ck k0
    | exact hf (.inl (by assumption))
    | exact hf (.inr (by assumption))
    | exact fin2x rfl rfl rfl (fun _ _ _ _ => rfl) (fun _ _ _ _ => rfl) (h _ _ _ (placed (.inr rfl) T ‹_›) (by omega) _ (by constructor <;> (try intro k hk) <;> simp [appF, litF] <;> omega) _ (by omega) _ (by omega))
    | exact fin2x rfl rfl rfl (fun _ _ _ _ => rfl) (fun _ _ _ _ => rfl) (h _ _ _ (placed (.inr rfl) T ‹_›) (by omega) _ (by constructor <;> (try intro k hk) <;> simp [appF, litF, hk]) _ (by omega) _ (by omega))
    | (obtain rfl : nt = 0 := (by simp at hq; omega)
       first
         | exact fin2x rfl rfl rfl (fun _ _ _ _ => rfl) (fun _ _ _ _ => rfl) (h _ _ _ (placed (.inr rfl) T ‹_›) (by omega) _ (by constructor <;> (try intro k hk) <;> simp [appF, litF] <;> omega) _ (by omega) _ (by omega))
         | exact fin2x rfl rfl rfl (fun _ _ _ _ => rfl) (fun _ _ _ _ => rfl) (h _ _ _ (placed (.inr rfl) T ‹_›) (by omega) _ (by constructor <;> (try intro k hk) <;> simp [appF, litF, hk]) _ (by omega) _ (by omega)))
    | (exfalso; simp at hq; omega)
    | (exfalso; simp at hq; simp_all; omega)
def con58B_rnV (a b c d e : Int) (el nl cl : Nat) (fl : RF) (y : Int) (K : Value → List Blk → Prop) : Prop := let q0 := (askT a b c d e nl fl (0 : Nat) zF (-1 : Int) y); (t3 (((0 : Nat) + nl ≤ nl) ∧ (t3 ((InC a b c d e) ∧ ((@Eq Nat ((0 : Nat)) ((0 : Nat))) ∧ ((nl ≤ (100000 : Nat)) ∧ ((eK ∧ ((@Eq Nat (nl) (nl)) ∧ (@Eq Nat (cl) (cl)))) ∧ (eB ∧ ((True) ∧ (T0 ∧ (if (@Eq Int q0 ((0 : Int))) then (T0 ∧ (False)) else (∃ y0 : Value, (∃ y1 : List Blk, ((Go.Rx.Found 1 (Value.tuple { toList := [vi (0 : Int), vn, vn, vi q0] }) ({ h := [((1 : Nat), Blk.cells [vi a, vi b, vi c, vi d, vi e] (23 : Nat)), ((0 : Nat), rT el nl cl fl)], next := (2 : Nat) }) (y0) (y1)) ∧ (K y0 y1)))))))))))))))
theorem con58B_rnE (a b c d e : Int) (el nl cl : Nat) (fl : RF) (y : Int) (K : Value → List Blk → Prop) : con58B_rnV a b c d e el nl cl fl y K = bodyX (mkB X58B) (callN (mkB X58B) 7) (con58B_rnA a b c d e el nl cl fl y) Try.f58 [five' a b c d e, rsl 0 0 nl cl, .slice none 0 0, .int .i64 y] (stOf [.row true [.i64, .i64] el nl cl fl]) (Fd 1 K) := by kernel_rfl
set_option tactic.hygienic false in
theorem con58B_rnP (a b c d e : Int) (el nl cl : Nat) (fl : RF) (y : Int) (K : Value → List Blk → Prop)  (hI : InC a b c d e) (hnl : nl ≤ 100000) (h1 : ¬ askT a b c d e nl fl 0 zF (-1) y = 0) (h : K (.tuple ⟨[.int .i64 (0), .slice none 0 0, .slice none 0 0, .int .i64 (askT a b c d e nl fl 0 zF (-1) y)]⟩) []) : con58B_rnV a b c d e el nl cl fl y K := by
  unfold con58B_rnV
  conv => zeta

  repeat' (first | (with_reducible first | exact rfl | exact trivial | refine And.intro ?_ ?_ | refine br_intro (fun hq => ?_) fun hq => ?_ | refine if_both (fun hz => ?_) fun hz => ?_) | (intro) | fail)

  all_goals first
    | omega
    | assumption
    | contradiction
    | exact fin0 (by kernel_rfl) (by kernel_rfl) (by first | exact h | simpa using h)
    | exact T.ask
    | exact bck_ck k0
    | exact hf (.inl (by assumption))
    | exact hf (.inr (by assumption))
    | exact fin2x rfl rfl rfl (fun _ _ _ _ => rfl) (fun _ _ _ _ => rfl) (h _ _ _ (placed (.inr rfl) T ‹_›) (by omega) _ (by constructor <;> (try intro k hk) <;> simp [appF, litF] <;> omega) _ (by omega) _ (by omega))
    | exact fin2x rfl rfl rfl (fun _ _ _ _ => rfl) (fun _ _ _ _ => rfl) (h _ _ _ (placed (.inr rfl) T ‹_›) (by omega) _ (by constructor <;> (try intro k hk) <;> simp [appF, litF, hk]) _ (by omega) _ (by omega))
    | (obtain rfl : nt = 0 := (by simp at hq; omega)
       first
         | exact fin2x rfl rfl rfl (fun _ _ _ _ => rfl) (fun _ _ _ _ => rfl) (h _ _ _ (placed (.inr rfl) T ‹_›) (by omega) _ (by constructor <;> (try intro k hk) <;> simp [appF, litF] <;> omega) _ (by omega) _ (by omega))
         | exact fin2x rfl rfl rfl (fun _ _ _ _ => rfl) (fun _ _ _ _ => rfl) (h _ _ _ (placed (.inr rfl) T ‹_›) (by omega) _ (by constructor <;> (try intro k hk) <;> simp [appF, litF, hk]) _ (by omega) _ (by omega)))
    | (exfalso; simp at hq; omega)
    | (exfalso; simp at hq; simp_all; omega)
def con58B_rrV (a b c d e : Int) (el nl cl : Nat) (fl : RF) (et nt ct : Nat) (ft : RF) (y : Int) (K : Value → List Blk → Prop) : Prop := let q0 := (askT a b c d e nl fl nt ft (-1 : Int) y); (t3 (((0 : Nat) + nl ≤ nl) ∧ (((0 : Nat) + nt ≤ nt) ∧ (t2 ((InC a b c d e) ∧ ((@Eq Nat ((0 : Nat)) ((0 : Nat))) ∧ ((nl ≤ (100000 : Nat)) ∧ ((eK ∧ ((@Eq Nat (nl) (nl)) ∧ (@Eq Nat (cl) (cl)))) ∧ ((@Eq Nat ((1 : Nat)) ((1 : Nat))) ∧ ((nt ≤ (100000 : Nat)) ∧ (((@Eq (List IntKind) ([IntKind.i64]) ([IntKind.i64])) ∧ ((@Eq Nat (nt) (nt)) ∧ (@Eq Nat (ct) (ct)))) ∧ (eB ∧ ((True) ∧ (T0 ∧ (if (@Eq Int q0 ((0 : Int))) then (T0 ∧ (False)) else (∃ y0 : Value, (∃ y1 : List Blk, ((Go.Rx.Found 2 (Value.tuple { toList := [vi (0 : Int), vn, vn, vi q0] }) ({ h := [((2 : Nat), Blk.cells [vi a, vi b, vi c, vi d, vi e] (23 : Nat)), ((0 : Nat), rT el nl cl fl), ((1 : Nat), Blk.row true [IntKind.i64] et nt ct ft)], next := (3 : Nat) }) (y0) (y1)) ∧ (K y0 y1)))))))))))))))))))
theorem con58B_rrE (a b c d e : Int) (el nl cl : Nat) (fl : RF) (et nt ct : Nat) (ft : RF) (y : Int) (K : Value → List Blk → Prop) : con58B_rrV a b c d e el nl cl fl et nt ct ft y K = bodyX (mkB X58B) (callN (mkB X58B) 7) (con58B_rrA a b c d e el nl cl fl et nt ct ft y) Try.f58 [five' a b c d e, rsl 0 0 nl cl, rsl 1 0 nt ct, .int .i64 y] (stOf [.row true [.i64, .i64] el nl cl fl, .row true [.i64] et nt ct ft]) (Fd 2 K) := by kernel_rfl
set_option tactic.hygienic false in
theorem con58B_rrP (a b c d e : Int) (el nl cl : Nat) (fl : RF) (et nt ct : Nat) (ft : RF) (y : Int) (K : Value → List Blk → Prop)  (hI : InC a b c d e) (hnl : nl ≤ 100000) (hnt : nt ≤ 100000) (h1 : ¬ askT a b c d e nl fl nt ft (-1) y = 0) (h : K (.tuple ⟨[.int .i64 (0), .slice none 0 0, .slice none 0 0, .int .i64 (askT a b c d e nl fl nt ft (-1) y)]⟩) []) : con58B_rrV a b c d e el nl cl fl et nt ct ft y K := by
  unfold con58B_rrV
  conv => zeta

  repeat' (first | (with_reducible first | exact rfl | exact trivial | refine And.intro ?_ ?_ | refine br_intro (fun hq => ?_) fun hq => ?_ | refine if_both (fun hz => ?_) fun hz => ?_) | (intro) | fail)

  all_goals first
    | omega
    | assumption
    | contradiction
    | exact fin0 (by kernel_rfl) (by kernel_rfl) (by first | exact h | simpa using h)
    | exact T.ask
    | exact bck_ck k0
    | exact hf (.inl (by assumption))
    | exact hf (.inr (by assumption))
    | exact fin2x rfl rfl rfl (fun _ _ _ _ => rfl) (fun _ _ _ _ => rfl) (h _ _ _ (placed (.inr rfl) T ‹_›) (by omega) _ (by constructor <;> (try intro k hk) <;> simp [appF, litF] <;> omega) _ (by omega) _ (by omega))
    | exact fin2x rfl rfl rfl (fun _ _ _ _ => rfl) (fun _ _ _ _ => rfl) (h _ _ _ (placed (.inr rfl) T ‹_›) (by omega) _ (by constructor <;> (try intro k hk) <;> simp [appF, litF, hk]) _ (by omega) _ (by omega))
    | (obtain rfl : nt = 0 := (by simp at hq; omega)
       first
         | exact fin2x rfl rfl rfl (fun _ _ _ _ => rfl) (fun _ _ _ _ => rfl) (h _ _ _ (placed (.inr rfl) T ‹_›) (by omega) _ (by constructor <;> (try intro k hk) <;> simp [appF, litF] <;> omega) _ (by omega) _ (by omega))
         | exact fin2x rfl rfl rfl (fun _ _ _ _ => rfl) (fun _ _ _ _ => rfl) (h _ _ _ (placed (.inr rfl) T ‹_›) (by omega) _ (by constructor <;> (try intro k hk) <;> simp [appF, litF, hk]) _ (by omega) _ (by omega)))
    | (exfalso; simp at hq; omega)
    | (exfalso; simp at hq; simp_all; omega)
theorem con58B_ok : BodyOk (mkB X58B) 7 Try.f58 con58B := by
  intro vs bs K hh hro
  clear hro
  unfold con58B at hh
  split at hh
  · rename_i u vl vt y
    obtain ⟨a, b, c, d, e, rfl, hI, hh0⟩ := five_inv hh
    rcases parse_inv hh0 with ⟨rfl, hh1⟩ | ⟨el, nl, cl, fl, btl, rfl, hnl, rfl, hh1⟩ <;> clear hh0
    · rcases parse_inv hh1 with ⟨rfl, hh2⟩ | ⟨et, nt, ct, ft, btt, rfl, hnt, rfl, hh2⟩ <;> clear hh1
      · obtain ⟨rfl, h1, hc⟩ := hh2
        exact ⟨_, _, cast (con58B_nnE a b c d e  y K) (con58B_nnP a b c d e  y K hI  h1 hc)⟩
      · obtain ⟨rfl, h1, hc⟩ := hh2
        exact ⟨_, _, cast (con58B_nrE a b c d e et nt ct ft y K) (con58B_nrP a b c d e et nt ct ft y K hI hnt h1 hc)⟩
    · rcases parse_inv hh1 with ⟨rfl, hh2⟩ | ⟨et, nt, ct, ft, btt, rfl, hnt, rfl, hh2⟩ <;> clear hh1
      · obtain ⟨rfl, h1, hc⟩ := hh2
        exact ⟨_, _, cast (con58B_rnE a b c d e el nl cl fl y K) (con58B_rnP a b c d e el nl cl fl y K hI hnl h1 hc)⟩
      · obtain ⟨rfl, h1, hc⟩ := hh2
        exact ⟨_, _, cast (con58B_rrE a b c d e el nl cl fl et nt ct ft y K) (con58B_rrP a b c d e el nl cl fl et nt ct ft y K hI hnl hnt h1 hc)⟩
  · exact hh.elim
theorem con58B_told : Told 58 (specOf con58B) := toldB (X := X58B) X58B_told (by kernel_rfl) (by kernel_rfl) (by kernel_rfl) con58B_ok
def con58F_rnV (a b c d e : Int) (el nl cl : Nat) (fl : RF) (y : Int) (K : Value → List Blk → Prop) : Prop := let q0 := ((0 : Nat) + nl ≤ nl); let q1 := (nl ≤ (100000 : Nat)); let q2 := eB; let q3 := (@Eq Nat ((0 : Nat)) ((0 : Nat))); let q4 := (askT a b c d e nl fl (0 : Nat) zF (-1 : Int) y); let q5 := (eK ∧ ((@Eq Nat (nl) (nl)) ∧ (@Eq Nat (cl) (cl)))); (t3 (q0 ∧ (t3 ((InC a b c d e) ∧ (q3 ∧ (q1 ∧ (q5 ∧ (q2 ∧ ((True) ∧ (T0 ∧ (if (@Eq Int q4 ((0 : Int))) then (t2 (q0 ∧ (T0 ∧ ((InC a b c d e) ∧ (q3 ∧ (q1 ∧ (q5 ∧ (q2 ∧ (((@Eq Int (Prod.snd (ckF a b c d e nl fl)) ((0 : Int))) ∧ ((sel (selE fl (0 : Int)) nl = []) ∨ (@Eq Nat (List.length (sel (selE fl (2 : Int)) nl)) ((2 : Nat))))) ∧ (T0 ∧ (∃ y0 : Value, (∃ y1 : List Blk, ((Go.Rx.Found 1 (Value.tuple { toList := [vi (0 : Int), vn, vn, vi (5 : Int)] }) ({ h := [((1 : Nat), Blk.cells [vi a, vi b, vi c, vi d, vi e] (23 : Nat)), ((0 : Nat), rT el nl cl fl)], next := (2 : Nat) }) (y0) (y1)) ∧ (K y0 y1)))))))))))))) else (∃ y0 : Value, (∃ y1 : List Blk, ((Go.Rx.Found 1 (Value.tuple { toList := [vi (0 : Int), vn, vn, vi q4] }) ({ h := [((1 : Nat), Blk.cells [vi a, vi b, vi c, vi d, vi e] (23 : Nat)), ((0 : Nat), rT el nl cl fl)], next := (2 : Nat) }) (y0) (y1)) ∧ (K y0 y1)))))))))))))))
theorem con58F_rnE (a b c d e : Int) (el nl cl : Nat) (fl : RF) (y : Int) (K : Value → List Blk → Prop) : con58F_rnV a b c d e el nl cl fl y K = bodyX (mkB X58F) (callN (mkB X58F) 7) (con58F_rnA a b c d e el nl cl fl y) Try.f58 [five' a b c d e, rsl 0 0 nl cl, .slice none 0 0, .int .i64 y] (stOf [.row true [.i64, .i64] el nl cl fl]) (Fd 1 K) := by kernel_rfl
set_option tactic.hygienic false in
theorem con58F_rnP (a b c d e : Int) (el nl cl : Nat) (fl : RF) (y : Int) (K : Value → List Blk → Prop)  (hI : InC a b c d e) (hnl : nl ≤ 100000) (h1 : askT a b c d e nl fl 0 zF (-1) y = 0) (hf : sel (selE fl 0) nl = [] ∨ List.length (sel (selE fl 2) nl) = 2) (h : K (.tuple ⟨[.int .i64 (0), .slice none 0 0, .slice none 0 0, .int .i64 (5)]⟩) []) : con58F_rnV a b c d e el nl cl fl y K := by
  unfold con58F_rnV
  conv => zeta
  obtain ⟨k0, k1, k2, k3, k4, k5⟩ := askT_bck h1
  obtain ⟨g1, g2, g3, g4⟩ := bck_ok k0
  have gc := bck_ck k0
  have go := bck_one k0
  repeat' (first | (with_reducible first | exact rfl | exact trivial | refine And.intro ?_ ?_ | refine br_intro (fun hq => ?_) fun hq => ?_ | refine if_both (fun hz => ?_) fun hz => ?_) | (intro) | fail)
  all_goals try (have gk := gk (by omega))
  all_goals try (rename Taken _ _ _ _ _ _ _ _ _ _ => T; have T0 := T.now0; have T1 := T.now1)
  all_goals try (have tl := taken_rest T (j := (ft (Int.toNat (((nt : Nat) : Int) - 1)) 0).toNat) (by omega))
  all_goals first
    | omega
    | assumption
    | contradiction
    | exact fin0 (by kernel_rfl) (by kernel_rfl) (by first | exact h | simpa using h)
    | exact T.ask
    | exact bck_ck k0
    | exact hf (.inl (by assumption))
    | exact hf (.inr (by assumption))
    | exact fin2x rfl rfl rfl (fun _ _ _ _ => rfl) (fun _ _ _ _ => rfl) (h _ _ _ (placed (.inr rfl) T ‹_›) (by omega) _ (by constructor <;> (try intro k hk) <;> simp [appF, litF] <;> omega) _ (by omega) _ (by omega))
    | exact fin2x rfl rfl rfl (fun _ _ _ _ => rfl) (fun _ _ _ _ => rfl) (h _ _ _ (placed (.inr rfl) T ‹_›) (by omega) _ (by constructor <;> (try intro k hk) <;> simp [appF, litF, hk]) _ (by omega) _ (by omega))
    | (obtain rfl : nt = 0 := (by simp at hq; omega)
       first
         | exact fin2x rfl rfl rfl (fun _ _ _ _ => rfl) (fun _ _ _ _ => rfl) (h _ _ _ (placed (.inr rfl) T ‹_›) (by omega) _ (by constructor <;> (try intro k hk) <;> simp [appF, litF] <;> omega) _ (by omega) _ (by omega))
         | exact fin2x rfl rfl rfl (fun _ _ _ _ => rfl) (fun _ _ _ _ => rfl) (h _ _ _ (placed (.inr rfl) T ‹_›) (by omega) _ (by constructor <;> (try intro k hk) <;> simp [appF, litF, hk]) _ (by omega) _ (by omega)))
    | (exfalso; simp at hq; omega)
    | (exfalso; simp at hq; simp_all; omega)
def con58F_rrV (a b c d e : Int) (el nl cl : Nat) (fl : RF) (et nt ct : Nat) (ft : RF) (y : Int) (K : Value → List Blk → Prop) : Prop := let q0 := ((0 : Nat) + nl ≤ nl); let q1 := (nl ≤ (100000 : Nat)); let q2 := eB; let q3 := (@Eq Nat ((0 : Nat)) ((0 : Nat))); let q4 := (askT a b c d e nl fl nt ft (-1 : Int) y); let q5 := (eK ∧ ((@Eq Nat (nl) (nl)) ∧ (@Eq Nat (cl) (cl)))); (t3 (q0 ∧ (((0 : Nat) + nt ≤ nt) ∧ (t2 ((InC a b c d e) ∧ (q3 ∧ (q1 ∧ (q5 ∧ ((@Eq Nat ((1 : Nat)) ((1 : Nat))) ∧ ((nt ≤ (100000 : Nat)) ∧ (((@Eq (List IntKind) ([IntKind.i64]) ([IntKind.i64])) ∧ ((@Eq Nat (nt) (nt)) ∧ (@Eq Nat (ct) (ct)))) ∧ (q2 ∧ ((True) ∧ (T0 ∧ (if (@Eq Int q4 ((0 : Int))) then (t2 (q0 ∧ (T0 ∧ ((InC a b c d e) ∧ (q3 ∧ (q1 ∧ (q5 ∧ (q2 ∧ (((@Eq Int (Prod.snd (ckF a b c d e nl fl)) ((0 : Int))) ∧ ((sel (selE fl (0 : Int)) nl = []) ∨ (@Eq Nat (List.length (sel (selE fl (2 : Int)) nl)) ((2 : Nat))))) ∧ (T0 ∧ (∃ y0 : Value, (∃ y1 : List Blk, ((Go.Rx.Found 2 (Value.tuple { toList := [vi (0 : Int), vn, vn, vi (5 : Int)] }) ({ h := [((2 : Nat), Blk.cells [vi a, vi b, vi c, vi d, vi e] (23 : Nat)), ((0 : Nat), rT el nl cl fl), ((1 : Nat), Blk.row true [IntKind.i64] et nt ct ft)], next := (3 : Nat) }) (y0) (y1)) ∧ (K y0 y1)))))))))))))) else (∃ y0 : Value, (∃ y1 : List Blk, ((Go.Rx.Found 2 (Value.tuple { toList := [vi (0 : Int), vn, vn, vi q4] }) ({ h := [((2 : Nat), Blk.cells [vi a, vi b, vi c, vi d, vi e] (23 : Nat)), ((0 : Nat), rT el nl cl fl), ((1 : Nat), Blk.row true [IntKind.i64] et nt ct ft)], next := (3 : Nat) }) (y0) (y1)) ∧ (K y0 y1)))))))))))))))))))
theorem con58F_rrE (a b c d e : Int) (el nl cl : Nat) (fl : RF) (et nt ct : Nat) (ft : RF) (y : Int) (K : Value → List Blk → Prop) : con58F_rrV a b c d e el nl cl fl et nt ct ft y K = bodyX (mkB X58F) (callN (mkB X58F) 7) (con58F_rrA a b c d e el nl cl fl et nt ct ft y) Try.f58 [five' a b c d e, rsl 0 0 nl cl, rsl 1 0 nt ct, .int .i64 y] (stOf [.row true [.i64, .i64] el nl cl fl, .row true [.i64] et nt ct ft]) (Fd 2 K) := by kernel_rfl
set_option tactic.hygienic false in
theorem con58F_rrP (a b c d e : Int) (el nl cl : Nat) (fl : RF) (et nt ct : Nat) (ft : RF) (y : Int) (K : Value → List Blk → Prop)  (hI : InC a b c d e) (hnl : nl ≤ 100000) (hnt : nt ≤ 100000) (h1 : askT a b c d e nl fl nt ft (-1) y = 0) (hf : sel (selE fl 0) nl = [] ∨ List.length (sel (selE fl 2) nl) = 2) (h : K (.tuple ⟨[.int .i64 (0), .slice none 0 0, .slice none 0 0, .int .i64 (5)]⟩) []) : con58F_rrV a b c d e el nl cl fl et nt ct ft y K := by
  unfold con58F_rrV
  conv => zeta
  obtain ⟨k0, k1, k2, k3, k4, k5⟩ := askT_bck h1
  obtain ⟨g1, g2, g3, g4⟩ := bck_ok k0
  have gc := bck_ck k0
  have go := bck_one k0
  have gk := fun h : 0 < nt => go (Int.toNat ((nt : Int) - 1)) (by omega)
  repeat' (first | (with_reducible first | exact rfl | exact trivial | refine And.intro ?_ ?_ | refine br_intro (fun hq => ?_) fun hq => ?_ | refine if_both (fun hz => ?_) fun hz => ?_) | (intro) | fail)
  all_goals try (have gk := gk (by omega))
  all_goals try (rename Taken _ _ _ _ _ _ _ _ _ _ => T; have T0 := T.now0; have T1 := T.now1)
  all_goals try (have tl := taken_rest T (j := (ft (Int.toNat (((nt : Nat) : Int) - 1)) 0).toNat) (by omega))
  all_goals first
    | omega
    | assumption
    | contradiction
    | exact fin0 (by kernel_rfl) (by kernel_rfl) (by first | exact h | simpa using h)
    | exact T.ask
    | exact bck_ck k0
    | exact hf (.inl (by assumption))
    | exact hf (.inr (by assumption))
    | exact fin2x rfl rfl rfl (fun _ _ _ _ => rfl) (fun _ _ _ _ => rfl) (h _ _ _ (placed (.inr rfl) T ‹_›) (by omega) _ (by constructor <;> (try intro k hk) <;> simp [appF, litF] <;> omega) _ (by omega) _ (by omega))
    | exact fin2x rfl rfl rfl (fun _ _ _ _ => rfl) (fun _ _ _ _ => rfl) (h _ _ _ (placed (.inr rfl) T ‹_›) (by omega) _ (by constructor <;> (try intro k hk) <;> simp [appF, litF, hk]) _ (by omega) _ (by omega))
    | (obtain rfl : nt = 0 := (by simp at hq; omega)
       first
         | exact fin2x rfl rfl rfl (fun _ _ _ _ => rfl) (fun _ _ _ _ => rfl) (h _ _ _ (placed (.inr rfl) T ‹_›) (by omega) _ (by constructor <;> (try intro k hk) <;> simp [appF, litF] <;> omega) _ (by omega) _ (by omega))
         | exact fin2x rfl rfl rfl (fun _ _ _ _ => rfl) (fun _ _ _ _ => rfl) (h _ _ _ (placed (.inr rfl) T ‹_›) (by omega) _ (by constructor <;> (try intro k hk) <;> simp [appF, litF, hk]) _ (by omega) _ (by omega)))
    | (exfalso; simp at hq; omega)
    | (exfalso; simp at hq; simp_all; omega)
theorem con58F_ok : BodyOk (mkB X58F) 7 Try.f58 con58F := by
  intro vs bs K hh hro
  clear hro
  unfold con58F at hh
  split at hh
  · rename_i u vl vt y
    obtain ⟨a, b, c, d, e, rfl, hI, hh0⟩ := five_inv hh
    obtain ⟨el, nl, cl, fl, btl, rfl, hnl, rfl, hh1⟩ := parseR_inv hh0
    rcases parse_inv hh1 with ⟨rfl, hh2⟩ | ⟨et, nt, ct, ft, btt, rfl, hnt, rfl, hh2⟩ <;> clear hh1
    · obtain ⟨rfl, ⟨h1, hf⟩, hc⟩ := hh2
      exact ⟨_, _, cast (con58F_rnE a b c d e el nl cl fl y K) (con58F_rnP a b c d e el nl cl fl y K hI hnl h1 hf hc)⟩
    · obtain ⟨rfl, ⟨h1, hf⟩, hc⟩ := hh2
      exact ⟨_, _, cast (con58F_rrE a b c d e el nl cl fl et nt ct ft y K) (con58F_rrP a b c d e el nl cl fl et nt ct ft y K hI hnl hnt h1 hf hc)⟩
  · exact hh.elim
theorem con58F_told : Told 58 (specOf con58F) := toldB (X := X58F) X58F_told (by kernel_rfl) (by kernel_rfl) (by kernel_rfl) con58F_ok
def con58A_rnV (a b c d e : Int) (el nl cl : Nat) (fl : RF) (y : Int) (K : Value → List Blk → Prop) : Prop := let q0 := ((0 : Nat) + nl ≤ nl); let q1 := (nl ≤ (100000 : Nat)); let q2 := eB; let q3 := (List.length [IntKind.i64]); let q4 := (@Eq Nat ((0 : Nat)) ((0 : Nat))); let q5 := TS; let q6 := (askT a b c d e nl fl (0 : Nat) zF (-1 : Int) y); let q7 := ((0 : Nat), rT el nl cl fl); let q8 := eK; let q9 := (q8 ∧ ((@Eq Nat (nl) (nl)) ∧ (@Eq Nat (cl) (cl)))); let q10 := ((1 : Nat), Blk.cells [vi a, vi b, vi c, vi d, vi e] (23 : Nat)); (t3 (q0 ∧ (t3 ((InC a b c d e) ∧ (q4 ∧ (q1 ∧ (q9 ∧ (q2 ∧ ((True) ∧ (T0 ∧ (if (@Eq Int q6 ((0 : Int))) then (t2 (q0 ∧ (T0 ∧ ((InC a b c d e) ∧ (q4 ∧ (q1 ∧ (q9 ∧ (q2 ∧ (((@Eq Int (Prod.snd (ckF a b c d e nl fl)) ((0 : Int))) ∧ ((¬sel (selE fl (0 : Int)) nl = []) ∧ (¬List.length (sel (selE fl (2 : Int)) nl) = (2 : Nat)))) ∧ (∀ y0 : Nat, let q11 := (litF q3 ([(↑y0 : Int)] ++ [])); (∀ y1 : Nat → Nat → Int, ((Taken a b c d e nl fl (2 : Int) y0 y1) → (∀ y2 : Nat, ((nl ≤ y2) → (t3 (q0 ∧ (t2 ((InC a b c d e) ∧ (q4 ∧ (q1 ∧ ((q8 ∧ ((@Eq Nat (nl) (nl)) ∧ (@Eq Nat (y2) (y2)))) ∧ (q2 ∧ (((@Eq Int (askF a b c d e nl y1 (↑y0 : Int)) ((0 : Int))) ∧ (((1 : Int) ≤ y) ∧ ((¬y1 y0 (0 : Nat) = (0 : Int)) ∧ (y ≤ a - y1 y0 (1 : Nat))))) ∧ (∀ y3 : Nat → Nat → Int, ((Bumped a b c d e nl y1 (↑y0 : Int) y y3) → (∀ y4 : Nat, ((nl ≤ y4) → (T0 ∧ (q5 ∧ (T0 ∧ (q5 ∧ (t4 (q5 ∧ (q5 ∧ (t3 (((0 : Nat) ≤ (100000 : Nat)) ∧ (T0 ∧ (q4 ∧ (q5 ∧ (t4 (q5 ∧ (q5 ∧ (t4 (((1 : Nat) ≤ (1 : Nat)) ∧ (((1 : Nat) ≤ (100000 : Nat)) ∧ (T0 ∧ (q4 ∧ (∀ y5 : Nat, let q12 := (y5 - (1 : Nat) + (1 : Nat)); (((1 : Nat) ≤ y5) → (∃ y6 : Value, (∃ y7 : List Blk, ((Go.Rx.Found 1 (Value.tuple { toList := [vi ((1 : Int) + c + (↑y0 : Int) * a + y1 y0 (1 : Nat)), rsl (3 : Nat) (0 : Nat) nl y4, rsl (6 : Nat) (0 : Nat) (1 : Nat) q12, vi (0 : Int)] }) ({ h := [((6 : Nat), Blk.row false [IntKind.i64] (3 : Nat) (1 : Nat) q12 (appF (fun x x_1 ↦ (0 : Int)) (0 : Nat) q11 (0 : Nat))), ((5 : Nat), Blk.row false [IntKind.i64] (3 : Nat) (1 : Nat) (1 : Nat) q11), ((4 : Nat), Blk.row false [IntKind.i64] (3 : Nat) (0 : Nat) (0 : Nat) (litF q3 [])), ((3 : Nat), rF (54 : Nat) nl y4 y3), ((2 : Nat), rF (54 : Nat) nl y2 y1), q10, q7], next := (7 : Nat) }) (y6) (y7)) ∧ (K y6 y7))))))))))))))))))))))))))))))))))))))))))))))))))))) else (∃ y0 : Value, (∃ y1 : List Blk, ((Go.Rx.Found 1 (Value.tuple { toList := [vi (0 : Int), vn, vn, vi q6] }) ({ h := [q10, q7], next := (2 : Nat) }) (y0) (y1)) ∧ (K y0 y1)))))))))))))))
theorem con58A_rnE (a b c d e : Int) (el nl cl : Nat) (fl : RF) (y : Int) (K : Value → List Blk → Prop) : con58A_rnV a b c d e el nl cl fl y K = bodyX (mkB X58G) (callN (mkB X58G) 7) (con58A_rnA a b c d e el nl cl fl y) Try.f58 [five' a b c d e, rsl 0 0 nl cl, .slice none 0 0, .int .i64 y] (stOf [.row true [.i64, .i64] el nl cl fl]) (Fd 1 K) := by kernel_rfl
set_option tactic.hygienic false in
theorem con58A_rnP (a b c d e : Int) (el nl cl : Nat) (fl : RF) (y : Int) (K : Value → List Blk → Prop)  (hI : InC a b c d e) (hnl : nl ≤ 100000) (h1 : askT a b c d e nl fl 0 zF (-1) y = 0) (hbd : 0 ≤ 1000) (hf : ¬ (sel (selE fl 0) nl = [] ∨ List.length (sel (selE fl 2) nl) = 2)) (hi : ¬ (0 < 0 ∧ fl (zF (Int.toNat (((0 : Nat) : Int) - 1)) 0).toNat 0 = 1)) (h : ∀ i g z, Placed a b c d e nl fl 2 i y g → z = 1 + c + (i : Int) * a → ∀ h, App 0 zF i h → ∀ cp, nl ≤ cp → ∀ cp2, 0 + 1 ≤ cp2 → K (.tuple ⟨[.int .i64 z, rsl 1 0 nl cp, rsl (1 + 1) 0 (0 + 1) cp2, .int .i64 0]⟩) [.row false [.i64, .i64] 54 nl cp g, .row false [.i64] 3 (0 + 1) cp2 h]) : con58A_rnV a b c d e el nl cl fl y K := by
  unfold con58A_rnV
  conv => zeta
  obtain ⟨k0, k1, k2, k3, k4, k5⟩ := askT_bck h1
  obtain ⟨g1, g2, g3, g4⟩ := bck_ok k0
  have gc := bck_ck k0
  have go := bck_one k0
  repeat' (first | (with_reducible first | exact rfl | exact trivial | refine And.intro ?_ ?_ | refine br_intro (fun hq => ?_) fun hq => ?_ | refine if_both (fun hz => ?_) fun hz => ?_) | (intro) | fail)
  all_goals try (have gk := gk (by omega))
  all_goals try (rename Taken _ _ _ _ _ _ _ _ _ _ => T; have T0 := T.now0; have T1 := T.now1)
  all_goals try (have tl := taken_rest T (j := (ft (Int.toNat (((nt : Nat) : Int) - 1)) 0).toNat) (by omega))
  all_goals first
    | omega
    | assumption
    | contradiction
    | exact fin0 (by kernel_rfl) (by kernel_rfl) (by first | exact h | simpa using h)
    | exact T.ask
    | exact bck_ck k0
    | exact hf (.inl (by assumption))
    | exact hf (.inr (by assumption))
    | exact fin2x rfl rfl rfl (fun _ _ _ _ => rfl) (fun _ _ _ _ => rfl) (h _ _ _ (placed (.inr rfl) T ‹_›) (by omega) _ (by constructor <;> (try intro k hk) <;> simp [appF, litF] <;> omega) _ (by omega) _ (by omega))
    | exact fin2x rfl rfl rfl (fun _ _ _ _ => rfl) (fun _ _ _ _ => rfl) (h _ _ _ (placed (.inr rfl) T ‹_›) (by omega) _ (by constructor <;> (try intro k hk) <;> simp [appF, litF, hk]) _ (by omega) _ (by omega))
    | (obtain rfl : nt = 0 := (by simp at hq; omega)
       first
         | exact fin2x rfl rfl rfl (fun _ _ _ _ => rfl) (fun _ _ _ _ => rfl) (h _ _ _ (placed (.inr rfl) T ‹_›) (by omega) _ (by constructor <;> (try intro k hk) <;> simp [appF, litF] <;> omega) _ (by omega) _ (by omega))
         | exact fin2x rfl rfl rfl (fun _ _ _ _ => rfl) (fun _ _ _ _ => rfl) (h _ _ _ (placed (.inr rfl) T ‹_›) (by omega) _ (by constructor <;> (try intro k hk) <;> simp [appF, litF, hk]) _ (by omega) _ (by omega)))
    | (exfalso; simp at hq; omega)
    | (exfalso; simp at hq; simp_all; omega)
def con58A_rrV (a b c d e : Int) (el nl cl : Nat) (fl : RF) (et nt ct : Nat) (ft : RF) (y : Int) (K : Value → List Blk → Prop) : Prop := let q0 := ((0 : Nat) + nl ≤ nl); let q1 := ((0 : Nat) + nt ≤ nt); let q2 := (nl ≤ (100000 : Nat)); let q3 := (nt ≤ (100000 : Nat)); let q4 := ((1 : Nat) ≤ (1 : Nat)); let q5 := ((2 : Nat) ≤ (2 : Nat)); let q6 := ((↑nt : Int) - (1 : Int)); let q7 := eB; let q8 := (List.length [IntKind.i64]); let q9 := ((1 : Nat) ≤ (100000 : Nat)); let q10 := ((2 : Nat) ≤ (100000 : Nat)); let q11 := (@Eq Nat ((0 : Nat)) ((0 : Nat))); let q12 := (@Eq Nat ((1 : Nat)) ((1 : Nat))); let q13 := (Int.toNat q6); let q14 := ((0 : Int) ≤ (↑nt : Int) - (1 : Int)); let q15 := (askT a b c d e nl fl nt ft (-1 : Int) y); let q16 := TS; let q17 := (Int.toNat q6 < nt); let q18 := (Int.toNat q6 + (2 : Nat)); let q19 := ((1 : Nat), Blk.row true [IntKind.i64] et nt ct ft); let q20 := (ft q13 (0 : Nat)); let q21 := (appF (fun x x_1 ↦ (0 : Int)) (0 : Nat) ft (0 : Nat)); let q22 := ((0 : Nat), rT el nl cl fl); let q23 := eK; let q24 := (q16 ∧ q12); let q25 := (q14 ∧ ((↑nt : Int) - (1 : Int) < (↑nt : Int))); let q26 := ((5 : Nat), Blk.row false [IntKind.i64] (3 : Nat) (0 : Nat) (0 : Nat) (litF q8 [])); let q27 := (((-9223372036854775808 : Int) ≤ (↑nt : Int) - (1 : Int)) ∧ ((↑nt : Int) - (1 : Int) ≤ (9223372036854775807 : Int))); let q28 := (q23 ∧ ((@Eq Nat (nl) (nl)) ∧ (@Eq Nat (cl) (cl)))); let q29 := ((2 : Nat), Blk.cells [vi a, vi b, vi c, vi d, vi e] (23 : Nat)); (t3 (q0 ∧ (q1 ∧ (t2 ((InC a b c d e) ∧ (q11 ∧ (q2 ∧ (q28 ∧ (q12 ∧ (q3 ∧ (((@Eq (List IntKind) ([IntKind.i64]) ([IntKind.i64])) ∧ ((@Eq Nat (nt) (nt)) ∧ (@Eq Nat (ct) (ct)))) ∧ (q7 ∧ ((True) ∧ (T0 ∧ (if (@Eq Int q15 ((0 : Int))) then (t2 (q0 ∧ (T0 ∧ ((InC a b c d e) ∧ (q11 ∧ (q2 ∧ (q28 ∧ (q7 ∧ (((@Eq Int (Prod.snd (ckF a b c d e nl fl)) ((0 : Int))) ∧ ((¬sel (selE fl (0 : Int)) nl = []) ∧ (¬List.length (sel (selE fl (2 : Int)) nl) = (2 : Nat)))) ∧ (∀ y0 : Nat, let q33 := (litF q8 ([(↑y0 : Int)] ++ [])); let q34 := (litF q8 ([(↑y0 : Int)] ++ ([ft q13 (0 : Nat)] ++ []))); (∀ y1 : Nat → Nat → Int, let q36 := ((1 : Int) + c + (↑y0 : Int) * a + y1 y0 (1 : Nat)); ((Taken a b c d e nl fl (2 : Int) y0 y1) → (∀ y2 : Nat, let q32 := ((3 : Nat), rF (54 : Nat) nl y2 y1); ((nl ≤ y2) → (t3 (q0 ∧ (t2 ((InC a b c d e) ∧ (q11 ∧ (q2 ∧ ((q23 ∧ ((@Eq Nat (nl) (nl)) ∧ (@Eq Nat (y2) (y2)))) ∧ (q7 ∧ (((@Eq Int (askF a b c d e nl y1 (↑y0 : Int)) ((0 : Int))) ∧ (((1 : Int) ≤ y) ∧ ((¬y1 y0 (0 : Nat) = (0 : Int)) ∧ (y ≤ a - y1 y0 (1 : Nat))))) ∧ (∀ y3 : Nat → Nat → Int, ((Bumped a b c d e nl y1 (↑y0 : Int) y y3) → (∀ y4 : Nat, let q30 := ((4 : Nat), rF (54 : Nat) nl y4 y3); let q31 := (q16 ∧ (t4 (q16 ∧ (q16 ∧ (t4 (q1 ∧ (q3 ∧ (T0 ∧ (q11 ∧ (Go.Rx.br (decide ((0 : Nat) < nt)) (∀ y5 : Nat, let q38 := (y5 - (1 : Nat) + (1 : Nat)); ((nt ≤ y5) → (q16 ∧ (t4 (q16 ∧ (q16 ∧ (t4 (q4 ∧ (q9 ∧ (T0 ∧ ((T0 ∧ ((false = false) ∧ (q11 ∧ ((@Eq Nat (nt) (nt)) ∧ ((@Eq Nat q38 q38) ∧ (nt + (1 : Nat) ≤ (100000 : Nat))))))) ∧ (∀ y6 : Nat, let q37 := (y6 - (1 : Nat) + (1 : Nat)); ((nt + (1 : Nat) ≤ y6) → (∃ y7 : Value, (∃ y8 : List Blk, ((Go.Rx.Found 2 (Value.tuple { toList := [vi q36, rsl (4 : Nat) (0 : Nat) nl y4, rsl (8 : Nat) (0 : Nat) (nt + (1 : Nat)) q37, vi (0 : Int)] }) ({ h := [((8 : Nat), Blk.row false [IntKind.i64] (3 : Nat) (nt + (1 : Nat)) q37 (appF q21 nt q33 (0 : Nat))), ((7 : Nat), Blk.row false [IntKind.i64] (3 : Nat) (1 : Nat) (1 : Nat) q33), q26, q30, q32, q29, q22, q19], next := (9 : Nat) }) (y7) (y8)) ∧ (K y7 y8))))))))))))))))) (q16 ∧ (t4 (q16 ∧ (q16 ∧ (t4 (q4 ∧ (q9 ∧ (T0 ∧ (q11 ∧ (∀ y5 : Nat, let q35 := (y5 - (1 : Nat) + (1 : Nat)); (((1 : Nat) ≤ y5) → (∃ y6 : Value, (∃ y7 : List Blk, ((Go.Rx.Found 2 (Value.tuple { toList := [vi q36, rsl (4 : Nat) (0 : Nat) nl y4, rsl (7 : Nat) (0 : Nat) (1 : Nat) q35, vi (0 : Int)] }) ({ h := [((7 : Nat), Blk.row false [IntKind.i64] (3 : Nat) (1 : Nat) q35 (appF (fun x x_1 ↦ (0 : Int)) (0 : Nat) q33 (0 : Nat))), ((6 : Nat), Blk.row false [IntKind.i64] (3 : Nat) (1 : Nat) (1 : Nat) q33), q26, q30, q32, q29, q22, q19], next := (8 : Nat) }) (y6) (y7)) ∧ (K y6 y7))))))))))))))))))))))))); ((nl ≤ y4) → (T0 ∧ (q16 ∧ (T0 ∧ (if ((0 : Int) < (↑nt : Int)) then (T0 ∧ (q27 ∧ (q24 ∧ (q25 ∧ (q17 ∧ ((q16 ∧ (@Eq Nat ((2 : Nat)) ((2 : Nat)))) ∧ ((((0 : Int) ≤ ft q13 (0 : Nat)) ∧ (ft q13 (0 : Nat) < (↑nl : Int))) ∧ (T0 ∧ ((Int.toNat q20 < nl) ∧ (T0 ∧ (if (@Eq Int (fl (Int.toNat q20) (0 : Nat)) ((1 : Int))) then (q16 ∧ (t5 (q27 ∧ (q16 ∧ (t4 (q12 ∧ ((((0 : Int) ≤ (0 : Int)) ∧ (q14 ∧ (((↑nt : Int) - (1 : Int) ≤ (↑ct : Int)) ∧ ((↑ct : Int) ≤ (↑ct : Int))))) ∧ (q16 ∧ (q16 ∧ (t4 (((0 : Nat) + Int.toNat q6 ≤ nt) ∧ ((Int.toNat q6 ≤ (100000 : Nat)) ∧ (T0 ∧ (q11 ∧ (Go.Rx.br (decide ((0 : Nat) < Int.toNat q6)) (∀ y5 : Nat, let q41 := (y5 - (1 : Nat) + (1 : Nat)); ((Int.toNat q6 ≤ y5) → (T0 ∧ (q27 ∧ (q24 ∧ (q25 ∧ (q17 ∧ (q16 ∧ (t4 (q16 ∧ (q16 ∧ (t4 (q5 ∧ (q10 ∧ (T0 ∧ ((T0 ∧ ((false = false) ∧ (q11 ∧ ((@Eq Nat q13 q13) ∧ ((@Eq Nat q41 q41) ∧ (Int.toNat q6 + (2 : Nat) ≤ (100000 : Nat))))))) ∧ (∀ y6 : Nat, let q40 := (y6 - (1 : Nat) + (1 : Nat)); ((Int.toNat q6 + (2 : Nat) ≤ y6) → (∃ y7 : Value, (∃ y8 : List Blk, ((Go.Rx.Found 2 (Value.tuple { toList := [vi q36, rsl (4 : Nat) (0 : Nat) nl y4, rsl (8 : Nat) (0 : Nat) q18 q40, vi (0 : Int)] }) ({ h := [((8 : Nat), Blk.row false [IntKind.i64] (3 : Nat) q18 q40 (appF q21 q13 q34 (0 : Nat))), ((7 : Nat), Blk.row false [IntKind.i64] (3 : Nat) (2 : Nat) (2 : Nat) q34), q26, q30, q32, q29, q22, q19], next := (9 : Nat) }) (y7) (y8)) ∧ (K y7 y8)))))))))))))))))))))) (T0 ∧ (q27 ∧ (q24 ∧ (q25 ∧ (q17 ∧ (q16 ∧ (t4 (q16 ∧ (q16 ∧ (t4 (q5 ∧ (q10 ∧ (T0 ∧ (q11 ∧ (∀ y5 : Nat, let q39 := (y5 - (1 : Nat) + (1 : Nat)); (((2 : Nat) ≤ y5) → (∃ y6 : Value, (∃ y7 : List Blk, ((Go.Rx.Found 2 (Value.tuple { toList := [vi q36, rsl (4 : Nat) (0 : Nat) nl y4, rsl (7 : Nat) (0 : Nat) (2 : Nat) q39, vi (0 : Int)] }) ({ h := [((7 : Nat), Blk.row false [IntKind.i64] (3 : Nat) (2 : Nat) q39 (appF (fun x x_1 ↦ (0 : Int)) (0 : Nat) q34 (0 : Nat))), ((6 : Nat), Blk.row false [IntKind.i64] (3 : Nat) (2 : Nat) (2 : Nat) q34), q26, q30, q32, q29, q22, q19], next := (8 : Nat) }) (y6) (y7)) ∧ (K y6 y7))))))))))))))))))))))))))))))))))) else q31))))))))))) else q31))))))))))))))))))))))))))))))) else (∃ y0 : Value, (∃ y1 : List Blk, ((Go.Rx.Found 2 (Value.tuple { toList := [vi (0 : Int), vn, vn, vi q15] }) ({ h := [q29, q22, q19], next := (3 : Nat) }) (y0) (y1)) ∧ (K y0 y1)))))))))))))))))))
theorem con58A_rrE (a b c d e : Int) (el nl cl : Nat) (fl : RF) (et nt ct : Nat) (ft : RF) (y : Int) (K : Value → List Blk → Prop) : con58A_rrV a b c d e el nl cl fl et nt ct ft y K = bodyX (mkB X58G) (callN (mkB X58G) 7) (con58A_rrA a b c d e el nl cl fl et nt ct ft y) Try.f58 [five' a b c d e, rsl 0 0 nl cl, rsl 1 0 nt ct, .int .i64 y] (stOf [.row true [.i64, .i64] el nl cl fl, .row true [.i64] et nt ct ft]) (Fd 2 K) := by kernel_rfl
set_option tactic.hygienic false in
theorem con58A_rrP (a b c d e : Int) (el nl cl : Nat) (fl : RF) (et nt ct : Nat) (ft : RF) (y : Int) (K : Value → List Blk → Prop)  (hI : InC a b c d e) (hnl : nl ≤ 100000) (hnt : nt ≤ 100000) (h1 : askT a b c d e nl fl nt ft (-1) y = 0) (hbd : nt ≤ 1000) (hf : ¬ (sel (selE fl 0) nl = [] ∨ List.length (sel (selE fl 2) nl) = 2)) (hi : ¬ (0 < nt ∧ fl (ft (Int.toNat (((nt : Nat) : Int) - 1)) 0).toNat 0 = 1)) (h : ∀ i g z, Placed a b c d e nl fl 2 i y g → z = 1 + c + (i : Int) * a → ∀ h, App nt ft i h → ∀ cp, nl ≤ cp → ∀ cp2, nt + 1 ≤ cp2 → K (.tuple ⟨[.int .i64 z, rsl 2 0 nl cp, rsl (2 + 1) 0 (nt + 1) cp2, .int .i64 0]⟩) [.row false [.i64, .i64] 54 nl cp g, .row false [.i64] 3 (nt + 1) cp2 h]) : con58A_rrV a b c d e el nl cl fl et nt ct ft y K := by
  unfold con58A_rrV
  conv => zeta
  obtain ⟨k0, k1, k2, k3, k4, k5⟩ := askT_bck h1
  obtain ⟨g1, g2, g3, g4⟩ := bck_ok k0
  have gc := bck_ck k0
  have go := bck_one k0
  have gk := fun h : 0 < nt => go (Int.toNat ((nt : Int) - 1)) (by omega)
  repeat' (first | (with_reducible first | exact rfl | exact trivial | refine And.intro ?_ ?_ | refine br_intro (fun hq => ?_) fun hq => ?_ | refine if_both (fun hz => ?_) fun hz => ?_) | (intro) | fail)
  all_goals try (have gk := gk (by omega))
  all_goals try (rename Taken _ _ _ _ _ _ _ _ _ _ => T; have T0 := T.now0; have T1 := T.now1)
  all_goals try (have tl := taken_rest T (j := (ft (Int.toNat (((nt : Nat) : Int) - 1)) 0).toNat) (by omega))
  all_goals first
    | omega
    | assumption
    | contradiction
    | exact fin0 (by kernel_rfl) (by kernel_rfl) (by first | exact h | simpa using h)
    | exact T.ask
    | exact bck_ck k0
    | exact hf (.inl (by assumption))
    | exact hf (.inr (by assumption))
    | exact fin2x rfl rfl rfl (fun _ _ _ _ => rfl) (fun _ _ _ _ => rfl) (h _ _ _ (placed (.inr rfl) T ‹_›) (by omega) _ (by constructor <;> (try intro k hk) <;> simp [appF, litF] <;> omega) _ (by omega) _ (by omega))
    | exact fin2x rfl rfl rfl (fun _ _ _ _ => rfl) (fun _ _ _ _ => rfl) (h _ _ _ (placed (.inr rfl) T ‹_›) (by omega) _ (by constructor <;> (try intro k hk) <;> simp [appF, litF, hk]) _ (by omega) _ (by omega))
    | (obtain rfl : nt = 0 := (by simp at hq; omega)
       first
         | exact fin2x rfl rfl rfl (fun _ _ _ _ => rfl) (fun _ _ _ _ => rfl) (h _ _ _ (placed (.inr rfl) T ‹_›) (by omega) _ (by constructor <;> (try intro k hk) <;> simp [appF, litF] <;> omega) _ (by omega) _ (by omega))
         | exact fin2x rfl rfl rfl (fun _ _ _ _ => rfl) (fun _ _ _ _ => rfl) (h _ _ _ (placed (.inr rfl) T ‹_›) (by omega) _ (by constructor <;> (try intro k hk) <;> simp [appF, litF, hk]) _ (by omega) _ (by omega)))
    | (exfalso; simp at hq; omega)
    | (exfalso; simp at hq; simp_all; omega)
theorem con58A_ok : BodyOk (mkB X58G) 7 Try.f58 con58A := by
  intro vs bs K hh hro
  clear hro
  unfold con58A at hh
  split at hh
  · rename_i u vl vt y
    obtain ⟨a, b, c, d, e, rfl, hI, hh0⟩ := five_inv hh
    obtain ⟨el, nl, cl, fl, btl, rfl, hnl, rfl, hh1⟩ := parseR_inv hh0
    rcases parse_inv hh1 with ⟨rfl, hh2⟩ | ⟨et, nt, ct, ft, btt, rfl, hnt, rfl, hh2⟩ <;> clear hh1
    · obtain ⟨rfl, ⟨h1, hbd, hf, hi⟩, hc⟩ := hh2
      exact ⟨_, _, cast (con58A_rnE a b c d e el nl cl fl y K) (con58A_rnP a b c d e el nl cl fl y K hI hnl h1 hbd hf hi hc)⟩
    · obtain ⟨rfl, ⟨h1, hbd, hf, hi⟩, hc⟩ := hh2
      exact ⟨_, _, cast (con58A_rrE a b c d e el nl cl fl et nt ct ft y K) (con58A_rrP a b c d e el nl cl fl et nt ct ft y K hI hnl hnt h1 hbd hf hi hc)⟩
  · exact hh.elim
theorem con58A_told : Told 58 (specOf con58A) := toldB (X := X58G) X58G_told (by kernel_rfl) (by kernel_rfl) (by kernel_rfl) con58A_ok
def con58I_rrV (a b c d e : Int) (el nl cl : Nat) (fl : RF) (et nt ct : Nat) (ft : RF) (y : Int) (K : Value → List Blk → Prop) : Prop := let q0 := ((0 : Nat) + nl ≤ nl); let q1 := ((0 : Nat) + nt ≤ nt); let q2 := (nl ≤ (100000 : Nat)); let q3 := (nt ≤ (100000 : Nat)); let q4 := ((1 : Nat) ≤ (1 : Nat)); let q5 := ((2 : Nat) ≤ (2 : Nat)); let q6 := ((↑nt : Int) - (1 : Int)); let q7 := eB; let q8 := (List.length [IntKind.i64]); let q9 := ((1 : Nat) ≤ (100000 : Nat)); let q10 := ((2 : Nat) ≤ (100000 : Nat)); let q11 := (@Eq Nat ((0 : Nat)) ((0 : Nat))); let q12 := (@Eq Nat ((1 : Nat)) ((1 : Nat))); let q13 := (Int.toNat q6); let q14 := ((0 : Int) ≤ (↑nt : Int) - (1 : Int)); let q15 := (askT a b c d e nl fl nt ft (-1 : Int) y); let q16 := TS; let q17 := (Int.toNat q6 < nt); let q18 := (Int.toNat q6 + (2 : Nat)); let q19 := ((1 : Nat), Blk.row true [IntKind.i64] et nt ct ft); let q20 := (ft q13 (0 : Nat)); let q21 := (appF (fun x x_1 ↦ (0 : Int)) (0 : Nat) ft (0 : Nat)); let q22 := ((0 : Nat), rT el nl cl fl); let q23 := eK; let q24 := (q16 ∧ q12); let q25 := (q14 ∧ ((↑nt : Int) - (1 : Int) < (↑nt : Int))); let q26 := ((5 : Nat), Blk.row false [IntKind.i64] (3 : Nat) (0 : Nat) (0 : Nat) (litF q8 [])); let q27 := (((-9223372036854775808 : Int) ≤ (↑nt : Int) - (1 : Int)) ∧ ((↑nt : Int) - (1 : Int) ≤ (9223372036854775807 : Int))); let q28 := (q23 ∧ ((@Eq Nat (nl) (nl)) ∧ (@Eq Nat (cl) (cl)))); let q29 := ((2 : Nat), Blk.cells [vi a, vi b, vi c, vi d, vi e] (23 : Nat)); (t3 (q0 ∧ (q1 ∧ (t2 ((InC a b c d e) ∧ (q11 ∧ (q2 ∧ (q28 ∧ (q12 ∧ (q3 ∧ (((@Eq (List IntKind) ([IntKind.i64]) ([IntKind.i64])) ∧ ((@Eq Nat (nt) (nt)) ∧ (@Eq Nat (ct) (ct)))) ∧ (q7 ∧ ((True) ∧ (T0 ∧ (if (@Eq Int q15 ((0 : Int))) then (t2 (q0 ∧ (T0 ∧ ((InC a b c d e) ∧ (q11 ∧ (q2 ∧ (q28 ∧ (q7 ∧ (((@Eq Int (Prod.snd (ckF a b c d e nl fl)) ((0 : Int))) ∧ ((¬sel (selE fl (0 : Int)) nl = []) ∧ (¬List.length (sel (selE fl (2 : Int)) nl) = (2 : Nat)))) ∧ (∀ y0 : Nat, let q33 := (litF q8 ([(↑y0 : Int)] ++ [])); let q34 := (litF q8 ([(↑y0 : Int)] ++ ([ft q13 (0 : Nat)] ++ []))); (∀ y1 : Nat → Nat → Int, let q36 := ((1 : Int) + c + (↑y0 : Int) * a + y1 y0 (1 : Nat)); ((Taken a b c d e nl fl (2 : Int) y0 y1) → (∀ y2 : Nat, let q32 := ((3 : Nat), rF (54 : Nat) nl y2 y1); ((nl ≤ y2) → (t3 (q0 ∧ (t2 ((InC a b c d e) ∧ (q11 ∧ (q2 ∧ ((q23 ∧ ((@Eq Nat (nl) (nl)) ∧ (@Eq Nat (y2) (y2)))) ∧ (q7 ∧ (((@Eq Int (askF a b c d e nl y1 (↑y0 : Int)) ((0 : Int))) ∧ (((1 : Int) ≤ y) ∧ ((¬y1 y0 (0 : Nat) = (0 : Int)) ∧ (y ≤ a - y1 y0 (1 : Nat))))) ∧ (∀ y3 : Nat → Nat → Int, ((Bumped a b c d e nl y1 (↑y0 : Int) y y3) → (∀ y4 : Nat, let q30 := ((4 : Nat), rF (54 : Nat) nl y4 y3); let q31 := (q16 ∧ (t4 (q16 ∧ (q16 ∧ (t4 (q1 ∧ (q3 ∧ (T0 ∧ (q11 ∧ (Go.Rx.br (decide ((0 : Nat) < nt)) (∀ y5 : Nat, let q38 := (y5 - (1 : Nat) + (1 : Nat)); ((nt ≤ y5) → (q16 ∧ (t4 (q16 ∧ (q16 ∧ (t4 (q4 ∧ (q9 ∧ (T0 ∧ ((T0 ∧ ((false = false) ∧ (q11 ∧ ((@Eq Nat (nt) (nt)) ∧ ((@Eq Nat q38 q38) ∧ (nt + (1 : Nat) ≤ (100000 : Nat))))))) ∧ (∀ y6 : Nat, let q37 := (y6 - (1 : Nat) + (1 : Nat)); ((nt + (1 : Nat) ≤ y6) → (∃ y7 : Value, (∃ y8 : List Blk, ((Go.Rx.Found 2 (Value.tuple { toList := [vi q36, rsl (4 : Nat) (0 : Nat) nl y4, rsl (8 : Nat) (0 : Nat) (nt + (1 : Nat)) q37, vi (0 : Int)] }) ({ h := [((8 : Nat), Blk.row false [IntKind.i64] (3 : Nat) (nt + (1 : Nat)) q37 (appF q21 nt q33 (0 : Nat))), ((7 : Nat), Blk.row false [IntKind.i64] (3 : Nat) (1 : Nat) (1 : Nat) q33), q26, q30, q32, q29, q22, q19], next := (9 : Nat) }) (y7) (y8)) ∧ (K y7 y8))))))))))))))))) (q16 ∧ (t4 (q16 ∧ (q16 ∧ (t4 (q4 ∧ (q9 ∧ (T0 ∧ (q11 ∧ (∀ y5 : Nat, let q35 := (y5 - (1 : Nat) + (1 : Nat)); (((1 : Nat) ≤ y5) → (∃ y6 : Value, (∃ y7 : List Blk, ((Go.Rx.Found 2 (Value.tuple { toList := [vi q36, rsl (4 : Nat) (0 : Nat) nl y4, rsl (7 : Nat) (0 : Nat) (1 : Nat) q35, vi (0 : Int)] }) ({ h := [((7 : Nat), Blk.row false [IntKind.i64] (3 : Nat) (1 : Nat) q35 (appF (fun x x_1 ↦ (0 : Int)) (0 : Nat) q33 (0 : Nat))), ((6 : Nat), Blk.row false [IntKind.i64] (3 : Nat) (1 : Nat) (1 : Nat) q33), q26, q30, q32, q29, q22, q19], next := (8 : Nat) }) (y6) (y7)) ∧ (K y6 y7))))))))))))))))))))))))); ((nl ≤ y4) → (T0 ∧ (q16 ∧ (T0 ∧ (if ((0 : Int) < (↑nt : Int)) then (T0 ∧ (q27 ∧ (q24 ∧ (q25 ∧ (q17 ∧ ((q16 ∧ (@Eq Nat ((2 : Nat)) ((2 : Nat)))) ∧ ((((0 : Int) ≤ ft q13 (0 : Nat)) ∧ (ft q13 (0 : Nat) < (↑nl : Int))) ∧ (T0 ∧ ((Int.toNat q20 < nl) ∧ (T0 ∧ (if (@Eq Int (fl (Int.toNat q20) (0 : Nat)) ((1 : Int))) then (q16 ∧ (t5 (q27 ∧ (q16 ∧ (t4 (q12 ∧ ((((0 : Int) ≤ (0 : Int)) ∧ (q14 ∧ (((↑nt : Int) - (1 : Int) ≤ (↑ct : Int)) ∧ ((↑ct : Int) ≤ (↑ct : Int))))) ∧ (q16 ∧ (q16 ∧ (t4 (((0 : Nat) + Int.toNat q6 ≤ nt) ∧ ((Int.toNat q6 ≤ (100000 : Nat)) ∧ (T0 ∧ (q11 ∧ (Go.Rx.br (decide ((0 : Nat) < Int.toNat q6)) (∀ y5 : Nat, let q41 := (y5 - (1 : Nat) + (1 : Nat)); ((Int.toNat q6 ≤ y5) → (T0 ∧ (q27 ∧ (q24 ∧ (q25 ∧ (q17 ∧ (q16 ∧ (t4 (q16 ∧ (q16 ∧ (t4 (q5 ∧ (q10 ∧ (T0 ∧ ((T0 ∧ ((false = false) ∧ (q11 ∧ ((@Eq Nat q13 q13) ∧ ((@Eq Nat q41 q41) ∧ (Int.toNat q6 + (2 : Nat) ≤ (100000 : Nat))))))) ∧ (∀ y6 : Nat, let q40 := (y6 - (1 : Nat) + (1 : Nat)); ((Int.toNat q6 + (2 : Nat) ≤ y6) → (∃ y7 : Value, (∃ y8 : List Blk, ((Go.Rx.Found 2 (Value.tuple { toList := [vi q36, rsl (4 : Nat) (0 : Nat) nl y4, rsl (8 : Nat) (0 : Nat) q18 q40, vi (0 : Int)] }) ({ h := [((8 : Nat), Blk.row false [IntKind.i64] (3 : Nat) q18 q40 (appF q21 q13 q34 (0 : Nat))), ((7 : Nat), Blk.row false [IntKind.i64] (3 : Nat) (2 : Nat) (2 : Nat) q34), q26, q30, q32, q29, q22, q19], next := (9 : Nat) }) (y7) (y8)) ∧ (K y7 y8)))))))))))))))))))))) (T0 ∧ (q27 ∧ (q24 ∧ (q25 ∧ (q17 ∧ (q16 ∧ (t4 (q16 ∧ (q16 ∧ (t4 (q5 ∧ (q10 ∧ (T0 ∧ (q11 ∧ (∀ y5 : Nat, let q39 := (y5 - (1 : Nat) + (1 : Nat)); (((2 : Nat) ≤ y5) → (∃ y6 : Value, (∃ y7 : List Blk, ((Go.Rx.Found 2 (Value.tuple { toList := [vi q36, rsl (4 : Nat) (0 : Nat) nl y4, rsl (7 : Nat) (0 : Nat) (2 : Nat) q39, vi (0 : Int)] }) ({ h := [((7 : Nat), Blk.row false [IntKind.i64] (3 : Nat) (2 : Nat) q39 (appF (fun x x_1 ↦ (0 : Int)) (0 : Nat) q34 (0 : Nat))), ((6 : Nat), Blk.row false [IntKind.i64] (3 : Nat) (2 : Nat) (2 : Nat) q34), q26, q30, q32, q29, q22, q19], next := (8 : Nat) }) (y6) (y7)) ∧ (K y6 y7))))))))))))))))))))))))))))))))))) else q31))))))))))) else q31))))))))))))))))))))))))))))))) else (∃ y0 : Value, (∃ y1 : List Blk, ((Go.Rx.Found 2 (Value.tuple { toList := [vi (0 : Int), vn, vn, vi q15] }) ({ h := [q29, q22, q19], next := (3 : Nat) }) (y0) (y1)) ∧ (K y0 y1)))))))))))))))))))
theorem con58I_rrE (a b c d e : Int) (el nl cl : Nat) (fl : RF) (et nt ct : Nat) (ft : RF) (y : Int) (K : Value → List Blk → Prop) : con58I_rrV a b c d e el nl cl fl et nt ct ft y K = bodyX (mkB X58G) (callN (mkB X58G) 7) (con58I_rrA a b c d e el nl cl fl et nt ct ft y) Try.f58 [five' a b c d e, rsl 0 0 nl cl, rsl 1 0 nt ct, .int .i64 y] (stOf [.row true [.i64, .i64] el nl cl fl, .row true [.i64] et nt ct ft]) (Fd 2 K) := by kernel_rfl
set_option tactic.hygienic false in
theorem con58I_rrP (a b c d e : Int) (el nl cl : Nat) (fl : RF) (et nt ct : Nat) (ft : RF) (y : Int) (K : Value → List Blk → Prop)  (hI : InC a b c d e) (hnl : nl ≤ 100000) (hnt : nt ≤ 100000) (hct : capOk (rsl 1 0 nt ct)) (h1 : askT a b c d e nl fl nt ft (-1) y = 0) (hbd : nt ≤ 1000) (hf : ¬ (sel (selE fl 0) nl = [] ∨ List.length (sel (selE fl 2) nl) = 2)) (hi : 0 < nt ∧ fl (ft (Int.toNat (((nt : Nat) : Int) - 1)) 0).toNat 0 = 1) (h : ∀ i g z, Placed a b c d e nl fl 2 i y g → z = 1 + c + (i : Int) * a → ∀ h, Ins nt ft i h → ∀ cp, nl ≤ cp → ∀ cp2, nt + 1 ≤ cp2 → K (.tuple ⟨[.int .i64 z, rsl 2 0 nl cp, rsl (2 + 1) 0 (nt + 1) cp2, .int .i64 0]⟩) [.row false [.i64, .i64] 54 nl cp g, .row false [.i64] 3 (nt + 1) cp2 h]) : con58I_rrV a b c d e el nl cl fl et nt ct ft y K := by
  unfold con58I_rrV
  conv => zeta
  obtain ⟨m, rfl⟩ : ∃ m, nt = m + 1 := ⟨nt - 1, by omega⟩
  have hct2 : m + 1 ≤ ct := hct
  have em : Int.toNat (((m + 1 : Nat) : Int) - 1) = m := (by omega)
  have em2 : Int.toNat (((m + 1 : Nat) : Int) - 1 - 0) = m := (by omega)
  obtain ⟨k0, k1, k2, k3, k4, k5⟩ := askT_bck h1
  obtain ⟨g1, g2, g3, g4⟩ := bck_ok k0
  have gc := bck_ck k0
  have go := bck_one k0
  have gk := fun h : 0 < (m + 1) => go (Int.toNat (((m + 1) : Int) - 1)) (by omega)
  have gm := go m (by omega)
  rw [em] at hi
  repeat' (first | (with_reducible first | exact rfl | exact trivial | refine And.intro ?_ ?_ | refine br_intro (fun hq => ?_) fun hq => ?_ | refine if_both (fun hz => ?_) fun hz => ?_) | (intro) | fail)
  all_goals try simp only [em2] at *
  all_goals try simp only [em] at *
  all_goals try (have gk := gk (by omega))
  all_goals try (rename Taken _ _ _ _ _ _ _ _ _ _ => T; have T0 := T.now0; have T1 := T.now1)
  all_goals try (have tl := taken_rest T (j := (ft m 0).toNat) (by omega))
  all_goals first
    | omega
    | assumption
    | contradiction
    | exact fin0 (by kernel_rfl) (by kernel_rfl) (by first | exact h | simpa using h)
    | exact T.ask
    | exact bck_ck k0
    | exact hf (.inl (by assumption))
    | exact hf (.inr (by assumption))
    | exact fin2x rfl rfl rfl (fun _ _ _ _ => rfl) (fun _ _ _ _ => rfl) (h _ _ _ (placed (.inr rfl) T ‹_›) (by omega) _ (by constructor <;> (try intro k hk) <;> simp [appF, litF] <;> omega) _ (by omega) _ (by omega))
    | exact fin2x rfl rfl rfl (fun _ _ _ _ => rfl) (fun _ _ _ _ => rfl) (h _ _ _ (placed (.inr rfl) T ‹_›) (by omega) _ (by constructor <;> (try intro k hk) <;> simp [appF, litF, hk]) _ (by omega) _ (by omega))
    | (obtain rfl : nt = 0 := (by simp at hq; omega)
       first
         | exact fin2x rfl rfl rfl (fun _ _ _ _ => rfl) (fun _ _ _ _ => rfl) (h _ _ _ (placed (.inr rfl) T ‹_›) (by omega) _ (by constructor <;> (try intro k hk) <;> simp [appF, litF] <;> omega) _ (by omega) _ (by omega))
         | exact fin2x rfl rfl rfl (fun _ _ _ _ => rfl) (fun _ _ _ _ => rfl) (h _ _ _ (placed (.inr rfl) T ‹_›) (by omega) _ (by constructor <;> (try intro k hk) <;> simp [appF, litF, hk]) _ (by omega) _ (by omega)))
    | (obtain rfl : m = 0 := (by have z := of_decide_eq_false hq; omega)
       exact fin2x rfl rfl rfl (fun _ _ _ _ => rfl) (fun _ _ _ _ => rfl) (h _ _ _ (placed (.inr rfl) T ‹_›) (by omega) _ (by refine ⟨fun k hk => ?_, ?_, ?_⟩ <;> simp [appF, litF, Nat.zero_add] <;> (repeat' split) <;> first | rfl | omega | (congr 1; omega) | (exfalso; omega)) _ (by omega) _ (by omega)))
    | exact fin2x rfl rfl rfl (fun _ _ _ _ => rfl) (fun _ _ _ _ => rfl) (h _ _ _ (placed (.inr rfl) T ‹_›) (by omega) _ (by refine ⟨fun k hk => ?_, ?_, ?_⟩ <;> simp [appF, litF, Nat.zero_add] <;> (repeat' split) <;> first | rfl | omega | (congr 1; omega) | (exfalso; omega)) _ (by omega) _ (by omega))
    | (exfalso; simp at hq; omega)
    | (exfalso; simp at hq; simp_all; omega)
theorem con58I_ok : BodyOk (mkB X58G) 7 Try.f58 con58I := by
  intro vs bs K hh hro
  clear hro
  unfold con58I at hh
  split at hh
  · rename_i u vl vt y
    obtain ⟨a, b, c, d, e, rfl, hI, hh0⟩ := five_inv hh
    obtain ⟨el, nl, cl, fl, btl, rfl, hnl, rfl, hh1⟩ := parseR_inv hh0
    obtain ⟨et, nt, ct, ft, btt, rfl, hnt, rfl, hh2⟩ := parseR_inv hh1
    obtain ⟨rfl, ⟨hct, h1, hbd, hf, hi⟩, hc⟩ := hh2
    exact ⟨_, _, cast (con58I_rrE a b c d e el nl cl fl et nt ct ft y K) (con58I_rrP a b c d e el nl cl fl et nt ct ft y K hI hnl hnt hct h1 hbd hf hi hc)⟩
  · exact hh.elim
theorem con58I_told : Told 58 (specOf con58I) := toldB (X := X58G) X58G_told (by kernel_rfl) (by kernel_rfl) (by kernel_rfl) con58I_ok
end Go.Proofs.Ytkflmglpniebfaa.Fr
namespace Go.Proofs.Ytkflmglpniebfaa.Fr
set_option maxRecDepth 100000
set_option maxHeartbeats 4000000
open Go.Rx
open Go.RowKit (Below)
set_option linter.unusedVariables false
def con56B : Con := fun vs bs K => match vs with
  | [u, vl, vt, .int .i64 s, .int .i64 y] => five u fun a b c d e => parse [.i64, .i64] 0 vl bs fun nl fl j0 bs0 => parse [.i64] j0 vt bs0 fun nt ft j1 bs1 => bs1 = [] ∧ ((¬ askT a b c d e nl fl nt ft s y = 0)) ∧ (K (.tuple ⟨[.int .i64 (0), .slice none 0 0, .slice none 0 0, .int .i64 (askT a b c d e nl fl nt ft s y)]⟩) [])
  | _ => False

def con56B_nnA (a b c d e : Int) (s : Int) (y : Int) : Ann := fun _ _ _ => none
def con56B_nrA (a b c d e : Int) (et nt ct : Nat) (ft : RF) (s : Int) (y : Int) : Ann := fun _ _ _ => none
def con56B_rnA (a b c d e : Int) (el nl cl : Nat) (fl : RF) (s : Int) (y : Int) : Ann := fun _ _ _ => none
def con56B_rrA (a b c d e : Int) (el nl cl : Nat) (fl : RF) (et nt ct : Nat) (ft : RF) (s : Int) (y : Int) : Ann := fun _ _ _ => none
def con56U : Con := fun vs bs K => match vs with
  | [u, vl, vt, .int .i64 s, .int .i64 y] => five u fun a b c d e => parseR [.i64, .i64] 0 vl bs fun nl fl j0 bs0 => parseR [.i64] j0 vt bs0 fun nt ft j1 bs1 => bs1 = [] ∧ ((askT a b c d e nl fl nt ft s y = 0) ∧ (useT a fl nt ft s y)) ∧ (∀ g, Bumped a b c d e nl fl (lastC nt ft) y g → ∀ cp, nl ≤ cp → ∀ cp2, nt ≤ cp2 → K (.tuple ⟨[.int .i64 (1 + c + lastC nt ft * a + fl (lastC nt ft).toNat 1), rsl j1 0 nl cp, rsl (j1 + 1) 0 nt cp2, .int .i64 0]⟩) [.row false [.i64, .i64] 54 nl cp g, .row false [.i64] 3 nt cp2 ft])
  | _ => False

def con56U_rrA (a b c d e : Int) (el nl cl : Nat) (fl : RF) (et nt ct : Nat) (ft : RF) (s : Int) (y : Int) : Ann := fun _ _ _ => none
def con56F : Con := fun vs bs K => match vs with
  | [u, vl, vt, .int .i64 s, .int .i64 y] => five u fun a b c d e => parseR [.i64, .i64] 0 vl bs fun nl fl j0 bs0 => parse [.i64] j0 vt bs0 fun nt ft j1 bs1 => bs1 = [] ∧ ((askT a b c d e nl fl nt ft s y = 0) ∧ (¬ useT a fl nt ft s y) ∧ (nt ≤ 1000) ∧ (sel (selE fl 0) nl = [])) ∧ (K (.tuple ⟨[.int .i64 (0), .slice none 0 0, .slice none 0 0, .int .i64 (5)]⟩) [])
  | _ => False

def con56F_rnA (a b c d e : Int) (el nl cl : Nat) (fl : RF) (s : Int) (y : Int) : Ann := fun _ _ _ => none
def con56F_rrA (a b c d e : Int) (el nl cl : Nat) (fl : RF) (et nt ct : Nat) (ft : RF) (s : Int) (y : Int) : Ann := fun _ _ _ => none
def con56T : Con := fun vs bs K => match vs with
  | [u, vl, vt, .int .i64 s, .int .i64 y] => five u fun a b c d e => parseR [.i64, .i64] 0 vl bs fun nl fl j0 bs0 => parse [.i64] j0 vt bs0 fun nt ft j1 bs1 => bs1 = [] ∧ ((askT a b c d e nl fl nt ft s y = 0) ∧ (¬ useT a fl nt ft s y) ∧ (¬ sel (selE fl 0) nl = []) ∧ (nt ≤ 1000)) ∧ (∀ i g z, Placed a b c d e nl fl 1 i y g → z = 1 + c + (i : Int) * a → ∀ h, App nt ft i h → ∀ cp, nl ≤ cp → ∀ cp2, nt + 1 ≤ cp2 → K (.tuple ⟨[.int .i64 z, rsl j1 0 nl cp, rsl (j1 + 1) 0 (nt + 1) cp2, .int .i64 0]⟩) [.row false [.i64, .i64] 54 nl cp g, .row false [.i64] 3 (nt + 1) cp2 h])
  | _ => False

def con56T_rnA (a b c d e : Int) (el nl cl : Nat) (fl : RF) (s : Int) (y : Int) : Ann := fun _ _ _ => none
def con56T_rrA (a b c d e : Int) (el nl cl : Nat) (fl : RF) (et nt ct : Nat) (ft : RF) (s : Int) (y : Int) : Ann := fun _ _ _ => none
def con56B_nnV (a b c d e : Int) (s : Int) (y : Int) (K : Value → List Blk → Prop) : Prop := let q0 := TS; let q1 := (askT a b c d e (0 : Nat) zF (0 : Nat) zF s y); (t7 ((InC a b c d e) ∧ (eB ∧ ((True) ∧ (T0 ∧ (if (@Eq Int q1 ((0 : Int))) then (q0 ∧ (t4 (q0 ∧ (q0 ∧ (t3 (((0 : Nat) ≤ (100000 : Nat)) ∧ (T0 ∧ ((@Eq Nat ((0 : Nat)) ((0 : Nat))) ∧ (T0 ∧ (False)))))))))) else (∃ y0 : Value, (∃ y1 : List Blk, ((Go.Rx.Found 0 (Value.tuple { toList := [vi (0 : Int), vn, vn, vi q1] }) ({ h := [((0 : Nat), Blk.cells [vi a, vi b, vi c, vi d, vi e] (23 : Nat))], next := (1 : Nat) }) (y0) (y1)) ∧ (K y0 y1))))))))))
theorem con56B_nnE (a b c d e : Int) (s : Int) (y : Int) (K : Value → List Blk → Prop) : con56B_nnV a b c d e s y K = bodyX (mkB X56B) (callN (mkB X56B) 7) (con56B_nnA a b c d e s y) Try.f56 [five' a b c d e, .slice none 0 0, .slice none 0 0, .int .i64 s, .int .i64 y] (stOf []) (Fd 0 K) := by kernel_rfl
set_option tactic.hygienic false in
theorem con56B_nnP (a b c d e : Int) (s : Int) (y : Int) (K : Value → List Blk → Prop)  (hI : InC a b c d e) (h1 : ¬ askT a b c d e 0 zF 0 zF s y = 0) (h : K (.tuple ⟨[.int .i64 (0), .slice none 0 0, .slice none 0 0, .int .i64 (askT a b c d e 0 zF 0 zF s y)]⟩) []) : con56B_nnV a b c d e s y K := by
  unfold con56B_nnV
  conv => zeta

  repeat' (first | (with_reducible first | exact rfl | exact trivial | refine And.intro ?_ ?_ | refine br_intro (fun hq => ?_) fun hq => ?_ | refine if_both (fun hz => ?_) fun hz => ?_) | (intro) | fail)

  all_goals first
    | omega
    | assumption
    | contradiction
    | exact fin0 (by kernel_rfl) (by kernel_rfl) (by first | exact h | simpa using h)
    | exact ask_of gc gk.1 gk.2.1
    | exact T.ask
    | exact bck_ck k0
    | (refine fin2x rfl rfl rfl (fun _ _ _ _ => rfl) (fun i j hi hj => ?_) (h _ ‹_› _ (by omega) _ (by omega))
       simp [appF])
    | exact fin2x rfl rfl rfl (fun _ _ _ _ => rfl) (fun _ _ _ _ => rfl) (h _ _ _ (placed (.inl rfl) T ‹_›) (by omega) _ (by constructor <;> (try intro k hk) <;> simp [appF, litF] <;> omega) _ (by omega) _ (by omega))
    | exact fin2x rfl rfl rfl (fun _ _ _ _ => rfl) (fun _ _ _ _ => rfl) (h _ _ _ (placed (.inl rfl) T ‹_›) (by omega) _ (by constructor <;> (try intro k hk) <;> simp [appF, litF, hk]) _ (by omega) _ (by omega))
    | (obtain rfl : nt = 0 := (by simp at hq; omega)
       first
         | exact fin2x rfl rfl rfl (fun _ _ _ _ => rfl) (fun _ _ _ _ => rfl) (h _ _ _ (placed (.inl rfl) T ‹_›) (by omega) _ (by constructor <;> (try intro k hk) <;> simp [appF, litF] <;> omega) _ (by omega) _ (by omega))
         | exact fin2x rfl rfl rfl (fun _ _ _ _ => rfl) (fun _ _ _ _ => rfl) (h _ _ _ (placed (.inl rfl) T ‹_›) (by omega) _ (by constructor <;> (try intro k hk) <;> simp [appF, litF, hk]) _ (by omega) _ (by omega)))
    | (have z : fl (ft (Int.toNat (((nt : Nat) : Int) - 1)) 0).toNat 0 = 0 := (by assumption)
       omega)
    | (exfalso; simp at hq; omega)
    | (exfalso; simp at hq; simp_all; omega)
def con56B_nrV (a b c d e : Int) (et nt ct : Nat) (ft : RF) (s : Int) (y : Int) (K : Value → List Blk → Prop) : Prop := let q0 := ((0 : Nat) + nt ≤ nt); let q1 := (nt ≤ (100000 : Nat)); let q2 := (T0 ∧ (False)); let q3 := (@Eq Nat ((0 : Nat)) ((0 : Nat))); let q4 := (askT a b c d e (0 : Nat) zF nt ft s y); let q5 := TS; (t4 (q0 ∧ (t2 ((InC a b c d e) ∧ (q3 ∧ (q1 ∧ (((@Eq (List IntKind) ([IntKind.i64]) ([IntKind.i64])) ∧ ((@Eq Nat (nt) (nt)) ∧ (@Eq Nat (ct) (ct)))) ∧ (eB ∧ ((True) ∧ (T0 ∧ (if (@Eq Int q4 ((0 : Int))) then (q5 ∧ (t4 (q5 ∧ (q5 ∧ (t4 (q0 ∧ (q1 ∧ (T0 ∧ (q3 ∧ (Go.Rx.br (decide ((0 : Nat) < nt)) (∀ y0 : Nat, ((nt ≤ y0) → q2)) q2)))))))))) else (∃ y0 : Value, (∃ y1 : List Blk, ((Go.Rx.Found 1 (Value.tuple { toList := [vi (0 : Int), vn, vn, vi q4] }) ({ h := [((1 : Nat), Blk.cells [vi a, vi b, vi c, vi d, vi e] (23 : Nat)), ((0 : Nat), Blk.row true [IntKind.i64] et nt ct ft)], next := (2 : Nat) }) (y0) (y1)) ∧ (K y0 y1)))))))))))))))
theorem con56B_nrE (a b c d e : Int) (et nt ct : Nat) (ft : RF) (s : Int) (y : Int) (K : Value → List Blk → Prop) : con56B_nrV a b c d e et nt ct ft s y K = bodyX (mkB X56B) (callN (mkB X56B) 7) (con56B_nrA a b c d e et nt ct ft s y) Try.f56 [five' a b c d e, .slice none 0 0, rsl 0 0 nt ct, .int .i64 s, .int .i64 y] (stOf [.row true [.i64] et nt ct ft]) (Fd 1 K) := by kernel_rfl
set_option tactic.hygienic false in
theorem con56B_nrP (a b c d e : Int) (et nt ct : Nat) (ft : RF) (s : Int) (y : Int) (K : Value → List Blk → Prop)  (hI : InC a b c d e) (hnt : nt ≤ 100000) (h1 : ¬ askT a b c d e 0 zF nt ft s y = 0) (h : K (.tuple ⟨[.int .i64 (0), .slice none 0 0, .slice none 0 0, .int .i64 (askT a b c d e 0 zF nt ft s y)]⟩) []) : con56B_nrV a b c d e et nt ct ft s y K := by
  unfold con56B_nrV
  conv => zeta

  repeat' (first | (with_reducible first | exact rfl | exact trivial | refine And.intro ?_ ?_ | refine br_intro (fun hq => ?_) fun hq => ?_ | refine if_both (fun hz => ?_) fun hz => ?_) | (intro) | fail)

  all_goals first
    | omega
    | assumption
    | contradiction
    | exact fin0 (by kernel_rfl) (by kernel_rfl) (by first | exact h | simpa using h)
    | exact ask_of gc gk.1 gk.2.1
    | exact T.ask
    | exact bck_ck k0
    | (refine fin2x rfl rfl rfl (fun _ _ _ _ => rfl) (fun i j hi hj => ?_) (h _ ‹_› _ (by omega) _ (by omega))
       simp [appF])
    | exact fin2x rfl rfl rfl (fun _ _ _ _ => rfl) (fun _ _ _ _ => rfl) (h _ _ _ (placed (.inl rfl) T ‹_›) (by omega) _ (by constructor <;> (try intro k hk) <;> simp [appF, litF] <;> omega) _ (by omega) _ (by omega))
    | exact fin2x rfl rfl rfl (fun _ _ _ _ => rfl) (fun _ _ _ _ => rfl) (h _ _ _ (placed (.inl rfl) T ‹_›) (by omega) _ (by constructor <;> (try intro k hk) <;> simp [appF, litF, hk]) _ (by omega) _ (by omega))
    | (obtain rfl : nt = 0 := (by simp at hq; omega)
       first
         | exact fin2x rfl rfl rfl (fun _ _ _ _ => rfl) (fun _ _ _ _ => rfl) (h _ _ _ (placed (.inl rfl) T ‹_›) (by omega) _ (by constructor <;> (try intro k hk) <;> simp [appF, litF] <;> omega) _ (by omega) _ (by omega))
         | exact fin2x rfl rfl rfl (fun _ _ _ _ => rfl) (fun _ _ _ _ => rfl) (h _ _ _ (placed (.inl rfl) T ‹_›) (by omega) _ (by constructor <;> (try intro k hk) <;> simp [appF, litF, hk]) _ (by omega) _ (by omega)))
    | (have z : fl (ft (Int.toNat (((nt : Nat) : Int) - 1)) 0).toNat 0 = 0 := (by assumption)
       omega)
    | (exfalso; simp at hq; omega)
    | (exfalso; simp at hq; simp_all; omega)
def con56B_rnV (a b c d e : Int) (el nl cl : Nat) (fl : RF) (s : Int) (y : Int) (K : Value → List Blk → Prop) : Prop := let q0 := (@Eq Nat ((0 : Nat)) ((0 : Nat))); let q1 := (askT a b c d e nl fl (0 : Nat) zF s y); let q2 := TS; (t3 (((0 : Nat) + nl ≤ nl) ∧ (t3 ((InC a b c d e) ∧ (q0 ∧ ((nl ≤ (100000 : Nat)) ∧ ((eK ∧ ((@Eq Nat (nl) (nl)) ∧ (@Eq Nat (cl) (cl)))) ∧ (eB ∧ ((True) ∧ (T0 ∧ (if (@Eq Int q1 ((0 : Int))) then (q2 ∧ (t4 (q2 ∧ (q2 ∧ (t3 (((0 : Nat) ≤ (100000 : Nat)) ∧ (T0 ∧ (q0 ∧ (T0 ∧ (False)))))))))) else (∃ y0 : Value, (∃ y1 : List Blk, ((Go.Rx.Found 1 (Value.tuple { toList := [vi (0 : Int), vn, vn, vi q1] }) ({ h := [((1 : Nat), Blk.cells [vi a, vi b, vi c, vi d, vi e] (23 : Nat)), ((0 : Nat), rT el nl cl fl)], next := (2 : Nat) }) (y0) (y1)) ∧ (K y0 y1)))))))))))))))
theorem con56B_rnE (a b c d e : Int) (el nl cl : Nat) (fl : RF) (s : Int) (y : Int) (K : Value → List Blk → Prop) : con56B_rnV a b c d e el nl cl fl s y K = bodyX (mkB X56B) (callN (mkB X56B) 7) (con56B_rnA a b c d e el nl cl fl s y) Try.f56 [five' a b c d e, rsl 0 0 nl cl, .slice none 0 0, .int .i64 s, .int .i64 y] (stOf [.row true [.i64, .i64] el nl cl fl]) (Fd 1 K) := by kernel_rfl
set_option tactic.hygienic false in
theorem con56B_rnP (a b c d e : Int) (el nl cl : Nat) (fl : RF) (s : Int) (y : Int) (K : Value → List Blk → Prop)  (hI : InC a b c d e) (hnl : nl ≤ 100000) (h1 : ¬ askT a b c d e nl fl 0 zF s y = 0) (h : K (.tuple ⟨[.int .i64 (0), .slice none 0 0, .slice none 0 0, .int .i64 (askT a b c d e nl fl 0 zF s y)]⟩) []) : con56B_rnV a b c d e el nl cl fl s y K := by
  unfold con56B_rnV
  conv => zeta

  repeat' (first | (with_reducible first | exact rfl | exact trivial | refine And.intro ?_ ?_ | refine br_intro (fun hq => ?_) fun hq => ?_ | refine if_both (fun hz => ?_) fun hz => ?_) | (intro) | fail)

  all_goals first
    | omega
    | assumption
    | contradiction
    | exact fin0 (by kernel_rfl) (by kernel_rfl) (by first | exact h | simpa using h)
    | exact ask_of gc gk.1 gk.2.1
    | exact T.ask
    | exact bck_ck k0
    | (refine fin2x rfl rfl rfl (fun _ _ _ _ => rfl) (fun i j hi hj => ?_) (h _ ‹_› _ (by omega) _ (by omega))
       simp [appF])
    | exact fin2x rfl rfl rfl (fun _ _ _ _ => rfl) (fun _ _ _ _ => rfl) (h _ _ _ (placed (.inl rfl) T ‹_›) (by omega) _ (by constructor <;> (try intro k hk) <;> simp [appF, litF] <;> omega) _ (by omega) _ (by omega))
    | exact fin2x rfl rfl rfl (fun _ _ _ _ => rfl) (fun _ _ _ _ => rfl) (h _ _ _ (placed (.inl rfl) T ‹_›) (by omega) _ (by constructor <;> (try intro k hk) <;> simp [appF, litF, hk]) _ (by omega) _ (by omega))
    | (obtain rfl : nt = 0 := (by simp at hq; omega)
       first
         | exact fin2x rfl rfl rfl (fun _ _ _ _ => rfl) (fun _ _ _ _ => rfl) (h _ _ _ (placed (.inl rfl) T ‹_›) (by omega) _ (by constructor <;> (try intro k hk) <;> simp [appF, litF] <;> omega) _ (by omega) _ (by omega))
         | exact fin2x rfl rfl rfl (fun _ _ _ _ => rfl) (fun _ _ _ _ => rfl) (h _ _ _ (placed (.inl rfl) T ‹_›) (by omega) _ (by constructor <;> (try intro k hk) <;> simp [appF, litF, hk]) _ (by omega) _ (by omega)))
    | (have z : fl (ft (Int.toNat (((nt : Nat) : Int) - 1)) 0).toNat 0 = 0 := (by assumption)
       omega)
    | (exfalso; simp at hq; omega)
    | (exfalso; simp at hq; simp_all; omega)
def con56B_rrV (a b c d e : Int) (el nl cl : Nat) (fl : RF) (et nt ct : Nat) (ft : RF) (s : Int) (y : Int) (K : Value → List Blk → Prop) : Prop := let q0 := ((0 : Nat) + nt ≤ nt); let q1 := (nt ≤ (100000 : Nat)); let q2 := (T0 ∧ (False)); let q3 := (askT a b c d e nl fl nt ft s y); let q4 := (@Eq Nat ((0 : Nat)) ((0 : Nat))); let q5 := TS; (t3 (((0 : Nat) + nl ≤ nl) ∧ (q0 ∧ (t2 ((InC a b c d e) ∧ (q4 ∧ ((nl ≤ (100000 : Nat)) ∧ ((eK ∧ ((@Eq Nat (nl) (nl)) ∧ (@Eq Nat (cl) (cl)))) ∧ ((@Eq Nat ((1 : Nat)) ((1 : Nat))) ∧ (q1 ∧ (((@Eq (List IntKind) ([IntKind.i64]) ([IntKind.i64])) ∧ ((@Eq Nat (nt) (nt)) ∧ (@Eq Nat (ct) (ct)))) ∧ (eB ∧ ((True) ∧ (T0 ∧ (if (@Eq Int q3 ((0 : Int))) then (q5 ∧ (t4 (q5 ∧ (q5 ∧ (t4 (q0 ∧ (q1 ∧ (T0 ∧ (q4 ∧ (Go.Rx.br (decide ((0 : Nat) < nt)) (∀ y0 : Nat, ((nt ≤ y0) → q2)) q2)))))))))) else (∃ y0 : Value, (∃ y1 : List Blk, ((Go.Rx.Found 2 (Value.tuple { toList := [vi (0 : Int), vn, vn, vi q3] }) ({ h := [((2 : Nat), Blk.cells [vi a, vi b, vi c, vi d, vi e] (23 : Nat)), ((0 : Nat), rT el nl cl fl), ((1 : Nat), Blk.row true [IntKind.i64] et nt ct ft)], next := (3 : Nat) }) (y0) (y1)) ∧ (K y0 y1)))))))))))))))))))
theorem con56B_rrE (a b c d e : Int) (el nl cl : Nat) (fl : RF) (et nt ct : Nat) (ft : RF) (s : Int) (y : Int) (K : Value → List Blk → Prop) : con56B_rrV a b c d e el nl cl fl et nt ct ft s y K = bodyX (mkB X56B) (callN (mkB X56B) 7) (con56B_rrA a b c d e el nl cl fl et nt ct ft s y) Try.f56 [five' a b c d e, rsl 0 0 nl cl, rsl 1 0 nt ct, .int .i64 s, .int .i64 y] (stOf [.row true [.i64, .i64] el nl cl fl, .row true [.i64] et nt ct ft]) (Fd 2 K) := by kernel_rfl
set_option tactic.hygienic false in
theorem con56B_rrP (a b c d e : Int) (el nl cl : Nat) (fl : RF) (et nt ct : Nat) (ft : RF) (s : Int) (y : Int) (K : Value → List Blk → Prop)  (hI : InC a b c d e) (hnl : nl ≤ 100000) (hnt : nt ≤ 100000) (h1 : ¬ askT a b c d e nl fl nt ft s y = 0) (h : K (.tuple ⟨[.int .i64 (0), .slice none 0 0, .slice none 0 0, .int .i64 (askT a b c d e nl fl nt ft s y)]⟩) []) : con56B_rrV a b c d e el nl cl fl et nt ct ft s y K := by
  unfold con56B_rrV
  conv => zeta

  repeat' (first | (with_reducible first | exact rfl | exact trivial | refine And.intro ?_ ?_ | refine br_intro (fun hq => ?_) fun hq => ?_ | refine if_both (fun hz => ?_) fun hz => ?_) | (intro) | fail)

  all_goals first
    | omega
    | assumption
    | contradiction
    | exact fin0 (by kernel_rfl) (by kernel_rfl) (by first | exact h | simpa using h)
    | exact ask_of gc gk.1 gk.2.1
    | exact T.ask
    | exact bck_ck k0
    | (refine fin2x rfl rfl rfl (fun _ _ _ _ => rfl) (fun i j hi hj => ?_) (h _ ‹_› _ (by omega) _ (by omega))
       simp [appF])
    | exact fin2x rfl rfl rfl (fun _ _ _ _ => rfl) (fun _ _ _ _ => rfl) (h _ _ _ (placed (.inl rfl) T ‹_›) (by omega) _ (by constructor <;> (try intro k hk) <;> simp [appF, litF] <;> omega) _ (by omega) _ (by omega))
    | exact fin2x rfl rfl rfl (fun _ _ _ _ => rfl) (fun _ _ _ _ => rfl) (h _ _ _ (placed (.inl rfl) T ‹_›) (by omega) _ (by constructor <;> (try intro k hk) <;> simp [appF, litF, hk]) _ (by omega) _ (by omega))
    | (obtain rfl : nt = 0 := (by simp at hq; omega)
       first
         | exact fin2x rfl rfl rfl (fun _ _ _ _ => rfl) (fun _ _ _ _ => rfl) (h _ _ _ (placed (.inl rfl) T ‹_›) (by omega) _ (by constructor <;> (try intro k hk) <;> simp [appF, litF] <;> omega) _ (by omega) _ (by omega))
         | exact fin2x rfl rfl rfl (fun _ _ _ _ => rfl) (fun _ _ _ _ => rfl) (h _ _ _ (placed (.inl rfl) T ‹_›) (by omega) _ (by constructor <;> (try intro k hk) <;> simp [appF, litF, hk]) _ (by omega) _ (by omega)))
    | (have z : fl (ft (Int.toNat (((nt : Nat) : Int) - 1)) 0).toNat 0 = 0 := (by assumption)
       omega)
    | (exfalso; simp at hq; omega)
    | (exfalso; simp at hq; simp_all; omega)
theorem con56B_ok : BodyOk (mkB X56B) 7 Try.f56 con56B := by
  intro vs bs K hh hro
  clear hro
  unfold con56B at hh
  split at hh
  · rename_i u vl vt s y
    obtain ⟨a, b, c, d, e, rfl, hI, hh0⟩ := five_inv hh
    rcases parse_inv hh0 with ⟨rfl, hh1⟩ | ⟨el, nl, cl, fl, btl, rfl, hnl, rfl, hh1⟩ <;> clear hh0
    · rcases parse_inv hh1 with ⟨rfl, hh2⟩ | ⟨et, nt, ct, ft, btt, rfl, hnt, rfl, hh2⟩ <;> clear hh1
      · obtain ⟨rfl, h1, hc⟩ := hh2
        exact ⟨_, _, cast (con56B_nnE a b c d e  s y K) (con56B_nnP a b c d e  s y K hI  h1 hc)⟩
      · obtain ⟨rfl, h1, hc⟩ := hh2
        exact ⟨_, _, cast (con56B_nrE a b c d e et nt ct ft s y K) (con56B_nrP a b c d e et nt ct ft s y K hI hnt h1 hc)⟩
    · rcases parse_inv hh1 with ⟨rfl, hh2⟩ | ⟨et, nt, ct, ft, btt, rfl, hnt, rfl, hh2⟩ <;> clear hh1
      · obtain ⟨rfl, h1, hc⟩ := hh2
        exact ⟨_, _, cast (con56B_rnE a b c d e el nl cl fl s y K) (con56B_rnP a b c d e el nl cl fl s y K hI hnl h1 hc)⟩
      · obtain ⟨rfl, h1, hc⟩ := hh2
        exact ⟨_, _, cast (con56B_rrE a b c d e el nl cl fl et nt ct ft s y K) (con56B_rrP a b c d e el nl cl fl et nt ct ft s y K hI hnl hnt h1 hc)⟩
  · exact hh.elim
theorem con56B_told : Told 56 (specOf con56B) := toldB (X := X56B) X56B_told (by kernel_rfl) (by kernel_rfl) (by kernel_rfl) con56B_ok
def con56U_rrV (a b c d e : Int) (el nl cl : Nat) (fl : RF) (et nt ct : Nat) (ft : RF) (s : Int) (y : Int) (K : Value → List Blk → Prop) : Prop := let q0 := ((0 : Nat) + nl ≤ nl); let q1 := ((0 : Nat) + nt ≤ nt); let q2 := (nl ≤ (100000 : Nat)); let q3 := (nt ≤ (100000 : Nat)); let q4 := (Int.toNat (lastC nt ft)); let q5 := eB; let q6 := (askT a b c d e nl fl nt ft s y); let q7 := (@Eq Nat ((0 : Nat)) ((0 : Nat))); let q8 := (@Eq Nat ((1 : Nat)) ((1 : Nat))); let q9 := TS; let q10 := (y ≤ a - fl q4 (1 : Nat)); let q11 := ((1 : Nat), Blk.row true [IntKind.i64] et nt ct ft); let q12 := ((0 : Nat), rT el nl cl fl); let q13 := ((1 : Int) + c + lastC nt ft * a + fl q4 (1 : Nat)); let q14 := ((@Eq (List IntKind) ([IntKind.i64]) ([IntKind.i64])) ∧ ((@Eq Nat (nt) (nt)) ∧ (@Eq Nat (ct) (ct)))); let q15 := ((3 : Nat), Blk.row false [IntKind.i64] (3 : Nat) (0 : Nat) (0 : Nat) (litF (List.length [IntKind.i64]) [])); let q16 := (eK ∧ ((@Eq Nat (nl) (nl)) ∧ (@Eq Nat (cl) (cl)))); let q17 := ((2 : Nat), Blk.cells [vi a, vi b, vi c, vi d, vi e] (23 : Nat)); let q18 := ((@Eq Int (askF a b c d e nl fl (lastC nt ft)) ((0 : Int))) ∧ (((1 : Int) ≤ y) ∧ ((¬fl q4 (0 : Nat) = (0 : Int)) ∧ q10))); let q19 := ((@Eq Int q6 ((0 : Int))) ∧ (((0 : Nat) < nt) ∧ ((@Eq Int (fl q4 (0 : Nat)) ((1 : Int))) ∧ ((¬lastC nt ft = s) ∧ q10)))); (t3 (q0 ∧ (q1 ∧ (t2 ((InC a b c d e) ∧ (q7 ∧ (q2 ∧ (q16 ∧ (q8 ∧ (q3 ∧ (q14 ∧ (q5 ∧ ((True) ∧ (T0 ∧ (if (@Eq Int q6 ((0 : Int))) then (q9 ∧ (t4 (q9 ∧ (q9 ∧ (t4 (q1 ∧ (q3 ∧ (T0 ∧ (q7 ∧ (Go.Rx.br (decide ((0 : Nat) < nt)) (∀ y0 : Nat, let q20 := (y0 - (1 : Nat) + (1 : Nat)); ((nt ≤ y0) → (t2 (q0 ∧ (q1 ∧ (t2 ((InC a b c d e) ∧ (q7 ∧ (q2 ∧ (q16 ∧ (q8 ∧ (q3 ∧ (q14 ∧ (q5 ∧ (q19 ∧ (t4 (q0 ∧ (t2 ((InC a b c d e) ∧ (q7 ∧ (q2 ∧ (q16 ∧ (q5 ∧ (q18 ∧ (∀ y1 : Nat → Nat → Int, ((Bumped a b c d e nl fl (lastC nt ft) y y1) → (∀ y2 : Nat, ((nl ≤ y2) → (T0 ∧ (∃ y3 : Value, (∃ y4 : List Blk, ((Go.Rx.Found 2 (Value.tuple { toList := [vi q13, rsl (5 : Nat) (0 : Nat) nl y2, rsl (4 : Nat) (0 : Nat) nt q20, vi (0 : Int)] }) ({ h := [((5 : Nat), rF (54 : Nat) nl y2 y1), ((4 : Nat), Blk.row false [IntKind.i64] (3 : Nat) nt q20 (appF (fun x x_1 ↦ (0 : Int)) (0 : Nat) ft (0 : Nat))), q15, q17, q12, q11], next := (6 : Nat) }) (y3) (y4)) ∧ (K y3 y4))))))))))))))))))))))))))))))))) (t2 (q0 ∧ (q1 ∧ (t2 ((InC a b c d e) ∧ (q7 ∧ (q2 ∧ (q16 ∧ (q8 ∧ (q3 ∧ (q14 ∧ (q5 ∧ (q19 ∧ (t4 (q0 ∧ (t2 ((InC a b c d e) ∧ (q7 ∧ (q2 ∧ (q16 ∧ (q5 ∧ (q18 ∧ (∀ y0 : Nat → Nat → Int, ((Bumped a b c d e nl fl (lastC nt ft) y y0) → (∀ y1 : Nat, ((nl ≤ y1) → (T0 ∧ (∃ y2 : Value, (∃ y3 : List Blk, ((Go.Rx.Found 2 (Value.tuple { toList := [vi q13, rsl (4 : Nat) (0 : Nat) nl y1, rsl (3 : Nat) (0 : Nat) (0 : Nat) (0 : Nat), vi (0 : Int)] }) ({ h := [((4 : Nat), rF (54 : Nat) nl y1 y0), q15, q17, q12, q11], next := (5 : Nat) }) (y2) (y3)) ∧ (K y2 y3))))))))))))))))))))))))))))))))))))))))) else (∃ y0 : Value, (∃ y1 : List Blk, ((Go.Rx.Found 2 (Value.tuple { toList := [vi (0 : Int), vn, vn, vi q6] }) ({ h := [q17, q12, q11], next := (3 : Nat) }) (y0) (y1)) ∧ (K y0 y1)))))))))))))))))))
theorem con56U_rrE (a b c d e : Int) (el nl cl : Nat) (fl : RF) (et nt ct : Nat) (ft : RF) (s : Int) (y : Int) (K : Value → List Blk → Prop) : con56U_rrV a b c d e el nl cl fl et nt ct ft s y K = bodyX (mkB X56U) (callN (mkB X56U) 7) (con56U_rrA a b c d e el nl cl fl et nt ct ft s y) Try.f56 [five' a b c d e, rsl 0 0 nl cl, rsl 1 0 nt ct, .int .i64 s, .int .i64 y] (stOf [.row true [.i64, .i64] el nl cl fl, .row true [.i64] et nt ct ft]) (Fd 2 K) := by kernel_rfl
set_option tactic.hygienic false in
theorem con56U_rrP (a b c d e : Int) (el nl cl : Nat) (fl : RF) (et nt ct : Nat) (ft : RF) (s : Int) (y : Int) (K : Value → List Blk → Prop)  (hI : InC a b c d e) (hnl : nl ≤ 100000) (hnt : nt ≤ 100000) (h1 : askT a b c d e nl fl nt ft s y = 0) (hu : useT a fl nt ft s y) (h : ∀ g, Bumped a b c d e nl fl (lastC nt ft) y g → ∀ cp, nl ≤ cp → ∀ cp2, nt ≤ cp2 → K (.tuple ⟨[.int .i64 (1 + c + lastC nt ft * a + fl (lastC nt ft).toNat 1), rsl 2 0 nl cp, rsl (2 + 1) 0 nt cp2, .int .i64 0]⟩) [.row false [.i64, .i64] 54 nl cp g, .row false [.i64] 3 nt cp2 ft]) : con56U_rrV a b c d e el nl cl fl et nt ct ft s y K := by
  unfold con56U_rrV
  conv => zeta
  obtain ⟨k0, k1, k2, k3, k4, k5⟩ := askT_bck h1
  obtain ⟨g1, g2, g3, g4⟩ := bck_ok k0
  have gc := bck_ck k0
  have go := bck_one k0
  have gk := fun h : 0 < nt => go (Int.toNat ((nt : Int) - 1)) (by omega)
  obtain ⟨hu1, hu2, hu3, hu4⟩ := (show (0 < nt ∧ fl (ft (Int.toNat (((nt : Nat) : Int) - 1)) 0).toNat 0 = 1 ∧ ¬ ft (Int.toNat (((nt : Nat) : Int) - 1)) 0 = s ∧ y ≤ a - fl (ft (Int.toNat (((nt : Nat) : Int) - 1)) 0).toNat 1) from hu)
  repeat' (first | (with_reducible first | exact rfl | exact trivial | refine And.intro ?_ ?_ | refine br_intro (fun hq => ?_) fun hq => ?_ | refine if_both (fun hz => ?_) fun hz => ?_) | (intro) | fail)
  all_goals try (have gk := gk (by omega))
  all_goals try (rename Taken _ _ _ _ _ _ _ _ _ _ => T; have T0 := T.now0; have T1 := T.now1)
  all_goals first
    | omega
    | assumption
    | contradiction
    | exact fin0 (by kernel_rfl) (by kernel_rfl) (by first | exact h | simpa using h)
    | exact ask_of gc gk.1 gk.2.1
    | exact T.ask
    | exact bck_ck k0
    | (refine fin2x rfl rfl rfl (fun _ _ _ _ => rfl) (fun i j hi hj => ?_) (h _ ‹_› _ (by omega) _ (by omega))
       simp [appF])
    | exact fin2x rfl rfl rfl (fun _ _ _ _ => rfl) (fun _ _ _ _ => rfl) (h _ _ _ (placed (.inl rfl) T ‹_›) (by omega) _ (by constructor <;> (try intro k hk) <;> simp [appF, litF] <;> omega) _ (by omega) _ (by omega))
    | exact fin2x rfl rfl rfl (fun _ _ _ _ => rfl) (fun _ _ _ _ => rfl) (h _ _ _ (placed (.inl rfl) T ‹_›) (by omega) _ (by constructor <;> (try intro k hk) <;> simp [appF, litF, hk]) _ (by omega) _ (by omega))
    | (obtain rfl : nt = 0 := (by simp at hq; omega)
       first
         | exact fin2x rfl rfl rfl (fun _ _ _ _ => rfl) (fun _ _ _ _ => rfl) (h _ _ _ (placed (.inl rfl) T ‹_›) (by omega) _ (by constructor <;> (try intro k hk) <;> simp [appF, litF] <;> omega) _ (by omega) _ (by omega))
         | exact fin2x rfl rfl rfl (fun _ _ _ _ => rfl) (fun _ _ _ _ => rfl) (h _ _ _ (placed (.inl rfl) T ‹_›) (by omega) _ (by constructor <;> (try intro k hk) <;> simp [appF, litF, hk]) _ (by omega) _ (by omega)))
    | (have z : fl (ft (Int.toNat (((nt : Nat) : Int) - 1)) 0).toNat 0 = 0 := (by assumption)
       omega)
    | (exfalso; simp at hq; omega)
    | (exfalso; simp at hq; simp_all; omega)
theorem con56U_ok : BodyOk (mkB X56U) 7 Try.f56 con56U := by
  intro vs bs K hh hro
  clear hro
  unfold con56U at hh
  split at hh
  · rename_i u vl vt s y
    obtain ⟨a, b, c, d, e, rfl, hI, hh0⟩ := five_inv hh
    obtain ⟨el, nl, cl, fl, btl, rfl, hnl, rfl, hh1⟩ := parseR_inv hh0
    obtain ⟨et, nt, ct, ft, btt, rfl, hnt, rfl, hh2⟩ := parseR_inv hh1
    obtain ⟨rfl, ⟨h1, hu⟩, hc⟩ := hh2
    exact ⟨_, _, cast (con56U_rrE a b c d e el nl cl fl et nt ct ft s y K) (con56U_rrP a b c d e el nl cl fl et nt ct ft s y K hI hnl hnt h1 hu hc)⟩
  · exact hh.elim
theorem con56U_told : Told 56 (specOf con56U) := toldB (X := X56U) X56U_told (by kernel_rfl) (by kernel_rfl) (by kernel_rfl) con56U_ok
def con56F_rnV (a b c d e : Int) (el nl cl : Nat) (fl : RF) (s : Int) (y : Int) (K : Value → List Blk → Prop) : Prop := let q0 := ((0 : Nat) + nl ≤ nl); let q1 := (nl ≤ (100000 : Nat)); let q2 := eB; let q3 := (List.length [IntKind.i64]); let q4 := (@Eq Nat ((0 : Nat)) ((0 : Nat))); let q5 := (askT a b c d e nl fl (0 : Nat) zF s y); let q6 := TS; let q7 := (litF q3 ([(0 : Int)] ++ [])); let q8 := ((0 : Nat), rT el nl cl fl); let q9 := (eK ∧ ((@Eq Nat (nl) (nl)) ∧ (@Eq Nat (cl) (cl)))); let q10 := ((1 : Nat), Blk.cells [vi a, vi b, vi c, vi d, vi e] (23 : Nat)); (t3 (q0 ∧ (t3 ((InC a b c d e) ∧ (q4 ∧ (q1 ∧ (q9 ∧ (q2 ∧ ((True) ∧ (T0 ∧ (if (@Eq Int q5 ((0 : Int))) then (q6 ∧ (t4 (q6 ∧ (q6 ∧ (t3 (((0 : Nat) ≤ (100000 : Nat)) ∧ (T0 ∧ (q4 ∧ (t2 (q0 ∧ (t3 ((InC a b c d e) ∧ (q4 ∧ (q1 ∧ (q9 ∧ (q2 ∧ (((@Eq Int q5 ((0 : Int))) ∧ (¬useT a fl (0 : Nat) zF s y)) ∧ (t3 (q0 ∧ (T0 ∧ ((InC a b c d e) ∧ (q4 ∧ (q1 ∧ (q9 ∧ (q2 ∧ (((@Eq Int (Prod.snd (ckF a b c d e nl fl)) ((0 : Int))) ∧ (sel (selE fl (0 : Int)) nl = [])) ∧ (q6 ∧ (t4 (q6 ∧ (q6 ∧ (t4 (((1 : Nat) ≤ (1 : Nat)) ∧ (((1 : Nat) ≤ (100000 : Nat)) ∧ (T0 ∧ (q4 ∧ (∀ y0 : Nat, (((1 : Nat) ≤ y0) → (T0 ∧ (∃ y1 : Value, (∃ y2 : List Blk, ((Go.Rx.Found 1 (Value.tuple { toList := [vi (0 : Int), vn, vn, vi (5 : Int)] }) ({ h := [((4 : Nat), Blk.row false [IntKind.i64] (3 : Nat) (1 : Nat) (y0 - (1 : Nat) + (1 : Nat)) (appF (fun x x_1 ↦ (0 : Int)) (0 : Nat) q7 (0 : Nat))), ((3 : Nat), Blk.row false [IntKind.i64] (3 : Nat) (1 : Nat) (1 : Nat) q7), ((2 : Nat), Blk.row false [IntKind.i64] (3 : Nat) (0 : Nat) (0 : Nat) (litF q3 [])), q10, q8], next := (5 : Nat) }) (y1) (y2)) ∧ (K y1 y2)))))))))))))))))))))))))))))))))))))))))) else (∃ y0 : Value, (∃ y1 : List Blk, ((Go.Rx.Found 1 (Value.tuple { toList := [vi (0 : Int), vn, vn, vi q5] }) ({ h := [q10, q8], next := (2 : Nat) }) (y0) (y1)) ∧ (K y0 y1)))))))))))))))
theorem con56F_rnE (a b c d e : Int) (el nl cl : Nat) (fl : RF) (s : Int) (y : Int) (K : Value → List Blk → Prop) : con56F_rnV a b c d e el nl cl fl s y K = bodyX (mkB X56F) (callN (mkB X56F) 7) (con56F_rnA a b c d e el nl cl fl s y) Try.f56 [five' a b c d e, rsl 0 0 nl cl, .slice none 0 0, .int .i64 s, .int .i64 y] (stOf [.row true [.i64, .i64] el nl cl fl]) (Fd 1 K) := by kernel_rfl
set_option tactic.hygienic false in
theorem con56F_rnP (a b c d e : Int) (el nl cl : Nat) (fl : RF) (s : Int) (y : Int) (K : Value → List Blk → Prop)  (hI : InC a b c d e) (hnl : nl ≤ 100000) (h1 : askT a b c d e nl fl 0 zF s y = 0) (hu : ¬ useT a fl 0 zF s y) (hbd : 0 ≤ 1000) (hf : sel (selE fl 0) nl = []) (h : K (.tuple ⟨[.int .i64 (0), .slice none 0 0, .slice none 0 0, .int .i64 (5)]⟩) []) : con56F_rnV a b c d e el nl cl fl s y K := by
  unfold con56F_rnV
  conv => zeta
  obtain ⟨k0, k1, k2, k3, k4, k5⟩ := askT_bck h1
  obtain ⟨g1, g2, g3, g4⟩ := bck_ok k0
  have gc := bck_ck k0
  have go := bck_one k0
  have hu2 : ¬ (0 < 0 ∧ fl (zF (Int.toNat (((0 : Nat) : Int) - 1)) 0).toNat 0 = 1 ∧ ¬ zF (Int.toNat (((0 : Nat) : Int) - 1)) 0 = s ∧ y ≤ a - fl (zF (Int.toNat (((0 : Nat) : Int) - 1)) 0).toNat 1) := hu
  repeat' (first | (with_reducible first | exact rfl | exact trivial | refine And.intro ?_ ?_ | refine br_intro (fun hq => ?_) fun hq => ?_ | refine if_both (fun hz => ?_) fun hz => ?_) | (intro) | fail)
  all_goals try (have gk := gk (by omega))
  all_goals try (rename Taken _ _ _ _ _ _ _ _ _ _ => T; have T0 := T.now0; have T1 := T.now1)
  all_goals first
    | omega
    | assumption
    | contradiction
    | exact fin0 (by kernel_rfl) (by kernel_rfl) (by first | exact h | simpa using h)
    | exact ask_of gc gk.1 gk.2.1
    | exact T.ask
    | exact bck_ck k0
    | (refine fin2x rfl rfl rfl (fun _ _ _ _ => rfl) (fun i j hi hj => ?_) (h _ ‹_› _ (by omega) _ (by omega))
       simp [appF])
    | exact fin2x rfl rfl rfl (fun _ _ _ _ => rfl) (fun _ _ _ _ => rfl) (h _ _ _ (placed (.inl rfl) T ‹_›) (by omega) _ (by constructor <;> (try intro k hk) <;> simp [appF, litF] <;> omega) _ (by omega) _ (by omega))
    | exact fin2x rfl rfl rfl (fun _ _ _ _ => rfl) (fun _ _ _ _ => rfl) (h _ _ _ (placed (.inl rfl) T ‹_›) (by omega) _ (by constructor <;> (try intro k hk) <;> simp [appF, litF, hk]) _ (by omega) _ (by omega))
    | (obtain rfl : nt = 0 := (by simp at hq; omega)
       first
         | exact fin2x rfl rfl rfl (fun _ _ _ _ => rfl) (fun _ _ _ _ => rfl) (h _ _ _ (placed (.inl rfl) T ‹_›) (by omega) _ (by constructor <;> (try intro k hk) <;> simp [appF, litF] <;> omega) _ (by omega) _ (by omega))
         | exact fin2x rfl rfl rfl (fun _ _ _ _ => rfl) (fun _ _ _ _ => rfl) (h _ _ _ (placed (.inl rfl) T ‹_›) (by omega) _ (by constructor <;> (try intro k hk) <;> simp [appF, litF, hk]) _ (by omega) _ (by omega)))
    | (have z : fl (ft (Int.toNat (((nt : Nat) : Int) - 1)) 0).toNat 0 = 0 := (by assumption)
       omega)
    | (exfalso; simp at hq; omega)
    | (exfalso; simp at hq; simp_all; omega)
def con56F_rrV (a b c d e : Int) (el nl cl : Nat) (fl : RF) (et nt ct : Nat) (ft : RF) (s : Int) (y : Int) (K : Value → List Blk → Prop) : Prop := let q0 := ((0 : Nat) + nl ≤ nl); let q1 := ((0 : Nat) + nt ≤ nt); let q2 := (nl ≤ (100000 : Nat)); let q3 := (nt ≤ (100000 : Nat)); let q4 := ((1 : Nat) ≤ (1 : Nat)); let q5 := eB; let q6 := (List.length [IntKind.i64]); let q7 := ((1 : Nat) ≤ (100000 : Nat)); let q8 := (askT a b c d e nl fl nt ft s y); let q9 := (@Eq Nat ((0 : Nat)) ((0 : Nat))); let q10 := (@Eq Nat ((1 : Nat)) ((1 : Nat))); let q11 := TS; let q12 := ((1 : Nat), Blk.row true [IntKind.i64] et nt ct ft); let q13 := (litF q6 ([(0 : Int)] ++ [])); let q14 := ((0 : Nat), rT el nl cl fl); let q15 := ((@Eq Int q8 ((0 : Int))) ∧ (¬useT a fl nt ft s y)); let q16 := ((@Eq Int (Prod.snd (ckF a b c d e nl fl)) ((0 : Int))) ∧ (sel (selE fl (0 : Int)) nl = [])); let q17 := ((@Eq (List IntKind) ([IntKind.i64]) ([IntKind.i64])) ∧ ((@Eq Nat (nt) (nt)) ∧ (@Eq Nat (ct) (ct)))); let q18 := ((3 : Nat), Blk.row false [IntKind.i64] (3 : Nat) (0 : Nat) (0 : Nat) (litF q6 [])); let q19 := (eK ∧ ((@Eq Nat (nl) (nl)) ∧ (@Eq Nat (cl) (cl)))); let q20 := ((2 : Nat), Blk.cells [vi a, vi b, vi c, vi d, vi e] (23 : Nat)); (t3 (q0 ∧ (q1 ∧ (t2 ((InC a b c d e) ∧ (q9 ∧ (q2 ∧ (q19 ∧ (q10 ∧ (q3 ∧ (q17 ∧ (q5 ∧ ((True) ∧ (T0 ∧ (if (@Eq Int q8 ((0 : Int))) then (q11 ∧ (t4 (q11 ∧ (q11 ∧ (t4 (q1 ∧ (q3 ∧ (T0 ∧ (q9 ∧ (Go.Rx.br (decide ((0 : Nat) < nt)) (∀ y0 : Nat, let q21 := (y0 - (1 : Nat) + (1 : Nat)); ((nt ≤ y0) → (t2 (q0 ∧ (q1 ∧ (t2 ((InC a b c d e) ∧ (q9 ∧ (q2 ∧ (q19 ∧ (q10 ∧ (q3 ∧ (q17 ∧ (q5 ∧ (q15 ∧ (t3 (q0 ∧ (T0 ∧ ((InC a b c d e) ∧ (q9 ∧ (q2 ∧ (q19 ∧ (q5 ∧ (q16 ∧ (q11 ∧ (t4 (q11 ∧ (q11 ∧ (t4 (q4 ∧ (q7 ∧ (T0 ∧ ((T0 ∧ ((false = false) ∧ (q9 ∧ ((@Eq Nat (nt) (nt)) ∧ ((@Eq Nat q21 q21) ∧ (nt + (1 : Nat) ≤ (100000 : Nat))))))) ∧ (∀ y1 : Nat, ((nt + (1 : Nat) ≤ y1) → (T0 ∧ (∃ y2 : Value, (∃ y3 : List Blk, ((Go.Rx.Found 2 (Value.tuple { toList := [vi (0 : Int), vn, vn, vi (5 : Int)] }) ({ h := [((6 : Nat), Blk.row false [IntKind.i64] (3 : Nat) (nt + (1 : Nat)) (y1 - (1 : Nat) + (1 : Nat)) (appF (appF (fun x x_1 ↦ (0 : Int)) (0 : Nat) ft (0 : Nat)) nt q13 (0 : Nat))), ((5 : Nat), Blk.row false [IntKind.i64] (3 : Nat) (1 : Nat) (1 : Nat) q13), q18, q20, q14, q12], next := (7 : Nat) }) (y2) (y3)) ∧ (K y2 y3)))))))))))))))))))))))))))))))))))))))) (t2 (q0 ∧ (q1 ∧ (t2 ((InC a b c d e) ∧ (q9 ∧ (q2 ∧ (q19 ∧ (q10 ∧ (q3 ∧ (q17 ∧ (q5 ∧ (q15 ∧ (t3 (q0 ∧ (T0 ∧ ((InC a b c d e) ∧ (q9 ∧ (q2 ∧ (q19 ∧ (q5 ∧ (q16 ∧ (q11 ∧ (t4 (q11 ∧ (q11 ∧ (t4 (q4 ∧ (q7 ∧ (T0 ∧ (q9 ∧ (∀ y0 : Nat, (((1 : Nat) ≤ y0) → (T0 ∧ (∃ y1 : Value, (∃ y2 : List Blk, ((Go.Rx.Found 2 (Value.tuple { toList := [vi (0 : Int), vn, vn, vi (5 : Int)] }) ({ h := [((5 : Nat), Blk.row false [IntKind.i64] (3 : Nat) (1 : Nat) (y0 - (1 : Nat) + (1 : Nat)) (appF (fun x x_1 ↦ (0 : Int)) (0 : Nat) q13 (0 : Nat))), ((4 : Nat), Blk.row false [IntKind.i64] (3 : Nat) (1 : Nat) (1 : Nat) q13), q18, q20, q14, q12], next := (6 : Nat) }) (y1) (y2)) ∧ (K y1 y2)))))))))))))))))))))))))))))))))))))))))))))))) else (∃ y0 : Value, (∃ y1 : List Blk, ((Go.Rx.Found 2 (Value.tuple { toList := [vi (0 : Int), vn, vn, vi q8] }) ({ h := [q20, q14, q12], next := (3 : Nat) }) (y0) (y1)) ∧ (K y0 y1)))))))))))))))))))
theorem con56F_rrE (a b c d e : Int) (el nl cl : Nat) (fl : RF) (et nt ct : Nat) (ft : RF) (s : Int) (y : Int) (K : Value → List Blk → Prop) : con56F_rrV a b c d e el nl cl fl et nt ct ft s y K = bodyX (mkB X56F) (callN (mkB X56F) 7) (con56F_rrA a b c d e el nl cl fl et nt ct ft s y) Try.f56 [five' a b c d e, rsl 0 0 nl cl, rsl 1 0 nt ct, .int .i64 s, .int .i64 y] (stOf [.row true [.i64, .i64] el nl cl fl, .row true [.i64] et nt ct ft]) (Fd 2 K) := by kernel_rfl
set_option tactic.hygienic false in
theorem con56F_rrP (a b c d e : Int) (el nl cl : Nat) (fl : RF) (et nt ct : Nat) (ft : RF) (s : Int) (y : Int) (K : Value → List Blk → Prop)  (hI : InC a b c d e) (hnl : nl ≤ 100000) (hnt : nt ≤ 100000) (h1 : askT a b c d e nl fl nt ft s y = 0) (hu : ¬ useT a fl nt ft s y) (hbd : nt ≤ 1000) (hf : sel (selE fl 0) nl = []) (h : K (.tuple ⟨[.int .i64 (0), .slice none 0 0, .slice none 0 0, .int .i64 (5)]⟩) []) : con56F_rrV a b c d e el nl cl fl et nt ct ft s y K := by
  unfold con56F_rrV
  conv => zeta
  obtain ⟨k0, k1, k2, k3, k4, k5⟩ := askT_bck h1
  obtain ⟨g1, g2, g3, g4⟩ := bck_ok k0
  have gc := bck_ck k0
  have go := bck_one k0
  have gk := fun h : 0 < nt => go (Int.toNat ((nt : Int) - 1)) (by omega)
  have hu2 : ¬ (0 < nt ∧ fl (ft (Int.toNat (((nt : Nat) : Int) - 1)) 0).toNat 0 = 1 ∧ ¬ ft (Int.toNat (((nt : Nat) : Int) - 1)) 0 = s ∧ y ≤ a - fl (ft (Int.toNat (((nt : Nat) : Int) - 1)) 0).toNat 1) := hu
  repeat' (first | (with_reducible first | exact rfl | exact trivial | refine And.intro ?_ ?_ | refine br_intro (fun hq => ?_) fun hq => ?_ | refine if_both (fun hz => ?_) fun hz => ?_) | (intro) | fail)
  all_goals try (have gk := gk (by omega))
  all_goals try (rename Taken _ _ _ _ _ _ _ _ _ _ => T; have T0 := T.now0; have T1 := T.now1)
  all_goals first
    | omega
    | assumption
    | contradiction
    | exact fin0 (by kernel_rfl) (by kernel_rfl) (by first | exact h | simpa using h)
    | exact ask_of gc gk.1 gk.2.1
    | exact T.ask
    | exact bck_ck k0
    | (refine fin2x rfl rfl rfl (fun _ _ _ _ => rfl) (fun i j hi hj => ?_) (h _ ‹_› _ (by omega) _ (by omega))
       simp [appF])
    | exact fin2x rfl rfl rfl (fun _ _ _ _ => rfl) (fun _ _ _ _ => rfl) (h _ _ _ (placed (.inl rfl) T ‹_›) (by omega) _ (by constructor <;> (try intro k hk) <;> simp [appF, litF] <;> omega) _ (by omega) _ (by omega))
    | exact fin2x rfl rfl rfl (fun _ _ _ _ => rfl) (fun _ _ _ _ => rfl) (h _ _ _ (placed (.inl rfl) T ‹_›) (by omega) _ (by constructor <;> (try intro k hk) <;> simp [appF, litF, hk]) _ (by omega) _ (by omega))
    | (obtain rfl : nt = 0 := (by simp at hq; omega)
       first
         | exact fin2x rfl rfl rfl (fun _ _ _ _ => rfl) (fun _ _ _ _ => rfl) (h _ _ _ (placed (.inl rfl) T ‹_›) (by omega) _ (by constructor <;> (try intro k hk) <;> simp [appF, litF] <;> omega) _ (by omega) _ (by omega))
         | exact fin2x rfl rfl rfl (fun _ _ _ _ => rfl) (fun _ _ _ _ => rfl) (h _ _ _ (placed (.inl rfl) T ‹_›) (by omega) _ (by constructor <;> (try intro k hk) <;> simp [appF, litF, hk]) _ (by omega) _ (by omega)))
    | (have z : fl (ft (Int.toNat (((nt : Nat) : Int) - 1)) 0).toNat 0 = 0 := (by assumption)
       omega)
    | (exfalso; simp at hq; omega)
    | (exfalso; simp at hq; simp_all; omega)
theorem con56F_ok : BodyOk (mkB X56F) 7 Try.f56 con56F := by
  intro vs bs K hh hro
  clear hro
  unfold con56F at hh
  split at hh
  · rename_i u vl vt s y
    obtain ⟨a, b, c, d, e, rfl, hI, hh0⟩ := five_inv hh
    obtain ⟨el, nl, cl, fl, btl, rfl, hnl, rfl, hh1⟩ := parseR_inv hh0
    rcases parse_inv hh1 with ⟨rfl, hh2⟩ | ⟨et, nt, ct, ft, btt, rfl, hnt, rfl, hh2⟩ <;> clear hh1
    · obtain ⟨rfl, ⟨h1, hu, hbd, hf⟩, hc⟩ := hh2
      exact ⟨_, _, cast (con56F_rnE a b c d e el nl cl fl s y K) (con56F_rnP a b c d e el nl cl fl s y K hI hnl h1 hu hbd hf hc)⟩
    · obtain ⟨rfl, ⟨h1, hu, hbd, hf⟩, hc⟩ := hh2
      exact ⟨_, _, cast (con56F_rrE a b c d e el nl cl fl et nt ct ft s y K) (con56F_rrP a b c d e el nl cl fl et nt ct ft s y K hI hnl hnt h1 hu hbd hf hc)⟩
  · exact hh.elim
theorem con56F_told : Told 56 (specOf con56F) := toldB (X := X56F) X56F_told (by kernel_rfl) (by kernel_rfl) (by kernel_rfl) con56F_ok
def con56T_rnV (a b c d e : Int) (el nl cl : Nat) (fl : RF) (s : Int) (y : Int) (K : Value → List Blk → Prop) : Prop := let q0 := ((0 : Nat) + nl ≤ nl); let q1 := (nl ≤ (100000 : Nat)); let q2 := eB; let q3 := (List.length [IntKind.i64]); let q4 := (@Eq Nat ((0 : Nat)) ((0 : Nat))); let q5 := (askT a b c d e nl fl (0 : Nat) zF s y); let q6 := TS; let q7 := ((0 : Nat), rT el nl cl fl); let q8 := eK; let q9 := (q8 ∧ ((@Eq Nat (nl) (nl)) ∧ (@Eq Nat (cl) (cl)))); let q10 := ((1 : Nat), Blk.cells [vi a, vi b, vi c, vi d, vi e] (23 : Nat)); (t3 (q0 ∧ (t3 ((InC a b c d e) ∧ (q4 ∧ (q1 ∧ (q9 ∧ (q2 ∧ ((True) ∧ (T0 ∧ (if (@Eq Int q5 ((0 : Int))) then (q6 ∧ (t4 (q6 ∧ (q6 ∧ (t3 (((0 : Nat) ≤ (100000 : Nat)) ∧ (T0 ∧ (q4 ∧ (t2 (q0 ∧ (t3 ((InC a b c d e) ∧ (q4 ∧ (q1 ∧ (q9 ∧ (q2 ∧ (((@Eq Int q5 ((0 : Int))) ∧ (¬useT a fl (0 : Nat) zF s y)) ∧ (t3 (q0 ∧ (T0 ∧ ((InC a b c d e) ∧ (q4 ∧ (q1 ∧ (q9 ∧ (q2 ∧ (((@Eq Int (Prod.snd (ckF a b c d e nl fl)) ((0 : Int))) ∧ (¬sel (selE fl (0 : Int)) nl = [])) ∧ (∀ y0 : Nat, let q11 := (litF q3 ([(↑y0 : Int)] ++ [])); (∀ y1 : Nat → Nat → Int, ((Taken a b c d e nl fl (1 : Int) y0 y1) → (∀ y2 : Nat, ((nl ≤ y2) → (q6 ∧ (t4 (q6 ∧ (q6 ∧ (t4 (((1 : Nat) ≤ (1 : Nat)) ∧ (((1 : Nat) ≤ (100000 : Nat)) ∧ (T0 ∧ (q4 ∧ (∀ y3 : Nat, let q12 := (y3 - (1 : Nat) + (1 : Nat)); (((1 : Nat) ≤ y3) → (t3 (q0 ∧ (t2 ((InC a b c d e) ∧ (q4 ∧ (q1 ∧ ((q8 ∧ ((@Eq Nat (nl) (nl)) ∧ (@Eq Nat (y2) (y2)))) ∧ (q2 ∧ (((@Eq Int (askF a b c d e nl y1 (↑y0 : Int)) ((0 : Int))) ∧ (((1 : Int) ≤ y) ∧ ((¬y1 y0 (0 : Nat) = (0 : Int)) ∧ (y ≤ a - y1 y0 (1 : Nat))))) ∧ (∀ y4 : Nat → Nat → Int, ((Bumped a b c d e nl y1 (↑y0 : Int) y y4) → (∀ y5 : Nat, ((nl ≤ y5) → (T0 ∧ (∃ y6 : Value, (∃ y7 : List Blk, ((Go.Rx.Found 1 (Value.tuple { toList := [vi ((1 : Int) + c + (↑y0 : Int) * a + y1 y0 (1 : Nat)), rsl (6 : Nat) (0 : Nat) nl y5, rsl (5 : Nat) (0 : Nat) (1 : Nat) q12, vi (0 : Int)] }) ({ h := [((6 : Nat), rF (54 : Nat) nl y5 y4), ((5 : Nat), Blk.row false [IntKind.i64] (3 : Nat) (1 : Nat) q12 (appF (fun x x_1 ↦ (0 : Int)) (0 : Nat) q11 (0 : Nat))), ((4 : Nat), Blk.row false [IntKind.i64] (3 : Nat) (1 : Nat) (1 : Nat) q11), ((3 : Nat), rF (54 : Nat) nl y2 y1), ((2 : Nat), Blk.row false [IntKind.i64] (3 : Nat) (0 : Nat) (0 : Nat) (litF q3 [])), q10, q7], next := (7 : Nat) }) (y6) (y7)) ∧ (K y6 y7)))))))))))))))))))))))))))))))))))))))))))))))))))))))))))) else (∃ y0 : Value, (∃ y1 : List Blk, ((Go.Rx.Found 1 (Value.tuple { toList := [vi (0 : Int), vn, vn, vi q5] }) ({ h := [q10, q7], next := (2 : Nat) }) (y0) (y1)) ∧ (K y0 y1)))))))))))))))
theorem con56T_rnE (a b c d e : Int) (el nl cl : Nat) (fl : RF) (s : Int) (y : Int) (K : Value → List Blk → Prop) : con56T_rnV a b c d e el nl cl fl s y K = bodyX (mkB X56T) (callN (mkB X56T) 7) (con56T_rnA a b c d e el nl cl fl s y) Try.f56 [five' a b c d e, rsl 0 0 nl cl, .slice none 0 0, .int .i64 s, .int .i64 y] (stOf [.row true [.i64, .i64] el nl cl fl]) (Fd 1 K) := by kernel_rfl
set_option tactic.hygienic false in
theorem con56T_rnP (a b c d e : Int) (el nl cl : Nat) (fl : RF) (s : Int) (y : Int) (K : Value → List Blk → Prop)  (hI : InC a b c d e) (hnl : nl ≤ 100000) (h1 : askT a b c d e nl fl 0 zF s y = 0) (hu : ¬ useT a fl 0 zF s y) (hf : ¬ sel (selE fl 0) nl = []) (hbd : 0 ≤ 1000) (h : ∀ i g z, Placed a b c d e nl fl 1 i y g → z = 1 + c + (i : Int) * a → ∀ h, App 0 zF i h → ∀ cp, nl ≤ cp → ∀ cp2, 0 + 1 ≤ cp2 → K (.tuple ⟨[.int .i64 z, rsl 1 0 nl cp, rsl (1 + 1) 0 (0 + 1) cp2, .int .i64 0]⟩) [.row false [.i64, .i64] 54 nl cp g, .row false [.i64] 3 (0 + 1) cp2 h]) : con56T_rnV a b c d e el nl cl fl s y K := by
  unfold con56T_rnV
  conv => zeta
  obtain ⟨k0, k1, k2, k3, k4, k5⟩ := askT_bck h1
  obtain ⟨g1, g2, g3, g4⟩ := bck_ok k0
  have gc := bck_ck k0
  have go := bck_one k0
  have hu2 : ¬ (0 < 0 ∧ fl (zF (Int.toNat (((0 : Nat) : Int) - 1)) 0).toNat 0 = 1 ∧ ¬ zF (Int.toNat (((0 : Nat) : Int) - 1)) 0 = s ∧ y ≤ a - fl (zF (Int.toNat (((0 : Nat) : Int) - 1)) 0).toNat 1) := hu
  repeat' (first | (with_reducible first | exact rfl | exact trivial | refine And.intro ?_ ?_ | refine br_intro (fun hq => ?_) fun hq => ?_ | refine if_both (fun hz => ?_) fun hz => ?_) | (intro) | fail)
  all_goals try (have gk := gk (by omega))
  all_goals try (rename Taken _ _ _ _ _ _ _ _ _ _ => T; have T0 := T.now0; have T1 := T.now1)
  all_goals first
    | omega
    | assumption
    | contradiction
    | exact fin0 (by kernel_rfl) (by kernel_rfl) (by first | exact h | simpa using h)
    | exact ask_of gc gk.1 gk.2.1
    | exact T.ask
    | exact bck_ck k0
    | (refine fin2x rfl rfl rfl (fun _ _ _ _ => rfl) (fun i j hi hj => ?_) (h _ ‹_› _ (by omega) _ (by omega))
       simp [appF])
    | exact fin2x rfl rfl rfl (fun _ _ _ _ => rfl) (fun _ _ _ _ => rfl) (h _ _ _ (placed (.inl rfl) T ‹_›) (by omega) _ (by constructor <;> (try intro k hk) <;> simp [appF, litF] <;> omega) _ (by omega) _ (by omega))
    | exact fin2x rfl rfl rfl (fun _ _ _ _ => rfl) (fun _ _ _ _ => rfl) (h _ _ _ (placed (.inl rfl) T ‹_›) (by omega) _ (by constructor <;> (try intro k hk) <;> simp [appF, litF, hk]) _ (by omega) _ (by omega))
    | (obtain rfl : nt = 0 := (by simp at hq; omega)
       first
         | exact fin2x rfl rfl rfl (fun _ _ _ _ => rfl) (fun _ _ _ _ => rfl) (h _ _ _ (placed (.inl rfl) T ‹_›) (by omega) _ (by constructor <;> (try intro k hk) <;> simp [appF, litF] <;> omega) _ (by omega) _ (by omega))
         | exact fin2x rfl rfl rfl (fun _ _ _ _ => rfl) (fun _ _ _ _ => rfl) (h _ _ _ (placed (.inl rfl) T ‹_›) (by omega) _ (by constructor <;> (try intro k hk) <;> simp [appF, litF, hk]) _ (by omega) _ (by omega)))
    | (have z : fl (ft (Int.toNat (((nt : Nat) : Int) - 1)) 0).toNat 0 = 0 := (by assumption)
       omega)
    | (exfalso; simp at hq; omega)
    | (exfalso; simp at hq; simp_all; omega)
def con56T_rrV (a b c d e : Int) (el nl cl : Nat) (fl : RF) (et nt ct : Nat) (ft : RF) (s : Int) (y : Int) (K : Value → List Blk → Prop) : Prop := let q0 := ((0 : Nat) + nl ≤ nl); let q1 := ((0 : Nat) + nt ≤ nt); let q2 := (nl ≤ (100000 : Nat)); let q3 := (nt ≤ (100000 : Nat)); let q4 := ((1 : Nat) ≤ (1 : Nat)); let q5 := eB; let q6 := (List.length [IntKind.i64]); let q7 := ((1 : Nat) ≤ (100000 : Nat)); let q8 := (askT a b c d e nl fl nt ft s y); let q9 := (@Eq Nat ((0 : Nat)) ((0 : Nat))); let q10 := (@Eq Nat ((1 : Nat)) ((1 : Nat))); let q11 := TS; let q12 := ((1 : Nat), Blk.row true [IntKind.i64] et nt ct ft); let q13 := ((0 : Nat), rT el nl cl fl); let q14 := eK; let q15 := ((@Eq Int q8 ((0 : Int))) ∧ (¬useT a fl nt ft s y)); let q16 := ((@Eq Int (Prod.snd (ckF a b c d e nl fl)) ((0 : Int))) ∧ (¬sel (selE fl (0 : Int)) nl = [])); let q17 := ((@Eq (List IntKind) ([IntKind.i64]) ([IntKind.i64])) ∧ ((@Eq Nat (nt) (nt)) ∧ (@Eq Nat (ct) (ct)))); let q18 := ((3 : Nat), Blk.row false [IntKind.i64] (3 : Nat) (0 : Nat) (0 : Nat) (litF q6 [])); let q19 := (q14 ∧ ((@Eq Nat (nl) (nl)) ∧ (@Eq Nat (cl) (cl)))); let q20 := ((2 : Nat), Blk.cells [vi a, vi b, vi c, vi d, vi e] (23 : Nat)); (t3 (q0 ∧ (q1 ∧ (t2 ((InC a b c d e) ∧ (q9 ∧ (q2 ∧ (q19 ∧ (q10 ∧ (q3 ∧ (q17 ∧ (q5 ∧ ((True) ∧ (T0 ∧ (if (@Eq Int q8 ((0 : Int))) then (q11 ∧ (t4 (q11 ∧ (q11 ∧ (t4 (q1 ∧ (q3 ∧ (T0 ∧ (q9 ∧ (Go.Rx.br (decide ((0 : Nat) < nt)) (∀ y0 : Nat, let q25 := (y0 - (1 : Nat) + (1 : Nat)); ((nt ≤ y0) → (t2 (q0 ∧ (q1 ∧ (t2 ((InC a b c d e) ∧ (q9 ∧ (q2 ∧ (q19 ∧ (q10 ∧ (q3 ∧ (q17 ∧ (q5 ∧ (q15 ∧ (t3 (q0 ∧ (T0 ∧ ((InC a b c d e) ∧ (q9 ∧ (q2 ∧ (q19 ∧ (q5 ∧ (q16 ∧ (∀ y1 : Nat, let q23 := (litF q6 ([(↑y1 : Int)] ++ [])); (∀ y2 : Nat → Nat → Int, ((Taken a b c d e nl fl (1 : Int) y1 y2) → (∀ y3 : Nat, ((nl ≤ y3) → (q11 ∧ (t4 (q11 ∧ (q11 ∧ (t4 (q4 ∧ (q7 ∧ (T0 ∧ ((T0 ∧ ((false = false) ∧ (q9 ∧ ((@Eq Nat (nt) (nt)) ∧ ((@Eq Nat q25 q25) ∧ (nt + (1 : Nat) ≤ (100000 : Nat))))))) ∧ (∀ y4 : Nat, let q24 := (y4 - (1 : Nat) + (1 : Nat)); ((nt + (1 : Nat) ≤ y4) → (t3 (q0 ∧ (t2 ((InC a b c d e) ∧ (q9 ∧ (q2 ∧ ((q14 ∧ ((@Eq Nat (nl) (nl)) ∧ (@Eq Nat (y3) (y3)))) ∧ (q5 ∧ (((@Eq Int (askF a b c d e nl y2 (↑y1 : Int)) ((0 : Int))) ∧ (((1 : Int) ≤ y) ∧ ((¬y2 y1 (0 : Nat) = (0 : Int)) ∧ (y ≤ a - y2 y1 (1 : Nat))))) ∧ (∀ y5 : Nat → Nat → Int, ((Bumped a b c d e nl y2 (↑y1 : Int) y y5) → (∀ y6 : Nat, ((nl ≤ y6) → (T0 ∧ (∃ y7 : Value, (∃ y8 : List Blk, ((Go.Rx.Found 2 (Value.tuple { toList := [vi ((1 : Int) + c + (↑y1 : Int) * a + y2 y1 (1 : Nat)), rsl (8 : Nat) (0 : Nat) nl y6, rsl (7 : Nat) (0 : Nat) (nt + (1 : Nat)) q24, vi (0 : Int)] }) ({ h := [((8 : Nat), rF (54 : Nat) nl y6 y5), ((7 : Nat), Blk.row false [IntKind.i64] (3 : Nat) (nt + (1 : Nat)) q24 (appF (appF (fun x x_1 ↦ (0 : Int)) (0 : Nat) ft (0 : Nat)) nt q23 (0 : Nat))), ((6 : Nat), Blk.row false [IntKind.i64] (3 : Nat) (1 : Nat) (1 : Nat) q23), ((5 : Nat), rF (54 : Nat) nl y3 y2), q18, q20, q13, q12], next := (9 : Nat) }) (y7) (y8)) ∧ (K y7 y8)))))))))))))))))))))))))))))))))))))))))))))))))))))))))) (t2 (q0 ∧ (q1 ∧ (t2 ((InC a b c d e) ∧ (q9 ∧ (q2 ∧ (q19 ∧ (q10 ∧ (q3 ∧ (q17 ∧ (q5 ∧ (q15 ∧ (t3 (q0 ∧ (T0 ∧ ((InC a b c d e) ∧ (q9 ∧ (q2 ∧ (q19 ∧ (q5 ∧ (q16 ∧ (∀ y0 : Nat, let q21 := (litF q6 ([(↑y0 : Int)] ++ [])); (∀ y1 : Nat → Nat → Int, ((Taken a b c d e nl fl (1 : Int) y0 y1) → (∀ y2 : Nat, ((nl ≤ y2) → (q11 ∧ (t4 (q11 ∧ (q11 ∧ (t4 (q4 ∧ (q7 ∧ (T0 ∧ (q9 ∧ (∀ y3 : Nat, let q22 := (y3 - (1 : Nat) + (1 : Nat)); (((1 : Nat) ≤ y3) → (t3 (q0 ∧ (t2 ((InC a b c d e) ∧ (q9 ∧ (q2 ∧ ((q14 ∧ ((@Eq Nat (nl) (nl)) ∧ (@Eq Nat (y2) (y2)))) ∧ (q5 ∧ (((@Eq Int (askF a b c d e nl y1 (↑y0 : Int)) ((0 : Int))) ∧ (((1 : Int) ≤ y) ∧ ((¬y1 y0 (0 : Nat) = (0 : Int)) ∧ (y ≤ a - y1 y0 (1 : Nat))))) ∧ (∀ y4 : Nat → Nat → Int, ((Bumped a b c d e nl y1 (↑y0 : Int) y y4) → (∀ y5 : Nat, ((nl ≤ y5) → (T0 ∧ (∃ y6 : Value, (∃ y7 : List Blk, ((Go.Rx.Found 2 (Value.tuple { toList := [vi ((1 : Int) + c + (↑y0 : Int) * a + y1 y0 (1 : Nat)), rsl (7 : Nat) (0 : Nat) nl y5, rsl (6 : Nat) (0 : Nat) (1 : Nat) q22, vi (0 : Int)] }) ({ h := [((7 : Nat), rF (54 : Nat) nl y5 y4), ((6 : Nat), Blk.row false [IntKind.i64] (3 : Nat) (1 : Nat) q22 (appF (fun x x_1 ↦ (0 : Int)) (0 : Nat) q21 (0 : Nat))), ((5 : Nat), Blk.row false [IntKind.i64] (3 : Nat) (1 : Nat) (1 : Nat) q21), ((4 : Nat), rF (54 : Nat) nl y2 y1), q18, q20, q13, q12], next := (8 : Nat) }) (y6) (y7)) ∧ (K y6 y7)))))))))))))))))))))))))))))))))))))))))))))))))))))))))))))))))) else (∃ y0 : Value, (∃ y1 : List Blk, ((Go.Rx.Found 2 (Value.tuple { toList := [vi (0 : Int), vn, vn, vi q8] }) ({ h := [q20, q13, q12], next := (3 : Nat) }) (y0) (y1)) ∧ (K y0 y1)))))))))))))))))))
theorem con56T_rrE (a b c d e : Int) (el nl cl : Nat) (fl : RF) (et nt ct : Nat) (ft : RF) (s : Int) (y : Int) (K : Value → List Blk → Prop) : con56T_rrV a b c d e el nl cl fl et nt ct ft s y K = bodyX (mkB X56T) (callN (mkB X56T) 7) (con56T_rrA a b c d e el nl cl fl et nt ct ft s y) Try.f56 [five' a b c d e, rsl 0 0 nl cl, rsl 1 0 nt ct, .int .i64 s, .int .i64 y] (stOf [.row true [.i64, .i64] el nl cl fl, .row true [.i64] et nt ct ft]) (Fd 2 K) := by kernel_rfl
set_option tactic.hygienic false in
theorem con56T_rrP (a b c d e : Int) (el nl cl : Nat) (fl : RF) (et nt ct : Nat) (ft : RF) (s : Int) (y : Int) (K : Value → List Blk → Prop)  (hI : InC a b c d e) (hnl : nl ≤ 100000) (hnt : nt ≤ 100000) (h1 : askT a b c d e nl fl nt ft s y = 0) (hu : ¬ useT a fl nt ft s y) (hf : ¬ sel (selE fl 0) nl = []) (hbd : nt ≤ 1000) (h : ∀ i g z, Placed a b c d e nl fl 1 i y g → z = 1 + c + (i : Int) * a → ∀ h, App nt ft i h → ∀ cp, nl ≤ cp → ∀ cp2, nt + 1 ≤ cp2 → K (.tuple ⟨[.int .i64 z, rsl 2 0 nl cp, rsl (2 + 1) 0 (nt + 1) cp2, .int .i64 0]⟩) [.row false [.i64, .i64] 54 nl cp g, .row false [.i64] 3 (nt + 1) cp2 h]) : con56T_rrV a b c d e el nl cl fl et nt ct ft s y K := by
  unfold con56T_rrV
  conv => zeta
  obtain ⟨k0, k1, k2, k3, k4, k5⟩ := askT_bck h1
  obtain ⟨g1, g2, g3, g4⟩ := bck_ok k0
  have gc := bck_ck k0
  have go := bck_one k0
  have gk := fun h : 0 < nt => go (Int.toNat ((nt : Int) - 1)) (by omega)
  have hu2 : ¬ (0 < nt ∧ fl (ft (Int.toNat (((nt : Nat) : Int) - 1)) 0).toNat 0 = 1 ∧ ¬ ft (Int.toNat (((nt : Nat) : Int) - 1)) 0 = s ∧ y ≤ a - fl (ft (Int.toNat (((nt : Nat) : Int) - 1)) 0).toNat 1) := hu
  repeat' (first | (with_reducible first | exact rfl | exact trivial | refine And.intro ?_ ?_ | refine br_intro (fun hq => ?_) fun hq => ?_ | refine if_both (fun hz => ?_) fun hz => ?_) | (intro) | fail)
  all_goals try (have gk := gk (by omega))
  all_goals try (rename Taken _ _ _ _ _ _ _ _ _ _ => T; have T0 := T.now0; have T1 := T.now1)
  all_goals first
    | omega
    | assumption
    | contradiction
    | exact fin0 (by kernel_rfl) (by kernel_rfl) (by first | exact h | simpa using h)
    | exact ask_of gc gk.1 gk.2.1
    | exact T.ask
    | exact bck_ck k0
    | (refine fin2x rfl rfl rfl (fun _ _ _ _ => rfl) (fun i j hi hj => ?_) (h _ ‹_› _ (by omega) _ (by omega))
       simp [appF])
    | exact fin2x rfl rfl rfl (fun _ _ _ _ => rfl) (fun _ _ _ _ => rfl) (h _ _ _ (placed (.inl rfl) T ‹_›) (by omega) _ (by constructor <;> (try intro k hk) <;> simp [appF, litF] <;> omega) _ (by omega) _ (by omega))
    | exact fin2x rfl rfl rfl (fun _ _ _ _ => rfl) (fun _ _ _ _ => rfl) (h _ _ _ (placed (.inl rfl) T ‹_›) (by omega) _ (by constructor <;> (try intro k hk) <;> simp [appF, litF, hk]) _ (by omega) _ (by omega))
    | (obtain rfl : nt = 0 := (by simp at hq; omega)
       first
         | exact fin2x rfl rfl rfl (fun _ _ _ _ => rfl) (fun _ _ _ _ => rfl) (h _ _ _ (placed (.inl rfl) T ‹_›) (by omega) _ (by constructor <;> (try intro k hk) <;> simp [appF, litF] <;> omega) _ (by omega) _ (by omega))
         | exact fin2x rfl rfl rfl (fun _ _ _ _ => rfl) (fun _ _ _ _ => rfl) (h _ _ _ (placed (.inl rfl) T ‹_›) (by omega) _ (by constructor <;> (try intro k hk) <;> simp [appF, litF, hk]) _ (by omega) _ (by omega)))
    | (have z : fl (ft (Int.toNat (((nt : Nat) : Int) - 1)) 0).toNat 0 = 0 := (by assumption)
       omega)
    | (exfalso; simp at hq; omega)
    | (exfalso; simp at hq; simp_all; omega)
theorem con56T_ok : BodyOk (mkB X56T) 7 Try.f56 con56T := by
  intro vs bs K hh hro
  clear hro
  unfold con56T at hh
  split at hh
  · rename_i u vl vt s y
    obtain ⟨a, b, c, d, e, rfl, hI, hh0⟩ := five_inv hh
    obtain ⟨el, nl, cl, fl, btl, rfl, hnl, rfl, hh1⟩ := parseR_inv hh0
    rcases parse_inv hh1 with ⟨rfl, hh2⟩ | ⟨et, nt, ct, ft, btt, rfl, hnt, rfl, hh2⟩ <;> clear hh1
    · obtain ⟨rfl, ⟨h1, hu, hf, hbd⟩, hc⟩ := hh2
      exact ⟨_, _, cast (con56T_rnE a b c d e el nl cl fl s y K) (con56T_rnP a b c d e el nl cl fl s y K hI hnl h1 hu hf hbd hc)⟩
    · obtain ⟨rfl, ⟨h1, hu, hf, hbd⟩, hc⟩ := hh2
      exact ⟨_, _, cast (con56T_rrE a b c d e el nl cl fl et nt ct ft s y K) (con56T_rrP a b c d e el nl cl fl et nt ct ft s y K hI hnl hnt h1 hu hf hbd hc)⟩
  · exact hh.elim
theorem con56T_told : Told 56 (specOf con56T) := toldB (X := X56T) X56T_told (by kernel_rfl) (by kernel_rfl) (by kernel_rfl) con56T_ok
end Go.Proofs.Ytkflmglpniebfaa.Fr
namespace Go.Proofs.Ytkflmglpniebfaa.Fr
set_option maxRecDepth 100000
set_option maxHeartbeats 4000000
open Go.Rx
open Go.RowKit (Below)
set_option linter.unusedVariables false
theorem app_same2 {n : Nat} {f : RF} {x : Int} {h h' : RF} (p : (∀ k, k < n → h k 0 = f k 0) ∧ h n 0 = x) (q : (∀ k, k < n → h' k 0 = f k 0) ∧ h' n 0 = x) (k : Nat) (hk : k < n + 1) : h k 0 = h' k 0 := by
  rcases Nat.lt_or_ge k n with z | z
  · rw [p.1 k z, q.1 k z]
  · obtain rfl : k = n := by omega
    rw [p.2, q.2]
theorem ins_same2 {n : Nat} {f : RF} {x : Int} {h h' : RF} (hn : 0 < n) (p : (∀ k, k + 1 < n → h k 0 = f k 0) ∧ h (n - 1) 0 = x ∧ h n 0 = f (n - 1) 0) (q : (∀ k, k + 1 < n → h' k 0 = f k 0) ∧ h' (n - 1) 0 = x ∧ h' n 0 = f (n - 1) 0) (k : Nat) (hk : k < n + 1) : h k 0 = h' k 0 := by
  rcases Nat.lt_or_ge (k + 1) n with z | z
  · rw [p.1 k z, q.1 k z]
  · rcases Nat.lt_or_ge k n with z2 | z2
    · obtain rfl : k = n - 1 := by omega
      rw [p.2.1, q.2.1]
    · obtain rfl : k = n := by omega
      rw [p.2.2, q.2.2]
@[reducible] def XL11far : List (Nat × Rx.Spec) := [(48, sp48)]
theorem XL11far_told : ∀ p ∈ XL11far, Told p.1 p.2 := by
  intro p hp
  simp only [List.mem_cons, List.not_mem_nil, or_false] at hp
  rcases hp with rfl
  · exact told48
@[reducible] def XL11BB : List (Nat × Rx.Spec) := [(48, sp48), (55, specOf con55B), (56, specOf con56B), (57, specOf con57B), (58, specOf con58B), (23, specOf conSameT), (28, specOf conIntsT)]
theorem XL11BB_told : ∀ p ∈ XL11BB, Told p.1 p.2 := by
  intro p hp
  simp only [List.mem_cons, List.not_mem_nil, or_false] at hp
  rcases hp with rfl | rfl | rfl | rfl | rfl | rfl | rfl
  · exact told48
  · exact con55B_told
  · exact con56B_told
  · exact con57B_told
  · exact con58B_told
  · exact conSameT_told
  · exact conIntsT_told
@[reducible] def XL11BF : List (Nat × Rx.Spec) := [(48, sp48), (55, specOf con55B), (56, specOf con56B), (57, specOf con57F), (58, specOf con58F), (23, specOf conSameT), (28, specOf conIntsT)]
theorem XL11BF_told : ∀ p ∈ XL11BF, Told p.1 p.2 := by
  intro p hp
  simp only [List.mem_cons, List.not_mem_nil, or_false] at hp
  rcases hp with rfl | rfl | rfl | rfl | rfl | rfl | rfl
  · exact told48
  · exact con55B_told
  · exact con56B_told
  · exact con57F_told
  · exact con58F_told
  · exact conSameT_told
  · exact conIntsT_told
@[reducible] def XL11FF : List (Nat × Rx.Spec) := [(48, sp48), (55, specOf con55F), (56, specOf con56F), (57, specOf con57F), (58, specOf con58F), (23, specOf conSameT), (28, specOf conIntsT)]
theorem XL11FF_told : ∀ p ∈ XL11FF, Told p.1 p.2 := by
  intro p hp
  simp only [List.mem_cons, List.not_mem_nil, or_false] at hp
  rcases hp with rfl | rfl | rfl | rfl | rfl | rfl | rfl
  · exact told48
  · exact con55F_told
  · exact con56F_told
  · exact con57F_told
  · exact con58F_told
  · exact conSameT_told
  · exact conIntsT_told
@[reducible] def XL11UF : List (Nat × Rx.Spec) := [(48, sp48), (55, specOf con55U), (56, specOf con56U), (57, specOf con57F), (58, specOf con58F), (23, specOf conSameT), (28, specOf conIntsT)]
theorem XL11UF_told : ∀ p ∈ XL11UF, Told p.1 p.2 := by
  intro p hp
  simp only [List.mem_cons, List.not_mem_nil, or_false] at hp
  rcases hp with rfl | rfl | rfl | rfl | rfl | rfl | rfl
  · exact told48
  · exact con55U_told
  · exact con56U_told
  · exact con57F_told
  · exact con58F_told
  · exact conSameT_told
  · exact conIntsT_told
@[reducible] def XL11BAN : List (Nat × Rx.Spec) := [(48, sp48), (55, specOf con55B), (56, specOf con56B), (57, specOf con57AN), (58, specOf con58A), (23, specOf conSameT), (28, specOf conIntsT)]
theorem XL11BAN_told : ∀ p ∈ XL11BAN, Told p.1 p.2 := by
  intro p hp
  simp only [List.mem_cons, List.not_mem_nil, or_false] at hp
  rcases hp with rfl | rfl | rfl | rfl | rfl | rfl | rfl
  · exact told48
  · exact con55B_told
  · exact con56B_told
  · exact con57AN_told
  · exact con58A_told
  · exact conSameT_told
  · exact conIntsT_told
@[reducible] def XL11TFN : List (Nat × Rx.Spec) := [(48, sp48), (55, specOf con55TN), (56, specOf con56T), (57, specOf con57F), (58, specOf con58F), (23, specOf conSameT), (28, specOf conIntsT)]
theorem XL11TFN_told : ∀ p ∈ XL11TFN, Told p.1 p.2 := by
  intro p hp
  simp only [List.mem_cons, List.not_mem_nil, or_false] at hp
  rcases hp with rfl | rfl | rfl | rfl | rfl | rfl | rfl
  · exact told48
  · exact con55TN_told
  · exact con56T_told
  · exact con57F_told
  · exact con58F_told
  · exact conSameT_told
  · exact conIntsT_told
@[reducible] def XL11TAN : List (Nat × Rx.Spec) := [(48, sp48), (55, specOf con55TN), (56, specOf con56T), (57, specOf con57AN), (58, specOf con58A), (23, specOf conSameT), (28, specOf conIntsT)]
theorem XL11TAN_told : ∀ p ∈ XL11TAN, Told p.1 p.2 := by
  intro p hp
  simp only [List.mem_cons, List.not_mem_nil, or_false] at hp
  rcases hp with rfl | rfl | rfl | rfl | rfl | rfl | rfl
  · exact told48
  · exact con55TN_told
  · exact con56T_told
  · exact con57AN_told
  · exact con58A_told
  · exact conSameT_told
  · exact conIntsT_told
@[reducible] def XL11BAE : List (Nat × Rx.Spec) := [(48, sp48), (55, specOf con55B), (56, specOf con56B), (57, specOf con57AE), (58, specOf con58A), (23, specOf conSameT), (28, specOf conIntsT)]
theorem XL11BAE_told : ∀ p ∈ XL11BAE, Told p.1 p.2 := by
  intro p hp
  simp only [List.mem_cons, List.not_mem_nil, or_false] at hp
  rcases hp with rfl | rfl | rfl | rfl | rfl | rfl | rfl
  · exact told48
  · exact con55B_told
  · exact con56B_told
  · exact con57AE_told
  · exact con58A_told
  · exact conSameT_told
  · exact conIntsT_told
@[reducible] def XL11TFE : List (Nat × Rx.Spec) := [(48, sp48), (55, specOf con55TE), (56, specOf con56T), (57, specOf con57F), (58, specOf con58F), (23, specOf conSameT), (28, specOf conIntsT)]
theorem XL11TFE_told : ∀ p ∈ XL11TFE, Told p.1 p.2 := by
  intro p hp
  simp only [List.mem_cons, List.not_mem_nil, or_false] at hp
  rcases hp with rfl | rfl | rfl | rfl | rfl | rfl | rfl
  · exact told48
  · exact con55TE_told
  · exact con56T_told
  · exact con57F_told
  · exact con58F_told
  · exact conSameT_told
  · exact conIntsT_told
@[reducible] def XL11TAE : List (Nat × Rx.Spec) := [(48, sp48), (55, specOf con55TE), (56, specOf con56T), (57, specOf con57AE), (58, specOf con58A), (23, specOf conSameT), (28, specOf conIntsT)]
theorem XL11TAE_told : ∀ p ∈ XL11TAE, Told p.1 p.2 := by
  intro p hp
  simp only [List.mem_cons, List.not_mem_nil, or_false] at hp
  rcases hp with rfl | rfl | rfl | rfl | rfl | rfl | rfl
  · exact told48
  · exact con55TE_told
  · exact con56T_told
  · exact con57AE_told
  · exact con58A_told
  · exact conSameT_told
  · exact conIntsT_told
@[reducible] def XL11BAG : List (Nat × Rx.Spec) := [(48, sp48), (55, specOf con55B), (56, specOf con56B), (57, specOf con57AG), (58, specOf con58A), (23, specOf conSameT), (28, specOf conIntsT)]
theorem XL11BAG_told : ∀ p ∈ XL11BAG, Told p.1 p.2 := by
  intro p hp
  simp only [List.mem_cons, List.not_mem_nil, or_false] at hp
  rcases hp with rfl | rfl | rfl | rfl | rfl | rfl | rfl
  · exact told48
  · exact con55B_told
  · exact con56B_told
  · exact con57AG_told
  · exact con58A_told
  · exact conSameT_told
  · exact conIntsT_told
@[reducible] def XL11TFG : List (Nat × Rx.Spec) := [(48, sp48), (55, specOf con55TG), (56, specOf con56T), (57, specOf con57F), (58, specOf con58F), (23, specOf conSameT), (28, specOf conIntsT)]
theorem XL11TFG_told : ∀ p ∈ XL11TFG, Told p.1 p.2 := by
  intro p hp
  simp only [List.mem_cons, List.not_mem_nil, or_false] at hp
  rcases hp with rfl | rfl | rfl | rfl | rfl | rfl | rfl
  · exact told48
  · exact con55TG_told
  · exact con56T_told
  · exact con57F_told
  · exact con58F_told
  · exact conSameT_told
  · exact conIntsT_told
@[reducible] def XL11TAG : List (Nat × Rx.Spec) := [(48, sp48), (55, specOf con55TG), (56, specOf con56T), (57, specOf con57AG), (58, specOf con58A), (23, specOf conSameT), (28, specOf conIntsT)]
theorem XL11TAG_told : ∀ p ∈ XL11TAG, Told p.1 p.2 := by
  intro p hp
  simp only [List.mem_cons, List.not_mem_nil, or_false] at hp
  rcases hp with rfl | rfl | rfl | rfl | rfl | rfl | rfl
  · exact told48
  · exact con55TG_told
  · exact con56T_told
  · exact con57AG_told
  · exact con58A_told
  · exact conSameT_told
  · exact conIntsT_told
@[reducible] def XL11BIG : List (Nat × Rx.Spec) := [(48, sp48), (55, specOf con55B), (56, specOf con56B), (57, specOf con57I), (58, specOf con58I), (23, specOf conSameT), (28, specOf conIntsT)]
theorem XL11BIG_told : ∀ p ∈ XL11BIG, Told p.1 p.2 := by
  intro p hp
  simp only [List.mem_cons, List.not_mem_nil, or_false] at hp
  rcases hp with rfl | rfl | rfl | rfl | rfl | rfl | rfl
  · exact told48
  · exact con55B_told
  · exact con56B_told
  · exact con57I_told
  · exact con58I_told
  · exact conSameT_told
  · exact conIntsT_told
@[reducible] def XL11TIG : List (Nat × Rx.Spec) := [(48, sp48), (55, specOf con55TG), (56, specOf con56T), (57, specOf con57I), (58, specOf con58I), (23, specOf conSameT), (28, specOf conIntsT)]
theorem XL11TIG_told : ∀ p ∈ XL11TIG, Told p.1 p.2 := by
  intro p hp
  simp only [List.mem_cons, List.not_mem_nil, or_false] at hp
  rcases hp with rfl | rfl | rfl | rfl | rfl | rfl | rfl
  · exact told48
  · exact con55TG_told
  · exact con56T_told
  · exact con57I_told
  · exact con58I_told
  · exact conSameT_told
  · exact conIntsT_told
@[reducible] def XL11UAG : List (Nat × Rx.Spec) := [(48, sp48), (55, specOf con55U), (56, specOf con56U), (57, specOf con57AG), (58, specOf con58A), (23, specOf conSameT), (28, specOf conIntsT)]
theorem XL11UAG_told : ∀ p ∈ XL11UAG, Told p.1 p.2 := by
  intro p hp
  simp only [List.mem_cons, List.not_mem_nil, or_false] at hp
  rcases hp with rfl | rfl | rfl | rfl | rfl | rfl | rfl
  · exact told48
  · exact con55U_told
  · exact con56U_told
  · exact con57AG_told
  · exact con58A_told
  · exact conSameT_told
  · exact conIntsT_told
@[reducible] def XL11UIG : List (Nat × Rx.Spec) := [(48, sp48), (55, specOf con55U), (56, specOf con56U), (57, specOf con57I), (58, specOf con58I), (23, specOf conSameT), (28, specOf conIntsT)]
theorem XL11UIG_told : ∀ p ∈ XL11UIG, Told p.1 p.2 := by
  intro p hp
  simp only [List.mem_cons, List.not_mem_nil, or_false] at hp
  rcases hp with rfl | rfl | rfl | rfl | rfl | rfl | rfl
  · exact told48
  · exact con55U_told
  · exact con56U_told
  · exact con57I_told
  · exact con58I_told
  · exact conSameT_told
  · exact conIntsT_told
end Go.Proofs.Ytkflmglpniebfaa.Fr
namespace Go.Proofs.Ytkflmglpniebfaa.Fr
set_option maxRecDepth 100000
set_option maxHeartbeats 4000000
open Go.Rx
open Go.RowKit (Below)
set_option linter.unusedVariables false

def bplfar_nnA (a b c d e : Int) (s : Int) (y : Int) : Ann := fun _ _ _ => none
def bplfar_nrA (a b c d e : Int) (et nt ct : Nat) (ft : RF) (s : Int) (y : Int) : Ann := fun _ _ _ => none
def bplfar_rnA (a b c d e : Int) (el nl cl : Nat) (fl : RF) (s : Int) (y : Int) : Ann := fun _ _ _ => none
def bplfar_rrA (a b c d e : Int) (el nl cl : Nat) (fl : RF) (et nt ct : Nat) (ft : RF) (s : Int) (y : Int) : Ann := fun _ _ _ => none

def bplBB_nnA (a b c d e : Int) (s : Int) (y : Int) : Ann := fun _ _ _ => none
def bplBB_nrA (a b c d e : Int) (et nt ct : Nat) (ft : RF) (s : Int) (y : Int) : Ann := fun _ _ _ => none
def bplBB_rnA (a b c d e : Int) (el nl cl : Nat) (fl : RF) (s : Int) (y : Int) : Ann := fun _ _ _ => none
def bplBB_rrA (a b c d e : Int) (el nl cl : Nat) (fl : RF) (et nt ct : Nat) (ft : RF) (s : Int) (y : Int) : Ann := fun _ _ _ => none

def bplBF_rnA (a b c d e : Int) (el nl cl : Nat) (fl : RF) (s : Int) (y : Int) : Ann := fun _ _ _ => none
def bplBF_rrA (a b c d e : Int) (el nl cl : Nat) (fl : RF) (et nt ct : Nat) (ft : RF) (s : Int) (y : Int) : Ann := fun _ _ _ => none

def bplFF_rnA (a b c d e : Int) (el nl cl : Nat) (fl : RF) (s : Int) (y : Int) : Ann := fun _ _ _ => none
def bplFF_rrA (a b c d e : Int) (el nl cl : Nat) (fl : RF) (et nt ct : Nat) (ft : RF) (s : Int) (y : Int) : Ann := fun _ _ _ => none

def bplUF_rrA (a b c d e : Int) (el nl cl : Nat) (fl : RF) (et nt ct : Nat) (ft : RF) (s : Int) (y : Int) : Ann := fun _ _ _ => none

def bplBAN_rA (a b c d e : Int) (el nl cl : Nat) (fl : RF) (s : Int) (y : Int) : Ann := fun _ _ _ => none

def bplTFN_rA (a b c d e : Int) (el nl cl : Nat) (fl : RF) (s : Int) (y : Int) : Ann := fun _ _ _ => none

def bplTAN_rA (a b c d e : Int) (el nl cl : Nat) (fl : RF) (s : Int) (y : Int) : Ann := fun _ _ _ => none

def bplBAE_rrA (a b c d e : Int) (el nl cl : Nat) (fl : RF) (et nt ct : Nat) (ft : RF) (s : Int) (y : Int) : Ann := fun _ _ _ => none
def bplfar_nnV (a b c d e : Int) (s : Int) (y : Int) (K : Value → List Blk → Prop) : Prop := let q0 := TS; (t4 (q0 ∧ (t2 (q0 ∧ (t7 (q0 ∧ (t9 (T0 ∧ (False)))))))))
theorem bplfar_nnE (a b c d e : Int) (s : Int) (y : Int) (K : Value → List Blk → Prop) : bplfar_nnV a b c d e s y K = bodyX (mkB XL11far) (callN (mkB XL11far) 4) (bplfar_nnA a b c d e s y) Try.f11 [five' a b c d e, .agg ⟨[.slice none 0 0, .slice none 0 0, .int .i64 s]⟩, .int .i64 y] (stOf []) fun v _ => v = .bool true := by kernel_rfl
set_option tactic.hygienic false in
theorem bplfar_nnP (a b c d e : Int) (s : Int) (y : Int) (K : Value → List Blk → Prop)  (hI : InC a b c d e) (hf : 30 < 0 ∨ 30 < 0) : bplfar_nnV a b c d e s y K := by
  unfold bplfar_nnV
  conv => zeta

  repeat' (first | (with_reducible first | exact rfl | exact trivial | refine And.intro ?_ ?_ | refine br_intro (fun hq => ?_) fun hq => ?_ | refine if_both (fun hz => ?_) fun hz => ?_) | (intro) | fail)

  all_goals first
    | omega
    | assumption
    | contradiction
    | exact Nat.le_refl _
    | exact hct
    | exact ‹False›.elim
    | exact fun q => absurd q.1 (by omega)
    | (exfalso; simp at hq; omega)
    | (exfalso; simp_all; omega)
def bplfar_nrV (a b c d e : Int) (et nt ct : Nat) (ft : RF) (s : Int) (y : Int) (K : Value → List Blk → Prop) : Prop := let q0 := TS; (t4 (q0 ∧ (t2 (q0 ∧ (T0 ∧ (if ((30 : Int) < (↑nt : Int)) then ((@Eq (List Value) ([]) ([])) ∧ (@Eq (Value) (Value.bool true) (Value.bool true))) else (t6 (q0 ∧ (t9 (T0 ∧ (False)))))))))))
theorem bplfar_nrE (a b c d e : Int) (et nt ct : Nat) (ft : RF) (s : Int) (y : Int) (K : Value → List Blk → Prop) : bplfar_nrV a b c d e et nt ct ft s y K = bodyX (mkB XL11far) (callN (mkB XL11far) 4) (bplfar_nrA a b c d e et nt ct ft s y) Try.f11 [five' a b c d e, .agg ⟨[.slice none 0 0, rsl 0 0 nt ct, .int .i64 s]⟩, .int .i64 y] (stOf [.row true [.i64] et nt ct ft]) fun v _ => v = .bool true := by kernel_rfl
set_option tactic.hygienic false in
theorem bplfar_nrP (a b c d e : Int) (et nt ct : Nat) (ft : RF) (s : Int) (y : Int) (K : Value → List Blk → Prop)  (hI : InC a b c d e) (hct : nt ≤ ct) (hf : 30 < 0 ∨ 30 < nt) : bplfar_nrV a b c d e et nt ct ft s y K := by
  unfold bplfar_nrV
  conv => zeta

  repeat' (first | (with_reducible first | exact rfl | exact trivial | refine And.intro ?_ ?_ | refine br_intro (fun hq => ?_) fun hq => ?_ | refine if_both (fun hz => ?_) fun hz => ?_) | (intro) | fail)

  all_goals first
    | omega
    | assumption
    | contradiction
    | exact Nat.le_refl _
    | exact hct
    | exact ‹False›.elim
    | exact fun q => absurd q.1 (by omega)
    | (exfalso; simp at hq; omega)
    | (exfalso; simp_all; omega)
def bplfar_rnV (a b c d e : Int) (el nl cl : Nat) (fl : RF) (s : Int) (y : Int) (K : Value → List Blk → Prop) : Prop := let q0 := TS; (t4 (q0 ∧ (T0 ∧ (if ((30 : Int) < (↑nl : Int)) then ((@Eq (List Value) ([]) ([])) ∧ (@Eq (Value) (Value.bool true) (Value.bool true))) else (T0 ∧ (q0 ∧ (t7 (q0 ∧ (t9 (T0 ∧ (False)))))))))))
theorem bplfar_rnE (a b c d e : Int) (el nl cl : Nat) (fl : RF) (s : Int) (y : Int) (K : Value → List Blk → Prop) : bplfar_rnV a b c d e el nl cl fl s y K = bodyX (mkB XL11far) (callN (mkB XL11far) 4) (bplfar_rnA a b c d e el nl cl fl s y) Try.f11 [five' a b c d e, .agg ⟨[rsl 0 0 nl cl, .slice none 0 0, .int .i64 s]⟩, .int .i64 y] (stOf [.row true [.i64, .i64] el nl cl fl]) fun v _ => v = .bool true := by kernel_rfl
set_option tactic.hygienic false in
theorem bplfar_rnP (a b c d e : Int) (el nl cl : Nat) (fl : RF) (s : Int) (y : Int) (K : Value → List Blk → Prop)  (hI : InC a b c d e) (hf : 30 < nl ∨ 30 < 0) : bplfar_rnV a b c d e el nl cl fl s y K := by
  unfold bplfar_rnV
  conv => zeta

  repeat' (first | (with_reducible first | exact rfl | exact trivial | refine And.intro ?_ ?_ | refine br_intro (fun hq => ?_) fun hq => ?_ | refine if_both (fun hz => ?_) fun hz => ?_) | (intro) | fail)

  all_goals first
    | omega
    | assumption
    | contradiction
    | exact Nat.le_refl _
    | exact hct
    | exact ‹False›.elim
    | exact fun q => absurd q.1 (by omega)
    | (exfalso; simp at hq; omega)
    | (exfalso; simp_all; omega)
def bplfar_rrV (a b c d e : Int) (el nl cl : Nat) (fl : RF) (et nt ct : Nat) (ft : RF) (s : Int) (y : Int) (K : Value → List Blk → Prop) : Prop := let q0 := TS; let q1 := ((@Eq (List Value) ([]) ([])) ∧ (@Eq (Value) (Value.bool true) (Value.bool true))); (t4 (q0 ∧ (T0 ∧ (if ((30 : Int) < (↑nl : Int)) then q1 else (T0 ∧ (q0 ∧ (T0 ∧ (if ((30 : Int) < (↑nt : Int)) then q1 else (t6 (q0 ∧ (t9 (T0 ∧ (False)))))))))))))
theorem bplfar_rrE (a b c d e : Int) (el nl cl : Nat) (fl : RF) (et nt ct : Nat) (ft : RF) (s : Int) (y : Int) (K : Value → List Blk → Prop) : bplfar_rrV a b c d e el nl cl fl et nt ct ft s y K = bodyX (mkB XL11far) (callN (mkB XL11far) 4) (bplfar_rrA a b c d e el nl cl fl et nt ct ft s y) Try.f11 [five' a b c d e, .agg ⟨[rsl 0 0 nl cl, rsl 1 0 nt ct, .int .i64 s]⟩, .int .i64 y] (stOf [.row true [.i64, .i64] el nl cl fl, .row true [.i64] et nt ct ft]) fun v _ => v = .bool true := by kernel_rfl
set_option tactic.hygienic false in
theorem bplfar_rrP (a b c d e : Int) (el nl cl : Nat) (fl : RF) (et nt ct : Nat) (ft : RF) (s : Int) (y : Int) (K : Value → List Blk → Prop)  (hI : InC a b c d e) (hct : nt ≤ ct) (hf : 30 < nl ∨ 30 < nt) : bplfar_rrV a b c d e el nl cl fl et nt ct ft s y K := by
  unfold bplfar_rrV
  conv => zeta

  repeat' (first | (with_reducible first | exact rfl | exact trivial | refine And.intro ?_ ?_ | refine br_intro (fun hq => ?_) fun hq => ?_ | refine if_both (fun hz => ?_) fun hz => ?_) | (intro) | fail)

  all_goals first
    | omega
    | assumption
    | contradiction
    | exact Nat.le_refl _
    | exact hct
    | exact ‹False›.elim
    | exact fun q => absurd q.1 (by omega)
    | (exfalso; simp at hq; omega)
    | (exfalso; simp_all; omega)
def bplBB_nnV (a b c d e : Int) (s : Int) (y : Int) (K : Value → List Blk → Prop) : Prop := let q0 := eB; let q1 := (Nat.le (0 : Nat) (0 : Nat)); let q2 := (@Eq Nat ((0 : Nat)) ((0 : Nat))); let q3 := TS; let q4 := (askT a b c d e (0 : Nat) zF (0 : Nat) zF s y); let q5 := (@Eq (Value) (Value.bool false) (Value.bool true)); let q6 := (askT a b c d e (0 : Nat) zF (0 : Nat) zF (-1 : Int) y); let q7 := (¬askT a b c d e (0 : Nat) zF (0 : Nat) zF s y = (0 : Int)); let q8 := (¬askT a b c d e (0 : Nat) zF (0 : Nat) zF (-1 : Int) y = (0 : Int)); let q9 := (q2 ∧ (∀ y0 : Nat, ((y0 < (0 : Nat)) → (@Eq Int (zF y0 (0 : Nat)) (zF y0 (0 : Nat)))))); let q10 := (q2 ∧ (∀ y0 : Nat, ((y0 < (0 : Nat)) → ((@Eq Int (zF y0 (0 : Nat)) (zF y0 (0 : Nat))) ∧ (@Eq Int (zF y0 (1 : Nat)) (zF y0 (1 : Nat))))))); (t4 (q3 ∧ (t2 (q3 ∧ (t9 (T0 ∧ ((InC a b c d e) ∧ (q0 ∧ ((q1 ∧ q7) ∧ (t9 ((InC a b c d e) ∧ (q0 ∧ (q7 ∧ (t3 (q0 ∧ (q10 ∧ (t2 (q0 ∧ (q9 ∧ (T0 ∧ (if (@Eq Int q4 q4) then (t7 ((InC a b c d e) ∧ (q0 ∧ ((q1 ∧ q8) ∧ (t7 ((InC a b c d e) ∧ (q0 ∧ (q8 ∧ (t3 (q0 ∧ (q10 ∧ (t2 (q0 ∧ (q9 ∧ (T0 ∧ (if (@Eq Int q6 q6) then ((@Eq (List Value) ([]) ([])) ∧ (@Eq (Value) (Value.bool true) (Value.bool true))) else q5)))))))))))))))) else q5)))))))))))))))))))))
theorem bplBB_nnE (a b c d e : Int) (s : Int) (y : Int) (K : Value → List Blk → Prop) : bplBB_nnV a b c d e s y K = bodyX (mkB XL11BB) (callN (mkB XL11BB) 4) (bplBB_nnA a b c d e s y) Try.f11 [five' a b c d e, .agg ⟨[.slice none 0 0, .slice none 0 0, .int .i64 s]⟩, .int .i64 y] (stOf []) fun v _ => v = .bool true := by kernel_rfl
set_option tactic.hygienic false in
theorem bplBB_nnP (a b c d e : Int) (s : Int) (y : Int) (K : Value → List Blk → Prop)  (hI : InC a b c d e) (hf1 : 0 ≤ 30) (hf2 : 0 ≤ 30) (h1 : ¬ askT a b c d e 0 zF 0 zF s y = 0) (k1 : ¬ askT a b c d e 0 zF 0 zF (-1) y = 0) : bplBB_nnV a b c d e s y K := by
  unfold bplBB_nnV
  conv => zeta

  repeat' (first | (with_reducible first | exact rfl | exact trivial | refine And.intro ?_ ?_ | refine br_intro (fun hq => ?_) fun hq => ?_ | refine if_both (fun hz => ?_) fun hz => ?_) | (intro) | fail)

  all_goals first
    | omega
    | assumption
    | contradiction
    | exact Nat.le_refl _
    | exact hct
    | exact ‹False›.elim
    | exact fun q => absurd q.1 (by omega)
    | (exfalso; simp at hq; omega)
    | (exfalso; simp_all; omega)
def bplBB_nrV (a b c d e : Int) (et nt ct : Nat) (ft : RF) (s : Int) (y : Int) (K : Value → List Blk → Prop) : Prop := let q0 := ((0 : Nat) + nt ≤ nt); let q1 := (nt ≤ (100000 : Nat)); let q2 := eB; let q3 := (@Eq Nat ((0 : Nat)) ((0 : Nat))); let q4 := (askT a b c d e (0 : Nat) zF nt ft s y); let q5 := TS; let q6 := (askT a b c d e (0 : Nat) zF nt ft (-1 : Int) y); let q7 := (@Eq (Value) (Value.bool false) (Value.bool true)); let q8 := (¬askT a b c d e (0 : Nat) zF nt ft s y = (0 : Int)); let q9 := (¬askT a b c d e (0 : Nat) zF nt ft (-1 : Int) y = (0 : Int)); let q10 := ((@Eq (List Value) ([]) ([])) ∧ (@Eq (Value) (Value.bool true) (Value.bool true))); let q11 := ((@Eq (List IntKind) ([IntKind.i64]) ([IntKind.i64])) ∧ ((@Eq Nat (nt) (nt)) ∧ (@Eq Nat (ct) (ct)))); let q12 := (q3 ∧ (∀ y0 : Nat, ((y0 < (0 : Nat)) → (@Eq Int (zF y0 (0 : Nat)) (zF y0 (0 : Nat)))))); let q13 := (q3 ∧ (∀ y0 : Nat, ((y0 < (0 : Nat)) → ((@Eq Int (zF y0 (0 : Nat)) (zF y0 (0 : Nat))) ∧ (@Eq Int (zF y0 (1 : Nat)) (zF y0 (1 : Nat))))))); (t4 (q5 ∧ (t2 (q5 ∧ (T0 ∧ (if ((30 : Int) < (↑nt : Int)) then q10 else (t6 (q0 ∧ (t2 ((InC a b c d e) ∧ (q3 ∧ (q1 ∧ (q11 ∧ (q2 ∧ (((Nat.le nt ct) ∧ q8) ∧ (t6 (q0 ∧ (t2 ((InC a b c d e) ∧ (q3 ∧ (q1 ∧ (q11 ∧ (q2 ∧ (q8 ∧ (t3 (q2 ∧ (q13 ∧ (t2 (q2 ∧ (q12 ∧ (T0 ∧ (if (@Eq Int q4 q4) then (t5 (q0 ∧ (T0 ∧ ((InC a b c d e) ∧ (q3 ∧ (q1 ∧ (q11 ∧ (q2 ∧ (((Nat.le nt ct) ∧ q9) ∧ (t5 (q0 ∧ (T0 ∧ ((InC a b c d e) ∧ (q3 ∧ (q1 ∧ (q11 ∧ (q2 ∧ (q9 ∧ (t3 (q2 ∧ (q13 ∧ (t2 (q2 ∧ (q12 ∧ (T0 ∧ (if (@Eq Int q6 q6) then q10 else q7)))))))))))))))))))))))))) else q7))))))))))))))))))))))))))))))))
theorem bplBB_nrE (a b c d e : Int) (et nt ct : Nat) (ft : RF) (s : Int) (y : Int) (K : Value → List Blk → Prop) : bplBB_nrV a b c d e et nt ct ft s y K = bodyX (mkB XL11BB) (callN (mkB XL11BB) 4) (bplBB_nrA a b c d e et nt ct ft s y) Try.f11 [five' a b c d e, .agg ⟨[.slice none 0 0, rsl 0 0 nt ct, .int .i64 s]⟩, .int .i64 y] (stOf [.row true [.i64] et nt ct ft]) fun v _ => v = .bool true := by kernel_rfl
set_option tactic.hygienic false in
theorem bplBB_nrP (a b c d e : Int) (et nt ct : Nat) (ft : RF) (s : Int) (y : Int) (K : Value → List Blk → Prop)  (hI : InC a b c d e) (hct : nt ≤ ct) (hf1 : 0 ≤ 30) (hf2 : nt ≤ 30) (h1 : ¬ askT a b c d e 0 zF nt ft s y = 0) (k1 : ¬ askT a b c d e 0 zF nt ft (-1) y = 0) : bplBB_nrV a b c d e et nt ct ft s y K := by
  unfold bplBB_nrV
  conv => zeta

  repeat' (first | (with_reducible first | exact rfl | exact trivial | refine And.intro ?_ ?_ | refine br_intro (fun hq => ?_) fun hq => ?_ | refine if_both (fun hz => ?_) fun hz => ?_) | (intro) | fail)

  all_goals first
    | omega
    | assumption
    | contradiction
    | exact Nat.le_refl _
    | exact hct
    | exact ‹False›.elim
    | exact fun q => absurd q.1 (by omega)
    | (exfalso; simp at hq; omega)
    | (exfalso; simp_all; omega)
def bplBB_rnV (a b c d e : Int) (el nl cl : Nat) (fl : RF) (s : Int) (y : Int) (K : Value → List Blk → Prop) : Prop := let q0 := ((0 : Nat) + nl ≤ nl); let q1 := (nl ≤ (100000 : Nat)); let q2 := eB; let q3 := (Nat.le (0 : Nat) (0 : Nat)); let q4 := (@Eq Nat ((0 : Nat)) ((0 : Nat))); let q5 := (askT a b c d e nl fl (0 : Nat) zF s y); let q6 := TS; let q7 := (askT a b c d e nl fl (0 : Nat) zF (-1 : Int) y); let q8 := (@Eq (Value) (Value.bool false) (Value.bool true)); let q9 := (¬askT a b c d e nl fl (0 : Nat) zF s y = (0 : Int)); let q10 := (¬askT a b c d e nl fl (0 : Nat) zF (-1 : Int) y = (0 : Int)); let q11 := ((@Eq (List Value) ([]) ([])) ∧ (@Eq (Value) (Value.bool true) (Value.bool true))); let q12 := (q4 ∧ (∀ y0 : Nat, ((y0 < (0 : Nat)) → (@Eq Int (zF y0 (0 : Nat)) (zF y0 (0 : Nat)))))); let q13 := (eK ∧ ((@Eq Nat (nl) (nl)) ∧ (@Eq Nat (cl) (cl)))); let q14 := (q4 ∧ (∀ y0 : Nat, ((y0 < (0 : Nat)) → ((@Eq Int (zF y0 (0 : Nat)) (zF y0 (0 : Nat))) ∧ (@Eq Int (zF y0 (1 : Nat)) (zF y0 (1 : Nat))))))); (t4 (q6 ∧ (T0 ∧ (if ((30 : Int) < (↑nl : Int)) then q11 else (T0 ∧ (q6 ∧ (t6 (q0 ∧ (t3 ((InC a b c d e) ∧ (q4 ∧ (q1 ∧ (q13 ∧ (q2 ∧ ((q3 ∧ q9) ∧ (t5 (q0 ∧ (t3 ((InC a b c d e) ∧ (q4 ∧ (q1 ∧ (q13 ∧ (q2 ∧ (q9 ∧ (t3 (q2 ∧ (q14 ∧ (t2 (q2 ∧ (q12 ∧ (T0 ∧ (if (@Eq Int q5 q5) then (t4 (q0 ∧ (t2 ((InC a b c d e) ∧ (q4 ∧ (q1 ∧ (q13 ∧ (q2 ∧ ((q3 ∧ q10) ∧ (t4 (q0 ∧ (t2 ((InC a b c d e) ∧ (q4 ∧ (q1 ∧ (q13 ∧ (q2 ∧ (q10 ∧ (t3 (q2 ∧ (q14 ∧ (t2 (q2 ∧ (q12 ∧ (T0 ∧ (if (@Eq Int q7 q7) then q11 else q8)))))))))))))))))))))))))) else q8))))))))))))))))))))))))))))))))
theorem bplBB_rnE (a b c d e : Int) (el nl cl : Nat) (fl : RF) (s : Int) (y : Int) (K : Value → List Blk → Prop) : bplBB_rnV a b c d e el nl cl fl s y K = bodyX (mkB XL11BB) (callN (mkB XL11BB) 4) (bplBB_rnA a b c d e el nl cl fl s y) Try.f11 [five' a b c d e, .agg ⟨[rsl 0 0 nl cl, .slice none 0 0, .int .i64 s]⟩, .int .i64 y] (stOf [.row true [.i64, .i64] el nl cl fl]) fun v _ => v = .bool true := by kernel_rfl
set_option tactic.hygienic false in
theorem bplBB_rnP (a b c d e : Int) (el nl cl : Nat) (fl : RF) (s : Int) (y : Int) (K : Value → List Blk → Prop)  (hI : InC a b c d e) (hf1 : nl ≤ 30) (hf2 : 0 ≤ 30) (h1 : ¬ askT a b c d e nl fl 0 zF s y = 0) (k1 : ¬ askT a b c d e nl fl 0 zF (-1) y = 0) : bplBB_rnV a b c d e el nl cl fl s y K := by
  unfold bplBB_rnV
  conv => zeta

  repeat' (first | (with_reducible first | exact rfl | exact trivial | refine And.intro ?_ ?_ | refine br_intro (fun hq => ?_) fun hq => ?_ | refine if_both (fun hz => ?_) fun hz => ?_) | (intro) | fail)

  all_goals first
    | omega
    | assumption
    | contradiction
    | exact Nat.le_refl _
    | exact hct
    | exact ‹False›.elim
    | exact fun q => absurd q.1 (by omega)
    | (exfalso; simp at hq; omega)
    | (exfalso; simp_all; omega)
def bplBB_rrV (a b c d e : Int) (el nl cl : Nat) (fl : RF) (et nt ct : Nat) (ft : RF) (s : Int) (y : Int) (K : Value → List Blk → Prop) : Prop := let q0 := ((0 : Nat) + nl ≤ nl); let q1 := ((0 : Nat) + nt ≤ nt); let q2 := (nl ≤ (100000 : Nat)); let q3 := (nt ≤ (100000 : Nat)); let q4 := eB; let q5 := (askT a b c d e nl fl nt ft s y); let q6 := (@Eq Nat ((0 : Nat)) ((0 : Nat))); let q7 := (@Eq Nat ((1 : Nat)) ((1 : Nat))); let q8 := TS; let q9 := (askT a b c d e nl fl nt ft (-1 : Int) y); let q10 := (¬askT a b c d e nl fl nt ft s y = (0 : Int)); let q11 := (@Eq (Value) (Value.bool false) (Value.bool true)); let q12 := (¬askT a b c d e nl fl nt ft (-1 : Int) y = (0 : Int)); let q13 := ((@Eq (List Value) ([]) ([])) ∧ (@Eq (Value) (Value.bool true) (Value.bool true))); let q14 := ((@Eq (List IntKind) ([IntKind.i64]) ([IntKind.i64])) ∧ ((@Eq Nat (nt) (nt)) ∧ (@Eq Nat (ct) (ct)))); let q15 := (q6 ∧ (∀ y0 : Nat, ((y0 < (0 : Nat)) → (@Eq Int (zF y0 (0 : Nat)) (zF y0 (0 : Nat)))))); let q16 := (eK ∧ ((@Eq Nat (nl) (nl)) ∧ (@Eq Nat (cl) (cl)))); let q17 := (q6 ∧ (∀ y0 : Nat, ((y0 < (0 : Nat)) → ((@Eq Int (zF y0 (0 : Nat)) (zF y0 (0 : Nat))) ∧ (@Eq Int (zF y0 (1 : Nat)) (zF y0 (1 : Nat))))))); (t4 (q8 ∧ (T0 ∧ (if ((30 : Int) < (↑nl : Int)) then q13 else (T0 ∧ (q8 ∧ (T0 ∧ (if ((30 : Int) < (↑nt : Int)) then q13 else (t5 (q0 ∧ (q1 ∧ (t2 ((InC a b c d e) ∧ (q6 ∧ (q2 ∧ (q16 ∧ (q7 ∧ (q3 ∧ (q14 ∧ (q4 ∧ (((Nat.le nt ct) ∧ q10) ∧ (t5 (q0 ∧ (q1 ∧ (t2 ((InC a b c d e) ∧ (q6 ∧ (q2 ∧ (q16 ∧ (q7 ∧ (q3 ∧ (q14 ∧ (q4 ∧ (q10 ∧ (t3 (q4 ∧ (q17 ∧ (t2 (q4 ∧ (q15 ∧ (T0 ∧ (if (@Eq Int q5 q5) then (t4 (q0 ∧ (q1 ∧ (T0 ∧ ((InC a b c d e) ∧ (q6 ∧ (q2 ∧ (q16 ∧ (q7 ∧ (q3 ∧ (q14 ∧ (q4 ∧ (((Nat.le nt ct) ∧ q12) ∧ (t4 (q0 ∧ (q1 ∧ (T0 ∧ ((InC a b c d e) ∧ (q6 ∧ (q2 ∧ (q16 ∧ (q7 ∧ (q3 ∧ (q14 ∧ (q4 ∧ (q12 ∧ (t3 (q4 ∧ (q17 ∧ (t2 (q4 ∧ (q15 ∧ (T0 ∧ (if (@Eq Int q9 q9) then q13 else q11)))))))))))))))))))))))))))))))))) else q11))))))))))))))))))))))))))))))))))))))))))
theorem bplBB_rrE (a b c d e : Int) (el nl cl : Nat) (fl : RF) (et nt ct : Nat) (ft : RF) (s : Int) (y : Int) (K : Value → List Blk → Prop) : bplBB_rrV a b c d e el nl cl fl et nt ct ft s y K = bodyX (mkB XL11BB) (callN (mkB XL11BB) 4) (bplBB_rrA a b c d e el nl cl fl et nt ct ft s y) Try.f11 [five' a b c d e, .agg ⟨[rsl 0 0 nl cl, rsl 1 0 nt ct, .int .i64 s]⟩, .int .i64 y] (stOf [.row true [.i64, .i64] el nl cl fl, .row true [.i64] et nt ct ft]) fun v _ => v = .bool true := by kernel_rfl
set_option tactic.hygienic false in
theorem bplBB_rrP (a b c d e : Int) (el nl cl : Nat) (fl : RF) (et nt ct : Nat) (ft : RF) (s : Int) (y : Int) (K : Value → List Blk → Prop)  (hI : InC a b c d e) (hct : nt ≤ ct) (hf1 : nl ≤ 30) (hf2 : nt ≤ 30) (h1 : ¬ askT a b c d e nl fl nt ft s y = 0) (k1 : ¬ askT a b c d e nl fl nt ft (-1) y = 0) : bplBB_rrV a b c d e el nl cl fl et nt ct ft s y K := by
  unfold bplBB_rrV
  conv => zeta

  repeat' (first | (with_reducible first | exact rfl | exact trivial | refine And.intro ?_ ?_ | refine br_intro (fun hq => ?_) fun hq => ?_ | refine if_both (fun hz => ?_) fun hz => ?_) | (intro) | fail)

  all_goals first
    | omega
    | assumption
    | contradiction
    | exact Nat.le_refl _
    | exact hct
    | exact ‹False›.elim
    | exact fun q => absurd q.1 (by omega)
    | (exfalso; simp at hq; omega)
    | (exfalso; simp_all; omega)
def bplBF_rnV (a b c d e : Int) (el nl cl : Nat) (fl : RF) (s : Int) (y : Int) (K : Value → List Blk → Prop) : Prop := let q0 := ((0 : Nat) + nl ≤ nl); let q1 := (nl ≤ (100000 : Nat)); let q2 := eB; let q3 := (Nat.le (0 : Nat) (0 : Nat)); let q4 := (@Eq Nat ((0 : Nat)) ((0 : Nat))); let q5 := (askT a b c d e nl fl (0 : Nat) zF s y); let q6 := TS; let q7 := (¬askT a b c d e nl fl (0 : Nat) zF s y = (0 : Int)); let q8 := ((@Eq (List Value) ([]) ([])) ∧ (@Eq (Value) (Value.bool true) (Value.bool true))); let q9 := (q4 ∧ (∀ y0 : Nat, ((y0 < (0 : Nat)) → (@Eq Int (zF y0 (0 : Nat)) (zF y0 (0 : Nat)))))); let q10 := (eK ∧ ((@Eq Nat (nl) (nl)) ∧ (@Eq Nat (cl) (cl)))); let q11 := (q4 ∧ (∀ y0 : Nat, ((y0 < (0 : Nat)) → ((@Eq Int (zF y0 (0 : Nat)) (zF y0 (0 : Nat))) ∧ (@Eq Int (zF y0 (1 : Nat)) (zF y0 (1 : Nat))))))); let q12 := ((@Eq Int (askT a b c d e nl fl (0 : Nat) zF (-1 : Int) y) ((0 : Int))) ∧ ((sel (selE fl (0 : Int)) nl = []) ∨ (@Eq Nat (List.length (sel (selE fl (2 : Int)) nl)) ((2 : Nat))))); (t4 (q6 ∧ (T0 ∧ (if ((30 : Int) < (↑nl : Int)) then q8 else (T0 ∧ (q6 ∧ (t6 (q0 ∧ (t3 ((InC a b c d e) ∧ (q4 ∧ (q1 ∧ (q10 ∧ (q2 ∧ ((q3 ∧ q7) ∧ (t5 (q0 ∧ (t3 ((InC a b c d e) ∧ (q4 ∧ (q1 ∧ (q10 ∧ (q2 ∧ (q7 ∧ (t3 (q2 ∧ (q11 ∧ (t2 (q2 ∧ (q9 ∧ (T0 ∧ (if (@Eq Int q5 q5) then (t4 (q0 ∧ (t2 ((InC a b c d e) ∧ (q4 ∧ (q1 ∧ (q10 ∧ (q2 ∧ ((q3 ∧ q12) ∧ (t4 (q0 ∧ (t2 ((InC a b c d e) ∧ (q4 ∧ (q1 ∧ (q10 ∧ (q2 ∧ (q12 ∧ (t3 (q2 ∧ (q11 ∧ (t2 (q2 ∧ (q9 ∧ (T0 ∧ q8))))))))))))))))))))))))) else (@Eq (Value) (Value.bool false) (Value.bool true))))))))))))))))))))))))))))))))))
theorem bplBF_rnE (a b c d e : Int) (el nl cl : Nat) (fl : RF) (s : Int) (y : Int) (K : Value → List Blk → Prop) : bplBF_rnV a b c d e el nl cl fl s y K = bodyX (mkB XL11BF) (callN (mkB XL11BF) 4) (bplBF_rnA a b c d e el nl cl fl s y) Try.f11 [five' a b c d e, .agg ⟨[rsl 0 0 nl cl, .slice none 0 0, .int .i64 s]⟩, .int .i64 y] (stOf [.row true [.i64, .i64] el nl cl fl]) fun v _ => v = .bool true := by kernel_rfl
set_option tactic.hygienic false in
theorem bplBF_rnP (a b c d e : Int) (el nl cl : Nat) (fl : RF) (s : Int) (y : Int) (K : Value → List Blk → Prop)  (hI : InC a b c d e) (hf1 : nl ≤ 30) (hf2 : 0 ≤ 30) (h1 : ¬ askT a b c d e nl fl 0 zF s y = 0) (k1 : askT a b c d e nl fl 0 zF (-1) y = 0) (kf : sel (selE fl 0) nl = [] ∨ List.length (sel (selE fl 2) nl) = 2) : bplBF_rnV a b c d e el nl cl fl s y K := by
  unfold bplBF_rnV
  conv => zeta

  repeat' (first | (with_reducible first | exact rfl | exact trivial | refine And.intro ?_ ?_ | refine br_intro (fun hq => ?_) fun hq => ?_ | refine if_both (fun hz => ?_) fun hz => ?_) | (intro) | fail)

  all_goals first
    | omega
    | assumption
    | contradiction
    | exact Nat.le_refl _
    | exact hct
    | exact ‹False›.elim
    | exact fun q => absurd q.1 (by omega)
    | (exfalso; simp at hq; omega)
    | (exfalso; simp_all; omega)
def bplBF_rrV (a b c d e : Int) (el nl cl : Nat) (fl : RF) (et nt ct : Nat) (ft : RF) (s : Int) (y : Int) (K : Value → List Blk → Prop) : Prop := let q0 := ((0 : Nat) + nl ≤ nl); let q1 := ((0 : Nat) + nt ≤ nt); let q2 := (nl ≤ (100000 : Nat)); let q3 := (nt ≤ (100000 : Nat)); let q4 := eB; let q5 := (askT a b c d e nl fl nt ft s y); let q6 := (@Eq Nat ((0 : Nat)) ((0 : Nat))); let q7 := (@Eq Nat ((1 : Nat)) ((1 : Nat))); let q8 := TS; let q9 := (¬askT a b c d e nl fl nt ft s y = (0 : Int)); let q10 := ((@Eq (List Value) ([]) ([])) ∧ (@Eq (Value) (Value.bool true) (Value.bool true))); let q11 := ((@Eq (List IntKind) ([IntKind.i64]) ([IntKind.i64])) ∧ ((@Eq Nat (nt) (nt)) ∧ (@Eq Nat (ct) (ct)))); let q12 := (q6 ∧ (∀ y0 : Nat, ((y0 < (0 : Nat)) → (@Eq Int (zF y0 (0 : Nat)) (zF y0 (0 : Nat)))))); let q13 := (eK ∧ ((@Eq Nat (nl) (nl)) ∧ (@Eq Nat (cl) (cl)))); let q14 := (q6 ∧ (∀ y0 : Nat, ((y0 < (0 : Nat)) → ((@Eq Int (zF y0 (0 : Nat)) (zF y0 (0 : Nat))) ∧ (@Eq Int (zF y0 (1 : Nat)) (zF y0 (1 : Nat))))))); let q15 := ((@Eq Int (askT a b c d e nl fl nt ft (-1 : Int) y) ((0 : Int))) ∧ ((sel (selE fl (0 : Int)) nl = []) ∨ (@Eq Nat (List.length (sel (selE fl (2 : Int)) nl)) ((2 : Nat))))); (t4 (q8 ∧ (T0 ∧ (if ((30 : Int) < (↑nl : Int)) then q10 else (T0 ∧ (q8 ∧ (T0 ∧ (if ((30 : Int) < (↑nt : Int)) then q10 else (t5 (q0 ∧ (q1 ∧ (t2 ((InC a b c d e) ∧ (q6 ∧ (q2 ∧ (q13 ∧ (q7 ∧ (q3 ∧ (q11 ∧ (q4 ∧ (((Nat.le nt ct) ∧ q9) ∧ (t5 (q0 ∧ (q1 ∧ (t2 ((InC a b c d e) ∧ (q6 ∧ (q2 ∧ (q13 ∧ (q7 ∧ (q3 ∧ (q11 ∧ (q4 ∧ (q9 ∧ (t3 (q4 ∧ (q14 ∧ (t2 (q4 ∧ (q12 ∧ (T0 ∧ (if (@Eq Int q5 q5) then (t4 (q0 ∧ (q1 ∧ (T0 ∧ ((InC a b c d e) ∧ (q6 ∧ (q2 ∧ (q13 ∧ (q7 ∧ (q3 ∧ (q11 ∧ (q4 ∧ (((Nat.le nt ct) ∧ q15) ∧ (t4 (q0 ∧ (q1 ∧ (T0 ∧ ((InC a b c d e) ∧ (q6 ∧ (q2 ∧ (q13 ∧ (q7 ∧ (q3 ∧ (q11 ∧ (q4 ∧ (q15 ∧ (t3 (q4 ∧ (q14 ∧ (t2 (q4 ∧ (q12 ∧ (T0 ∧ q10))))))))))))))))))))))))))))))))) else (@Eq (Value) (Value.bool false) (Value.bool true))))))))))))))))))))))))))))))))))))))))))))
theorem bplBF_rrE (a b c d e : Int) (el nl cl : Nat) (fl : RF) (et nt ct : Nat) (ft : RF) (s : Int) (y : Int) (K : Value → List Blk → Prop) : bplBF_rrV a b c d e el nl cl fl et nt ct ft s y K = bodyX (mkB XL11BF) (callN (mkB XL11BF) 4) (bplBF_rrA a b c d e el nl cl fl et nt ct ft s y) Try.f11 [five' a b c d e, .agg ⟨[rsl 0 0 nl cl, rsl 1 0 nt ct, .int .i64 s]⟩, .int .i64 y] (stOf [.row true [.i64, .i64] el nl cl fl, .row true [.i64] et nt ct ft]) fun v _ => v = .bool true := by kernel_rfl
set_option tactic.hygienic false in
theorem bplBF_rrP (a b c d e : Int) (el nl cl : Nat) (fl : RF) (et nt ct : Nat) (ft : RF) (s : Int) (y : Int) (K : Value → List Blk → Prop)  (hI : InC a b c d e) (hct : nt ≤ ct) (hf1 : nl ≤ 30) (hf2 : nt ≤ 30) (h1 : ¬ askT a b c d e nl fl nt ft s y = 0) (k1 : askT a b c d e nl fl nt ft (-1) y = 0) (kf : sel (selE fl 0) nl = [] ∨ List.length (sel (selE fl 2) nl) = 2) : bplBF_rrV a b c d e el nl cl fl et nt ct ft s y K := by
  unfold bplBF_rrV
  conv => zeta

  repeat' (first | (with_reducible first | exact rfl | exact trivial | refine And.intro ?_ ?_ | refine br_intro (fun hq => ?_) fun hq => ?_ | refine if_both (fun hz => ?_) fun hz => ?_) | (intro) | fail)

  all_goals first
    | omega
    | assumption
    | contradiction
    | exact Nat.le_refl _
    | exact hct
    | exact ‹False›.elim
    | exact fun q => absurd q.1 (by omega)
    | (exfalso; simp at hq; omega)
    | (exfalso; simp_all; omega)
def bplFF_rnV (a b c d e : Int) (el nl cl : Nat) (fl : RF) (s : Int) (y : Int) (K : Value → List Blk → Prop) : Prop := let q0 := ((0 : Nat) + nl ≤ nl); let q1 := (nl ≤ (100000 : Nat)); let q2 := eB; let q3 := (Nat.le (0 : Nat) (0 : Nat)); let q4 := (¬useT a fl (0 : Nat) zF s y); let q5 := (@Eq Nat ((0 : Nat)) ((0 : Nat))); let q6 := (sel (selE fl (0 : Int)) nl = []); let q7 := TS; let q8 := (@Eq Int (askT a b c d e nl fl (0 : Nat) zF s y) ((0 : Int))); let q9 := ((@Eq (List Value) ([]) ([])) ∧ (@Eq (Value) (Value.bool true) (Value.bool true))); let q10 := (q5 ∧ (∀ y0 : Nat, ((y0 < (0 : Nat)) → (@Eq Int (zF y0 (0 : Nat)) (zF y0 (0 : Nat)))))); let q11 := (eK ∧ ((@Eq Nat (nl) (nl)) ∧ (@Eq Nat (cl) (cl)))); let q12 := (q5 ∧ (∀ y0 : Nat, ((y0 < (0 : Nat)) → ((@Eq Int (zF y0 (0 : Nat)) (zF y0 (0 : Nat))) ∧ (@Eq Int (zF y0 (1 : Nat)) (zF y0 (1 : Nat))))))); let q13 := ((@Eq Int (askT a b c d e nl fl (0 : Nat) zF (-1 : Int) y) ((0 : Int))) ∧ (q6 ∨ (@Eq Nat (List.length (sel (selE fl (2 : Int)) nl)) ((2 : Nat))))); (t4 (q7 ∧ (T0 ∧ (if ((30 : Int) < (↑nl : Int)) then q9 else (T0 ∧ (q7 ∧ (t6 (q0 ∧ (t3 ((InC a b c d e) ∧ (q5 ∧ (q1 ∧ (q11 ∧ (q2 ∧ ((q3 ∧ (q8 ∧ (q4 ∧ q6))) ∧ (t5 (q0 ∧ (t3 ((InC a b c d e) ∧ (q5 ∧ (q1 ∧ (q11 ∧ (q2 ∧ ((q8 ∧ (q4 ∧ (((0 : Nat) ≤ (1000 : Nat)) ∧ q6))) ∧ (t3 (q2 ∧ (q12 ∧ (t2 (q2 ∧ (q10 ∧ (t5 (q0 ∧ (t2 ((InC a b c d e) ∧ (q5 ∧ (q1 ∧ (q11 ∧ (q2 ∧ ((q3 ∧ q13) ∧ (t4 (q0 ∧ (t2 ((InC a b c d e) ∧ (q5 ∧ (q1 ∧ (q11 ∧ (q2 ∧ (q13 ∧ (t3 (q2 ∧ (q12 ∧ (t2 (q2 ∧ (q10 ∧ (T0 ∧ q9)))))))))))))))))))))))))))))))))))))))))))))))))))))))
theorem bplFF_rnE (a b c d e : Int) (el nl cl : Nat) (fl : RF) (s : Int) (y : Int) (K : Value → List Blk → Prop) : bplFF_rnV a b c d e el nl cl fl s y K = bodyX (mkB XL11FF) (callN (mkB XL11FF) 4) (bplFF_rnA a b c d e el nl cl fl s y) Try.f11 [five' a b c d e, .agg ⟨[rsl 0 0 nl cl, .slice none 0 0, .int .i64 s]⟩, .int .i64 y] (stOf [.row true [.i64, .i64] el nl cl fl]) fun v _ => v = .bool true := by kernel_rfl
set_option tactic.hygienic false in
theorem bplFF_rnP (a b c d e : Int) (el nl cl : Nat) (fl : RF) (s : Int) (y : Int) (K : Value → List Blk → Prop)  (hI : InC a b c d e) (hf1 : nl ≤ 30) (hf2 : 0 ≤ 30) (h1 : askT a b c d e nl fl 0 zF s y = 0) (hn : ¬ useT a fl 0 zF s y) (hs : sel (selE fl 0) nl = []) (k1 : askT a b c d e nl fl 0 zF (-1) y = 0) (kf : sel (selE fl 0) nl = [] ∨ List.length (sel (selE fl 2) nl) = 2) : bplFF_rnV a b c d e el nl cl fl s y K := by
  unfold bplFF_rnV
  conv => zeta

  repeat' (first | (with_reducible first | exact rfl | exact trivial | refine And.intro ?_ ?_ | refine br_intro (fun hq => ?_) fun hq => ?_ | refine if_both (fun hz => ?_) fun hz => ?_) | (intro) | fail)

  all_goals first
    | omega
    | assumption
    | contradiction
    | exact Nat.le_refl _
    | exact hct
    | exact ‹False›.elim
    | exact fun q => absurd q.1 (by omega)
    | (exfalso; simp at hq; omega)
    | (exfalso; simp_all; omega)
def bplFF_rrV (a b c d e : Int) (el nl cl : Nat) (fl : RF) (et nt ct : Nat) (ft : RF) (s : Int) (y : Int) (K : Value → List Blk → Prop) : Prop := let q0 := ((0 : Nat) + nl ≤ nl); let q1 := ((0 : Nat) + nt ≤ nt); let q2 := (nl ≤ (100000 : Nat)); let q3 := (nt ≤ (100000 : Nat)); let q4 := (¬useT a fl nt ft s y); let q5 := eB; let q6 := (@Eq Nat ((0 : Nat)) ((0 : Nat))); let q7 := (@Eq Nat ((1 : Nat)) ((1 : Nat))); let q8 := (sel (selE fl (0 : Int)) nl = []); let q9 := TS; let q10 := (@Eq Int (askT a b c d e nl fl nt ft s y) ((0 : Int))); let q11 := ((@Eq (List Value) ([]) ([])) ∧ (@Eq (Value) (Value.bool true) (Value.bool true))); let q12 := ((@Eq (List IntKind) ([IntKind.i64]) ([IntKind.i64])) ∧ ((@Eq Nat (nt) (nt)) ∧ (@Eq Nat (ct) (ct)))); let q13 := (q6 ∧ (∀ y0 : Nat, ((y0 < (0 : Nat)) → (@Eq Int (zF y0 (0 : Nat)) (zF y0 (0 : Nat)))))); let q14 := (eK ∧ ((@Eq Nat (nl) (nl)) ∧ (@Eq Nat (cl) (cl)))); let q15 := (q6 ∧ (∀ y0 : Nat, ((y0 < (0 : Nat)) → ((@Eq Int (zF y0 (0 : Nat)) (zF y0 (0 : Nat))) ∧ (@Eq Int (zF y0 (1 : Nat)) (zF y0 (1 : Nat))))))); let q16 := ((@Eq Int (askT a b c d e nl fl nt ft (-1 : Int) y) ((0 : Int))) ∧ (q8 ∨ (@Eq Nat (List.length (sel (selE fl (2 : Int)) nl)) ((2 : Nat))))); (t4 (q9 ∧ (T0 ∧ (if ((30 : Int) < (↑nl : Int)) then q11 else (T0 ∧ (q9 ∧ (T0 ∧ (if ((30 : Int) < (↑nt : Int)) then q11 else (t5 (q0 ∧ (q1 ∧ (t2 ((InC a b c d e) ∧ (q6 ∧ (q2 ∧ (q14 ∧ (q7 ∧ (q3 ∧ (q12 ∧ (q5 ∧ (((Nat.le nt ct) ∧ (q10 ∧ (q4 ∧ q8))) ∧ (t5 (q0 ∧ (q1 ∧ (t2 ((InC a b c d e) ∧ (q6 ∧ (q2 ∧ (q14 ∧ (q7 ∧ (q3 ∧ (q12 ∧ (q5 ∧ ((q10 ∧ (q4 ∧ ((nt ≤ (1000 : Nat)) ∧ q8))) ∧ (t3 (q5 ∧ (q15 ∧ (t2 (q5 ∧ (q13 ∧ (t5 (q0 ∧ (q1 ∧ (T0 ∧ ((InC a b c d e) ∧ (q6 ∧ (q2 ∧ (q14 ∧ (q7 ∧ (q3 ∧ (q12 ∧ (q5 ∧ (((Nat.le nt ct) ∧ q16) ∧ (t4 (q0 ∧ (q1 ∧ (T0 ∧ ((InC a b c d e) ∧ (q6 ∧ (q2 ∧ (q14 ∧ (q7 ∧ (q3 ∧ (q12 ∧ (q5 ∧ (q16 ∧ (t3 (q5 ∧ (q15 ∧ (t2 (q5 ∧ (q13 ∧ (T0 ∧ q11)))))))))))))))))))))))))))))))))))))))))))))))))))))))))))))))))))))))))
theorem bplFF_rrE (a b c d e : Int) (el nl cl : Nat) (fl : RF) (et nt ct : Nat) (ft : RF) (s : Int) (y : Int) (K : Value → List Blk → Prop) : bplFF_rrV a b c d e el nl cl fl et nt ct ft s y K = bodyX (mkB XL11FF) (callN (mkB XL11FF) 4) (bplFF_rrA a b c d e el nl cl fl et nt ct ft s y) Try.f11 [five' a b c d e, .agg ⟨[rsl 0 0 nl cl, rsl 1 0 nt ct, .int .i64 s]⟩, .int .i64 y] (stOf [.row true [.i64, .i64] el nl cl fl, .row true [.i64] et nt ct ft]) fun v _ => v = .bool true := by kernel_rfl
set_option tactic.hygienic false in
theorem bplFF_rrP (a b c d e : Int) (el nl cl : Nat) (fl : RF) (et nt ct : Nat) (ft : RF) (s : Int) (y : Int) (K : Value → List Blk → Prop)  (hI : InC a b c d e) (hct : nt ≤ ct) (hf1 : nl ≤ 30) (hf2 : nt ≤ 30) (h1 : askT a b c d e nl fl nt ft s y = 0) (hn : ¬ useT a fl nt ft s y) (hs : sel (selE fl 0) nl = []) (k1 : askT a b c d e nl fl nt ft (-1) y = 0) (kf : sel (selE fl 0) nl = [] ∨ List.length (sel (selE fl 2) nl) = 2) : bplFF_rrV a b c d e el nl cl fl et nt ct ft s y K := by
  unfold bplFF_rrV
  conv => zeta

  repeat' (first | (with_reducible first | exact rfl | exact trivial | refine And.intro ?_ ?_ | refine br_intro (fun hq => ?_) fun hq => ?_ | refine if_both (fun hz => ?_) fun hz => ?_) | (intro) | fail)

  all_goals first
    | omega
    | assumption
    | contradiction
    | exact Nat.le_refl _
    | exact hct
    | exact ‹False›.elim
    | exact fun q => absurd q.1 (by omega)
    | (exfalso; simp at hq; omega)
    | (exfalso; simp_all; omega)
def bplUF_rrV (a b c d e : Int) (el nl cl : Nat) (fl : RF) (et nt ct : Nat) (ft : RF) (s : Int) (y : Int) (K : Value → List Blk → Prop) : Prop := let q0 := ((0 : Nat) + nl ≤ nl); let q1 := ((0 : Nat) + nt ≤ nt); let q2 := (nl ≤ (100000 : Nat)); let q3 := (nt ≤ (100000 : Nat)); let q4 := (Int.toNat (lastC nt ft)); let q5 := eB; let q6 := (@Eq Nat ((0 : Nat)) ((0 : Nat))); let q7 := (@Eq Nat ((1 : Nat)) ((1 : Nat))); let q8 := TS; let q9 := (@Eq (List IntKind) ([IntKind.i64]) ([IntKind.i64])); let q10 := ((1 : Int) + c + lastC nt ft * a + fl q4 (1 : Nat)); let q11 := eK; let q12 := ((@Eq (List Value) ([]) ([])) ∧ (@Eq (Value) (Value.bool true) (Value.bool true))); let q13 := (q9 ∧ ((@Eq Nat (nt) (nt)) ∧ (@Eq Nat (ct) (ct)))); let q14 := (q11 ∧ ((@Eq Nat (nl) (nl)) ∧ (@Eq Nat (cl) (cl)))); let q15 := ((@Eq Int (askT a b c d e nl fl nt ft (-1 : Int) y) ((0 : Int))) ∧ ((sel (selE fl (0 : Int)) nl = []) ∨ (@Eq Nat (List.length (sel (selE fl (2 : Int)) nl)) ((2 : Nat))))); let q16 := ((@Eq Int (askT a b c d e nl fl nt ft s y) ((0 : Int))) ∧ (((0 : Nat) < nt) ∧ ((@Eq Int (fl q4 (0 : Nat)) ((1 : Int))) ∧ ((¬lastC nt ft = s) ∧ (y ≤ a - fl q4 (1 : Nat)))))); (t4 (q8 ∧ (T0 ∧ (if ((30 : Int) < (↑nl : Int)) then q12 else (T0 ∧ (q8 ∧ (T0 ∧ (if ((30 : Int) < (↑nt : Int)) then q12 else (t5 (q0 ∧ (q1 ∧ (t2 ((InC a b c d e) ∧ (q6 ∧ (q2 ∧ (q14 ∧ (q7 ∧ (q3 ∧ (q13 ∧ (q5 ∧ (((Nat.le nt ct) ∧ q16) ∧ (∀ y0 : Nat → Nat → Int, ((Bumped a b c d e nl fl (lastC nt ft) y y0) → (∀ y1 : Nat, ((nl ≤ y1) → (∀ y2 : Nat, ((nt ≤ y2) → (t5 (q0 ∧ (q1 ∧ (t2 ((InC a b c d e) ∧ (q6 ∧ (q2 ∧ (q14 ∧ (q7 ∧ (q3 ∧ (q13 ∧ (q5 ∧ (q16 ∧ (∀ y3 : Nat → Nat → Int, ((Bumped a b c d e nl fl (lastC nt ft) y y3) → (∀ y4 : Nat, ((nl ≤ y4) → (∀ y5 : Nat, ((nt ≤ y5) → (T0 ∧ (if (@Eq Int q10 q10) then (q0 ∧ (q0 ∧ (q6 ∧ (q2 ∧ ((q11 ∧ ((@Eq Nat (nl) (nl)) ∧ (@Eq Nat (y1) (y1)))) ∧ (q7 ∧ (q2 ∧ ((q11 ∧ ((@Eq Nat (nl) (nl)) ∧ (@Eq Nat (y4) (y4)))) ∧ (q5 ∧ (((@Eq Nat (nl) (nl)) ∧ (∀ y6 : Nat, ((y6 < nl) → ((@Eq Int (y0 y6 (0 : Nat)) (y3 y6 (0 : Nat))) ∧ (@Eq Int (y0 y6 (1 : Nat)) (y3 y6 (1 : Nat))))))) ∧ (q1 ∧ (q1 ∧ (q6 ∧ (q3 ∧ ((q9 ∧ ((@Eq Nat (nt) (nt)) ∧ (@Eq Nat (y2) (y2)))) ∧ (q7 ∧ (q3 ∧ ((q9 ∧ ((@Eq Nat (nt) (nt)) ∧ (@Eq Nat (y5) (y5)))) ∧ (q5 ∧ (((@Eq Nat (nt) (nt)) ∧ (∀ y6 : Nat, ((y6 < nt) → (@Eq Int (ft y6 (0 : Nat)) (ft y6 (0 : Nat)))))) ∧ (t5 (q0 ∧ (q1 ∧ (T0 ∧ ((InC a b c d e) ∧ (q6 ∧ (q2 ∧ (q14 ∧ (q7 ∧ (q3 ∧ (q13 ∧ (q5 ∧ (((Nat.le nt ct) ∧ q15) ∧ (t4 (q0 ∧ (q1 ∧ (T0 ∧ ((InC a b c d e) ∧ (q6 ∧ (q2 ∧ (q14 ∧ (q7 ∧ (q3 ∧ (q13 ∧ (q5 ∧ (q15 ∧ (t3 (q5 ∧ ((q6 ∧ (∀ y6 : Nat, ((y6 < (0 : Nat)) → ((@Eq Int (zF y6 (0 : Nat)) (zF y6 (0 : Nat))) ∧ (@Eq Int (zF y6 (1 : Nat)) (zF y6 (1 : Nat))))))) ∧ (t2 (q5 ∧ ((q6 ∧ (∀ y6 : Nat, ((y6 < (0 : Nat)) → (@Eq Int (zF y6 (0 : Nat)) (zF y6 (0 : Nat)))))) ∧ (T0 ∧ q12))))))))))))))))))))))))))))))))))))))))))))))))))))) else (@Eq (Value) (Value.bool false) (Value.bool true))))))))))))))))))))))))))))))))))))))))))))))))))
theorem bplUF_rrE (a b c d e : Int) (el nl cl : Nat) (fl : RF) (et nt ct : Nat) (ft : RF) (s : Int) (y : Int) (K : Value → List Blk → Prop) : bplUF_rrV a b c d e el nl cl fl et nt ct ft s y K = bodyX (mkB XL11UF) (callN (mkB XL11UF) 4) (bplUF_rrA a b c d e el nl cl fl et nt ct ft s y) Try.f11 [five' a b c d e, .agg ⟨[rsl 0 0 nl cl, rsl 1 0 nt ct, .int .i64 s]⟩, .int .i64 y] (stOf [.row true [.i64, .i64] el nl cl fl, .row true [.i64] et nt ct ft]) fun v _ => v = .bool true := by kernel_rfl
set_option tactic.hygienic false in
theorem bplUF_rrP (a b c d e : Int) (el nl cl : Nat) (fl : RF) (et nt ct : Nat) (ft : RF) (s : Int) (y : Int) (K : Value → List Blk → Prop)  (hI : InC a b c d e) (hct : nt ≤ ct) (hf1 : nl ≤ 30) (hf2 : nt ≤ 30) (h1 : askT a b c d e nl fl nt ft s y = 0) (hu : useT a fl nt ft s y) (k1 : askT a b c d e nl fl nt ft (-1) y = 0) (kf : sel (selE fl 0) nl = [] ∨ List.length (sel (selE fl 2) nl) = 2) : bplUF_rrV a b c d e el nl cl fl et nt ct ft s y K := by
  unfold bplUF_rrV
  conv => zeta

  repeat' (first | (with_reducible first | exact rfl | exact trivial | refine And.intro ?_ ?_ | refine br_intro (fun hq => ?_) fun hq => ?_ | refine if_both (fun hz => ?_) fun hz => ?_) | (intro) | fail)
  all_goals try (rename Bumped _ _ _ _ _ _ _ _ _ _ => B2; revert B2; rename Bumped _ _ _ _ _ _ _ _ _ _ => B1; intro B2; have EB := bumped_eq B1 B2)
  all_goals first
    | omega
    | assumption
    | contradiction
    | exact Nat.le_refl _
    | exact hct
    | exact ‹False›.elim
    | exact (EB _).1
    | exact (EB _).2
    | exact hu.1
    | exact hu.2.1
    | exact hu.2.2.2
    | exact hu.2.2.1 ‹_›
    | exact fun q => absurd q.1 (by omega)
    | (exfalso; simp at hq; omega)
    | (exfalso; simp_all; omega)
def bplBAN_rV (a b c d e : Int) (el nl cl : Nat) (fl : RF) (s : Int) (y : Int) (K : Value → List Blk → Prop) : Prop := let q0 := ((0 : Nat) + nl ≤ nl); let q1 := (nl ≤ (100000 : Nat)); let q2 := ((1 : Nat) ≤ (1 : Nat)); let q3 := eB; let q4 := ((0 : Nat) ≤ (1000 : Nat)); let q5 := ((1 : Nat) ≤ (100000 : Nat)); let q6 := (Nat.le (0 : Nat) (0 : Nat)); let q7 := (@Eq Nat ((0 : Nat)) ((0 : Nat))); let q8 := (@Eq Nat ((1 : Nat)) ((1 : Nat))); let q9 := (askT a b c d e nl fl (0 : Nat) zF s y); let q10 := TS; let q11 := (@Eq (Value) (Value.bool false) (Value.bool true)); let q12 := (¬askT a b c d e nl fl (0 : Nat) zF s y = (0 : Int)); let q13 := (@Eq (List IntKind) ([IntKind.i64]) ([IntKind.i64])); let q14 := (@Eq Int (askT a b c d e nl fl (0 : Nat) zF (-1 : Int) y) ((0 : Int))); let q15 := eK; let q16 := ((@Eq (List Value) ([]) ([])) ∧ (@Eq (Value) (Value.bool true) (Value.bool true))); let q17 := (¬(sel (selE fl (0 : Int)) nl = [] ∨ List.length (sel (selE fl (2 : Int)) nl) = (2 : Nat))); let q18 := (q15 ∧ ((@Eq Nat (nl) (nl)) ∧ (@Eq Nat (cl) (cl)))); (t4 (q10 ∧ (T0 ∧ (if ((30 : Int) < (↑nl : Int)) then q16 else (T0 ∧ (q10 ∧ (t6 (q0 ∧ (t3 ((InC a b c d e) ∧ (q7 ∧ (q1 ∧ (q18 ∧ (q3 ∧ ((q6 ∧ q12) ∧ (t5 (q0 ∧ (t3 ((InC a b c d e) ∧ (q7 ∧ (q1 ∧ (q18 ∧ (q3 ∧ (q12 ∧ (t3 (q3 ∧ ((q7 ∧ (∀ y0 : Nat, ((y0 < (0 : Nat)) → ((@Eq Int (zF y0 (0 : Nat)) (zF y0 (0 : Nat))) ∧ (@Eq Int (zF y0 (1 : Nat)) (zF y0 (1 : Nat))))))) ∧ (t2 (q3 ∧ ((q7 ∧ (∀ y0 : Nat, ((y0 < (0 : Nat)) → (@Eq Int (zF y0 (0 : Nat)) (zF y0 (0 : Nat)))))) ∧ (T0 ∧ (if (@Eq Int q9 q9) then (t4 (q0 ∧ (t2 ((InC a b c d e) ∧ (q7 ∧ (q1 ∧ (q18 ∧ (q3 ∧ ((q6 ∧ (q14 ∧ (q4 ∧ q17))) ∧ (∀ y0 : Nat, (∀ y1 : Nat → Nat → Int, (∀ y2 : Int, ((Placed a b c d e nl fl (2 : Int) y0 y y1) → ((@Eq Int (y2) ((1 : Int) + c + (↑y0 : Int) * a)) → (∀ y3 : Nat → Nat → Int, (((∀ y4 : Nat, ((y4 < (0 : Nat)) → (@Eq Int (y3 y4 (0 : Nat)) (zF y4 (0 : Nat))))) ∧ (@Eq Int (y3 (0 : Nat) (0 : Nat)) ((↑y0 : Int)))) → (∀ y4 : Nat, ((nl ≤ y4) → (∀ y5 : Nat, (((1 : Nat) ≤ y5) → (t4 (q0 ∧ (t2 ((InC a b c d e) ∧ (q7 ∧ (q1 ∧ (q18 ∧ (q3 ∧ ((q14 ∧ (q4 ∧ (q17 ∧ (¬((0 : Nat) < (0 : Nat) ∧ fl (Int.toNat (zF (Int.toNat ((↑(0 : Nat) : Int) - (1 : Int))) (0 : Nat))) (0 : Nat) = (1 : Int)))))) ∧ (∀ y6 : Nat, (∀ y7 : Nat → Nat → Int, (∀ y8 : Int, ((Placed a b c d e nl fl (2 : Int) y6 y y7) → ((@Eq Int (y8) ((1 : Int) + c + (↑y6 : Int) * a)) → (∀ y9 : Nat → Nat → Int, (((∀ y10 : Nat, ((y10 < (0 : Nat)) → (@Eq Int (y9 y10 (0 : Nat)) (zF y10 (0 : Nat))))) ∧ (@Eq Int (y9 (0 : Nat) (0 : Nat)) ((↑y6 : Int)))) → (∀ y10 : Nat, ((nl ≤ y10) → (∀ y11 : Nat, (((1 : Nat) ≤ y11) → (T0 ∧ (if (@Eq Int (y2) (y8)) then (q0 ∧ (q0 ∧ (q7 ∧ (q1 ∧ ((q15 ∧ ((@Eq Nat (nl) (nl)) ∧ (@Eq Nat (y4) (y4)))) ∧ (q8 ∧ (q1 ∧ ((q15 ∧ ((@Eq Nat (nl) (nl)) ∧ (@Eq Nat (y10) (y10)))) ∧ (q3 ∧ (((@Eq Nat (nl) (nl)) ∧ (∀ y12 : Nat, ((y12 < nl) → ((@Eq Int (y1 y12 (0 : Nat)) (y7 y12 (0 : Nat))) ∧ (@Eq Int (y1 y12 (1 : Nat)) (y7 y12 (1 : Nat))))))) ∧ (q2 ∧ (q2 ∧ (q7 ∧ (q5 ∧ ((q13 ∧ (q8 ∧ (@Eq Nat (y5) (y5)))) ∧ (q8 ∧ (q5 ∧ ((q13 ∧ (q8 ∧ (@Eq Nat (y11) (y11)))) ∧ (q3 ∧ ((q8 ∧ (∀ y12 : Nat, ((y12 < (1 : Nat)) → (@Eq Int (y3 y12 (0 : Nat)) (y9 y12 (0 : Nat)))))) ∧ (T0 ∧ q16))))))))))))))))))))) else q11)))))))))))))))))))))))))))))))))))))))))) else q11))))))))))))))))))))))))))))))))
theorem bplBAN_rE (a b c d e : Int) (el nl cl : Nat) (fl : RF) (s : Int) (y : Int) (K : Value → List Blk → Prop) : bplBAN_rV a b c d e el nl cl fl s y K = bodyX (mkB XL11BAN) (callN (mkB XL11BAN) 4) (bplBAN_rA a b c d e el nl cl fl s y) Try.f11 [five' a b c d e, .agg ⟨[rsl 0 0 nl cl, .slice none 0 0, .int .i64 s]⟩, .int .i64 y] (stOf [.row true [.i64, .i64] el nl cl fl]) fun v _ => v = .bool true := by kernel_rfl
set_option tactic.hygienic false in
theorem bplBAN_rP (a b c d e : Int) (el nl cl : Nat) (fl : RF) (s : Int) (y : Int) (K : Value → List Blk → Prop)  (hI : InC a b c d e) (hf1 : nl ≤ 30) (hf2 : 0 ≤ 30) (h1 : ¬ askT a b c d e nl fl 0 zF s y = 0) (k1 : askT a b c d e nl fl 0 zF (-1) y = 0) (kg : ¬ (sel (selE fl 0) nl = [] ∨ List.length (sel (selE fl 2) nl) = 2)) : bplBAN_rV a b c d e el nl cl fl s y K := by
  unfold bplBAN_rV
  conv => zeta

  repeat' (first | (with_reducible first | exact rfl | exact trivial | refine And.intro ?_ ?_ | refine br_intro (fun hq => ?_) fun hq => ?_ | refine if_both (fun hz => ?_) fun hz => ?_) | (intro) | fail)
  all_goals try (rename Placed _ _ _ _ _ _ _ 2 _ _ _ => T4; revert T4; rename Placed _ _ _ _ _ _ _ 2 _ _ _ => T3; intro T4; have P34 := placed_same T3 T4; have E34 := P34.1; subst E34)
  all_goals first
    | omega
    | assumption
    | contradiction
    | exact Nat.le_refl _
    | exact hct
    | exact ‹False›.elim
    | exact (P34.2 _).1
    | exact (P34.2 _).2
    | exact fun q => absurd q.1 (by omega)
    | (apply app_same2 (n := 0) (f := zF) <;> first | assumption | omega)
    | (exfalso; simp at hq; omega)
    | (exfalso; simp_all; omega)
def bplTFN_rV (a b c d e : Int) (el nl cl : Nat) (fl : RF) (s : Int) (y : Int) (K : Value → List Blk → Prop) : Prop := let q0 := ((0 : Nat) + nl ≤ nl); let q1 := (nl ≤ (100000 : Nat)); let q2 := ((1 : Nat) ≤ (1 : Nat)); let q3 := eB; let q4 := ((1 : Nat) ≤ (100000 : Nat)); let q5 := (Nat.le (0 : Nat) (0 : Nat)); let q6 := (@Eq Nat ((0 : Nat)) ((0 : Nat))); let q7 := (@Eq Nat ((1 : Nat)) ((1 : Nat))); let q8 := TS; let q9 := (@Eq (List IntKind) ([IntKind.i64]) ([IntKind.i64])); let q10 := eK; let q11 := ((@Eq (List Value) ([]) ([])) ∧ (@Eq (Value) (Value.bool true) (Value.bool true))); let q12 := (q10 ∧ ((@Eq Nat (nl) (nl)) ∧ (@Eq Nat (cl) (cl)))); let q13 := ((@Eq Int (askT a b c d e nl fl (0 : Nat) zF s y) ((0 : Int))) ∧ ((¬useT a fl (0 : Nat) zF s y) ∧ ((¬sel (selE fl (0 : Int)) nl = []) ∧ ((0 : Nat) ≤ (1000 : Nat))))); let q14 := ((@Eq Int (askT a b c d e nl fl (0 : Nat) zF (-1 : Int) y) ((0 : Int))) ∧ ((sel (selE fl (0 : Int)) nl = []) ∨ (@Eq Nat (List.length (sel (selE fl (2 : Int)) nl)) ((2 : Nat))))); (t4 (q8 ∧ (T0 ∧ (if ((30 : Int) < (↑nl : Int)) then q11 else (T0 ∧ (q8 ∧ (t6 (q0 ∧ (t3 ((InC a b c d e) ∧ (q6 ∧ (q1 ∧ (q12 ∧ (q3 ∧ ((q5 ∧ q13) ∧ (∀ y0 : Nat, (∀ y1 : Nat → Nat → Int, (∀ y2 : Int, ((Placed a b c d e nl fl (1 : Int) y0 y y1) → ((@Eq Int (y2) ((1 : Int) + c + (↑y0 : Int) * a)) → (∀ y3 : Nat → Nat → Int, (((∀ y4 : Nat, ((y4 < (0 : Nat)) → (@Eq Int (y3 y4 (0 : Nat)) (zF y4 (0 : Nat))))) ∧ (@Eq Int (y3 (0 : Nat) (0 : Nat)) ((↑y0 : Int)))) → (∀ y4 : Nat, ((nl ≤ y4) → (∀ y5 : Nat, (((1 : Nat) ≤ y5) → (t5 (q0 ∧ (t3 ((InC a b c d e) ∧ (q6 ∧ (q1 ∧ (q12 ∧ (q3 ∧ (q13 ∧ (∀ y6 : Nat, (∀ y7 : Nat → Nat → Int, (∀ y8 : Int, ((Placed a b c d e nl fl (1 : Int) y6 y y7) → ((@Eq Int (y8) ((1 : Int) + c + (↑y6 : Int) * a)) → (∀ y9 : Nat → Nat → Int, (((∀ y10 : Nat, ((y10 < (0 : Nat)) → (@Eq Int (y9 y10 (0 : Nat)) (zF y10 (0 : Nat))))) ∧ (@Eq Int (y9 (0 : Nat) (0 : Nat)) ((↑y6 : Int)))) → (∀ y10 : Nat, ((nl ≤ y10) → (∀ y11 : Nat, (((1 : Nat) ≤ y11) → (T0 ∧ (if (@Eq Int (y2) (y8)) then (q0 ∧ (q0 ∧ (q6 ∧ (q1 ∧ ((q10 ∧ ((@Eq Nat (nl) (nl)) ∧ (@Eq Nat (y4) (y4)))) ∧ (q7 ∧ (q1 ∧ ((q10 ∧ ((@Eq Nat (nl) (nl)) ∧ (@Eq Nat (y10) (y10)))) ∧ (q3 ∧ (((@Eq Nat (nl) (nl)) ∧ (∀ y12 : Nat, ((y12 < nl) → ((@Eq Int (y1 y12 (0 : Nat)) (y7 y12 (0 : Nat))) ∧ (@Eq Int (y1 y12 (1 : Nat)) (y7 y12 (1 : Nat))))))) ∧ (q2 ∧ (q2 ∧ (q6 ∧ (q4 ∧ ((q9 ∧ (q7 ∧ (@Eq Nat (y5) (y5)))) ∧ (q7 ∧ (q4 ∧ ((q9 ∧ (q7 ∧ (@Eq Nat (y11) (y11)))) ∧ (q3 ∧ ((q7 ∧ (∀ y12 : Nat, ((y12 < (1 : Nat)) → (@Eq Int (y3 y12 (0 : Nat)) (y9 y12 (0 : Nat)))))) ∧ (t5 (q0 ∧ (t2 ((InC a b c d e) ∧ (q6 ∧ (q1 ∧ (q12 ∧ (q3 ∧ ((q5 ∧ q14) ∧ (t4 (q0 ∧ (t2 ((InC a b c d e) ∧ (q6 ∧ (q1 ∧ (q12 ∧ (q3 ∧ (q14 ∧ (t3 (q3 ∧ ((q6 ∧ (∀ y12 : Nat, ((y12 < (0 : Nat)) → ((@Eq Int (zF y12 (0 : Nat)) (zF y12 (0 : Nat))) ∧ (@Eq Int (zF y12 (1 : Nat)) (zF y12 (1 : Nat))))))) ∧ (t2 (q3 ∧ ((q6 ∧ (∀ y12 : Nat, ((y12 < (0 : Nat)) → (@Eq Int (zF y12 (0 : Nat)) (zF y12 (0 : Nat)))))) ∧ (T0 ∧ q11))))))))))))))))))))))))))))))))))))))))))))) else (@Eq (Value) (Value.bool false) (Value.bool true))))))))))))))))))))))))))))))))))))))))))))))))))
theorem bplTFN_rE (a b c d e : Int) (el nl cl : Nat) (fl : RF) (s : Int) (y : Int) (K : Value → List Blk → Prop) : bplTFN_rV a b c d e el nl cl fl s y K = bodyX (mkB XL11TFN) (callN (mkB XL11TFN) 4) (bplTFN_rA a b c d e el nl cl fl s y) Try.f11 [five' a b c d e, .agg ⟨[rsl 0 0 nl cl, .slice none 0 0, .int .i64 s]⟩, .int .i64 y] (stOf [.row true [.i64, .i64] el nl cl fl]) fun v _ => v = .bool true := by kernel_rfl
set_option tactic.hygienic false in
theorem bplTFN_rP (a b c d e : Int) (el nl cl : Nat) (fl : RF) (s : Int) (y : Int) (K : Value → List Blk → Prop)  (hI : InC a b c d e) (hf1 : nl ≤ 30) (hf2 : 0 ≤ 30) (h1 : askT a b c d e nl fl 0 zF s y = 0) (hn : ¬ useT a fl 0 zF s y) (hg : ¬ sel (selE fl 0) nl = []) (k1 : askT a b c d e nl fl 0 zF (-1) y = 0) (kf : sel (selE fl 0) nl = [] ∨ List.length (sel (selE fl 2) nl) = 2) : bplTFN_rV a b c d e el nl cl fl s y K := by
  unfold bplTFN_rV
  conv => zeta

  repeat' (first | (with_reducible first | exact rfl | exact trivial | refine And.intro ?_ ?_ | refine br_intro (fun hq => ?_) fun hq => ?_ | refine if_both (fun hz => ?_) fun hz => ?_) | (intro) | fail)
  all_goals try (rename Placed _ _ _ _ _ _ _ 1 _ _ _ => T2; revert T2; rename Placed _ _ _ _ _ _ _ 1 _ _ _ => T1; intro T2; have P12 := placed_same T1 T2; have E12 := P12.1; subst E12)
  all_goals first
    | omega
    | assumption
    | contradiction
    | exact Nat.le_refl _
    | exact hct
    | exact ‹False›.elim
    | exact (P12.2 _).1
    | exact (P12.2 _).2
    | exact fun q => absurd q.1 (by omega)
    | (apply app_same2 (n := 0) (f := zF) <;> first | assumption | omega)
    | (exfalso; simp at hq; omega)
    | (exfalso; simp_all; omega)
def bplTAN_rV (a b c d e : Int) (el nl cl : Nat) (fl : RF) (s : Int) (y : Int) (K : Value → List Blk → Prop) : Prop := let q0 := ((0 : Nat) + nl ≤ nl); let q1 := (nl ≤ (100000 : Nat)); let q2 := ((1 : Nat) ≤ (1 : Nat)); let q3 := eB; let q4 := ((0 : Nat) ≤ (1000 : Nat)); let q5 := ((1 : Nat) ≤ (100000 : Nat)); let q6 := (Nat.le (0 : Nat) (0 : Nat)); let q7 := (@Eq Nat ((0 : Nat)) ((0 : Nat))); let q8 := (@Eq Nat ((1 : Nat)) ((1 : Nat))); let q9 := TS; let q10 := (@Eq (Value) (Value.bool false) (Value.bool true)); let q11 := (@Eq (List IntKind) ([IntKind.i64]) ([IntKind.i64])); let q12 := (@Eq Int (askT a b c d e nl fl (0 : Nat) zF (-1 : Int) y) ((0 : Int))); let q13 := eK; let q14 := ((@Eq (List Value) ([]) ([])) ∧ (@Eq (Value) (Value.bool true) (Value.bool true))); let q15 := (¬(sel (selE fl (0 : Int)) nl = [] ∨ List.length (sel (selE fl (2 : Int)) nl) = (2 : Nat))); let q16 := (q13 ∧ ((@Eq Nat (nl) (nl)) ∧ (@Eq Nat (cl) (cl)))); let q17 := ((@Eq Int (askT a b c d e nl fl (0 : Nat) zF s y) ((0 : Int))) ∧ ((¬useT a fl (0 : Nat) zF s y) ∧ ((¬sel (selE fl (0 : Int)) nl = []) ∧ q4))); (t4 (q9 ∧ (T0 ∧ (if ((30 : Int) < (↑nl : Int)) then q14 else (T0 ∧ (q9 ∧ (t6 (q0 ∧ (t3 ((InC a b c d e) ∧ (q7 ∧ (q1 ∧ (q16 ∧ (q3 ∧ ((q6 ∧ q17) ∧ (∀ y0 : Nat, (∀ y1 : Nat → Nat → Int, (∀ y2 : Int, ((Placed a b c d e nl fl (1 : Int) y0 y y1) → ((@Eq Int (y2) ((1 : Int) + c + (↑y0 : Int) * a)) → (∀ y3 : Nat → Nat → Int, (((∀ y4 : Nat, ((y4 < (0 : Nat)) → (@Eq Int (y3 y4 (0 : Nat)) (zF y4 (0 : Nat))))) ∧ (@Eq Int (y3 (0 : Nat) (0 : Nat)) ((↑y0 : Int)))) → (∀ y4 : Nat, ((nl ≤ y4) → (∀ y5 : Nat, (((1 : Nat) ≤ y5) → (t5 (q0 ∧ (t3 ((InC a b c d e) ∧ (q7 ∧ (q1 ∧ (q16 ∧ (q3 ∧ (q17 ∧ (∀ y6 : Nat, (∀ y7 : Nat → Nat → Int, (∀ y8 : Int, ((Placed a b c d e nl fl (1 : Int) y6 y y7) → ((@Eq Int (y8) ((1 : Int) + c + (↑y6 : Int) * a)) → (∀ y9 : Nat → Nat → Int, (((∀ y10 : Nat, ((y10 < (0 : Nat)) → (@Eq Int (y9 y10 (0 : Nat)) (zF y10 (0 : Nat))))) ∧ (@Eq Int (y9 (0 : Nat) (0 : Nat)) ((↑y6 : Int)))) → (∀ y10 : Nat, ((nl ≤ y10) → (∀ y11 : Nat, (((1 : Nat) ≤ y11) → (T0 ∧ (if (@Eq Int (y2) (y8)) then (q0 ∧ (q0 ∧ (q7 ∧ (q1 ∧ ((q13 ∧ ((@Eq Nat (nl) (nl)) ∧ (@Eq Nat (y4) (y4)))) ∧ (q8 ∧ (q1 ∧ ((q13 ∧ ((@Eq Nat (nl) (nl)) ∧ (@Eq Nat (y10) (y10)))) ∧ (q3 ∧ (((@Eq Nat (nl) (nl)) ∧ (∀ y12 : Nat, ((y12 < nl) → ((@Eq Int (y1 y12 (0 : Nat)) (y7 y12 (0 : Nat))) ∧ (@Eq Int (y1 y12 (1 : Nat)) (y7 y12 (1 : Nat))))))) ∧ (q2 ∧ (q2 ∧ (q7 ∧ (q5 ∧ ((q11 ∧ (q8 ∧ (@Eq Nat (y5) (y5)))) ∧ (q8 ∧ (q5 ∧ ((q11 ∧ (q8 ∧ (@Eq Nat (y11) (y11)))) ∧ (q3 ∧ ((q8 ∧ (∀ y12 : Nat, ((y12 < (1 : Nat)) → (@Eq Int (y3 y12 (0 : Nat)) (y9 y12 (0 : Nat)))))) ∧ (t5 (q0 ∧ (t2 ((InC a b c d e) ∧ (q7 ∧ (q1 ∧ (q16 ∧ (q3 ∧ ((q6 ∧ (q12 ∧ (q4 ∧ q15))) ∧ (∀ y12 : Nat, (∀ y13 : Nat → Nat → Int, (∀ y14 : Int, ((Placed a b c d e nl fl (2 : Int) y12 y y13) → ((@Eq Int (y14) ((1 : Int) + c + (↑y12 : Int) * a)) → (∀ y15 : Nat → Nat → Int, (((∀ y16 : Nat, ((y16 < (0 : Nat)) → (@Eq Int (y15 y16 (0 : Nat)) (zF y16 (0 : Nat))))) ∧ (@Eq Int (y15 (0 : Nat) (0 : Nat)) ((↑y12 : Int)))) → (∀ y16 : Nat, ((nl ≤ y16) → (∀ y17 : Nat, (((1 : Nat) ≤ y17) → (t4 (q0 ∧ (t2 ((InC a b c d e) ∧ (q7 ∧ (q1 ∧ (q16 ∧ (q3 ∧ ((q12 ∧ (q4 ∧ (q15 ∧ (¬((0 : Nat) < (0 : Nat) ∧ fl (Int.toNat (zF (Int.toNat ((↑(0 : Nat) : Int) - (1 : Int))) (0 : Nat))) (0 : Nat) = (1 : Int)))))) ∧ (∀ y18 : Nat, (∀ y19 : Nat → Nat → Int, (∀ y20 : Int, ((Placed a b c d e nl fl (2 : Int) y18 y y19) → ((@Eq Int (y20) ((1 : Int) + c + (↑y18 : Int) * a)) → (∀ y21 : Nat → Nat → Int, (((∀ y22 : Nat, ((y22 < (0 : Nat)) → (@Eq Int (y21 y22 (0 : Nat)) (zF y22 (0 : Nat))))) ∧ (@Eq Int (y21 (0 : Nat) (0 : Nat)) ((↑y18 : Int)))) → (∀ y22 : Nat, ((nl ≤ y22) → (∀ y23 : Nat, (((1 : Nat) ≤ y23) → (T0 ∧ (if (@Eq Int (y14) (y20)) then (q0 ∧ (q0 ∧ (q7 ∧ (q1 ∧ ((q13 ∧ ((@Eq Nat (nl) (nl)) ∧ (@Eq Nat (y16) (y16)))) ∧ (q8 ∧ (q1 ∧ ((q13 ∧ ((@Eq Nat (nl) (nl)) ∧ (@Eq Nat (y22) (y22)))) ∧ (q3 ∧ (((@Eq Nat (nl) (nl)) ∧ (∀ y24 : Nat, ((y24 < nl) → ((@Eq Int (y13 y24 (0 : Nat)) (y19 y24 (0 : Nat))) ∧ (@Eq Int (y13 y24 (1 : Nat)) (y19 y24 (1 : Nat))))))) ∧ (q2 ∧ (q2 ∧ (q7 ∧ (q5 ∧ ((q11 ∧ (q8 ∧ (@Eq Nat (y17) (y17)))) ∧ (q8 ∧ (q5 ∧ ((q11 ∧ (q8 ∧ (@Eq Nat (y23) (y23)))) ∧ (q3 ∧ ((q8 ∧ (∀ y24 : Nat, ((y24 < (1 : Nat)) → (@Eq Int (y15 y24 (0 : Nat)) (y21 y24 (0 : Nat)))))) ∧ (T0 ∧ q14))))))))))))))))))))) else q10)))))))))))))))))))))))))))))))))))))))))))))))))))))))))))))) else q10))))))))))))))))))))))))))))))))))))))))))))))))
theorem bplTAN_rE (a b c d e : Int) (el nl cl : Nat) (fl : RF) (s : Int) (y : Int) (K : Value → List Blk → Prop) : bplTAN_rV a b c d e el nl cl fl s y K = bodyX (mkB XL11TAN) (callN (mkB XL11TAN) 4) (bplTAN_rA a b c d e el nl cl fl s y) Try.f11 [five' a b c d e, .agg ⟨[rsl 0 0 nl cl, .slice none 0 0, .int .i64 s]⟩, .int .i64 y] (stOf [.row true [.i64, .i64] el nl cl fl]) fun v _ => v = .bool true := by kernel_rfl
set_option tactic.hygienic false in
theorem bplTAN_rP (a b c d e : Int) (el nl cl : Nat) (fl : RF) (s : Int) (y : Int) (K : Value → List Blk → Prop)  (hI : InC a b c d e) (hf1 : nl ≤ 30) (hf2 : 0 ≤ 30) (h1 : askT a b c d e nl fl 0 zF s y = 0) (hn : ¬ useT a fl 0 zF s y) (hg : ¬ sel (selE fl 0) nl = []) (k1 : askT a b c d e nl fl 0 zF (-1) y = 0) (kg : ¬ (sel (selE fl 0) nl = [] ∨ List.length (sel (selE fl 2) nl) = 2)) : bplTAN_rV a b c d e el nl cl fl s y K := by
  unfold bplTAN_rV
  conv => zeta

  repeat' (first | (with_reducible first | exact rfl | exact trivial | refine And.intro ?_ ?_ | refine br_intro (fun hq => ?_) fun hq => ?_ | refine if_both (fun hz => ?_) fun hz => ?_) | (intro) | fail)
  all_goals try (rename Placed _ _ _ _ _ _ _ 1 _ _ _ => T2; revert T2; rename Placed _ _ _ _ _ _ _ 1 _ _ _ => T1; intro T2; have P12 := placed_same T1 T2; have E12 := P12.1; subst E12)
  all_goals try (rename Placed _ _ _ _ _ _ _ 2 _ _ _ => T4; revert T4; rename Placed _ _ _ _ _ _ _ 2 _ _ _ => T3; intro T4; have P34 := placed_same T3 T4; have E34 := P34.1; subst E34)
  all_goals first
    | omega
    | assumption
    | contradiction
    | exact Nat.le_refl _
    | exact hct
    | exact ‹False›.elim
    | exact (P12.2 _).1
    | exact (P12.2 _).2
    | exact (P34.2 _).1
    | exact (P34.2 _).2
    | exact fun q => absurd q.1 (by omega)
    | (apply app_same2 (n := 0) (f := zF) <;> first | assumption | omega)
    | (exfalso; simp at hq; omega)
    | (exfalso; simp_all; omega)
def bplBAE_rrV (a b c d e : Int) (el nl cl : Nat) (fl : RF) (et nt ct : Nat) (ft : RF) (s : Int) (y : Int) (K : Value → List Blk → Prop) : Prop := let q0 := ((0 : Nat) + nl ≤ nl); let q1 := ((0 : Nat) + nt ≤ nt); let q2 := (nl ≤ (100000 : Nat)); let q3 := (nt ≤ (100000 : Nat)); let q4 := eB; let q5 := (askT a b c d e nl fl nt ft s y); let q6 := (@Eq Nat ((0 : Nat)) ((0 : Nat))); let q7 := (@Eq Nat ((1 : Nat)) ((1 : Nat))); let q8 := (nt + (1 : Nat) ≤ (100000 : Nat)); let q9 := TS; let q10 := (@Eq Nat (nt + (1 : Nat)) (nt + (1 : Nat))); let q11 := (¬askT a b c d e nl fl nt ft s y = (0 : Int)); let q12 := ((0 : Nat) + (nt + (1 : Nat)) ≤ nt + (1 : Nat)); let q13 := (@Eq (Value) (Value.bool false) (Value.bool true)); let q14 := (@Eq (List IntKind) ([IntKind.i64]) ([IntKind.i64])); let q15 := (@Eq Int (askT a b c d e nl fl nt ft (-1 : Int) y) ((0 : Int))); let q16 := eK; let q17 := ((@Eq (List Value) ([]) ([])) ∧ (@Eq (Value) (Value.bool true) (Value.bool true))); let q18 := (¬(sel (selE fl (0 : Int)) nl = [] ∨ List.length (sel (selE fl (2 : Int)) nl) = (2 : Nat))); let q19 := (q14 ∧ ((@Eq Nat (nt) (nt)) ∧ (@Eq Nat (ct) (ct)))); let q20 := (q16 ∧ ((@Eq Nat (nl) (nl)) ∧ (@Eq Nat (cl) (cl)))); (t4 (q9 ∧ (T0 ∧ (if ((30 : Int) < (↑nl : Int)) then q17 else (T0 ∧ (q9 ∧ (T0 ∧ (if ((30 : Int) < (↑nt : Int)) then q17 else (t5 (q0 ∧ (q1 ∧ (t2 ((InC a b c d e) ∧ (q6 ∧ (q2 ∧ (q20 ∧ (q7 ∧ (q3 ∧ (q19 ∧ (q4 ∧ (((Nat.le nt ct) ∧ q11) ∧ (t5 (q0 ∧ (q1 ∧ (t2 ((InC a b c d e) ∧ (q6 ∧ (q2 ∧ (q20 ∧ (q7 ∧ (q3 ∧ (q19 ∧ (q4 ∧ (q11 ∧ (t3 (q4 ∧ ((q6 ∧ (∀ y0 : Nat, ((y0 < (0 : Nat)) → ((@Eq Int (zF y0 (0 : Nat)) (zF y0 (0 : Nat))) ∧ (@Eq Int (zF y0 (1 : Nat)) (zF y0 (1 : Nat))))))) ∧ (t2 (q4 ∧ ((q6 ∧ (∀ y0 : Nat, ((y0 < (0 : Nat)) → (@Eq Int (zF y0 (0 : Nat)) (zF y0 (0 : Nat)))))) ∧ (T0 ∧ (if (@Eq Int q5 q5) then (t4 (q0 ∧ (q1 ∧ (T0 ∧ ((InC a b c d e) ∧ (q6 ∧ (q2 ∧ (q20 ∧ (q7 ∧ (q3 ∧ (q19 ∧ (q4 ∧ (((Nat.le nt ct) ∧ (q15 ∧ ((nt ≤ (1000 : Nat)) ∧ (q18 ∧ (@Eq Nat (nt) ((0 : Nat))))))) ∧ (∀ y0 : Nat, (∀ y1 : Nat → Nat → Int, (∀ y2 : Int, ((Placed a b c d e nl fl (2 : Int) y0 y y1) → ((@Eq Int (y2) ((1 : Int) + c + (↑y0 : Int) * a)) → (∀ y3 : Nat → Nat → Int, (((∀ y4 : Nat, ((y4 < nt) → (@Eq Int (y3 y4 (0 : Nat)) (ft y4 (0 : Nat))))) ∧ (@Eq Int (y3 nt (0 : Nat)) ((↑y0 : Int)))) → (∀ y4 : Nat, ((nl ≤ y4) → (∀ y5 : Nat, ((nt + (1 : Nat) ≤ y5) → (t4 (q0 ∧ (q1 ∧ (T0 ∧ ((InC a b c d e) ∧ (q6 ∧ (q2 ∧ (q20 ∧ (q7 ∧ (q3 ∧ (q19 ∧ (q4 ∧ ((q15 ∧ ((nt ≤ (1000 : Nat)) ∧ (q18 ∧ (¬((0 : Nat) < nt ∧ fl (Int.toNat (ft (Int.toNat ((↑nt : Int) - (1 : Int))) (0 : Nat))) (0 : Nat) = (1 : Int)))))) ∧ (∀ y6 : Nat, (∀ y7 : Nat → Nat → Int, (∀ y8 : Int, ((Placed a b c d e nl fl (2 : Int) y6 y y7) → ((@Eq Int (y8) ((1 : Int) + c + (↑y6 : Int) * a)) → (∀ y9 : Nat → Nat → Int, (((∀ y10 : Nat, ((y10 < nt) → (@Eq Int (y9 y10 (0 : Nat)) (ft y10 (0 : Nat))))) ∧ (@Eq Int (y9 nt (0 : Nat)) ((↑y6 : Int)))) → (∀ y10 : Nat, ((nl ≤ y10) → (∀ y11 : Nat, ((nt + (1 : Nat) ≤ y11) → (T0 ∧ (if (@Eq Int (y2) (y8)) then (q0 ∧ (q0 ∧ (q6 ∧ (q2 ∧ ((q16 ∧ ((@Eq Nat (nl) (nl)) ∧ (@Eq Nat (y4) (y4)))) ∧ (q7 ∧ (q2 ∧ ((q16 ∧ ((@Eq Nat (nl) (nl)) ∧ (@Eq Nat (y10) (y10)))) ∧ (q4 ∧ (((@Eq Nat (nl) (nl)) ∧ (∀ y12 : Nat, ((y12 < nl) → ((@Eq Int (y1 y12 (0 : Nat)) (y7 y12 (0 : Nat))) ∧ (@Eq Int (y1 y12 (1 : Nat)) (y7 y12 (1 : Nat))))))) ∧ (q12 ∧ (q12 ∧ (q6 ∧ (q8 ∧ ((q14 ∧ (q10 ∧ (@Eq Nat (y5) (y5)))) ∧ (q7 ∧ (q8 ∧ ((q14 ∧ (q10 ∧ (@Eq Nat (y11) (y11)))) ∧ (q4 ∧ ((q10 ∧ (∀ y12 : Nat, ((y12 < nt + (1 : Nat)) → (@Eq Int (y3 y12 (0 : Nat)) (y9 y12 (0 : Nat)))))) ∧ (T0 ∧ q17))))))))))))))))))))) else q13)))))))))))))))))))))))))))))))))))))))))))))))))) else q13))))))))))))))))))))))))))))))))))))))))))
theorem bplBAE_rrE (a b c d e : Int) (el nl cl : Nat) (fl : RF) (et nt ct : Nat) (ft : RF) (s : Int) (y : Int) (K : Value → List Blk → Prop) : bplBAE_rrV a b c d e el nl cl fl et nt ct ft s y K = bodyX (mkB XL11BAE) (callN (mkB XL11BAE) 4) (bplBAE_rrA a b c d e el nl cl fl et nt ct ft s y) Try.f11 [five' a b c d e, .agg ⟨[rsl 0 0 nl cl, rsl 1 0 nt ct, .int .i64 s]⟩, .int .i64 y] (stOf [.row true [.i64, .i64] el nl cl fl, .row true [.i64] et nt ct ft]) fun v _ => v = .bool true := by kernel_rfl
set_option tactic.hygienic false in
theorem bplBAE_rrP (a b c d e : Int) (el nl cl : Nat) (fl : RF) (et nt ct : Nat) (ft : RF) (s : Int) (y : Int) (K : Value → List Blk → Prop)  (hI : InC a b c d e) (hct : nt ≤ ct) (hf1 : nl ≤ 30) (hf2 : nt ≤ 30) (h1 : ¬ askT a b c d e nl fl nt ft s y = 0) (k1 : askT a b c d e nl fl nt ft (-1) y = 0) (kg : ¬ (sel (selE fl 0) nl = [] ∨ List.length (sel (selE fl 2) nl) = 2)) (ht : nt = 0) : bplBAE_rrV a b c d e el nl cl fl et nt ct ft s y K := by
  unfold bplBAE_rrV
  conv => zeta

  repeat' (first | (with_reducible first | exact rfl | exact trivial | refine And.intro ?_ ?_ | refine br_intro (fun hq => ?_) fun hq => ?_ | refine if_both (fun hz => ?_) fun hz => ?_) | (intro) | fail)
  all_goals try (rename Placed _ _ _ _ _ _ _ 2 _ _ _ => T4; revert T4; rename Placed _ _ _ _ _ _ _ 2 _ _ _ => T3; intro T4; have P34 := placed_same T3 T4; have E34 := P34.1; subst E34)
  all_goals first
    | omega
    | assumption
    | contradiction
    | exact Nat.le_refl _
    | exact hct
    | exact ‹False›.elim
    | exact (P34.2 _).1
    | exact (P34.2 _).2
    | exact fun q => absurd q.1 (by omega)
    | (apply app_same2 (n := nt) (f := ft) <;> first | assumption | omega)
    | (exfalso; simp at hq; omega)
    | (exfalso; simp_all; omega)
end Go.Proofs.Ytkflmglpniebfaa.Fr
