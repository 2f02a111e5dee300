/-
  Bump: last. No project text.
-/
import Derived.Test.YtkflmglpniebfaaBu7
namespace Go.Proofs.Ytkflmglpniebfaa.Fr
open Go.Rx
open Go.RowKit (Below)
set_option linter.unusedVariables false
def con53B : Con := fun vs bs K => match vs with
  | [u, vl, vt, .int .i64 s, .int .i64 y] => five u fun a b c d e => parse [.i64, .i64] 0 vl bs fun nl fl j0 bs0 => parse [.i64] j0 vt bs0 fun nt ft j1 bs1 => bs1 = [] ∧ ((capOk (vt)) ∧ (¬ askT a b c d e nl fl nt ft s y = 0)) ∧ (K (.tuple ⟨[.int .i64 (0), .int .i64 (askT a b c d e nl fl nt ft s y)]⟩) [])
  | _ => False

def con53B_nnA (a b c d e : Int) (s : Int) (y : Int) : Ann := fun _ _ _ => none
def con53B_nrA (a b c d e : Int) (et nt ct : Nat) (ft : RF) (s : Int) (y : Int) : Ann := fun _ _ _ => none
def con53B_rnA (a b c d e : Int) (el nl cl : Nat) (fl : RF) (s : Int) (y : Int) : Ann := fun _ _ _ => none
def con53B_rrA (a b c d e : Int) (el nl cl : Nat) (fl : RF) (et nt ct : Nat) (ft : RF) (s : Int) (y : Int) : Ann := fun _ _ _ => none
set_option maxRecDepth 100000 in
def con53B_nnV (a b c d e : Int) (s : Int) (y : Int) (K : Value → List Blk → Prop) : Prop := (T0 ∧ (T0 ∧ (TS ∧ (T0 ∧ (T0 ∧ (T0 ∧ (T0 ∧ (T0 ∧ (T0 ∧ (T0 ∧ (T0 ∧ (T0 ∧ ((InC a b c d e) ∧ (eB ∧ ((Nat.le 0 0) ∧ (T0 ∧ (if (@Eq Int (Prod.snd (bck a b c d e 0 zF 0 zF)) (0)) then (TS ∧ (T0 ∧ ((TS ∧ (eN 1)) ∧ ((((0 : Int) ≤ 0) ∧ (0 < (↑1 : Int))) ∧ ((Int.toNat 0 < 1) ∧ (T0 ∧ (if (y < 1) then (T0 ∧ (∃ y0 : Value, (∃ y1 : List Blk, ((Go.Rx.Found 0 (vt [vi 0, vi 7]) ({ h := [(2, CB a b c d e), (1, Blk.row false [IntKind.i64] 3 1 1 (litF (List.length [IntKind.i64]) ([y] ++ []))), (0, CB a b c d e)], next := 3 }) (y0) (y1)) ∧ (K y0 y1))))) else (T0 ∧ (T0 ∧ (if (a < y) then (T0 ∧ (∃ y0 : Value, (∃ y1 : List Blk, ((Go.Rx.Found 0 (vt [vi 0, vi 7]) ({ h := [(2, CB a b c d e), (1, Blk.row false [IntKind.i64] 3 1 1 (litF (List.length [IntKind.i64]) ([y] ++ []))), (0, CB a b c d e)], next := 3 }) (y0) (y1)) ∧ (K y0 y1))))) else (T0 ∧ ((((-9223372036854775808 : Int) ≤ 0 + 1) ∧ (0 + (1 : Int) ≤ 9223372036854775807)) ∧ (T0 ∧ (T0 ∧ (if (s < (-1 : Int)) then (T0 ∧ (∃ y0 : Value, (∃ y1 : List Blk, ((Go.Rx.Found 0 (vt [vi 0, vi 7]) ({ h := [(2, CB a b c d e), (1, Blk.row false [IntKind.i64] 3 1 1 (litF (List.length [IntKind.i64]) ([y] ++ []))), (0, CB a b c d e)], next := 3 }) (y0) (y1)) ∧ (K y0 y1))))) else (T0 ∧ (T0 ∧ (if (b ≤ s) then (T0 ∧ (∃ y0 : Value, (∃ y1 : List Blk, ((Go.Rx.Found 0 (vt [vi 0, vi 7]) ({ h := [(2, CB a b c d e), (1, Blk.row false [IntKind.i64] 3 1 1 (litF (List.length [IntKind.i64]) ([y] ++ []))), (0, CB a b c d e)], next := 3 }) (y0) (y1)) ∧ (K y0 y1))))) else (T0 ∧ (if (@Eq Int (s) ((-1 : Int))) then (T0 ∧ (T0 ∧ (T0 ∧ (T0 ∧ (T0 ∧ (T0 ∧ (False))))))) else (False))))))))))))))))))))) else (T0 ∧ (if (@Eq Int (Prod.snd (bck a b c d e 0 zF 0 zF)) (0)) then (T0 ∧ (False)) else (∃ y0 : Value, (∃ y1 : List Blk, ((Go.Rx.Found 0 (vt [vi 0, vi (Prod.snd (bck a b c d e 0 zF 0 zF))]) ({ h := [(2, CB a b c d e), (1, Blk.row false [IntKind.i64] 3 1 1 (litF (List.length [IntKind.i64]) ([y] ++ []))), (0, CB a b c d e)], next := 3 }) (y0) (y1)) ∧ (K y0 y1)))))))))))))))))))))))
set_option maxRecDepth 100000 in
theorem con53B_nnE (a b c d e : Int) (s : Int) (y : Int) (K : Value → List Blk → Prop) : con53B_nnV a b c d e s y K = bodyX (mkB X53B) (callN (mkB X53B) 5) (con53B_nnA a b c d e s y) Try.f53 [.agg ⟨[.int .i64 a, .int .i64 b, .int .i64 c, .int .i64 d, .int .i64 e]⟩, .slice none 0 0, .slice none 0 0, .int .i64 s, .int .i64 y] (stOf []) fun v s' => ∃ v1 news, Rx.Found 0 v s' v1 news ∧ K v1 news := by kernel_rfl
set_option maxRecDepth 100000 in
set_option maxHeartbeats 4000000 in
set_option tactic.hygienic false in
theorem con53B_nnP (a b c d e : Int) (s : Int) (y : Int) (K : Value → List Blk → Prop)  (hI : InC a b c d e) (hct : capOk (.slice none 0 0)) (h1 : ¬ askT a b c d e 0 zF 0 zF s y = 0) (h : K (.tuple ⟨[.int .i64 (0), .int .i64 (askT a b c d e 0 zF 0 zF s y)]⟩) []) : con53B_nnV a b c d e s y K := by
  unfold con53B_nnV
  unfold askT at h1 h
  have G : (bck a b c d e 0 zF 0 zF).2 = 0 → good a b c d e ∧ ((0 : Nat) : Int) = b ∧ ∀ i, i < 0 → fok a zF i := fun q => ckF_zero (bck_ck q)
  repeat' (first | (with_reducible exact rfl) | (with_reducible exact trivial) | (with_reducible refine And.intro ?_ ?_) | (intro) | (with_reducible refine br_intro (fun hq => ?_) (fun hq => ?_)) | (with_reducible refine if_both (fun hz => ?_) (fun hz => ?_)) | fail)

  all_goals first
    | omega
    | assumption
    | contradiction
    | (refine fin0 (by kernel_rfl) (by kernel_rfl) ?_
       repeat' (split at h)
       all_goals first | exact h | omega | (rw [show (bck _ _ _ _ _ _ _ _ _).2 = 0 by assumption]; exact h) | (exfalso; simp_all; omega))
    | (have g := G (by assumption); omega)
    | (exfalso; apply h1; rw [if_pos (by assumption), if_neg (by omega), if_neg (by omega)])
    | (exfalso; apply h1; rw [if_pos (by assumption), if_neg (by omega), if_neg (by first | omega | (have g := G (by assumption); simp at hq; omega))])
    | (exfalso; simp at hq; omega)
set_option maxRecDepth 100000 in
def con53B_nrV (a b c d e : Int) (et nt ct : Nat) (ft : RF) (s : Int) (y : Int) (K : Value → List Blk → Prop) : Prop := (T0 ∧ (T0 ∧ (TS ∧ (T0 ∧ (T0 ∧ (T0 ∧ (T0 ∧ (T0 ∧ (T0 ∧ (T0 ∧ (T0 ∧ ((0 + nt ≤ nt) ∧ ((InC a b c d e) ∧ ((eN 0) ∧ ((nt ≤ 100000) ∧ (((@Eq (List IntKind) ([IntKind.i64]) ([IntKind.i64])) ∧ ((eN nt) ∧ (eN ct))) ∧ (eB ∧ ((Nat.le nt ct) ∧ (T0 ∧ (if (@Eq Int (Prod.snd (bck a b c d e 0 zF nt ft)) (0)) then (TS ∧ (T0 ∧ ((TS ∧ (eN 1)) ∧ ((((0 : Int) ≤ 0) ∧ (0 < (↑1 : Int))) ∧ ((Int.toNat 0 < 1) ∧ (T0 ∧ (if (y < 1) then (T0 ∧ (∃ y0 : Value, (∃ y1 : List Blk, ((Go.Rx.Found 1 (vt [vi 0, vi 7]) ({ h := [(3, CB a b c d e), (2, Blk.row false [IntKind.i64] 3 1 1 (litF (List.length [IntKind.i64]) ([y] ++ []))), (1, CB a b c d e), (0, Blk.row true [IntKind.i64] et nt ct ft)], next := 4 }) (y0) (y1)) ∧ (K y0 y1))))) else (T0 ∧ (T0 ∧ (if (a < y) then (T0 ∧ (∃ y0 : Value, (∃ y1 : List Blk, ((Go.Rx.Found 1 (vt [vi 0, vi 7]) ({ h := [(3, CB a b c d e), (2, Blk.row false [IntKind.i64] 3 1 1 (litF (List.length [IntKind.i64]) ([y] ++ []))), (1, CB a b c d e), (0, Blk.row true [IntKind.i64] et nt ct ft)], next := 4 }) (y0) (y1)) ∧ (K y0 y1))))) else (T0 ∧ ((((-9223372036854775808 : Int) ≤ 0 + 1) ∧ (0 + (1 : Int) ≤ 9223372036854775807)) ∧ (T0 ∧ (T0 ∧ (if (s < (-1 : Int)) then (T0 ∧ (∃ y0 : Value, (∃ y1 : List Blk, ((Go.Rx.Found 1 (vt [vi 0, vi 7]) ({ h := [(3, CB a b c d e), (2, Blk.row false [IntKind.i64] 3 1 1 (litF (List.length [IntKind.i64]) ([y] ++ []))), (1, CB a b c d e), (0, Blk.row true [IntKind.i64] et nt ct ft)], next := 4 }) (y0) (y1)) ∧ (K y0 y1))))) else (T0 ∧ (T0 ∧ (if (b ≤ s) then (T0 ∧ (∃ y0 : Value, (∃ y1 : List Blk, ((Go.Rx.Found 1 (vt [vi 0, vi 7]) ({ h := [(3, CB a b c d e), (2, Blk.row false [IntKind.i64] 3 1 1 (litF (List.length [IntKind.i64]) ([y] ++ []))), (1, CB a b c d e), (0, Blk.row true [IntKind.i64] et nt ct ft)], next := 4 }) (y0) (y1)) ∧ (K y0 y1))))) else (T0 ∧ (if (@Eq Int (s) ((-1 : Int))) then (T0 ∧ (T0 ∧ (T0 ∧ (T0 ∧ (T0 ∧ (T0 ∧ (False))))))) else (False))))))))))))))))))))) else (T0 ∧ (if (@Eq Int (Prod.snd (bck a b c d e 0 zF nt ft)) (0)) then (T0 ∧ (False)) else (∃ y0 : Value, (∃ y1 : List Blk, ((Go.Rx.Found 1 (vt [vi 0, vi (Prod.snd (bck a b c d e 0 zF nt ft))]) ({ h := [(3, CB a b c d e), (2, Blk.row false [IntKind.i64] 3 1 1 (litF (List.length [IntKind.i64]) ([y] ++ []))), (1, CB a b c d e), (0, Blk.row true [IntKind.i64] et nt ct ft)], next := 4 }) (y0) (y1)) ∧ (K y0 y1))))))))))))))))))))))))))
set_option maxRecDepth 100000 in
theorem con53B_nrE (a b c d e : Int) (et nt ct : Nat) (ft : RF) (s : Int) (y : Int) (K : Value → List Blk → Prop) : con53B_nrV a b c d e et nt ct ft s y K = bodyX (mkB X53B) (callN (mkB X53B) 5) (con53B_nrA a b c d e et nt ct ft s y) Try.f53 [.agg ⟨[.int .i64 a, .int .i64 b, .int .i64 c, .int .i64 d, .int .i64 e]⟩, .slice none 0 0, rsl 0 0 nt ct, .int .i64 s, .int .i64 y] (stOf [.row true [.i64] et nt ct ft]) fun v s' => ∃ v1 news, Rx.Found 1 v s' v1 news ∧ K v1 news := by kernel_rfl
set_option maxRecDepth 100000 in
set_option maxHeartbeats 4000000 in
set_option tactic.hygienic false in
theorem con53B_nrP (a b c d e : Int) (et nt ct : Nat) (ft : RF) (s : Int) (y : Int) (K : Value → List Blk → Prop)  (hI : InC a b c d e) (hnt : nt ≤ 100000) (hct : capOk (rsl 0 0 nt ct)) (h1 : ¬ askT a b c d e 0 zF nt ft s y = 0) (h : K (.tuple ⟨[.int .i64 (0), .int .i64 (askT a b c d e 0 zF nt ft s y)]⟩) []) : con53B_nrV a b c d e et nt ct ft s y K := by
  unfold con53B_nrV
  unfold askT at h1 h
  have G : (bck a b c d e 0 zF nt ft).2 = 0 → good a b c d e ∧ ((0 : Nat) : Int) = b ∧ ∀ i, i < 0 → fok a zF i := fun q => ckF_zero (bck_ck q)
  repeat' (first | (with_reducible exact rfl) | (with_reducible exact trivial) | (with_reducible refine And.intro ?_ ?_) | (intro) | (with_reducible refine br_intro (fun hq => ?_) (fun hq => ?_)) | (with_reducible refine if_both (fun hz => ?_) (fun hz => ?_)) | fail)

  all_goals first
    | omega
    | assumption
    | contradiction
    | (refine fin0 (by kernel_rfl) (by kernel_rfl) ?_
       repeat' (split at h)
       all_goals first | exact h | omega | (rw [show (bck _ _ _ _ _ _ _ _ _).2 = 0 by assumption]; exact h) | (exfalso; simp_all; omega))
    | (have g := G (by assumption); omega)
    | (exfalso; apply h1; rw [if_pos (by assumption), if_neg (by omega), if_neg (by omega)])
    | (exfalso; apply h1; rw [if_pos (by assumption), if_neg (by omega), if_neg (by first | omega | (have g := G (by assumption); simp at hq; omega))])
    | (exfalso; simp at hq; omega)
set_option maxRecDepth 100000 in
def con53B_rnV (a b c d e : Int) (el nl cl : Nat) (fl : RF) (s : Int) (y : Int) (K : Value → List Blk → Prop) : Prop := (T0 ∧ (T0 ∧ (TS ∧ (T0 ∧ (T0 ∧ (T0 ∧ (T0 ∧ (T0 ∧ (T0 ∧ (T0 ∧ ((0 + nl ≤ nl) ∧ (T0 ∧ ((InC a b c d e) ∧ ((eN 0) ∧ ((nl ≤ 100000) ∧ ((eK ∧ ((eN nl) ∧ (eN cl))) ∧ (eB ∧ ((Nat.le 0 0) ∧ (T0 ∧ (if (@Eq Int (Prod.snd (bck a b c d e nl fl 0 zF)) (0)) then (TS ∧ (T0 ∧ ((TS ∧ (eN 1)) ∧ ((((0 : Int) ≤ 0) ∧ (0 < (↑1 : Int))) ∧ ((Int.toNat 0 < 1) ∧ (T0 ∧ (if (y < 1) then (T0 ∧ (∃ y0 : Value, (∃ y1 : List Blk, ((Go.Rx.Found 1 (vt [vi 0, vi 7]) ({ h := [(3, CB a b c d e), (2, Blk.row false [IntKind.i64] 3 1 1 (litF (List.length [IntKind.i64]) ([y] ++ []))), (1, CB a b c d e), (0, rT el nl cl fl)], next := 4 }) (y0) (y1)) ∧ (K y0 y1))))) else (T0 ∧ (T0 ∧ (if (a < y) then (T0 ∧ (∃ y0 : Value, (∃ y1 : List Blk, ((Go.Rx.Found 1 (vt [vi 0, vi 7]) ({ h := [(3, CB a b c d e), (2, Blk.row false [IntKind.i64] 3 1 1 (litF (List.length [IntKind.i64]) ([y] ++ []))), (1, CB a b c d e), (0, rT el nl cl fl)], next := 4 }) (y0) (y1)) ∧ (K y0 y1))))) else (T0 ∧ ((((-9223372036854775808 : Int) ≤ 0 + 1) ∧ (0 + (1 : Int) ≤ 9223372036854775807)) ∧ (T0 ∧ (T0 ∧ (if (s < (-1 : Int)) then (T0 ∧ (∃ y0 : Value, (∃ y1 : List Blk, ((Go.Rx.Found 1 (vt [vi 0, vi 7]) ({ h := [(3, CB a b c d e), (2, Blk.row false [IntKind.i64] 3 1 1 (litF (List.length [IntKind.i64]) ([y] ++ []))), (1, CB a b c d e), (0, rT el nl cl fl)], next := 4 }) (y0) (y1)) ∧ (K y0 y1))))) else (T0 ∧ (T0 ∧ (if (b ≤ s) then (T0 ∧ (∃ y0 : Value, (∃ y1 : List Blk, ((Go.Rx.Found 1 (vt [vi 0, vi 7]) ({ h := [(3, CB a b c d e), (2, Blk.row false [IntKind.i64] 3 1 1 (litF (List.length [IntKind.i64]) ([y] ++ []))), (1, CB a b c d e), (0, rT el nl cl fl)], next := 4 }) (y0) (y1)) ∧ (K y0 y1))))) else (T0 ∧ (if (@Eq Int (s) ((-1 : Int))) then (T0 ∧ (T0 ∧ (T0 ∧ (T0 ∧ (T0 ∧ (T0 ∧ (False))))))) else ((TS ∧ (eN 2)) ∧ (((0 ≤ s) ∧ (s < (↑nl : Int))) ∧ (T0 ∧ ((Int.toNat s < nl) ∧ (T0 ∧ (if (@Eq Int (fl (Int.toNat s) 0) (0)) then (T0 ∧ (∃ y0 : Value, (∃ y1 : List Blk, ((Go.Rx.Found 1 (vt [vi 0, vi 9]) ({ h := [(3, CB a b c d e), (2, Blk.row false [IntKind.i64] 3 1 1 (litF (List.length [IntKind.i64]) ([y] ++ []))), (1, CB a b c d e), (0, rT el nl cl fl)], next := 4 }) (y0) (y1)) ∧ (K y0 y1))))) else (T0 ∧ (T0 ∧ (T0 ∧ (T0 ∧ (T0 ∧ (T0 ∧ (False))))))))))))))))))))))))))))))))) else (T0 ∧ (if (@Eq Int (Prod.snd (bck a b c d e nl fl 0 zF)) (0)) then (T0 ∧ (False)) else (∃ y0 : Value, (∃ y1 : List Blk, ((Go.Rx.Found 1 (vt [vi 0, vi (Prod.snd (bck a b c d e nl fl 0 zF))]) ({ h := [(3, CB a b c d e), (2, Blk.row false [IntKind.i64] 3 1 1 (litF (List.length [IntKind.i64]) ([y] ++ []))), (1, CB a b c d e), (0, rT el nl cl fl)], next := 4 }) (y0) (y1)) ∧ (K y0 y1))))))))))))))))))))))))))
set_option maxRecDepth 100000 in
theorem con53B_rnE (a b c d e : Int) (el nl cl : Nat) (fl : RF) (s : Int) (y : Int) (K : Value → List Blk → Prop) : con53B_rnV a b c d e el nl cl fl s y K = bodyX (mkB X53B) (callN (mkB X53B) 5) (con53B_rnA a b c d e el nl cl fl s y) Try.f53 [.agg ⟨[.int .i64 a, .int .i64 b, .int .i64 c, .int .i64 d, .int .i64 e]⟩, rsl 0 0 nl cl, .slice none 0 0, .int .i64 s, .int .i64 y] (stOf [.row true [.i64, .i64] el nl cl fl]) fun v s' => ∃ v1 news, Rx.Found 1 v s' v1 news ∧ K v1 news := by kernel_rfl
set_option maxRecDepth 100000 in
set_option maxHeartbeats 4000000 in
set_option tactic.hygienic false in
theorem con53B_rnP (a b c d e : Int) (el nl cl : Nat) (fl : RF) (s : Int) (y : Int) (K : Value → List Blk → Prop)  (hI : InC a b c d e) (hnl : nl ≤ 100000) (hct : capOk (.slice none 0 0)) (h1 : ¬ askT a b c d e nl fl 0 zF s y = 0) (h : K (.tuple ⟨[.int .i64 (0), .int .i64 (askT a b c d e nl fl 0 zF s y)]⟩) []) : con53B_rnV a b c d e el nl cl fl s y K := by
  unfold con53B_rnV
  unfold askT at h1 h
  have G : (bck a b c d e nl fl 0 zF).2 = 0 → good a b c d e ∧ ((nl : Nat) : Int) = b ∧ ∀ i, i < nl → fok a fl i := fun q => ckF_zero (bck_ck q)
  repeat' (first | (with_reducible exact rfl) | (with_reducible exact trivial) | (with_reducible refine And.intro ?_ ?_) | (intro) | (with_reducible refine br_intro (fun hq => ?_) (fun hq => ?_)) | (with_reducible refine if_both (fun hz => ?_) (fun hz => ?_)) | fail)

  all_goals first
    | omega
    | assumption
    | contradiction
    | (refine fin0 (by kernel_rfl) (by kernel_rfl) ?_
       repeat' (split at h)
       all_goals first | exact h | omega | (rw [show (bck _ _ _ _ _ _ _ _ _).2 = 0 by assumption]; exact h) | (exfalso; simp_all; omega))
    | (have g := G (by assumption); omega)
    | (exfalso; apply h1; rw [if_pos (by assumption), if_neg (by omega), if_neg (by omega)])
    | (exfalso; apply h1; rw [if_pos (by assumption), if_neg (by omega), if_neg (by first | omega | (have g := G (by assumption); simp at hq; omega))])
    | (exfalso; simp at hq; omega)
set_option maxRecDepth 100000 in
def con53B_rrV (a b c d e : Int) (el nl cl : Nat) (fl : RF) (et nt ct : Nat) (ft : RF) (s : Int) (y : Int) (K : Value → List Blk → Prop) : Prop := (T0 ∧ (T0 ∧ (TS ∧ (T0 ∧ (T0 ∧ (T0 ∧ (T0 ∧ (T0 ∧ (T0 ∧ (T0 ∧ ((0 + nl ≤ nl) ∧ ((0 + nt ≤ nt) ∧ ((InC a b c d e) ∧ ((eN 0) ∧ ((nl ≤ 100000) ∧ ((eK ∧ ((eN nl) ∧ (eN cl))) ∧ ((eN 1) ∧ ((nt ≤ 100000) ∧ (((@Eq (List IntKind) ([IntKind.i64]) ([IntKind.i64])) ∧ ((eN nt) ∧ (eN ct))) ∧ (eB ∧ ((Nat.le nt ct) ∧ (T0 ∧ (if (@Eq Int (Prod.snd (bck a b c d e nl fl nt ft)) (0)) then (TS ∧ (T0 ∧ ((TS ∧ (eN 1)) ∧ ((((0 : Int) ≤ 0) ∧ (0 < (↑1 : Int))) ∧ ((Int.toNat 0 < 1) ∧ (T0 ∧ (if (y < 1) then (T0 ∧ (∃ y0 : Value, (∃ y1 : List Blk, ((Go.Rx.Found 2 (vt [vi 0, vi 7]) ({ h := [(4, CB a b c d e), (3, Blk.row false [IntKind.i64] 3 1 1 (litF (List.length [IntKind.i64]) ([y] ++ []))), (2, CB a b c d e), (0, rT el nl cl fl), (1, Blk.row true [IntKind.i64] et nt ct ft)], next := 5 }) (y0) (y1)) ∧ (K y0 y1))))) else (T0 ∧ (T0 ∧ (if (a < y) then (T0 ∧ (∃ y0 : Value, (∃ y1 : List Blk, ((Go.Rx.Found 2 (vt [vi 0, vi 7]) ({ h := [(4, CB a b c d e), (3, Blk.row false [IntKind.i64] 3 1 1 (litF (List.length [IntKind.i64]) ([y] ++ []))), (2, CB a b c d e), (0, rT el nl cl fl), (1, Blk.row true [IntKind.i64] et nt ct ft)], next := 5 }) (y0) (y1)) ∧ (K y0 y1))))) else (T0 ∧ ((((-9223372036854775808 : Int) ≤ 0 + 1) ∧ (0 + (1 : Int) ≤ 9223372036854775807)) ∧ (T0 ∧ (T0 ∧ (if (s < (-1 : Int)) then (T0 ∧ (∃ y0 : Value, (∃ y1 : List Blk, ((Go.Rx.Found 2 (vt [vi 0, vi 7]) ({ h := [(4, CB a b c d e), (3, Blk.row false [IntKind.i64] 3 1 1 (litF (List.length [IntKind.i64]) ([y] ++ []))), (2, CB a b c d e), (0, rT el nl cl fl), (1, Blk.row true [IntKind.i64] et nt ct ft)], next := 5 }) (y0) (y1)) ∧ (K y0 y1))))) else (T0 ∧ (T0 ∧ (if (b ≤ s) then (T0 ∧ (∃ y0 : Value, (∃ y1 : List Blk, ((Go.Rx.Found 2 (vt [vi 0, vi 7]) ({ h := [(4, CB a b c d e), (3, Blk.row false [IntKind.i64] 3 1 1 (litF (List.length [IntKind.i64]) ([y] ++ []))), (2, CB a b c d e), (0, rT el nl cl fl), (1, Blk.row true [IntKind.i64] et nt ct ft)], next := 5 }) (y0) (y1)) ∧ (K y0 y1))))) else (T0 ∧ (if (@Eq Int (s) ((-1 : Int))) then (T0 ∧ (T0 ∧ (T0 ∧ (T0 ∧ (T0 ∧ (T0 ∧ (False))))))) else ((TS ∧ (eN 2)) ∧ (((0 ≤ s) ∧ (s < (↑nl : Int))) ∧ (T0 ∧ ((Int.toNat s < nl) ∧ (T0 ∧ (if (@Eq Int (fl (Int.toNat s) 0) (0)) then (T0 ∧ (∃ y0 : Value, (∃ y1 : List Blk, ((Go.Rx.Found 2 (vt [vi 0, vi 9]) ({ h := [(4, CB a b c d e), (3, Blk.row false [IntKind.i64] 3 1 1 (litF (List.length [IntKind.i64]) ([y] ++ []))), (2, CB a b c d e), (0, rT el nl cl fl), (1, Blk.row true [IntKind.i64] et nt ct ft)], next := 5 }) (y0) (y1)) ∧ (K y0 y1))))) else (T0 ∧ (T0 ∧ (T0 ∧ (T0 ∧ (T0 ∧ (T0 ∧ (False))))))))))))))))))))))))))))))))) else (T0 ∧ (if (@Eq Int (Prod.snd (bck a b c d e nl fl nt ft)) (0)) then (T0 ∧ (False)) else (∃ y0 : Value, (∃ y1 : List Blk, ((Go.Rx.Found 2 (vt [vi 0, vi (Prod.snd (bck a b c d e nl fl nt ft))]) ({ h := [(4, CB a b c d e), (3, Blk.row false [IntKind.i64] 3 1 1 (litF (List.length [IntKind.i64]) ([y] ++ []))), (2, CB a b c d e), (0, rT el nl cl fl), (1, Blk.row true [IntKind.i64] et nt ct ft)], next := 5 }) (y0) (y1)) ∧ (K y0 y1)))))))))))))))))))))))))))))
set_option maxRecDepth 100000 in
theorem con53B_rrE (a b c d e : Int) (el nl cl : Nat) (fl : RF) (et nt ct : Nat) (ft : RF) (s : Int) (y : Int) (K : Value → List Blk → Prop) : con53B_rrV a b c d e el nl cl fl et nt ct ft s y K = bodyX (mkB X53B) (callN (mkB X53B) 5) (con53B_rrA a b c d e el nl cl fl et nt ct ft s y) Try.f53 [.agg ⟨[.int .i64 a, .int .i64 b, .int .i64 c, .int .i64 d, .int .i64 e]⟩, rsl 0 0 nl cl, rsl 1 0 nt ct, .int .i64 s, .int .i64 y] (stOf [.row true [.i64, .i64] el nl cl fl, .row true [.i64] et nt ct ft]) fun v s' => ∃ v1 news, Rx.Found 2 v s' v1 news ∧ K v1 news := by kernel_rfl
set_option maxRecDepth 100000 in
set_option maxHeartbeats 4000000 in
set_option tactic.hygienic false in
theorem con53B_rrP (a b c d e : Int) (el nl cl : Nat) (fl : RF) (et nt ct : Nat) (ft : RF) (s : Int) (y : Int) (K : Value → List Blk → Prop)  (hI : InC a b c d e) (hnl : nl ≤ 100000) (hnt : nt ≤ 100000) (hct : capOk (rsl 1 0 nt ct)) (h1 : ¬ askT a b c d e nl fl nt ft s y = 0) (h : K (.tuple ⟨[.int .i64 (0), .int .i64 (askT a b c d e nl fl nt ft s y)]⟩) []) : con53B_rrV a b c d e el nl cl fl et nt ct ft s y K := by
  unfold con53B_rrV
  unfold askT at h1 h
  have G : (bck a b c d e nl fl nt ft).2 = 0 → good a b c d e ∧ ((nl : Nat) : Int) = b ∧ ∀ i, i < nl → fok a fl i := fun q => ckF_zero (bck_ck q)
  repeat' (first | (with_reducible exact rfl) | (with_reducible exact trivial) | (with_reducible refine And.intro ?_ ?_) | (intro) | (with_reducible refine br_intro (fun hq => ?_) (fun hq => ?_)) | (with_reducible refine if_both (fun hz => ?_) (fun hz => ?_)) | fail)

  all_goals first
    | omega
    | assumption
    | contradiction
    | (refine fin0 (by kernel_rfl) (by kernel_rfl) ?_
       repeat' (split at h)
       all_goals first | exact h | omega | (rw [show (bck _ _ _ _ _ _ _ _ _).2 = 0 by assumption]; exact h) | (exfalso; simp_all; omega))
    | (have g := G (by assumption); omega)
    | (exfalso; apply h1; rw [if_pos (by assumption), if_neg (by omega), if_neg (by omega)])
    | (exfalso; apply h1; rw [if_pos (by assumption), if_neg (by omega), if_neg (by first | omega | (have g := G (by assumption); simp at hq; omega))])
    | (exfalso; simp at hq; omega)
theorem con53B_ok : BodyOk (mkB X53B) 5 Try.f53 con53B := by
  intro vs bs K hh hro
  clear hro
  unfold con53B at hh
  split at hh
  · rename_i u vl vt s y
    obtain ⟨a, b, c, d, e, rfl, hI, hh0⟩ := five_inv hh
    rcases parse_inv hh0 with ⟨rfl, hh1⟩ | ⟨el, nl, cl, fl, btl, rfl, hnl, rfl, hh1⟩ <;> clear hh0
    · rcases parse_inv hh1 with ⟨rfl, hh2⟩ | ⟨et, nt, ct, ft, btt, rfl, hnt, rfl, hh2⟩ <;> clear hh1
      · obtain ⟨rfl, ⟨hct, h1⟩, hc⟩ := hh2
        exact ⟨_, _, cast (con53B_nnE a b c d e  s y K) (con53B_nnP a b c d e  s y K hI  hct h1 hc)⟩
      · obtain ⟨rfl, ⟨hct, h1⟩, hc⟩ := hh2
        exact ⟨_, _, cast (con53B_nrE a b c d e et nt ct ft s y K) (con53B_nrP a b c d e et nt ct ft s y K hI hnt hct h1 hc)⟩
    · rcases parse_inv hh1 with ⟨rfl, hh2⟩ | ⟨et, nt, ct, ft, btt, rfl, hnt, rfl, hh2⟩ <;> clear hh1
      · obtain ⟨rfl, ⟨hct, h1⟩, hc⟩ := hh2
        exact ⟨_, _, cast (con53B_rnE a b c d e el nl cl fl s y K) (con53B_rnP a b c d e el nl cl fl s y K hI hnl hct h1 hc)⟩
      · obtain ⟨rfl, ⟨hct, h1⟩, hc⟩ := hh2
        exact ⟨_, _, cast (con53B_rrE a b c d e el nl cl fl et nt ct ft s y K) (con53B_rrP a b c d e el nl cl fl et nt ct ft s y K hI hnl hnt hct h1 hc)⟩
  · exact hh.elim
theorem con53B_told : Told 53 (specOf con53B) := toldB (X := X53B) X53B_told (by kernel_rfl) (by kernel_rfl) (by kernel_rfl) con53B_ok
end Go.Proofs.Ytkflmglpniebfaa.Fr
