/-
  Frames: room, top, half. No project text.
-/
import Derived.Test.YtkflmglpniebfaaFr3
namespace Go.Proofs.Ytkflmglpniebfaa.Fr
open Go.Rx
open Go.RowKit (Below)
set_option linter.unusedVariables false
def con31 : Con := fun vs bs K => match vs with
  | [u, v, .int .i64 x] => five u fun a b c d e => parse [.i64, .i64] 0 v bs fun n f _ bs => bs = [] ∧ K (.tuple ⟨[.int .i64 (roomF a b c d e n f x).1, .int .i64 (roomF a b c d e n f x).2]⟩) []
  | _ => False

def con31_nA (a : Int) (b : Int) (c : Int) (d : Int) (e : Int) (x : Int) : Ann := fun _ _ _ => none
def con31_rA (el nl cl : Nat) (fl : RF) (a : Int) (b : Int) (c : Int) (d : Int) (e : Int) (x : Int) : Ann := fun _ _ _ => none
set_option maxRecDepth 100000 in
def con31_nV (a : Int) (b : Int) (c : Int) (d : Int) (e : Int) (x : Int) (K : Value → List Blk → Prop) : Prop := (T0 ∧ (T0 ∧ (T0 ∧ (T0 ∧ (T0 ∧ (T0 ∧ ((InC a b c d e) ∧ (eB ∧ (T0 ∧ (if (@Eq Int (Prod.snd (ckF a b c d e 0 zF)) (0)) then (T0 ∧ (if (x < 0) then (T0 ∧ (∃ y0 : Value, (∃ y1 : List Blk, ((Go.Rx.Found 0 (vt [vi 0, vi 7]) ({ h := [(1, CB a b c d e), (0, CB a b c d e)], next := 2 }) (y0) (y1)) ∧ (K y0 y1))))) else (T0 ∧ (T0 ∧ (if (b ≤ x) then (T0 ∧ (∃ y0 : Value, (∃ y1 : List Blk, ((Go.Rx.Found 0 (vt [vi 0, vi 7]) ({ h := [(1, CB a b c d e), (0, CB a b c d e)], next := 2 }) (y0) (y1)) ∧ (K y0 y1))))) else (T0 ∧ (False))))))) else (T0 ∧ (if (@Eq Int (Prod.snd (ckF a b c d e 0 zF)) (0)) then (False) else (∃ y0 : Value, (∃ y1 : List Blk, ((Go.Rx.Found 0 (vt [vi 0, vi (Prod.snd (ckF a b c d e 0 zF))]) ({ h := [(1, CB a b c d e), (0, CB a b c d e)], next := 2 }) (y0) (y1)) ∧ (K y0 y1))))))))))))))))
set_option maxRecDepth 100000 in
theorem con31_nE (a : Int) (b : Int) (c : Int) (d : Int) (e : Int) (x : Int) (K : Value → List Blk → Prop) : con31_nV a b c d e x K = bodyX (mk X3) (callN (mk X3) 4) (con31_nA a b c d e x) Try.f31 [.agg ⟨[.int .i64 a, .int .i64 b, .int .i64 c, .int .i64 d, .int .i64 e]⟩, .slice none 0 0, .int .i64 x] (stOf []) fun v s' => ∃ v1 news, Rx.Found 0 v s' v1 news ∧ K v1 news := by kernel_rfl
set_option maxRecDepth 100000 in
set_option maxHeartbeats 4000000 in
set_option tactic.hygienic false in
theorem con31_nP (a : Int) (b : Int) (c : Int) (d : Int) (e : Int) (x : Int) (K : Value → List Blk → Prop)  (hI : InC a b c d e) (h : K (.tuple ⟨[.int .i64 (roomF a b c d e 0 zF x).1, .int .i64 (roomF a b c d e 0 zF x).2]⟩) []) : con31_nV a b c d e x K := by
  unfold con31_nV
  have G : (ckF a b c d e 0 zF).2 = 0 → good a b c d e ∧ ((0 : Nat) : Int) = b ∧ ∀ i, i < 0 → fok a zF i := ckF_zero
  unfold roomF askF at h
  repeat' (first | (with_reducible exact rfl) | (with_reducible exact trivial) | (with_reducible refine And.intro ?_ ?_) | (intro) | (with_reducible refine br_intro (fun hq => ?_) (fun hq => ?_)) | (with_reducible refine if_both (fun hz => ?_) (fun hz => ?_)) | fail)
  all_goals first
    | omega
    | assumption
    | (have g := G (by assumption)
       have g2 := g.2.2 x.toNat (by omega)
       unfold fok at g2
       have g3 := mul_bd ⟨g.1.1, g.1.2.1⟩ (x := x) (b := b) (by omega) (by omega) (by omega)
       omega)
    | (have g := G (by assumption); omega)
    | (have g := chk_good (by assumption); omega)
    | (refine fin0 (by kernel_rfl) (by kernel_rfl) ?_
       repeat' (split at h)
       all_goals first | exact h | omega | (rw [show (ckF a b c d e 0 zF).2 = 0 by assumption]; exact h))
    | (refine fin0 (by kernel_rfl) (by kernel_rfl) ?_
       have g := G (by assumption)
       repeat' (split at h)
       all_goals first | exact h | omega | (rw [show (ckF a b c d e 0 zF).2 = 0 by assumption]; exact h))
    | (have g := G (by assumption)
       have g4 : chk a b c d e = 0 := if_pos g.1
       omega)
set_option maxRecDepth 100000 in
def con31_rV (el nl cl : Nat) (fl : RF) (a : Int) (b : Int) (c : Int) (d : Int) (e : Int) (x : Int) (K : Value → List Blk → Prop) : Prop := (T0 ∧ (T0 ∧ (T0 ∧ (T0 ∧ (T0 ∧ ((0 + nl ≤ nl) ∧ ((InC a b c d e) ∧ ((eN 0) ∧ ((nl ≤ 100000) ∧ ((eK ∧ ((eN nl) ∧ (eN cl))) ∧ (eB ∧ (T0 ∧ (if (@Eq Int (Prod.snd (ckF a b c d e nl fl)) (0)) then (T0 ∧ (if (x < 0) then (T0 ∧ (∃ y0 : Value, (∃ y1 : List Blk, ((Go.Rx.Found 1 (vt [vi 0, vi 7]) ({ h := [(2, CB a b c d e), (1, CB a b c d e), (0, rT el nl cl fl)], next := 3 }) (y0) (y1)) ∧ (K y0 y1))))) else (T0 ∧ (T0 ∧ (if (b ≤ x) then (T0 ∧ (∃ y0 : Value, (∃ y1 : List Blk, ((Go.Rx.Found 1 (vt [vi 0, vi 7]) ({ h := [(2, CB a b c d e), (1, CB a b c d e), (0, rT el nl cl fl)], next := 3 }) (y0) (y1)) ∧ (K y0 y1))))) else (T0 ∧ ((TS ∧ (eN 2)) ∧ (((0 ≤ x) ∧ (x < (↑nl : Int))) ∧ (T0 ∧ ((Int.toNat x < nl) ∧ (T0 ∧ (if (@Eq Int (fl (Int.toNat x) 0) (0)) then (∃ y0 : Value, (∃ y1 : List Blk, ((Go.Rx.Found 1 (vt [vi 0, vi 9]) ({ h := [(2, CB a b c d e), (1, CB a b c d e), (0, rT el nl cl fl)], next := 3 }) (y0) (y1)) ∧ (K y0 y1)))) else (T0 ∧ (T0 ∧ (T0 ∧ (T0 ∧ (T0 ∧ (T0 ∧ (T0 ∧ ((TS ∧ (eN 2)) ∧ (((0 ≤ x) ∧ (x < (↑nl : Int))) ∧ (T0 ∧ (T0 ∧ (T0 ∧ ((Int.toNat x < nl) ∧ (T0 ∧ (T0 ∧ ((((-9223372036854775808 : Int) ≤ a - fl (Int.toNat x) 1) ∧ (a - fl (Int.toNat x) 1 ≤ 9223372036854775807)) ∧ (T0 ∧ (T0 ∧ (∃ y0 : Value, (∃ y1 : List Blk, ((Go.Rx.Found 1 (vt [vi (a - fl (Int.toNat x) 1), vi 0]) ({ h := [(2, CB a b c d e), (1, CB a b c d e), (0, rT el nl cl fl)], next := 3 }) (y0) (y1)) ∧ (K y0 y1)))))))))))))))))))))))))))))))))) else (T0 ∧ (if (@Eq Int (Prod.snd (ckF a b c d e nl fl)) (0)) then ((TS ∧ (eN 2)) ∧ (((0 ≤ x) ∧ (x < (↑nl : Int))) ∧ (T0 ∧ ((Int.toNat x < nl) ∧ (T0 ∧ (if (@Eq Int (fl (Int.toNat x) 0) (0)) then (∃ y0 : Value, (∃ y1 : List Blk, ((Go.Rx.Found 1 (vt [vi 0, vi 9]) ({ h := [(2, CB a b c d e), (1, CB a b c d e), (0, rT el nl cl fl)], next := 3 }) (y0) (y1)) ∧ (K y0 y1)))) else (T0 ∧ (T0 ∧ (T0 ∧ (T0 ∧ (T0 ∧ (T0 ∧ (T0 ∧ ((TS ∧ (eN 2)) ∧ (((0 ≤ x) ∧ (x < (↑nl : Int))) ∧ (T0 ∧ (T0 ∧ (T0 ∧ ((Int.toNat x < nl) ∧ (T0 ∧ (T0 ∧ ((((-9223372036854775808 : Int) ≤ a - fl (Int.toNat x) 1) ∧ (a - fl (Int.toNat x) 1 ≤ 9223372036854775807)) ∧ (T0 ∧ (T0 ∧ (∃ y0 : Value, (∃ y1 : List Blk, ((Go.Rx.Found 1 (vt [vi (a - fl (Int.toNat x) 1), vi 0]) ({ h := [(2, CB a b c d e), (1, CB a b c d e), (0, rT el nl cl fl)], next := 3 }) (y0) (y1)) ∧ (K y0 y1)))))))))))))))))))))))))))) else (∃ y0 : Value, (∃ y1 : List Blk, ((Go.Rx.Found 1 (vt [vi 0, vi (Prod.snd (ckF a b c d e nl fl))]) ({ h := [(2, CB a b c d e), (1, CB a b c d e), (0, rT el nl cl fl)], next := 3 }) (y0) (y1)) ∧ (K y0 y1)))))))))))))))))))
set_option maxRecDepth 100000 in
theorem con31_rE (el nl cl : Nat) (fl : RF) (a : Int) (b : Int) (c : Int) (d : Int) (e : Int) (x : Int) (K : Value → List Blk → Prop) : con31_rV el nl cl fl a b c d e x K = bodyX (mk X3) (callN (mk X3) 4) (con31_rA el nl cl fl a b c d e x) Try.f31 [.agg ⟨[.int .i64 a, .int .i64 b, .int .i64 c, .int .i64 d, .int .i64 e]⟩, rsl 0 0 nl cl, .int .i64 x] (stOf [.row true [.i64, .i64] el nl cl fl]) fun v s' => ∃ v1 news, Rx.Found 1 v s' v1 news ∧ K v1 news := by kernel_rfl
set_option maxRecDepth 100000 in
set_option maxHeartbeats 4000000 in
set_option tactic.hygienic false in
theorem con31_rP (el nl cl : Nat) (fl : RF) (a : Int) (b : Int) (c : Int) (d : Int) (e : Int) (x : Int) (K : Value → List Blk → Prop)  (hI : InC a b c d e) (hnl : nl ≤ 100000) (h : K (.tuple ⟨[.int .i64 (roomF a b c d e nl fl x).1, .int .i64 (roomF a b c d e nl fl x).2]⟩) []) : con31_rV el nl cl fl a b c d e x K := by
  unfold con31_rV
  have G : (ckF a b c d e nl fl).2 = 0 → good a b c d e ∧ ((nl : Nat) : Int) = b ∧ ∀ i, i < nl → fok a fl i := ckF_zero
  unfold roomF askF at h
  repeat' (first | (with_reducible exact rfl) | (with_reducible exact trivial) | (with_reducible refine And.intro ?_ ?_) | (intro) | (with_reducible refine br_intro (fun hq => ?_) (fun hq => ?_)) | (with_reducible refine if_both (fun hz => ?_) (fun hz => ?_)) | fail)
  all_goals first
    | omega
    | assumption
    | (have g := G (by assumption)
       have g2 := g.2.2 x.toNat (by omega)
       unfold fok at g2
       have g3 := mul_bd ⟨g.1.1, g.1.2.1⟩ (x := x) (b := b) (by omega) (by omega) (by omega)
       omega)
    | (have g := G (by assumption); omega)
    | (have g := chk_good (by assumption); omega)
    | (refine fin0 (by kernel_rfl) (by kernel_rfl) ?_
       repeat' (split at h)
       all_goals first | exact h | omega | (rw [show (ckF a b c d e nl fl).2 = 0 by assumption]; exact h))
    | (refine fin0 (by kernel_rfl) (by kernel_rfl) ?_
       have g := G (by assumption)
       repeat' (split at h)
       all_goals first | exact h | omega | (rw [show (ckF a b c d e nl fl).2 = 0 by assumption]; exact h))
    | (have g := G (by assumption)
       have g4 : chk a b c d e = 0 := if_pos g.1
       omega)
theorem con31_ok : BodyOk (mk X3) 4 Try.f31 con31 := by
  intro vs bs K hh hro
  clear hro
  unfold con31 at hh
  split at hh
  · rename_i u v x
    obtain ⟨a, b, c, d, e, rfl, hI, hh0⟩ := five_inv hh
    rcases parse_inv hh0 with ⟨rfl, hh1⟩ | ⟨el, nl, cl, fl, bs1, rfl, hnl, rfl, hh1⟩ <;> clear hh0
    · obtain ⟨rfl, hc⟩ := hh1
      exact ⟨_, _, cast (con31_nE a b c d e x K) (con31_nP a b c d e x K hI hc)⟩
    · obtain ⟨rfl, hc⟩ := hh1
      exact ⟨_, _, cast (con31_rE el nl cl fl a b c d e x K) (con31_rP el nl cl fl a b c d e x K hI hnl hc)⟩
  · exact hh.elim
theorem con31_told : Told 31 (specOf con31) := told (X := X3) (X3_told) (by kernel_rfl) (by kernel_rfl) (by kernel_rfl) con31_ok
end Go.Proofs.Ytkflmglpniebfaa.Fr
