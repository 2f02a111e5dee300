/-
  Frames: room, top, half. No project text.
-/
import Derived.Test.YtkflmglpniebfaaFr3
namespace Go.Proofs.Ytkflmglpniebfaa.Fr
open Go.Rx
open Go.RowKit (Below)
set_option linter.unusedVariables false
def con35 : Con := fun vs bs K => match vs with
  | [u, v, .int .i64 x] => five u fun a b c d e => parse [.i64, .i64] 0 v bs fun n f _ bs => bs = [] ∧ K (.tuple ⟨[.bool (halfF a b c d e n f x).1, .int .i64 (halfF a b c d e n f x).2]⟩) []
  | _ => False

def con35_nA (a : Int) (b : Int) (c : Int) (d : Int) (e : Int) (x : Int) : Ann := fun _ _ _ => none
def con35_rA (el nl cl : Nat) (fl : RF) (a : Int) (b : Int) (c : Int) (d : Int) (e : Int) (x : Int) : Ann := fun _ _ _ => none
set_option maxRecDepth 100000 in
def con35_nV (a : Int) (b : Int) (c : Int) (d : Int) (e : Int) (x : Int) (K : Value → List Blk → Prop) : Prop := (T0 ∧ (T0 ∧ (T0 ∧ (T0 ∧ (T0 ∧ (T0 ∧ ((InC a b c d e) ∧ (eB ∧ (T0 ∧ (if (@Eq Int (Prod.snd (ckF a b c d e 0 zF)) (0)) then (T0 ∧ (if (x < 0) then (T0 ∧ (∃ y0 : Value, (∃ y1 : List Blk, ((Go.Rx.Found 0 (vt [Value.bool false, vi 7]) ({ h := [(1, CB a b c d e), (0, CB a b c d e)], next := 2 }) (y0) (y1)) ∧ (K y0 y1))))) else (T0 ∧ (T0 ∧ (if (b ≤ x) then (T0 ∧ (∃ y0 : Value, (∃ y1 : List Blk, ((Go.Rx.Found 0 (vt [Value.bool false, vi 7]) ({ h := [(1, CB a b c d e), (0, CB a b c d e)], next := 2 }) (y0) (y1)) ∧ (K y0 y1))))) else (T0 ∧ (T0 ∧ (T0 ∧ (T0 ∧ (T0 ∧ (False))))))))))) else (T0 ∧ (if (@Eq Int (Prod.snd (ckF a b c d e 0 zF)) (0)) then (T0 ∧ (T0 ∧ (T0 ∧ (T0 ∧ (False))))) else (∃ y0 : Value, (∃ y1 : List Blk, ((Go.Rx.Found 0 (vt [Value.bool false, vi (Prod.snd (ckF a b c d e 0 zF))]) ({ h := [(1, CB a b c d e), (0, CB a b c d e)], next := 2 }) (y0) (y1)) ∧ (K y0 y1))))))))))))))))
set_option maxRecDepth 100000 in
theorem con35_nE (a : Int) (b : Int) (c : Int) (d : Int) (e : Int) (x : Int) (K : Value → List Blk → Prop) : con35_nV a b c d e x K = bodyX (mk X3) (callN (mk X3) 4) (con35_nA a b c d e x) Try.f35 [.agg ⟨[.int .i64 a, .int .i64 b, .int .i64 c, .int .i64 d, .int .i64 e]⟩, .slice none 0 0, .int .i64 x] (stOf []) fun v s' => ∃ v1 news, Rx.Found 0 v s' v1 news ∧ K v1 news := by kernel_rfl
set_option maxRecDepth 100000 in
set_option maxHeartbeats 4000000 in
set_option tactic.hygienic false in
theorem con35_nP (a : Int) (b : Int) (c : Int) (d : Int) (e : Int) (x : Int) (K : Value → List Blk → Prop)  (hI : InC a b c d e) (h : K (.tuple ⟨[.bool (halfF a b c d e 0 zF x).1, .int .i64 (halfF a b c d e 0 zF x).2]⟩) []) : con35_nV a b c d e x K := by
  unfold con35_nV
  have G : (ckF a b c d e 0 zF).2 = 0 → good a b c d e ∧ ((0 : Nat) : Int) = b ∧ ∀ i, i < 0 → fok a zF i := ckF_zero
  unfold halfF askF at h
  repeat' (first | (with_reducible exact rfl) | (with_reducible exact trivial) | (with_reducible refine And.intro ?_ ?_) | (intro) | (with_reducible refine br_intro (fun hq => ?_) (fun hq => ?_)) | (with_reducible refine if_both (fun hz => ?_) (fun hz => ?_)) | fail)
  all_goals first
    | omega
    | assumption
    | (have g := G (by assumption)
       have g2 := g.2.2 x.toNat (by omega)
       unfold fok at g2
       have g3 := mul_bd ⟨g.1.1, g.1.2.1⟩ (x := x) (b := b) (by omega) (by omega) (by omega)
       omega)
    | (have g := G (by assumption); omega)
    | (have g := chk_good (by assumption); omega)
    | (refine fin0 (by kernel_rfl) (by kernel_rfl) ?_
       repeat' (split at h)
       all_goals first | exact h | omega | (rw [show (ckF a b c d e 0 zF).2 = 0 by assumption]; exact h))
    | (refine fin0 (by kernel_rfl) (by kernel_rfl) ?_
       have g := G (by assumption)
       repeat' (split at h)
       all_goals first | exact h | omega | (rw [show (ckF a b c d e 0 zF).2 = 0 by assumption]; exact h))
    | (have g := G (by assumption)
       have g4 : chk a b c d e = 0 := if_pos g.1
       omega)
set_option maxRecDepth 100000 in
def con35_rV (el nl cl : Nat) (fl : RF) (a : Int) (b : Int) (c : Int) (d : Int) (e : Int) (x : Int) (K : Value → List Blk → Prop) : Prop := (T0 ∧ (T0 ∧ (T0 ∧ (T0 ∧ (T0 ∧ ((0 + nl ≤ nl) ∧ ((InC a b c d e) ∧ ((eN 0) ∧ ((nl ≤ 100000) ∧ ((eK ∧ ((eN nl) ∧ (eN cl))) ∧ (eB ∧ (T0 ∧ (if (@Eq Int (Prod.snd (ckF a b c d e nl fl)) (0)) then (T0 ∧ (if (x < 0) then (T0 ∧ (∃ y0 : Value, (∃ y1 : List Blk, ((Go.Rx.Found 1 (vt [Value.bool false, vi 7]) ({ h := [(2, CB a b c d e), (1, CB a b c d e), (0, rT el nl cl fl)], next := 3 }) (y0) (y1)) ∧ (K y0 y1))))) else (T0 ∧ (T0 ∧ (if (b ≤ x) then (T0 ∧ (∃ y0 : Value, (∃ y1 : List Blk, ((Go.Rx.Found 1 (vt [Value.bool false, vi 7]) ({ h := [(2, CB a b c d e), (1, CB a b c d e), (0, rT el nl cl fl)], next := 3 }) (y0) (y1)) ∧ (K y0 y1))))) else (T0 ∧ (T0 ∧ (T0 ∧ (T0 ∧ (T0 ∧ ((TS ∧ (eN 2)) ∧ (((0 ≤ x) ∧ (x < (↑nl : Int))) ∧ (T0 ∧ (T0 ∧ (T0 ∧ ((Int.toNat x < nl) ∧ (T0 ∧ (T0 ∧ (if (@Eq Int (fl (Int.toNat x) 0) (0)) then (T0 ∧ (T0 ∧ (T0 ∧ (T0 ∧ (∃ y0 : Value, (∃ y1 : List Blk, ((Go.Rx.Found 1 (vt [Value.bool false, vi 0]) ({ h := [(2, CB a b c d e), (1, CB a b c d e), (0, rT el nl cl fl)], next := 3 }) (y0) (y1)) ∧ (K y0 y1)))))))) else (T0 ∧ (T0 ∧ (T0 ∧ (T0 ∧ ((TS ∧ (eN 2)) ∧ (((0 ≤ x) ∧ (x < (↑nl : Int))) ∧ (T0 ∧ (T0 ∧ (T0 ∧ ((Int.toNat x < nl) ∧ (T0 ∧ (T0 ∧ ((((-9223372036854775808 : Int) ≤ 2 * fl (Int.toNat x) 1) ∧ (2 * fl (Int.toNat x) 1 ≤ 9223372036854775807)) ∧ (T0 ∧ (T0 ∧ (T0 ∧ (T0 ∧ (T0 ∧ (if (a < 2 * fl (Int.toNat x) 1) then (T0 ∧ (T0 ∧ (T0 ∧ (∃ y0 : Value, (∃ y1 : List Blk, ((Go.Rx.Found 1 (vt [Value.bool true, vi 0]) ({ h := [(2, CB a b c d e), (1, CB a b c d e), (0, rT el nl cl fl)], next := 3 }) (y0) (y1)) ∧ (K y0 y1))))))) else (T0 ∧ (T0 ∧ (T0 ∧ (∃ y0 : Value, (∃ y1 : List Blk, ((Go.Rx.Found 1 (vt [Value.bool false, vi 0]) ({ h := [(2, CB a b c d e), (1, CB a b c d e), (0, rT el nl cl fl)], next := 3 }) (y0) (y1)) ∧ (K y0 y1))))))))))))))))))))))))))))))))))))))))))))) else (T0 ∧ (if (@Eq Int (Prod.snd (ckF a b c d e nl fl)) (0)) then (T0 ∧ (T0 ∧ (T0 ∧ (T0 ∧ ((TS ∧ (eN 2)) ∧ (((0 ≤ x) ∧ (x < (↑nl : Int))) ∧ (T0 ∧ (T0 ∧ (T0 ∧ ((Int.toNat x < nl) ∧ (T0 ∧ (T0 ∧ (if (@Eq Int (fl (Int.toNat x) 0) (0)) then (T0 ∧ (T0 ∧ (T0 ∧ (T0 ∧ (∃ y0 : Value, (∃ y1 : List Blk, ((Go.Rx.Found 1 (vt [Value.bool false, vi 0]) ({ h := [(2, CB a b c d e), (1, CB a b c d e), (0, rT el nl cl fl)], next := 3 }) (y0) (y1)) ∧ (K y0 y1)))))))) else (T0 ∧ (T0 ∧ (T0 ∧ (T0 ∧ ((TS ∧ (eN 2)) ∧ (((0 ≤ x) ∧ (x < (↑nl : Int))) ∧ (T0 ∧ (T0 ∧ (T0 ∧ ((Int.toNat x < nl) ∧ (T0 ∧ (T0 ∧ ((((-9223372036854775808 : Int) ≤ 2 * fl (Int.toNat x) 1) ∧ (2 * fl (Int.toNat x) 1 ≤ 9223372036854775807)) ∧ (T0 ∧ (T0 ∧ (T0 ∧ (T0 ∧ (T0 ∧ (if (a < 2 * fl (Int.toNat x) 1) then (T0 ∧ (T0 ∧ (T0 ∧ (∃ y0 : Value, (∃ y1 : List Blk, ((Go.Rx.Found 1 (vt [Value.bool true, vi 0]) ({ h := [(2, CB a b c d e), (1, CB a b c d e), (0, rT el nl cl fl)], next := 3 }) (y0) (y1)) ∧ (K y0 y1))))))) else (T0 ∧ (T0 ∧ (T0 ∧ (∃ y0 : Value, (∃ y1 : List Blk, ((Go.Rx.Found 1 (vt [Value.bool false, vi 0]) ({ h := [(2, CB a b c d e), (1, CB a b c d e), (0, rT el nl cl fl)], next := 3 }) (y0) (y1)) ∧ (K y0 y1))))))))))))))))))))))))))))))))))))))) else (∃ y0 : Value, (∃ y1 : List Blk, ((Go.Rx.Found 1 (vt [Value.bool false, vi (Prod.snd (ckF a b c d e nl fl))]) ({ h := [(2, CB a b c d e), (1, CB a b c d e), (0, rT el nl cl fl)], next := 3 }) (y0) (y1)) ∧ (K y0 y1)))))))))))))))))))
set_option maxRecDepth 100000 in
theorem con35_rE (el nl cl : Nat) (fl : RF) (a : Int) (b : Int) (c : Int) (d : Int) (e : Int) (x : Int) (K : Value → List Blk → Prop) : con35_rV el nl cl fl a b c d e x K = bodyX (mk X3) (callN (mk X3) 4) (con35_rA el nl cl fl a b c d e x) Try.f35 [.agg ⟨[.int .i64 a, .int .i64 b, .int .i64 c, .int .i64 d, .int .i64 e]⟩, rsl 0 0 nl cl, .int .i64 x] (stOf [.row true [.i64, .i64] el nl cl fl]) fun v s' => ∃ v1 news, Rx.Found 1 v s' v1 news ∧ K v1 news := by kernel_rfl
set_option maxRecDepth 100000 in
set_option maxHeartbeats 4000000 in
set_option tactic.hygienic false in
theorem con35_rP (el nl cl : Nat) (fl : RF) (a : Int) (b : Int) (c : Int) (d : Int) (e : Int) (x : Int) (K : Value → List Blk → Prop)  (hI : InC a b c d e) (hnl : nl ≤ 100000) (h : K (.tuple ⟨[.bool (halfF a b c d e nl fl x).1, .int .i64 (halfF a b c d e nl fl x).2]⟩) []) : con35_rV el nl cl fl a b c d e x K := by
  unfold con35_rV
  have G : (ckF a b c d e nl fl).2 = 0 → good a b c d e ∧ ((nl : Nat) : Int) = b ∧ ∀ i, i < nl → fok a fl i := ckF_zero
  unfold halfF askF at h
  repeat' (first | (with_reducible exact rfl) | (with_reducible exact trivial) | (with_reducible refine And.intro ?_ ?_) | (intro) | (with_reducible refine br_intro (fun hq => ?_) (fun hq => ?_)) | (with_reducible refine if_both (fun hz => ?_) (fun hz => ?_)) | fail)
  all_goals first
    | omega
    | assumption
    | (have g := G (by assumption)
       have g2 := g.2.2 x.toNat (by omega)
       unfold fok at g2
       have g3 := mul_bd ⟨g.1.1, g.1.2.1⟩ (x := x) (b := b) (by omega) (by omega) (by omega)
       omega)
    | (have g := G (by assumption); omega)
    | (have g := chk_good (by assumption); omega)
    | (refine fin0 (by kernel_rfl) (by kernel_rfl) ?_
       repeat' (split at h)
       all_goals first | exact h | omega | (rw [show (ckF a b c d e nl fl).2 = 0 by assumption]; exact h))
    | (refine fin0 (by kernel_rfl) (by kernel_rfl) ?_
       have g := G (by assumption)
       repeat' (split at h)
       all_goals first | exact h | omega | (rw [show (ckF a b c d e nl fl).2 = 0 by assumption]; exact h))
    | (have g := G (by assumption)
       have g4 : chk a b c d e = 0 := if_pos g.1
       omega)
theorem con35_ok : BodyOk (mk X3) 4 Try.f35 con35 := by
  intro vs bs K hh hro
  clear hro
  unfold con35 at hh
  split at hh
  · rename_i u v x
    obtain ⟨a, b, c, d, e, rfl, hI, hh0⟩ := five_inv hh
    rcases parse_inv hh0 with ⟨rfl, hh1⟩ | ⟨el, nl, cl, fl, bs1, rfl, hnl, rfl, hh1⟩ <;> clear hh0
    · obtain ⟨rfl, hc⟩ := hh1
      exact ⟨_, _, cast (con35_nE a b c d e x K) (con35_nP a b c d e x K hI hc)⟩
    · obtain ⟨rfl, hc⟩ := hh1
      exact ⟨_, _, cast (con35_rE el nl cl fl a b c d e x K) (con35_rP el nl cl fl a b c d e x K hI hnl hc)⟩
  · exact hh.elim
theorem con35_told : Told 35 (specOf con35) := told (X := X3) (X3_told) (by kernel_rfl) (by kernel_rfl) (by kernel_rfl) con35_ok
end Go.Proofs.Ytkflmglpniebfaa.Fr
