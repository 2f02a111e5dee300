/-
  Bump: clones. No project text.
-/
import Derived.Test.YtkflmglpniebfaaBu4
namespace Go.Proofs.Ytkflmglpniebfaa.Fr
open Go.Rx
open Go.RowKit (Below)
set_option linter.unusedVariables false
@[reducible] def XZ0 : List (Nat × Rx.Spec) := []
theorem XZ0_told : ∀ p ∈ XZ0, Told p.1 p.2 := fun _ h => by cases h
def con92N : Con := fun vs bs K => match vs with
  | [.slice none 0 0] => bs = [] ∧ (True) ∧ (K (.slice none 0 0) [])
  | _ => False

def con92N_zA  : Ann := fun _ _ _ => none
def con92R : Con := fun vs bs K => match vs with
  | [vl] => parseR [.i64, .i64] 0 vl bs fun nl fl j0 bs0 => bs0 = [] ∧ (True) ∧ (∀ cp, nl ≤ cp → K (rsl j0 0 nl cp) [.row false [.i64, .i64] 54 nl cp fl])
  | _ => False

def con92R_rA (el nl cl : Nat) (fl : RF) : Ann := fun _ _ _ => none
def con93N : Con := fun vs bs K => match vs with
  | [.slice none 0 0] => bs = [] ∧ (True) ∧ (K (.slice none 0 0) [])
  | _ => False

def con93N_zA  : Ann := fun _ _ _ => none
def con93R : Con := fun vs bs K => match vs with
  | [vl] => parseR [.i64] 0 vl bs fun nl fl j0 bs0 => bs0 = [] ∧ (True) ∧ (∀ cp, nl ≤ cp → K (rsl j0 0 nl cp) [.row false [.i64] 3 nl cp fl])
  | _ => False

def con93R_rA (el nl cl : Nat) (fl : RF) : Ann := fun _ _ _ => none
set_option maxRecDepth 100000 in
def con92N_zV  (K : Value → List Blk → Prop) : Prop := (T0 ∧ (TS ∧ (∃ y0 : Value, (∃ y1 : List Blk, ((Go.Rx.Found 0 (vn) ({ h := [], next := 0 }) (y0) (y1)) ∧ (K y0 y1))))))
set_option maxRecDepth 100000 in
theorem con92N_zE  (K : Value → List Blk → Prop) : con92N_zV  K = bodyX (mk XZ0) (callN (mk XZ0) 4) (con92N_zA ) Try.f92 [.slice none 0 0] (stOf []) fun v s' => ∃ v1 news, Rx.Found 0 v s' v1 news ∧ K v1 news := by kernel_rfl
set_option maxRecDepth 100000 in
set_option maxHeartbeats 4000000 in
set_option tactic.hygienic false in
theorem con92N_zP  (K : Value → List Blk → Prop)  (h : K (.slice none 0 0) []) : con92N_zV  K := by
  unfold con92N_zV

  repeat' (first | (with_reducible exact rfl) | (with_reducible exact trivial) | (with_reducible refine And.intro ?_ ?_) | (intro) | (with_reducible refine br_intro (fun hq => ?_) (fun hq => ?_)) | (with_reducible refine if_both (fun hz => ?_) (fun hz => ?_)) | fail)

  all_goals first
    | omega
    | assumption
    | exact fin0 (by kernel_rfl) (by kernel_rfl) h
    | contradiction
    | (exfalso; simp at hq; done)
theorem con92N_ok : BodyOk (mk XZ0) 4 Try.f92 con92N := by
  intro vs bs K hh hro
  clear hro
  unfold con92N at hh
  split at hh
  · obtain ⟨rfl, -, hc⟩ := hh
    exact ⟨_, _, cast (con92N_zE   K) (con92N_zP   K   hc)⟩
  · exact hh.elim
theorem con92N_told : Told 92 (specOf con92N) := told (X := XZ0) XZ0_told (by kernel_rfl) (by kernel_rfl) (by kernel_rfl) con92N_ok
set_option maxRecDepth 100000 in
def con92R_rV (el nl cl : Nat) (fl : RF) (K : Value → List Blk → Prop) : Prop := (T0 ∧ (TS ∧ (TS ∧ (T0 ∧ (T0 ∧ (T0 ∧ (T0 ∧ (TS ∧ (TS ∧ (T0 ∧ (T0 ∧ (T0 ∧ (T0 ∧ ((0 + nl ≤ nl) ∧ ((nl ≤ 100000) ∧ (T0 ∧ ((eN 0) ∧ (Go.Rx.br (decide (0 < nl)) (∀ y0 : Nat, ((nl ≤ y0) → (∃ y1 : Value, (∃ y2 : List Blk, ((Go.Rx.Found 1 (rsl 2 0 nl (y0 - 1 + 1)) ({ h := [(2, rF 54 nl (y0 - 1 + 1) (appF (fun x x_1 ↦ 0) 0 fl 0)), (1, rF 54 0 0 (litF (List.length [IntKind.i64, IntKind.i64]) [])), (0, rT el nl cl fl)], next := 3 }) (y1) (y2)) ∧ (K y1 y2)))))) (∃ y0 : Value, (∃ y1 : List Blk, ((Go.Rx.Found 1 (rsl 1 0 0 0) ({ h := [(1, rF 54 0 0 (litF (List.length [IntKind.i64, IntKind.i64]) [])), (0, rT el nl cl fl)], next := 2 }) (y0) (y1)) ∧ (K y0 y1))))))))))))))))))))))
set_option maxRecDepth 100000 in
theorem con92R_rE (el nl cl : Nat) (fl : RF) (K : Value → List Blk → Prop) : con92R_rV el nl cl fl K = bodyX (mk XZ0) (callN (mk XZ0) 4) (con92R_rA el nl cl fl) Try.f92 [rsl 0 0 nl cl] (stOf [.row true [.i64, .i64] el nl cl fl]) fun v s' => ∃ v1 news, Rx.Found 1 v s' v1 news ∧ K v1 news := by kernel_rfl
set_option maxRecDepth 100000 in
set_option maxHeartbeats 4000000 in
set_option tactic.hygienic false in
theorem con92R_rP (el nl cl : Nat) (fl : RF) (K : Value → List Blk → Prop)  (hnl : nl ≤ 100000) (h : ∀ cp, nl ≤ cp → K (rsl 1 0 nl cp) [.row false [.i64, .i64] 54 nl cp fl]) : con92R_rV el nl cl fl K := by
  unfold con92R_rV

  repeat' (first | (with_reducible exact rfl) | (with_reducible exact trivial) | (with_reducible refine And.intro ?_ ?_) | (intro) | (with_reducible refine br_intro (fun hq => ?_) (fun hq => ?_)) | (with_reducible refine if_both (fun hz => ?_) (fun hz => ?_)) | fail)

  all_goals first
    | omega
    | assumption
    | (refine fin1 rfl ?_ (h _ (by omega)); (intro i j hi hj; simp [appF]))
    | (cases y0 with
       | zero => omega
       | succ cp => (refine fin1 rfl ?_ (h _ (by omega)); (intro i j hi hj; simp [appF])))
    | (obtain rfl : nl = 0 := (by simp at hq; omega); refine fin1 rfl (fun i j hi hj => absurd hi (by omega)) (h _ (by omega)))
    | (obtain rfl : nl = 0 := (by simp at hq; omega); refine fin1 rfl (fun i j hi hj => absurd hi (by omega)) h)
    | (exfalso; simp at hq; omega)
theorem con92R_ok : BodyOk (mk XZ0) 4 Try.f92 con92R := by
  intro vs bs K hh hro
  clear hro
  unfold con92R at hh
  split at hh
  · rename_i vl
    obtain ⟨el, nl, cl, fl, btl, rfl, hnl, rfl, hh0⟩ := parseR_inv hh
    obtain ⟨rfl, -, hc⟩ := hh0
    exact ⟨_, _, cast (con92R_rE el nl cl fl  K) (con92R_rP el nl cl fl  K hnl  hc)⟩
  · exact hh.elim
theorem con92R_told : Told 92 (specOf con92R) := told (X := XZ0) XZ0_told (by kernel_rfl) (by kernel_rfl) (by kernel_rfl) con92R_ok
set_option maxRecDepth 100000 in
def con93N_zV  (K : Value → List Blk → Prop) : Prop := (T0 ∧ (TS ∧ (∃ y0 : Value, (∃ y1 : List Blk, ((Go.Rx.Found 0 (vn) ({ h := [], next := 0 }) (y0) (y1)) ∧ (K y0 y1))))))
set_option maxRecDepth 100000 in
theorem con93N_zE  (K : Value → List Blk → Prop) : con93N_zV  K = bodyX (mk XZ0) (callN (mk XZ0) 4) (con93N_zA ) Try.f93 [.slice none 0 0] (stOf []) fun v s' => ∃ v1 news, Rx.Found 0 v s' v1 news ∧ K v1 news := by kernel_rfl
set_option maxRecDepth 100000 in
set_option maxHeartbeats 4000000 in
set_option tactic.hygienic false in
theorem con93N_zP  (K : Value → List Blk → Prop)  (h : K (.slice none 0 0) []) : con93N_zV  K := by
  unfold con93N_zV

  repeat' (first | (with_reducible exact rfl) | (with_reducible exact trivial) | (with_reducible refine And.intro ?_ ?_) | (intro) | (with_reducible refine br_intro (fun hq => ?_) (fun hq => ?_)) | (with_reducible refine if_both (fun hz => ?_) (fun hz => ?_)) | fail)

  all_goals first
    | omega
    | assumption
    | exact fin0 (by kernel_rfl) (by kernel_rfl) h
    | contradiction
    | (exfalso; simp at hq; done)
theorem con93N_ok : BodyOk (mk XZ0) 4 Try.f93 con93N := by
  intro vs bs K hh hro
  clear hro
  unfold con93N at hh
  split at hh
  · obtain ⟨rfl, -, hc⟩ := hh
    exact ⟨_, _, cast (con93N_zE   K) (con93N_zP   K   hc)⟩
  · exact hh.elim
theorem con93N_told : Told 93 (specOf con93N) := told (X := XZ0) XZ0_told (by kernel_rfl) (by kernel_rfl) (by kernel_rfl) con93N_ok
set_option maxRecDepth 100000 in
def con93R_rV (el nl cl : Nat) (fl : RF) (K : Value → List Blk → Prop) : Prop := (T0 ∧ (TS ∧ (TS ∧ (T0 ∧ (T0 ∧ (T0 ∧ (T0 ∧ (TS ∧ (TS ∧ (T0 ∧ (T0 ∧ (T0 ∧ (T0 ∧ ((0 + nl ≤ nl) ∧ ((nl ≤ 100000) ∧ (T0 ∧ ((eN 0) ∧ (Go.Rx.br (decide (0 < nl)) (∀ y0 : Nat, ((nl ≤ y0) → (∃ y1 : Value, (∃ y2 : List Blk, ((Go.Rx.Found 1 (rsl 2 0 nl (y0 - 1 + 1)) ({ h := [(2, Blk.row false [IntKind.i64] 3 nl (y0 - 1 + 1) (appF (fun x x_1 ↦ 0) 0 fl 0)), (1, Blk.row false [IntKind.i64] 3 0 0 (litF (List.length [IntKind.i64]) [])), (0, Blk.row true [IntKind.i64] el nl cl fl)], next := 3 }) (y1) (y2)) ∧ (K y1 y2)))))) (∃ y0 : Value, (∃ y1 : List Blk, ((Go.Rx.Found 1 (rsl 1 0 0 0) ({ h := [(1, Blk.row false [IntKind.i64] 3 0 0 (litF (List.length [IntKind.i64]) [])), (0, Blk.row true [IntKind.i64] el nl cl fl)], next := 2 }) (y0) (y1)) ∧ (K y0 y1))))))))))))))))))))))
set_option maxRecDepth 100000 in
theorem con93R_rE (el nl cl : Nat) (fl : RF) (K : Value → List Blk → Prop) : con93R_rV el nl cl fl K = bodyX (mk XZ0) (callN (mk XZ0) 4) (con93R_rA el nl cl fl) Try.f93 [rsl 0 0 nl cl] (stOf [.row true [.i64] el nl cl fl]) fun v s' => ∃ v1 news, Rx.Found 1 v s' v1 news ∧ K v1 news := by kernel_rfl
set_option maxRecDepth 100000 in
set_option maxHeartbeats 4000000 in
set_option tactic.hygienic false in
theorem con93R_rP (el nl cl : Nat) (fl : RF) (K : Value → List Blk → Prop)  (hnl : nl ≤ 100000) (h : ∀ cp, nl ≤ cp → K (rsl 1 0 nl cp) [.row false [.i64] 3 nl cp fl]) : con93R_rV el nl cl fl K := by
  unfold con93R_rV

  repeat' (first | (with_reducible exact rfl) | (with_reducible exact trivial) | (with_reducible refine And.intro ?_ ?_) | (intro) | (with_reducible refine br_intro (fun hq => ?_) (fun hq => ?_)) | (with_reducible refine if_both (fun hz => ?_) (fun hz => ?_)) | fail)

  all_goals first
    | omega
    | assumption
    | (refine fin1 rfl ?_ (h _ (by omega)); (intro i j hi hj; simp [appF]))
    | (cases y0 with
       | zero => omega
       | succ cp => (refine fin1 rfl ?_ (h _ (by omega)); (intro i j hi hj; simp [appF])))
    | (obtain rfl : nl = 0 := (by simp at hq; omega); refine fin1 rfl (fun i j hi hj => absurd hi (by omega)) (h _ (by omega)))
    | (obtain rfl : nl = 0 := (by simp at hq; omega); refine fin1 rfl (fun i j hi hj => absurd hi (by omega)) h)
    | (exfalso; simp at hq; omega)
theorem con93R_ok : BodyOk (mk XZ0) 4 Try.f93 con93R := by
  intro vs bs K hh hro
  clear hro
  unfold con93R at hh
  split at hh
  · rename_i vl
    obtain ⟨el, nl, cl, fl, btl, rfl, hnl, rfl, hh0⟩ := parseR_inv hh
    obtain ⟨rfl, -, hc⟩ := hh0
    exact ⟨_, _, cast (con93R_rE el nl cl fl  K) (con93R_rP el nl cl fl  K hnl  hc)⟩
  · exact hh.elim
theorem con93R_told : Told 93 (specOf con93R) := told (X := XZ0) XZ0_told (by kernel_rfl) (by kernel_rfl) (by kernel_rfl) con93R_ok
end Go.Proofs.Ytkflmglpniebfaa.Fr
