/-
  Admit: what its functions return. No project text.
-/
import Derived.Test.YtnpgeeajlbglaaaHa2a
namespace Go.Proofs.Ytnpgeeajlbglaaa.Fr
open Go.Rx
open Go.RowKit (Below)
set_option linter.unusedVariables false
@[reducible] def XA1 : List (Nat × Rx.Spec) := [(34, specOf con34)]
theorem XA1_told : ∀ p ∈ XA1, Told p.1 p.2 := by
  intro p hp
  simp only [List.mem_cons, List.not_mem_nil, or_false] at hp
  rcases hp with rfl
  · exact con34_told
def con53 : Con := fun vs bs K => match vs with
  | [u, .int .i64 o, .int .i64 l, .int .i64 n] => five u fun a b c d e => bs = [] ∧ (True) ∧ (K (.int .i64 (aft a b c d e o l n)) [])
  | _ => False

def con53_zA (a b c d e : Int) (o : Int) (l : Int) (n : Int) : Ann := fun _ _ _ => none
set_option maxRecDepth 100000 in
def con53_zV (a b c d e : Int) (o : Int) (l : Int) (n : Int) (K : Value → List Blk → Prop) : Prop := (T0 ∧ (T0 ∧ (T0 ∧ (T0 ∧ (T0 ∧ (T0 ∧ ((InC a b c d e) ∧ (eB ∧ ((True) ∧ (T0 ∧ (if (@Eq Int (ade a b c d e o l n) ((0 : Int))) then (T0 ∧ (if (@Eq Int (adk a b c d e o l n) ((1 : Int))) then (T0 ∧ (∃ y0 : Value, (∃ y1 : List Blk, ((Go.Rx.Found 0 (vi (0 : Int)) ({ h := [((0 : Nat), Blk.cells [vi a, vi b, vi c, vi d, vi e] (54 : Nat))], next := (1 : Nat) }) (y0) (y1)) ∧ (K y0 y1))))) else (T0 ∧ (∃ y0 : Value, (∃ y1 : List Blk, ((Go.Rx.Found 0 (vi (5 : Int)) ({ h := [((0 : Nat), Blk.cells [vi a, vi b, vi c, vi d, vi e] (54 : Nat))], next := (1 : Nat) }) (y0) (y1)) ∧ (K y0 y1))))))) else (∃ y0 : Value, (∃ y1 : List Blk, ((Go.Rx.Found 0 (vi (ade a b c d e o l n)) ({ h := [((0 : Nat), Blk.cells [vi a, vi b, vi c, vi d, vi e] (54 : Nat))], next := (1 : Nat) }) (y0) (y1)) ∧ (K y0 y1)))))))))))))))
set_option maxRecDepth 100000 in
theorem con53_zE (a b c d e : Int) (o : Int) (l : Int) (n : Int) (K : Value → List Blk → Prop) : con53_zV a b c d e o l n K = bodyX (mk XA1) (callN (mk XA1) 9) (con53_zA a b c d e o l n) Try.f53 [.agg ⟨[.int .i64 a, .int .i64 b, .int .i64 c, .int .i64 d, .int .i64 e]⟩, .int .i64 o, .int .i64 l, .int .i64 n] (stOf []) fun v s' => ∃ v1 news, Rx.Found 0 v s' v1 news ∧ K v1 news := by kernel_rfl
set_option maxRecDepth 100000 in
set_option maxHeartbeats 4000000 in
set_option tactic.hygienic false in
theorem con53_zP (a b c d e : Int) (o : Int) (l : Int) (n : Int) (K : Value → List Blk → Prop)  (hI : InC a b c d e) (h : K (.int .i64 (aft a b c d e o l n)) []) : con53_zV a b c d e o l n K := by
  unfold con53_zV
  have ck := chk_cases a b c d e
  have mb := mulC a b c d e
  obtain ⟨⟨i1, i2⟩, ⟨i3, i4⟩, ⟨i5, i6⟩, ⟨i7, i8⟩, ⟨i9, i10⟩⟩ := (show InC a b c d e from hI)
  have z1 := ste_cases a b c d e o l
  have z3 := ade_cases a b c d e o l n
  have z4 := adk_cases a b c d e o l n
  have z5 := aft_cases a b c d e o l n

  repeat' (first | (with_reducible exact rfl) | (with_reducible exact trivial) | (with_reducible refine And.intro ?_ ?_) | (intro) | (with_reducible refine br_intro (fun hq => ?_) (fun hq => ?_)) | (with_reducible refine if_both (fun hz => ?_) (fun hz => ?_)) | fail)

  all_goals first
    | omega
    | assumption
    | contradiction
    | (exact fin0 (by kernel_rfl) (by kernel_rfl) (fin0i (by have z1 := ste_cases a b c d e o l; have z3 := ade_cases a b c d e o l n; have z4 := adk_cases a b c d e o l n; have z5 := aft_cases a b c d e o l n; omega) h))
    | (exact fin0 (by kernel_rfl) (by kernel_rfl) (fin0p (by have z1 := ste_cases a b c d e o l; have z3 := ade_cases a b c d e o l n; have z4 := adk_cases a b c d e o l n; have z5 := aft_cases a b c d e o l n; omega) (by have z1 := ste_cases a b c d e o l; have z3 := ade_cases a b c d e o l n; have z4 := adk_cases a b c d e o l n; have z5 := aft_cases a b c d e o l n; omega) h))
    | (exfalso; simp at hq; omega)
theorem con53_ok : BodyOk (mk XA1) 9 Try.f53 con53 := by
  intro vs bs K hh hro
  clear hro
  unfold con53 at hh
  split at hh
  · rename_i u o l n
    obtain ⟨a, b, c, d, e, rfl, hI, hh0⟩ := five_inv hh
    obtain ⟨rfl, -, hc⟩ := hh0
    exact ⟨_, _, cast (con53_zE a b c d e  o l n K) (con53_zP a b c d e  o l n K hI   hc)⟩
  · exact hh.elim
theorem con53_told : Told 53 (specOf con53) := told (X := XA1) XA1_told (by kernel_rfl) (by kernel_rfl) (by kernel_rfl) con53_ok
end Go.Proofs.Ytnpgeeajlbglaaa.Fr
