/-
  Admit: what its functions return. No project text.
-/
import Derived.Test.YtnpgeeajlbglaaaHa2b
namespace Go.Proofs.Ytnpgeeajlbglaaa.Fr
open Go.Rx
open Go.RowKit (Below)
set_option linter.unusedVariables false
@[reducible] def XA5 : List (Nat × Rx.Spec) := [(75, specOf con75), (31, specOf con31)]
theorem XA5_told : ∀ p ∈ XA5, Told p.1 p.2 := by
  intro p hp
  simp only [List.mem_cons, List.not_mem_nil, or_false] at hp
  rcases hp with rfl | rfl
  · exact con75_told
  · exact con31_told
def con55 : Con := fun vs bs K => match vs with
  | [u, .int .i64 o, .int .i64 l, .int .i64 n] => five u fun a b c d e => bs = [] ∧ (True) ∧ (K (.int .i64 (aft a b c d e o l n)) [])
  | _ => False

def con55_zA (a b c d e : Int) (o : Int) (l : Int) (n : Int) : Ann := fun _ _ _ => none
set_option maxRecDepth 100000 in
def con55_zV (a b c d e : Int) (o : Int) (l : Int) (n : Int) (K : Value → List Blk → Prop) : Prop := (T0 ∧ (T0 ∧ (T0 ∧ (T0 ∧ (T0 ∧ (T0 ∧ ((InC a b c d e) ∧ (eB ∧ ((True) ∧ (T0 ∧ (if (@Eq Int (ade a b c d e o l n) (0)) then (T0 ∧ (T0 ∧ (T0 ∧ (T0 ∧ ((InC a b c d e) ∧ (eB ∧ ((True) ∧ (T0 ∧ (if (n ≤ l) then (T0 ∧ ((((-9223372036854775808 : Int) ≤ o + n) ∧ (o + n ≤ 9223372036854775807)) ∧ (T0 ∧ ((((-9223372036854775808 : Int) ≤ 2 * (o + n)) ∧ (2 * (o + n) ≤ 9223372036854775807)) ∧ (T0 ∧ (if (2 * (o + n) ≤ buv a b c d e) then (∃ y0 : Value, (∃ y1 : List Blk, ((Go.Rx.Found 0 (vi (ade a b c d e o l n)) ({ h := [(1, Blk.cells [vi a, vi b, vi c, vi d, vi e] 54), (0, Blk.cells [vi a, vi b, vi c, vi d, vi e] 54)], next := 2 }) (y0) (y1)) ∧ (K y0 y1)))) else (∃ y0 : Value, (∃ y1 : List Blk, ((Go.Rx.Found 0 (vi 5) ({ h := [(1, Blk.cells [vi a, vi b, vi c, vi d, vi e] 54), (0, Blk.cells [vi a, vi b, vi c, vi d, vi e] 54)], next := 2 }) (y0) (y1)) ∧ (K y0 y1)))))))))) else (∃ y0 : Value, (∃ y1 : List Blk, ((Go.Rx.Found 0 (vi 5) ({ h := [(1, Blk.cells [vi a, vi b, vi c, vi d, vi e] 54), (0, Blk.cells [vi a, vi b, vi c, vi d, vi e] 54)], next := 2 }) (y0) (y1)) ∧ (K y0 y1))))))))))))) else (∃ y0 : Value, (∃ y1 : List Blk, ((Go.Rx.Found 0 (vi (ade a b c d e o l n)) ({ h := [(0, Blk.cells [vi a, vi b, vi c, vi d, vi e] 54)], next := 1 }) (y0) (y1)) ∧ (K y0 y1)))))))))))))))
set_option maxRecDepth 100000 in
theorem con55_zE (a b c d e : Int) (o : Int) (l : Int) (n : Int) (K : Value → List Blk → Prop) : con55_zV a b c d e o l n K = bodyX (mk XA5) (callN (mk XA5) 9) (con55_zA a b c d e o l n) Try.f55 [.agg ⟨[.int .i64 a, .int .i64 b, .int .i64 c, .int .i64 d, .int .i64 e]⟩, .int .i64 o, .int .i64 l, .int .i64 n] (stOf []) fun v s' => ∃ v1 news, Rx.Found 0 v s' v1 news ∧ K v1 news := by kernel_rfl
set_option maxRecDepth 100000 in
set_option maxHeartbeats 4000000 in
set_option tactic.hygienic false in
theorem con55_zP (a b c d e : Int) (o : Int) (l : Int) (n : Int) (K : Value → List Blk → Prop)  (hI : InC a b c d e) (h : K (.int .i64 (aft a b c d e o l n)) []) : con55_zV a b c d e o l n K := by
  unfold con55_zV
  have ck := chk_cases a b c d e
  have mb := mulC a b c d e
  obtain ⟨⟨i1, i2⟩, ⟨i3, i4⟩, ⟨i5, i6⟩, ⟨i7, i8⟩, ⟨i9, i10⟩⟩ := (show InC a b c d e from hI)
  have z1 := ste_cases a b c d e o l
  have z3 := ade_cases a b c d e o l n
  have z5 := aft_cases a b c d e o l n
  have z6 := buv_cases a b c d e

  repeat' (first | (with_reducible exact rfl) | (with_reducible exact trivial) | (with_reducible refine And.intro ?_ ?_) | (intro) | (with_reducible refine br_intro (fun hq => ?_) (fun hq => ?_)) | (with_reducible refine if_both (fun hz => ?_) (fun hz => ?_)) | fail)

  all_goals first
    | omega
    | assumption
    | contradiction
    | (exact fin0 (by kernel_rfl) (by kernel_rfl) (fin0i (by have z1 := ste_cases a b c d e o l; have z3 := ade_cases a b c d e o l n; have z5 := aft_cases a b c d e o l n; have z6 := buv_cases a b c d e; omega) h))
    | (exact fin0 (by kernel_rfl) (by kernel_rfl) (fin0p (by have z1 := ste_cases a b c d e o l; have z3 := ade_cases a b c d e o l n; have z5 := aft_cases a b c d e o l n; have z6 := buv_cases a b c d e; omega) (by have z1 := ste_cases a b c d e o l; have z3 := ade_cases a b c d e o l n; have z5 := aft_cases a b c d e o l n; have z6 := buv_cases a b c d e; omega) h))
    | (exfalso; simp at hq; omega)
theorem con55_ok : BodyOk (mk XA5) 9 Try.f55 con55 := by
  intro vs bs K hh hro
  clear hro
  unfold con55 at hh
  split at hh
  · rename_i u o l n
    obtain ⟨a, b, c, d, e, rfl, hI, hh0⟩ := five_inv hh
    obtain ⟨rfl, -, hc⟩ := hh0
    exact ⟨_, _, cast (con55_zE a b c d e  o l n K) (con55_zP a b c d e  o l n K hI   hc)⟩
  · exact hh.elim
theorem con55_told : Told 55 (specOf con55) := told (X := XA5) XA5_told (by kernel_rfl) (by kernel_rfl) (by kernel_rfl) con55_ok
end Go.Proofs.Ytnpgeeajlbglaaa.Fr
