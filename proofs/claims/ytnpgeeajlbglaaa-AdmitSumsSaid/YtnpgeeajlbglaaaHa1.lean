/-
  Admit: what its functions return. No project text.
-/
import Derived.Test.YtnpgeeajlbglaaaFr0
namespace Go.Proofs.Ytnpgeeajlbglaaa.Fr
open Go.Rx
open Go.RowKit (Below)
set_option linter.unusedVariables false
theorem locA_mono {s : Rx.St} {c c' : List Value → List Blk → Prop} (h : ∀ us bs, c' us bs → c us bs) : ∀ (args : List Value) (k : Nat), locA s k args c' → locA s k args c := by
  intro args
  induction args generalizing c c' with
  | nil => exact fun k hc => h _ _ hc
  | cons v vs ih =>
    intro k hc
    unfold locA at hc ⊢
    split at hc
    · obtain ⟨o, ho, hc⟩ := kO_some hc
      show kO (Rx.look s.h _) _
      rw [ho]
      cases o with
      | cells cs e => exact hc.elim
      | row ro ks e n q f => exact ⟨hc.1, ih (fun us bs => h _ _) _ hc.2⟩
    · rename_i hne
      exact ⟨hc.1, ih (fun us bs => h _ _) _ hc.2⟩
/-- A narrower contract. -/
theorem Told.mono {f : Nat} {c c' : Con} (h : Told f (specOf c)) (hc : ∀ vs bs K, c' vs bs K → c vs bs K) : Told f (specOf c') :=
  ⟨h.1, fun args s K hk => h.2 args s K (locA_mono (fun us bs => hc us bs _) args 0 hk)⟩
theorem chk_cases (a b c d e : Int) : (chk a b c d e = 0 ∧ 8 ≤ a ∧ a ≤ 64 ∧ 7 ≤ b ∧ b ≤ 24 ∧ 4 ≤ c ∧ c ≤ 64 ∧ 1 ≤ d ∧ d ≤ 8 ∧ 2 ≤ e ∧ e ≤ 16) ∨ (chk a b c d e = 7 ∧ ¬ (8 ≤ a ∧ a ≤ 64 ∧ 7 ≤ b ∧ b ≤ 24 ∧ 4 ≤ c ∧ c ≤ 64 ∧ 1 ≤ d ∧ d ≤ 8 ∧ 2 ≤ e ∧ e ≤ 16)) := by
  unfold chk good
  split
  · exact .inl ⟨rfl, by assumption⟩
  · exact .inr ⟨rfl, by assumption⟩
theorem mulB {a b : Int} (h1 : 8 ≤ a) (h2 : a ≤ 64) (h3 : 7 ≤ b) (h4 : b ≤ 24) : 56 ≤ b * a ∧ b * a ≤ 1536 ∧ a * (b - 6) = b * a - 6 * a ∧ 8 ≤ a * (b - 6) := by
  have k1 : 7 * 8 ≤ b * a := Int.mul_le_mul h3 h1 (by omega) (by omega)
  have k2 : b * a ≤ 24 * 64 := Int.mul_le_mul h4 h2 (by omega) (by omega)
  have k3 : a * (b - 6) = b * a - 6 * a := by rw [Int.mul_sub, Int.mul_comm a b, Int.mul_comm a 6]
  have k4 : 8 * 1 ≤ a * (b - 6) := Int.mul_le_mul h1 (by omega) (by omega) (by omega)
  omega
theorem mulC (a b c d e : Int) : chk a b c d e = 0 → 56 ≤ b * a ∧ b * a ≤ 1536 ∧ a * (b - 6) = b * a - 6 * a ∧ 8 ≤ a * (b - 6) := fun h => by
  have := chk_cases a b c d e
  exact mulB (by omega) (by omega) (by omega) (by omega)
theorem fin0i {K : Value → List Blk → Prop} {x y : Int} (e : x = y) (h : K (.int .i64 x) []) : K (.int .i64 y) [] := e ▸ h
theorem fin0p {K : Value → List Blk → Prop} {x y x' y' : Int} (e : x = x') (e' : y = y') (h : K (.tuple ⟨[.int .i64 x, .int .i64 y]⟩) []) : K (.tuple ⟨[.int .i64 x', .int .i64 y']⟩) [] := e ▸ e' ▸ h
/-- The error of a state. -/
def ste (a b c d e o l : Int) : Int := if chk a b c d e = 0 then (if 0 ≤ o ∧ o ≤ b * a + c ∧ 0 ≤ l ∧ l ≤ c ∧ c ≤ o + l then 0 else 7) else 7
def oce (a b c d e o : Int) : Int := if chk a b c d e = 0 then (if 0 ≤ o ∧ o ≤ b * a + c then 0 else 7) else 7
def ade (a b c d e o l n : Int) : Int := if ste a b c d e o l = 0 then (if n < 1 then 7 else if a / 2 < n ∨ c < n then 11 else 0) else 7
def adk (a b c d e o l n : Int) : Int := if ade a b c d e o l n = 0 then (if n ≤ l ∧ 2 * (o + n) ≤ a * (b - 6) then 1 else 2) else 0
def aft (a b c d e o l n : Int) : Int := if ade a b c d e o l n = 0 then (if n ≤ l ∧ 2 * (o + n) ≤ a * (b - 6) then 0 else 5) else ade a b c d e o l n
def slv (a b c d e o : Int) : Int := if oce a b c d e o = 0 then (if a * (b - 6) / 2 - o < 0 then 0 else a * (b - 6) / 2 - o) else 0
theorem ste_cases (a b c d e o l : Int) : (ste a b c d e o l = 0 ∧ chk a b c d e = 0 ∧ 0 ≤ o ∧ o ≤ b * a + c ∧ 0 ≤ l ∧ l ≤ c ∧ c ≤ o + l) ∨ (ste a b c d e o l = 7 ∧ ¬ (chk a b c d e = 0 ∧ 0 ≤ o ∧ o ≤ b * a + c ∧ 0 ≤ l ∧ l ≤ c ∧ c ≤ o + l)) := by
  unfold ste
  repeat' split
  all_goals omega
theorem oce_cases (a b c d e o : Int) : (oce a b c d e o = 0 ∧ chk a b c d e = 0 ∧ 0 ≤ o ∧ o ≤ b * a + c) ∨ (oce a b c d e o = 7 ∧ ¬ (chk a b c d e = 0 ∧ 0 ≤ o ∧ o ≤ b * a + c)) := by
  unfold oce
  repeat' split
  all_goals omega
theorem ade_cases (a b c d e o l n : Int) : (ade a b c d e o l n = 7 ∧ (¬ ste a b c d e o l = 0 ∨ n < 1)) ∨ (ade a b c d e o l n = 11 ∧ ste a b c d e o l = 0 ∧ 1 ≤ n ∧ (a / 2 < n ∨ c < n)) ∨ (ade a b c d e o l n = 0 ∧ ste a b c d e o l = 0 ∧ 1 ≤ n ∧ n ≤ a / 2 ∧ n ≤ c) := by
  unfold ade
  repeat' split
  all_goals omega
theorem adk_cases (a b c d e o l n : Int) : (adk a b c d e o l n = 0 ∧ ¬ ade a b c d e o l n = 0) ∨ (adk a b c d e o l n = 1 ∧ ade a b c d e o l n = 0 ∧ n ≤ l ∧ 2 * (o + n) ≤ a * (b - 6)) ∨ (adk a b c d e o l n = 2 ∧ ade a b c d e o l n = 0 ∧ ¬ (n ≤ l ∧ 2 * (o + n) ≤ a * (b - 6))) := by
  unfold adk
  repeat' split
  all_goals omega
theorem aft_cases (a b c d e o l n : Int) : (aft a b c d e o l n = ade a b c d e o l n ∧ ¬ ade a b c d e o l n = 0) ∨ (aft a b c d e o l n = 0 ∧ ade a b c d e o l n = 0 ∧ n ≤ l ∧ 2 * (o + n) ≤ a * (b - 6)) ∨ (aft a b c d e o l n = 5 ∧ ade a b c d e o l n = 0 ∧ ¬ (n ≤ l ∧ 2 * (o + n) ≤ a * (b - 6))) := by
  unfold aft
  repeat' split
  all_goals omega
theorem slv_cases (a b c d e o : Int) : (oce a b c d e o = 0 ∧ ((slv a b c d e o = 0 ∧ a * (b - 6) / 2 - o < 0) ∨ (slv a b c d e o = a * (b - 6) / 2 - o ∧ 0 ≤ slv a b c d e o))) ∨ (¬ oce a b c d e o = 0 ∧ slv a b c d e o = 0) := by
  unfold slv
  repeat' split
  all_goals omega
@[reducible] def XA0 : List (Nat × Rx.Spec) := [(78, sp78)]
theorem XA0_told : ∀ p ∈ XA0, Told p.1 p.2 := by
  intro p hp
  simp only [List.mem_cons, List.not_mem_nil, or_false] at hp
  rcases hp with rfl
  · exact told78
def con32 : Con := fun vs bs K => match vs with
  | [u, .int .i64 o, .int .i64 l] => five u fun a b c d e => bs = [] ∧ (True) ∧ (K (.int .i64 (ste a b c d e o l)) [])
  | _ => False

def con32_zA (a b c d e : Int) (o : Int) (l : Int) : Ann := fun _ _ _ => none
def con35 : Con := fun vs bs K => match vs with
  | [u, .int .i64 o] => five u fun a b c d e => bs = [] ∧ (True) ∧ (K (.tuple ⟨[.int .i64 (slv a b c d e o), .int .i64 (oce a b c d e o)]⟩) [])
  | _ => False

def con35_zA (a b c d e : Int) (o : Int) : Ann := fun _ _ _ => none
def con72G : Con := fun vs bs K => match vs with
  | [u] => five u fun a b c d e => bs = [] ∧ ((chk a b c d e = 0)) ∧ (K (.tuple ⟨[.int .i64 (if c < a / 2 then c else a / 2), .int .i64 (0)]⟩) [])
  | _ => False

def con72G_zA (a b c d e : Int) : Ann := fun _ _ _ => none
def con83G : Con := fun vs bs K => match vs with
  | [u] => five u fun a b c d e => bs = [] ∧ ((chk a b c d e = 0)) ∧ (K (.tuple ⟨[.int .i64 (a * (b - 6)), .int .i64 (0)]⟩) [])
  | _ => False

def con83G_zA (a b c d e : Int) : Ann := fun _ _ _ => none
set_option maxRecDepth 100000 in
def con32_zV (a b c d e : Int) (o : Int) (l : Int) (K : Value → List Blk → Prop) : Prop := let q0 := (9223372036854775807 : Int); let q1 := (-9223372036854775808 : Int); let q2 := (T0 ∧ T0); let q3 := (vi (7 : Int)); let q4 := TS; let q5 := (some (Blk.cells [vi a, vi b, vi c, vi d, vi e] (54 : Nat))); let q6 := ((0 : Nat), Blk.cells [vi a, vi b, vi c, vi d, vi e] (54 : Nat)); let q7 := (some (Blk.cells [vi a, vi b, vi c, vi d, vi e, vi o, vi l] (85 : Nat))); let q8 := ((3 : Nat), Blk.cells [vi a, vi b, vi c, vi d, vi e, vi o, vi l] (85 : Nat)); let q9 := ((1 : Nat), Blk.cells [vi a, vi b, vi c, vi d, vi e, vi o, vi l] (85 : Nat)); let q10 := ((4 : Nat), Blk.cells [vi a, vi b, vi c, vi d, vi e, vi o, vi l] (85 : Nat)); let q11 := ((5 : Nat), Blk.cells [vi a, vi b, vi c, vi d, vi e, vi o, vi l] (85 : Nat)); let q12 := (@Eq (Option Blk) q7 q7); let q13 := (some (Blk.cells [Value.func (Fn.func (58 : Nat)) { toList := [Value.agg { toList := [vi a, vi b, vi c, vi d, vi e, vi o, vi l] }] } { toList := [] }, Value.func (Fn.func (59 : Nat)) { toList := [Value.agg { toList := [vi a, vi b, vi c, vi d, vi e, vi o, vi l] }] } { toList := [] }, Value.func (Fn.func (60 : Nat)) { toList := [Value.agg { toList := [vi a, vi b, vi c, vi d, vi e, vi o, vi l] }] } { toList := [] }] (87 : Nat))); let q14 := (T0 ∧ (T0 ∧ (∃ y0 : Value, (∃ y1 : List Blk, ((Go.Rx.Found 0 q3 ({ h := [((6 : Nat), Blk.cells [vi a, vi b, vi c, vi d, vi e, vi o, vi l] (85 : Nat)), q11, q10, q8, ((2 : Nat), Blk.cells [Value.func (Fn.func (58 : Nat)) { toList := [Value.agg { toList := [vi a, vi b, vi c, vi d, vi e, vi o, vi l] }] } { toList := [] }, Value.func (Fn.func (59 : Nat)) { toList := [Value.agg { toList := [vi a, vi b, vi c, vi d, vi e, vi o, vi l] }] } { toList := [] }, Value.func (Fn.func (60 : Nat)) { toList := [Value.agg { toList := [vi a, vi b, vi c, vi d, vi e, vi o, vi l] }] } { toList := [] }] (87 : Nat)), q9, q6], next := (7 : Nat) }) (y0) (y1)) ∧ (K y0 y1)))))); let q15 := (q12 ∧ (q12 ∧ ((@Eq (Option Blk) q13 q13) ∧ (q12 ∧ ((@Eq (Option Blk) q5 q5) ∧ (True)))))); (T0 ∧ (T0 ∧ (T0 ∧ (T0 ∧ (T0 ∧ (T0 ∧ (T0 ∧ (q4 ∧ (q2 ∧ (q2 ∧ (T0 ∧ (q4 ∧ (T0 ∧ (q4 ∧ ((((0 : Int) ≤ (0 : Int)) ∧ ((0 : Int) < (↑(3 : Nat) : Int))) ∧ (T0 ∧ (T0 ∧ (T0 ∧ ((InC a b c d e) ∧ (T0 ∧ (if (@Eq Int (chk a b c d e) ((0 : Int))) then (T0 ∧ (((q1 ≤ (0 : Int) + (1 : Int)) ∧ ((0 : Int) + (1 : Int) ≤ q0)) ∧ (T0 ∧ (q4 ∧ ((((0 : Int) ≤ (0 : Int) + (1 : Int)) ∧ ((0 : Int) + (1 : Int) < (↑(3 : Nat) : Int))) ∧ (T0 ∧ (T0 ∧ (T0 ∧ (T0 ∧ (T0 ∧ (T0 ∧ (T0 ∧ (if ((0 : Int) ≤ o) then (T0 ∧ (T0 ∧ (T0 ∧ (T0 ∧ (T0 ∧ (T0 ∧ (T0 ∧ (T0 ∧ (T0 ∧ (T0 ∧ (T0 ∧ (T0 ∧ (((q1 ≤ b * a) ∧ (b * a ≤ q0)) ∧ (T0 ∧ (T0 ∧ (T0 ∧ (((q1 ≤ b * a + c) ∧ (b * a + c ≤ q0)) ∧ (q15 ∧ (T0 ∧ (if (o ≤ b * a + c) then (T0 ∧ (q15 ∧ (T0 ∧ (T0 ∧ (T0 ∧ (((q1 ≤ (0 : Int) + (1 : Int) + (1 : Int)) ∧ ((0 : Int) + (1 : Int) + (1 : Int) ≤ q0)) ∧ (T0 ∧ (q4 ∧ ((((0 : Int) ≤ (0 : Int) + (1 : Int) + (1 : Int)) ∧ ((0 : Int) + (1 : Int) + (1 : Int) < (↑(3 : Nat) : Int))) ∧ (T0 ∧ (T0 ∧ (T0 ∧ (if ((0 : Int) ≤ l) then (T0 ∧ (T0 ∧ (T0 ∧ (T0 ∧ (if (l ≤ c) then (T0 ∧ (T0 ∧ (T0 ∧ (((q1 ≤ o + l) ∧ (o + l ≤ q0)) ∧ (T0 ∧ (T0 ∧ (T0 ∧ (if (c ≤ o + l) then (T0 ∧ (T0 ∧ (T0 ∧ (((q1 ≤ (0 : Int) + (1 : Int) + (1 : Int) + (1 : Int)) ∧ ((0 : Int) + (1 : Int) + (1 : Int) + (1 : Int) ≤ q0)) ∧ (T0 ∧ (∃ y0 : Value, (∃ y1 : List Blk, ((Go.Rx.Found 0 (vi (0 : Int)) ({ h := [((6 : Nat), Blk.cells [vi a, vi b, vi c, vi d, vi e, vi o, vi l] (85 : Nat)), q11, q10, q8, ((2 : Nat), Blk.cells [Value.func (Fn.func (58 : Nat)) { toList := [Value.agg { toList := [vi a, vi b, vi c, vi d, vi e, vi o, vi l] }] } { toList := [] }, Value.func (Fn.func (59 : Nat)) { toList := [Value.agg { toList := [vi a, vi b, vi c, vi d, vi e, vi o, vi l] }] } { toList := [] }, Value.func (Fn.func (60 : Nat)) { toList := [Value.agg { toList := [vi a, vi b, vi c, vi d, vi e, vi o, vi l] }] } { toList := [] }] (87 : Nat)), q9, q6], next := (7 : Nat) }) (y0) (y1)) ∧ (K y0 y1))))))))) else q14)))))))) else q14))))) else q14))))))))))))) else (T0 ∧ (q15 ∧ (T0 ∧ (T0 ∧ (∃ y0 : Value, (∃ y1 : List Blk, ((Go.Rx.Found 0 q3 ({ h := [q11, q10, q8, ((2 : Nat), Blk.cells [Value.func (Fn.func (58 : Nat)) { toList := [Value.agg { toList := [vi a, vi b, vi c, vi d, vi e, vi o, vi l] }] } { toList := [] }, Value.func (Fn.func (59 : Nat)) { toList := [Value.agg { toList := [vi a, vi b, vi c, vi d, vi e, vi o, vi l] }] } { toList := [] }, Value.func (Fn.func (60 : Nat)) { toList := [Value.agg { toList := [vi a, vi b, vi c, vi d, vi e, vi o, vi l] }] } { toList := [] }] (87 : Nat)), q9, q6], next := (6 : Nat) }) (y0) (y1)) ∧ (K y0 y1)))))))))))))))))))))))))))) else (T0 ∧ (T0 ∧ (q15 ∧ (T0 ∧ (T0 ∧ (∃ y0 : Value, (∃ y1 : List Blk, ((Go.Rx.Found 0 q3 ({ h := [q10, q8, ((2 : Nat), Blk.cells [Value.func (Fn.func (58 : Nat)) { toList := [Value.agg { toList := [vi a, vi b, vi c, vi d, vi e, vi o, vi l] }] } { toList := [] }, Value.func (Fn.func (59 : Nat)) { toList := [Value.agg { toList := [vi a, vi b, vi c, vi d, vi e, vi o, vi l] }] } { toList := [] }, Value.func (Fn.func (60 : Nat)) { toList := [Value.agg { toList := [vi a, vi b, vi c, vi d, vi e, vi o, vi l] }] } { toList := [] }] (87 : Nat)), q9, q6], next := (5 : Nat) }) (y0) (y1)) ∧ (K y0 y1)))))))))))))))))))))) else (∃ y0 : Value, (∃ y1 : List Blk, ((Go.Rx.Found 0 (vi (chk a b c d e)) ({ h := [q8, ((2 : Nat), Blk.cells [Value.func (Fn.func (58 : Nat)) { toList := [Value.agg { toList := [vi a, vi b, vi c, vi d, vi e, vi o, vi l] }] } { toList := [] }, Value.func (Fn.func (59 : Nat)) { toList := [Value.agg { toList := [vi a, vi b, vi c, vi d, vi e, vi o, vi l] }] } { toList := [] }, Value.func (Fn.func (60 : Nat)) { toList := [Value.agg { toList := [vi a, vi b, vi c, vi d, vi e, vi o, vi l] }] } { toList := [] }] (87 : Nat)), q9, q6], next := (4 : Nat) }) (y0) (y1)) ∧ (K y0 y1)))))))))))))))))))))))))
set_option maxRecDepth 100000 in
theorem con32_zE (a b c d e : Int) (o : Int) (l : Int) (K : Value → List Blk → Prop) : con32_zV a b c d e o l K = bodyX (mk XA0) (callN (mk XA0) 9) (con32_zA a b c d e o l) Try.f32 [.agg ⟨[.int .i64 a, .int .i64 b, .int .i64 c, .int .i64 d, .int .i64 e]⟩, .int .i64 o, .int .i64 l] (stOf []) fun v s' => ∃ v1 news, Rx.Found 0 v s' v1 news ∧ K v1 news := by kernel_rfl
set_option maxRecDepth 100000 in
set_option maxHeartbeats 4000000 in
set_option tactic.hygienic false in
theorem con32_zP (a b c d e : Int) (o : Int) (l : Int) (K : Value → List Blk → Prop)  (hI : InC a b c d e) (h : K (.int .i64 (ste a b c d e o l)) []) : con32_zV a b c d e o l K := by
  unfold con32_zV
  conv => zeta
  have ck := chk_cases a b c d e
  have mb := mulC a b c d e
  obtain ⟨⟨i1, i2⟩, ⟨i3, i4⟩, ⟨i5, i6⟩, ⟨i7, i8⟩, ⟨i9, i10⟩⟩ := (show InC a b c d e from hI)
  have z1 := ste_cases a b c d e o l

  repeat' (first | (with_reducible exact rfl) | (with_reducible exact trivial) | (with_reducible refine And.intro ?_ ?_) | (intro) | (with_reducible refine br_intro (fun hq => ?_) (fun hq => ?_)) | (with_reducible refine if_both (fun hz => ?_) (fun hz => ?_)) | fail)

  all_goals first
    | omega
    | assumption
    | contradiction
    | (exact fin0 (by kernel_rfl) (by kernel_rfl) (fin0i (by have z1 := ste_cases a b c d e o l; omega) h))
    | (exact fin0 (by kernel_rfl) (by kernel_rfl) (fin0p (by have z1 := ste_cases a b c d e o l; omega) (by have z1 := ste_cases a b c d e o l; omega) h))
    | (exfalso; simp at hq; omega)
theorem con32_ok : BodyOk (mk XA0) 9 Try.f32 con32 := by
  intro vs bs K hh hro
  clear hro
  unfold con32 at hh
  split at hh
  · rename_i u o l
    obtain ⟨a, b, c, d, e, rfl, hI, hh0⟩ := five_inv hh
    obtain ⟨rfl, -, hc⟩ := hh0
    exact ⟨_, _, cast (con32_zE a b c d e  o l K) (con32_zP a b c d e  o l K hI   hc)⟩
  · exact hh.elim
theorem con32_told : Told 32 (specOf con32) := told (X := XA0) XA0_told (by kernel_rfl) (by kernel_rfl) (by kernel_rfl) con32_ok
set_option maxRecDepth 100000 in
def con35_zV (a b c d e : Int) (o : Int) (K : Value → List Blk → Prop) : Prop := let q0 := ((0 : Int) ≤ (0 : Int)); let q1 := ((0 : Int) < (2 : Int)); let q2 := (9223372036854775807 : Int); let q3 := (-9223372036854775808 : Int); let q4 := (T0 ∧ T0); let q5 := TS; let q6 := (a * (b - (6 : Int)) ≤ q2); let q7 := ((q3 ≤ b - (6 : Int)) ∧ (b - (6 : Int) ≤ q2)); let q8 := (q0 ∧ (((0 : Int) ≤ q2) ∧ q1)); let q9 := ((q3 ≤ (0 / 2 : Int) - o) ∧ ((0 / 2 : Int) - o ≤ q2)); let q10 := ((q3 ≤ a * (b - (6 : Int))) ∧ q6); let q11 := (((0 : Int) ≤ a * (b - (6 : Int))) ∧ (q6 ∧ q1)); let q12 := ((q3 ≤ a * (b - (6 : Int)) / (2 : Int) - o) ∧ (a * (b - (6 : Int)) / (2 : Int) - o ≤ q2)); let q13 := (some (Blk.cells [vi a, vi b, vi c, vi d, vi e] (54 : Nat))); let q14 := ((0 : Nat), Blk.cells [vi a, vi b, vi c, vi d, vi e] (54 : Nat)); let q15 := (some (Blk.cells [vi a, vi b, vi c, vi d, vi e, vi o, vi (0 : Int)] (85 : Nat))); let q16 := ((3 : Nat), Blk.cells [vi a, vi b, vi c, vi d, vi e, vi o, vi (0 : Int)] (85 : Nat)); let q17 := ((1 : Nat), Blk.cells [vi a, vi b, vi c, vi d, vi e, vi o, vi (0 : Int)] (85 : Nat)); let q18 := ((4 : Nat), Blk.cells [vi a, vi b, vi c, vi d, vi e, vi o, vi (0 : Int)] (85 : Nat)); let q19 := ((5 : Nat), Blk.cells [vi a, vi b, vi c, vi d, vi e, vi o, vi (0 : Int)] (85 : Nat)); let q20 := (@Eq (Option Blk) q15 q15); let q21 := (some (Blk.cells [Value.func (Fn.func (58 : Nat)) { toList := [Value.agg { toList := [vi a, vi b, vi c, vi d, vi e, vi o, vi (0 : Int)] }] } { toList := [] }, Value.func (Fn.func (59 : Nat)) { toList := [Value.agg { toList := [vi a, vi b, vi c, vi d, vi e, vi o, vi (0 : Int)] }] } { toList := [] }] (87 : Nat))); let q22 := (q20 ∧ (q20 ∧ ((@Eq (Option Blk) q21 q21) ∧ (q20 ∧ ((@Eq (Option Blk) q13 q13) ∧ (True)))))); (T0 ∧ (T0 ∧ (T0 ∧ (T0 ∧ (T0 ∧ (T0 ∧ (q5 ∧ (q4 ∧ (q4 ∧ (T0 ∧ (q5 ∧ (T0 ∧ (q5 ∧ ((q0 ∧ ((0 : Int) < (↑(2 : Nat) : Int))) ∧ (T0 ∧ (T0 ∧ (T0 ∧ ((InC a b c d e) ∧ (T0 ∧ (if (@Eq Int (chk a b c d e) ((0 : Int))) then (T0 ∧ (((q3 ≤ (0 : Int) + (1 : Int)) ∧ ((0 : Int) + (1 : Int) ≤ q2)) ∧ (T0 ∧ (q5 ∧ ((((0 : Int) ≤ (0 : Int) + (1 : Int)) ∧ ((0 : Int) + (1 : Int) < (↑(2 : Nat) : Int))) ∧ (T0 ∧ (T0 ∧ (T0 ∧ (T0 ∧ (T0 ∧ (T0 ∧ (T0 ∧ (if ((0 : Int) ≤ o) then (T0 ∧ (T0 ∧ (T0 ∧ (T0 ∧ (T0 ∧ (T0 ∧ (T0 ∧ (T0 ∧ (T0 ∧ (T0 ∧ (T0 ∧ (T0 ∧ (((q3 ≤ b * a) ∧ (b * a ≤ q2)) ∧ (T0 ∧ (T0 ∧ (T0 ∧ (((q3 ≤ b * a + c) ∧ (b * a + c ≤ q2)) ∧ (q22 ∧ (T0 ∧ (if (o ≤ b * a + c) then (T0 ∧ (q22 ∧ (T0 ∧ (T0 ∧ (T0 ∧ (((q3 ≤ (0 : Int) + (1 : Int) + (1 : Int)) ∧ ((0 : Int) + (1 : Int) + (1 : Int) ≤ q2)) ∧ (T0 ∧ (T0 ∧ (T0 ∧ (T0 ∧ (T0 ∧ (T0 ∧ (T0 ∧ (T0 ∧ (T0 ∧ (T0 ∧ (T0 ∧ (q7 ∧ (T0 ∧ (q10 ∧ (T0 ∧ (T0 ∧ ((InC a b c d e) ∧ (T0 ∧ (if (@Eq Int (chk a b c d e) ((0 : Int))) then (T0 ∧ (q11 ∧ (T0 ∧ (T0 ∧ (q12 ∧ (T0 ∧ (∃ y0 : Value, (∃ y1 : List Blk, ((Go.Rx.Found 0 (Value.tuple { toList := [vi (if a * (b - (6 : Int)) / (2 : Int) - o < (0 : Int) then (0 : Int) else a * (b - (6 : Int)) / (2 : Int) - o), vi (0 : Int)] }) ({ h := [((8 : Nat), Blk.cells [vi a, vi b, vi c, vi d, vi e] (54 : Nat)), ((7 : Nat), Blk.cells [vi a, vi b, vi c, vi d, vi e] (54 : Nat)), ((6 : Nat), Blk.cells [vi a, vi b, vi c, vi d, vi e, vi o, vi (0 : Int)] (85 : Nat)), q19, q18, q16, ((2 : Nat), Blk.cells [Value.func (Fn.func (58 : Nat)) { toList := [Value.agg { toList := [vi a, vi b, vi c, vi d, vi e, vi o, vi (0 : Int)] }] } { toList := [] }, Value.func (Fn.func (59 : Nat)) { toList := [Value.agg { toList := [vi a, vi b, vi c, vi d, vi e, vi o, vi (0 : Int)] }] } { toList := [] }] (87 : Nat)), q17, q14], next := (9 : Nat) }) (y0) (y1)) ∧ (K y0 y1)))))))))) else (T0 ∧ (q8 ∧ (T0 ∧ (T0 ∧ (q9 ∧ (T0 ∧ (∃ y0 : Value, (∃ y1 : List Blk, ((Go.Rx.Found 0 (Value.tuple { toList := [vi (if (0 / 2 : Int) - o < (0 : Int) then (0 : Int) else (0 / 2 : Int) - o), vi (0 : Int)] }) ({ h := [((8 : Nat), Blk.cells [vi a, vi b, vi c, vi d, vi e] (54 : Nat)), ((7 : Nat), Blk.cells [vi a, vi b, vi c, vi d, vi e] (54 : Nat)), ((6 : Nat), Blk.cells [vi a, vi b, vi c, vi d, vi e, vi o, vi (0 : Int)] (85 : Nat)), q19, q18, q16, ((2 : Nat), Blk.cells [Value.func (Fn.func (58 : Nat)) { toList := [Value.agg { toList := [vi a, vi b, vi c, vi d, vi e, vi o, vi (0 : Int)] }] } { toList := [] }, Value.func (Fn.func (59 : Nat)) { toList := [Value.agg { toList := [vi a, vi b, vi c, vi d, vi e, vi o, vi (0 : Int)] }] } { toList := [] }] (87 : Nat)), q17, q14], next := (9 : Nat) }) (y0) (y1)) ∧ (K y0 y1))))))))))))))))))))))))))))))))))) else (T0 ∧ (q22 ∧ (T0 ∧ (T0 ∧ (T0 ∧ (∃ y0 : Value, (∃ y1 : List Blk, ((Go.Rx.Found 0 (Value.tuple { toList := [vi (0 : Int), vi (7 : Int)] }) ({ h := [q19, q18, q16, ((2 : Nat), Blk.cells [Value.func (Fn.func (58 : Nat)) { toList := [Value.agg { toList := [vi a, vi b, vi c, vi d, vi e, vi o, vi (0 : Int)] }] } { toList := [] }, Value.func (Fn.func (59 : Nat)) { toList := [Value.agg { toList := [vi a, vi b, vi c, vi d, vi e, vi o, vi (0 : Int)] }] } { toList := [] }] (87 : Nat)), q17, q14], next := (6 : Nat) }) (y0) (y1)) ∧ (K y0 y1))))))))))))))))))))))))))))) else (T0 ∧ (T0 ∧ (q22 ∧ (T0 ∧ (T0 ∧ (T0 ∧ (∃ y0 : Value, (∃ y1 : List Blk, ((Go.Rx.Found 0 (Value.tuple { toList := [vi (0 : Int), vi (7 : Int)] }) ({ h := [q18, q16, ((2 : Nat), Blk.cells [Value.func (Fn.func (58 : Nat)) { toList := [Value.agg { toList := [vi a, vi b, vi c, vi d, vi e, vi o, vi (0 : Int)] }] } { toList := [] }, Value.func (Fn.func (59 : Nat)) { toList := [Value.agg { toList := [vi a, vi b, vi c, vi d, vi e, vi o, vi (0 : Int)] }] } { toList := [] }] (87 : Nat)), q17, q14], next := (5 : Nat) }) (y0) (y1)) ∧ (K y0 y1))))))))))))))))))))))) else (T0 ∧ (if (@Eq Int (chk a b c d e) ((0 : Int))) then (T0 ∧ (T0 ∧ (T0 ∧ (T0 ∧ (T0 ∧ (T0 ∧ (T0 ∧ (T0 ∧ (T0 ∧ (q7 ∧ (T0 ∧ (q10 ∧ (T0 ∧ (T0 ∧ ((InC a b c d e) ∧ (T0 ∧ (if (@Eq Int (chk a b c d e) ((0 : Int))) then (T0 ∧ (q11 ∧ (T0 ∧ (T0 ∧ (q12 ∧ (T0 ∧ (∃ y0 : Value, (∃ y1 : List Blk, ((Go.Rx.Found 0 (Value.tuple { toList := [vi (if a * (b - (6 : Int)) / (2 : Int) - o < (0 : Int) then (0 : Int) else a * (b - (6 : Int)) / (2 : Int) - o), vi (0 : Int)] }) ({ h := [((6 : Nat), Blk.cells [vi a, vi b, vi c, vi d, vi e] (54 : Nat)), ((5 : Nat), Blk.cells [vi a, vi b, vi c, vi d, vi e] (54 : Nat)), q18, q16, ((2 : Nat), Blk.cells [Value.func (Fn.func (58 : Nat)) { toList := [Value.agg { toList := [vi a, vi b, vi c, vi d, vi e, vi o, vi (0 : Int)] }] } { toList := [] }, Value.func (Fn.func (59 : Nat)) { toList := [Value.agg { toList := [vi a, vi b, vi c, vi d, vi e, vi o, vi (0 : Int)] }] } { toList := [] }] (87 : Nat)), q17, q14], next := (7 : Nat) }) (y0) (y1)) ∧ (K y0 y1)))))))))) else (T0 ∧ (q8 ∧ (T0 ∧ (T0 ∧ (q9 ∧ (T0 ∧ (∃ y0 : Value, (∃ y1 : List Blk, ((Go.Rx.Found 0 (Value.tuple { toList := [vi (if (0 / 2 : Int) - o < (0 : Int) then (0 : Int) else (0 / 2 : Int) - o), vi (0 : Int)] }) ({ h := [((6 : Nat), Blk.cells [vi a, vi b, vi c, vi d, vi e] (54 : Nat)), ((5 : Nat), Blk.cells [vi a, vi b, vi c, vi d, vi e] (54 : Nat)), q18, q16, ((2 : Nat), Blk.cells [Value.func (Fn.func (58 : Nat)) { toList := [Value.agg { toList := [vi a, vi b, vi c, vi d, vi e, vi o, vi (0 : Int)] }] } { toList := [] }, Value.func (Fn.func (59 : Nat)) { toList := [Value.agg { toList := [vi a, vi b, vi c, vi d, vi e, vi o, vi (0 : Int)] }] } { toList := [] }] (87 : Nat)), q17, q14], next := (7 : Nat) }) (y0) (y1)) ∧ (K y0 y1))))))))))))))))))))))))))) else (∃ y0 : Value, (∃ y1 : List Blk, ((Go.Rx.Found 0 (Value.tuple { toList := [vi (0 : Int), vi (chk a b c d e)] }) ({ h := [q16, ((2 : Nat), Blk.cells [Value.func (Fn.func (58 : Nat)) { toList := [Value.agg { toList := [vi a, vi b, vi c, vi d, vi e, vi o, vi (0 : Int)] }] } { toList := [] }, Value.func (Fn.func (59 : Nat)) { toList := [Value.agg { toList := [vi a, vi b, vi c, vi d, vi e, vi o, vi (0 : Int)] }] } { toList := [] }] (87 : Nat)), q17, q14], next := (4 : Nat) }) (y0) (y1)) ∧ (K y0 y1))))))))))))))))))))))))))
set_option maxRecDepth 100000 in
theorem con35_zE (a b c d e : Int) (o : Int) (K : Value → List Blk → Prop) : con35_zV a b c d e o K = bodyX (mk XA0) (callN (mk XA0) 9) (con35_zA a b c d e o) Try.f35 [.agg ⟨[.int .i64 a, .int .i64 b, .int .i64 c, .int .i64 d, .int .i64 e]⟩, .int .i64 o] (stOf []) fun v s' => ∃ v1 news, Rx.Found 0 v s' v1 news ∧ K v1 news := by kernel_rfl
set_option maxRecDepth 100000 in
set_option maxHeartbeats 4000000 in
set_option tactic.hygienic false in
theorem con35_zP (a b c d e : Int) (o : Int) (K : Value → List Blk → Prop)  (hI : InC a b c d e) (h : K (.tuple ⟨[.int .i64 (slv a b c d e o), .int .i64 (oce a b c d e o)]⟩) []) : con35_zV a b c d e o K := by
  unfold con35_zV
  conv => zeta
  have ck := chk_cases a b c d e
  have mb := mulC a b c d e
  obtain ⟨⟨i1, i2⟩, ⟨i3, i4⟩, ⟨i5, i6⟩, ⟨i7, i8⟩, ⟨i9, i10⟩⟩ := (show InC a b c d e from hI)
  have z2 := oce_cases a b c d e o
  have z6 := slv_cases a b c d e o

  repeat' (first | (with_reducible exact rfl) | (with_reducible exact trivial) | (with_reducible refine And.intro ?_ ?_) | (intro) | (with_reducible refine br_intro (fun hq => ?_) (fun hq => ?_)) | (with_reducible refine if_both (fun hz => ?_) (fun hz => ?_)) | fail)

  all_goals first
    | omega
    | assumption
    | contradiction
    | (exact fin0 (by kernel_rfl) (by kernel_rfl) (fin0i (by have z2 := oce_cases a b c d e o; have z6 := slv_cases a b c d e o; omega) h))
    | (exact fin0 (by kernel_rfl) (by kernel_rfl) (fin0p (by have z2 := oce_cases a b c d e o; have z6 := slv_cases a b c d e o; omega) (by have z2 := oce_cases a b c d e o; have z6 := slv_cases a b c d e o; omega) h))
    | (exfalso; simp at hq; omega)
theorem con35_ok : BodyOk (mk XA0) 9 Try.f35 con35 := by
  intro vs bs K hh hro
  clear hro
  unfold con35 at hh
  split at hh
  · rename_i u o
    obtain ⟨a, b, c, d, e, rfl, hI, hh0⟩ := five_inv hh
    obtain ⟨rfl, -, hc⟩ := hh0
    exact ⟨_, _, cast (con35_zE a b c d e  o K) (con35_zP a b c d e  o K hI   hc)⟩
  · exact hh.elim
theorem con35_told : Told 35 (specOf con35) := told (X := XA0) XA0_told (by kernel_rfl) (by kernel_rfl) (by kernel_rfl) con35_ok
set_option maxRecDepth 100000 in
def con72G_zV (a b c d e : Int) (K : Value → List Blk → Prop) : Prop := (T0 ∧ (T0 ∧ (T0 ∧ (T0 ∧ ((((0 : Int) ≤ a) ∧ ((a ≤ (9223372036854775807 : Int)) ∧ ((0 : Int) < (2 : Int)))) ∧ (T0 ∧ (T0 ∧ (T0 ∧ (T0 ∧ ((InC a b c d e) ∧ (T0 ∧ (if (@Eq Int (chk a b c d e) ((0 : Int))) then (∃ y0 : Value, (∃ y1 : List Blk, ((Go.Rx.Found 0 (Value.tuple { toList := [vi (if c < a / (2 : Int) then c else a / (2 : Int)), vi (0 : Int)] }) ({ h := [((1 : Nat), Blk.cells [vi a, vi b, vi c, vi d, vi e] (54 : Nat)), ((0 : Nat), Blk.cells [vi a, vi b, vi c, vi d, vi e] (54 : Nat))], next := (2 : Nat) }) (y0) (y1)) ∧ (K y0 y1)))) else (∃ y0 : Value, (∃ y1 : List Blk, ((Go.Rx.Found 0 (Value.tuple { toList := [vi (0 : Int), vi (chk a b c d e)] }) ({ h := [((1 : Nat), Blk.cells [vi a, vi b, vi c, vi d, vi e] (54 : Nat)), ((0 : Nat), Blk.cells [vi a, vi b, vi c, vi d, vi e] (54 : Nat))], next := (2 : Nat) }) (y0) (y1)) ∧ (K y0 y1))))))))))))))))
set_option maxRecDepth 100000 in
theorem con72G_zE (a b c d e : Int) (K : Value → List Blk → Prop) : con72G_zV a b c d e K = bodyX (mk XA0) (callN (mk XA0) 9) (con72G_zA a b c d e) Try.f72 [.agg ⟨[.int .i64 a, .int .i64 b, .int .i64 c, .int .i64 d, .int .i64 e]⟩] (stOf []) fun v s' => ∃ v1 news, Rx.Found 0 v s' v1 news ∧ K v1 news := by kernel_rfl
set_option maxRecDepth 100000 in
set_option maxHeartbeats 4000000 in
set_option tactic.hygienic false in
theorem con72G_zP (a b c d e : Int) (K : Value → List Blk → Prop)  (hI : InC a b c d e) (hk : chk a b c d e = 0) (h : K (.tuple ⟨[.int .i64 (if c < a / 2 then c else a / 2), .int .i64 (0)]⟩) []) : con72G_zV a b c d e K := by
  unfold con72G_zV
  have ck := chk_cases a b c d e
  have mb := mulC a b c d e
  obtain ⟨⟨i1, i2⟩, ⟨i3, i4⟩, ⟨i5, i6⟩, ⟨i7, i8⟩, ⟨i9, i10⟩⟩ := (show InC a b c d e from hI)

  repeat' (first | (with_reducible exact rfl) | (with_reducible exact trivial) | (with_reducible refine And.intro ?_ ?_) | (intro) | (with_reducible refine br_intro (fun hq => ?_) (fun hq => ?_)) | (with_reducible refine if_both (fun hz => ?_) (fun hz => ?_)) | fail)

  all_goals first
    | omega
    | assumption
    | contradiction
    | (exact fin0 (by kernel_rfl) (by kernel_rfl) (fin0i (by omega) h))
    | (exact fin0 (by kernel_rfl) (by kernel_rfl) (fin0p (by omega) (by omega) h))
    | (exfalso; simp at hq; omega)
theorem con72G_ok : BodyOk (mk XA0) 9 Try.f72 con72G := by
  intro vs bs K hh hro
  clear hro
  unfold con72G at hh
  split at hh
  · rename_i u
    obtain ⟨a, b, c, d, e, rfl, hI, hh0⟩ := five_inv hh
    obtain ⟨rfl, hk, hc⟩ := hh0
    exact ⟨_, _, cast (con72G_zE a b c d e   K) (con72G_zP a b c d e   K hI  hk hc)⟩
  · exact hh.elim
theorem con72G_told : Told 72 (specOf con72G) := told (X := XA0) XA0_told (by kernel_rfl) (by kernel_rfl) (by kernel_rfl) con72G_ok
set_option maxRecDepth 100000 in
def con83G_zV (a b c d e : Int) (K : Value → List Blk → Prop) : Prop := let q0 := (9223372036854775807 : Int); let q1 := (-9223372036854775808 : Int); (T0 ∧ (T0 ∧ (T0 ∧ (T0 ∧ (T0 ∧ (((q1 ≤ b - (6 : Int)) ∧ (b - (6 : Int) ≤ q0)) ∧ (T0 ∧ (((q1 ≤ a * (b - (6 : Int))) ∧ (a * (b - (6 : Int)) ≤ q0)) ∧ (T0 ∧ (T0 ∧ ((InC a b c d e) ∧ (T0 ∧ (if (@Eq Int (chk a b c d e) ((0 : Int))) then (∃ y0 : Value, (∃ y1 : List Blk, ((Go.Rx.Found 0 (Value.tuple { toList := [vi (a * (b - (6 : Int))), vi (0 : Int)] }) ({ h := [((1 : Nat), Blk.cells [vi a, vi b, vi c, vi d, vi e] (54 : Nat)), ((0 : Nat), Blk.cells [vi a, vi b, vi c, vi d, vi e] (54 : Nat))], next := (2 : Nat) }) (y0) (y1)) ∧ (K y0 y1)))) else (∃ y0 : Value, (∃ y1 : List Blk, ((Go.Rx.Found 0 (Value.tuple { toList := [vi (0 : Int), vi (chk a b c d e)] }) ({ h := [((1 : Nat), Blk.cells [vi a, vi b, vi c, vi d, vi e] (54 : Nat)), ((0 : Nat), Blk.cells [vi a, vi b, vi c, vi d, vi e] (54 : Nat))], next := (2 : Nat) }) (y0) (y1)) ∧ (K y0 y1)))))))))))))))))
set_option maxRecDepth 100000 in
theorem con83G_zE (a b c d e : Int) (K : Value → List Blk → Prop) : con83G_zV a b c d e K = bodyX (mk XA0) (callN (mk XA0) 9) (con83G_zA a b c d e) Try.f83 [.agg ⟨[.int .i64 a, .int .i64 b, .int .i64 c, .int .i64 d, .int .i64 e]⟩] (stOf []) fun v s' => ∃ v1 news, Rx.Found 0 v s' v1 news ∧ K v1 news := by kernel_rfl
set_option maxRecDepth 100000 in
set_option maxHeartbeats 4000000 in
set_option tactic.hygienic false in
theorem con83G_zP (a b c d e : Int) (K : Value → List Blk → Prop)  (hI : InC a b c d e) (hk : chk a b c d e = 0) (h : K (.tuple ⟨[.int .i64 (a * (b - 6)), .int .i64 (0)]⟩) []) : con83G_zV a b c d e K := by
  unfold con83G_zV
  conv => zeta
  have ck := chk_cases a b c d e
  have mb := mulC a b c d e
  obtain ⟨⟨i1, i2⟩, ⟨i3, i4⟩, ⟨i5, i6⟩, ⟨i7, i8⟩, ⟨i9, i10⟩⟩ := (show InC a b c d e from hI)

  repeat' (first | (with_reducible exact rfl) | (with_reducible exact trivial) | (with_reducible refine And.intro ?_ ?_) | (intro) | (with_reducible refine br_intro (fun hq => ?_) (fun hq => ?_)) | (with_reducible refine if_both (fun hz => ?_) (fun hz => ?_)) | fail)

  all_goals first
    | omega
    | assumption
    | contradiction
    | (exact fin0 (by kernel_rfl) (by kernel_rfl) (fin0i (by omega) h))
    | (exact fin0 (by kernel_rfl) (by kernel_rfl) (fin0p (by omega) (by omega) h))
    | (exfalso; simp at hq; omega)
theorem con83G_ok : BodyOk (mk XA0) 9 Try.f83 con83G := by
  intro vs bs K hh hro
  clear hro
  unfold con83G at hh
  split at hh
  · rename_i u
    obtain ⟨a, b, c, d, e, rfl, hI, hh0⟩ := five_inv hh
    obtain ⟨rfl, hk, hc⟩ := hh0
    exact ⟨_, _, cast (con83G_zE a b c d e   K) (con83G_zP a b c d e   K hI  hk hc)⟩
  · exact hh.elim
theorem con83G_told : Told 83 (specOf con83G) := told (X := XA0) XA0_told (by kernel_rfl) (by kernel_rfl) (by kernel_rfl) con83G_ok
end Go.Proofs.Ytnpgeeajlbglaaa.Fr
