/-
  What the config says of itself. No project text.
-/
import Derived.Test.YtkflmglpniebfaaZ1
import Derived.Test.YtkflmglpniebfaaChecked
import Derived.Laws.StructEq
import Derived.Lib.SmallJoins
namespace Go.Proofs.Ytkflmglpniebfaa.Fr
set_option maxRecDepth 100000
set_option maxHeartbeats 4000000
open Go.Rx
abbrev T0 : Prop := true = true
abbrev t2 (p : Prop) : Prop := T0 ∧ T0 ∧ p
abbrev t3 (p : Prop) : Prop := T0 ∧ T0 ∧ T0 ∧ p
abbrev t4 (p : Prop) : Prop := T0 ∧ T0 ∧ T0 ∧ T0 ∧ p
abbrev t5 (p : Prop) : Prop := T0 ∧ T0 ∧ T0 ∧ T0 ∧ T0 ∧ p
abbrev t6 (p : Prop) : Prop := T0 ∧ T0 ∧ T0 ∧ T0 ∧ T0 ∧ T0 ∧ p
abbrev t7 (p : Prop) : Prop := T0 ∧ T0 ∧ T0 ∧ T0 ∧ T0 ∧ T0 ∧ T0 ∧ p
abbrev t8 (p : Prop) : Prop := T0 ∧ T0 ∧ T0 ∧ T0 ∧ T0 ∧ T0 ∧ T0 ∧ T0 ∧ p
abbrev t9 (p : Prop) : Prop := T0 ∧ T0 ∧ T0 ∧ T0 ∧ T0 ∧ T0 ∧ T0 ∧ T0 ∧ T0 ∧ p
abbrev TS : Prop := @Eq Ev.TK Ev.TK.slice Ev.TK.slice
abbrev vi (z : Int) : Value := .int .i64 z
abbrev vn : Value := .slice none 0 0
abbrev eN (n : Nat) : Prop := n = n
abbrev k2 : List IntKind := [.i64, .i64]
abbrev eK : Prop := k2 = k2
abbrev eB : Prop := @Eq (List Blk) [] []
abbrev rF (e n c : Nat) (f : Nat → Nat → Int) : Blk := .row false [.i64, .i64] e n c f
abbrev rT (e n c : Nat) (f : Nat → Nat → Int) : Blk := .row true [.i64, .i64] e n c f
abbrev Fd (m : Nat) (K : Value → List Blk → Prop) : KV := fun v s' => ∃ v1 news, Rx.Found m v s' v1 news ∧ K v1 news
open Go.Rx
open Go.RowKit (Below)
set_option linter.unusedVariables false
def T0C : List (Nat × Ev.TI) := [
  (3, ⟨1, 8, false, some [.int .i64 (Int.ofNat 0)], some (.int .i64 (Int.ofNat 0)), .int .i64, [], 0, 0, false, 1, .other⟩),
  (4, ⟨1, 1, false, some [.bool false], some (.bool false), .other, [], 0, 0, false, 1, .other⟩),
  (26, ⟨1, 8, false, some [.int .i64 (Int.ofNat 0)], some (.int .i64 (Int.ofNat 0)), .int .i64, [], 0, 0, false, 1, .other⟩),
  (23, ⟨5, 40, true, some [.int .i64 (Int.ofNat 0), .int .i64 (Int.ofNat 0), .int .i64 (Int.ofNat 0), .int .i64 (Int.ofNat 0), .int .i64 (Int.ofNat 0)], some (.agg ⟨[.int .i64 (Int.ofNat 0), .int .i64 (Int.ofNat 0), .int .i64 (Int.ofNat 0), .int .i64 (Int.ofNat 0), .int .i64 (Int.ofNat 0)]⟩), .struct, [(0, false, 1), (1, false, 1), (2, false, 1), (3, false, 1), (4, false, 1)], 0, 0, false, 1, .other⟩),
  (116, ⟨1, 24, false, some [.slice none 0 0], some (.slice none 0 0), .slice, [], 0, 121, true, 5, .other⟩),
  (118, ⟨1, 8, false, some [.nilFunc], some .nilFunc, .func, [], 0, 0, false, 1, .other⟩),
  (119, ⟨1, 8, false, some [.nilFunc], some .nilFunc, .func, [], 0, 0, false, 1, .other⟩),
  (121, ⟨5, 48, true, some [.string ⟨#[]⟩, .int .i64 (Int.ofNat 0), .int .i64 (Int.ofNat 0), .nilFunc, .nilFunc], some (.agg ⟨[.string ⟨#[]⟩, .int .i64 (Int.ofNat 0), .int .i64 (Int.ofNat 0), .nilFunc, .nilFunc]⟩), .struct, [(0, false, 1), (1, false, 1), (2, false, 1), (3, false, 1), (4, false, 1)], 0, 0, false, 1, .other⟩)]
noncomputable def F0C : List (Nat × Func) := [(90, Try.f90), (99, Try.f99), (100, Try.f100), (101, Try.f101), (102, Try.f102), (103, Try.f103), (104, Try.f104), (105, Try.f105), (106, Try.f106), (107, Try.f107), (108, Try.f108), (109, Try.f109)]
noncomputable abbrev mkC0 (X : List (Nat × Rx.Spec)) : Env := ⟨Try.prog, T0C, F0C, Rx.look X, [(23, [.i64, .i64, .i64, .i64, .i64])], [4]⟩
theorem qs23 : Ev.QOk Try.prog 23 [.i64, .i64, .i64, .i64, .i64] := by
  intro l m hl hm op x y w ho
  obtain ⟨aa0, aa1, aa2, aa3, aa4, rfl⟩ : ∃ aa0 aa1 aa2 aa3 aa4, l = [aa0, aa1, aa2, aa3, aa4] := by
    match l, hl with
    | [aa0, aa1, aa2, aa3, aa4], _ => exact ⟨aa0, aa1, aa2, aa3, aa4, rfl⟩
  obtain ⟨cc0, cc1, cc2, cc3, cc4, rfl⟩ : ∃ cc0 cc1 cc2 cc3 cc4, m = [cc0, cc1, cc2, cc3, cc4] := by
    match m, hm with
    | [cc0, cc1, cc2, cc3, cc4], _ => exact ⟨cc0, cc1, cc2, cc3, cc4, rfl⟩
  have u3 := Try.underlying3
  have a3 := Try.isAgg3
  have z3 := Try.sizeOf3
  have hS : Try.prog.underlying 23 = some (.struct (Try.prog.fieldsOf 23)) := by kernel_rfl
  have hp : Try.prog.stoodInHeld 23 = false := by kernel_rfl
  have hg : Try.prog.eqGuardType Try.prog.depth 23 = false := by kernel_rfl
  simp only [Ev.ints]
  rw [Sem.run_bind, run_eqGuard_agg w op 23 x y _ _ hg]
  rcases ho with rfl | rfl
  · simp only [Result.andThen_ok]
    rw [run_eql_struct, show (10000 : Nat) = 9999 + 1 from rfl, run_equalIn_agg w 9999 23 _ _ hS hp]
    simp only [Program.fieldsOf, Try.underlying23]
    go_simp
    by_cases h0 : aa0 = cc0 <;> by_cases h1 : aa1 = cc1 <;> by_cases h2 : aa2 = cc2 <;> by_cases h3 : aa3 = cc3 <;> by_cases h4 : aa4 = cc4 <;> simp [h0, h1, h2, h3, h4]
  · simp only [Result.andThen_ok]
    rw [run_neq_struct, show (10000 : Nat) = 9999 + 1 from rfl, run_equalIn_agg w 9999 23 _ _ hS hp]
    simp only [Program.fieldsOf, Try.underlying23]
    go_simp
    by_cases h0 : aa0 = cc0 <;> by_cases h1 : aa1 = cc1 <;> by_cases h2 : aa2 = cc2 <;> by_cases h3 : aa3 = cc3 <;> by_cases h4 : aa4 = cc4 <;> simp [h0, h1, h2, h3, h4]
theorem mixed : Try.prog.follows .mixedOrders = true := by kernel_rfl
/-- A function's contract may be used. -/
def Told (f : Nat) (sp : Rx.Spec) : Prop := (∃ fn, Try.prog.funcs[f]? = some fn ∧ fn.body.isSome = true ∧ (fn.name == "runtime.NumGoroutine") = false) ∧ SpecOk Try.prog f sp
theorem mkC0_ok {X : List (Nat × Rx.Spec)} (h : ∀ p ∈ X, Told p.1 p.2) : EnvOk (mkC0 X) where
  types := look_all (q := fun ty i => Ev.mkTI Try.prog ty = some i) (by
    intro p hp
    simp only [T0C, List.mem_cons, List.not_mem_nil, or_false] at hp
    rcases hp with rfl | rfl | rfl | rfl | rfl | rfl | rfl | rfl <;> kernel_rfl)
  funcs := look_all (q := fun f fn => Try.prog.funcs[f]? = some fn ∧ (fn.name == "runtime.NumGoroutine") = false) (by
    intro p hp
    simp only [F0C, List.mem_cons, List.not_mem_nil, or_false] at hp
    rcases hp with rfl | rfl | rfl | rfl | rfl | rfl | rfl | rfl | rfl | rfl | rfl | rfl <;> exact ⟨by kernel_rfl, by kernel_rfl⟩)
  specs := look_all (q := Told) h
  mixed := mixed
  qs := look_all (q := fun ty ks => Ev.QOk Try.prog ty ks) (by
    intro p hp
    simp only [List.mem_cons, List.not_mem_nil, or_false] at hp
    subst hp
    exact qs23)
  bo := by
    intro ty hty
    simp only [List.mem_cons, List.not_mem_nil, or_false] at hty
    subst hty
    kernel_rfl
theorem toldC0 {X : List (Nat × Rx.Spec)} (hX : ∀ p ∈ X, Told p.1 p.2) {f n : Nat} {fn : Func} (hf : Try.prog.funcs[f]? = some fn) (h1 : fn.body.isSome = true) (h2 : (fn.name == "runtime.NumGoroutine") = false) {c : Con} (hb : BodyOk (mkC0 X) n fn c) : Told f (specOf c) :=
  ⟨⟨fn, hf, h1, h2⟩, specOf_ok (mkC0_ok hX) hf hb⟩
@[reducible] def X0C : List (Nat × Rx.Spec) := []
theorem X0C_told : ∀ p ∈ X0C, Told p.1 p.2 := fun p hp => by cases hp
/-! ### The config -/
abbrev good (a b c d e : Int) : Prop := 8 ≤ a ∧ a ≤ 64 ∧ 7 ≤ b ∧ b ≤ 24 ∧ 4 ≤ c ∧ c ≤ 64 ∧ 1 ≤ d ∧ d ≤ 8 ∧ 2 ≤ e ∧ e ≤ 16
def chk (a b c d e : Int) : Int := if good a b c d e then 0 else 7
theorem chk_cases0 (a b c d e : Int) : (chk a b c d e = 0 ∧ 8 ≤ a ∧ a ≤ 64 ∧ 7 ≤ b ∧ b ≤ 24 ∧ 4 ≤ c ∧ c ≤ 64 ∧ 1 ≤ d ∧ d ≤ 8 ∧ 2 ≤ e ∧ e ≤ 16) ∨ (chk a b c d e = 7 ∧ ¬ (8 ≤ a ∧ a ≤ 64 ∧ 7 ≤ b ∧ b ≤ 24 ∧ 4 ≤ c ∧ c ≤ 64 ∧ 1 ≤ d ∧ d ≤ 8 ∧ 2 ≤ e ∧ e ≤ 16)) := by
  unfold chk good
  split
  · exact .inl ⟨rfl, by assumption⟩
  · exact .inr ⟨rfl, by assumption⟩
theorem fin0i {K : Value → List Blk → Prop} {x y : Int} (e : x = y) (h : K (.int .i64 x) []) : K (.int .i64 y) [] := e ▸ h
theorem clamp_eq {x lo hi : Int} (h : lo ≤ hi) : (if hi < (if x < lo then lo else x) then hi else (if x < lo then lo else x)) = x ↔ lo ≤ x ∧ x ≤ hi := by
  split <;> split <;> omega
def con66 : Con := fun vs bs K => match vs with
  | [u] => five u fun a b c d e => bs = [] ∧ (True) ∧ (K (.int .i64 (chk a b c d e)) [])
  | _ => False

def con66_zA (a b c d e : Int) : Ann := fun _ _ _ => none
def con66_zV (a b c d e : Int) (K : Value → List Blk → Prop) : Prop := let q0 := (9223372036854775807 : Int); let q1 := (-9223372036854775808 : Int); let q2 := (T0 ∧ T0); let q3 := TS; let q4 := (if (8 : Int) < if d < (1 : Int) then (1 : Int) else d then (8 : Int) else if d < (1 : Int) then (1 : Int) else d); let q5 := (if (64 : Int) < if a < (8 : Int) then (8 : Int) else a then (64 : Int) else if a < (8 : Int) then (8 : Int) else a); let q6 := (if (24 : Int) < if b < (7 : Int) then (7 : Int) else b then (24 : Int) else if b < (7 : Int) then (7 : Int) else b); let q7 := (if (64 : Int) < if c < (4 : Int) then (4 : Int) else c then (64 : Int) else if c < (4 : Int) then (4 : Int) else c); let q8 := (if (16 : Int) < if e < (2 : Int) then (2 : Int) else e then (16 : Int) else if e < (2 : Int) then (2 : Int) else e); let q9 := (some (Blk.cells [vi a, vi b, vi c, vi d, vi e] (23 : Nat))); let q10 := (some (Blk.cells [vi (0 : Int), vi (0 : Int), vi (0 : Int), vi (0 : Int), vi (0 : Int)] (23 : Nat))); let q11 := (some (Blk.cells [vi a, vi q6, vi c, vi d, vi e] (23 : Nat))); let q12 := (some (Blk.cells [Value.string { data := #[(111 : UInt8), (102 : UInt8)] }, vi (8 : Int), vi (64 : Int), Value.func (Fn.func (102 : Nat)) { toList := [] } { toList := [] }, Value.func (Fn.func (103 : Nat)) { toList := [] } { toList := [] }] (121 : Nat))); let q13 := (some (Blk.cells [Value.string { data := #[(99 : UInt8), (97 : UInt8), (114 : UInt8), (115 : UInt8)] }, vi (7 : Int), vi (24 : Int), Value.func (Fn.func (100 : Nat)) { toList := [] } { toList := [] }, Value.func (Fn.func (101 : Nat)) { toList := [] } { toList := [] }] (121 : Nat))); let q14 := (@Eq (Option Blk) q9 q9); let q15 := (q14 ∧ (True)); let q16 := (some (Blk.cells [Value.string { data := #[(112 : UInt8), (111 : UInt8), (112 : UInt8), (117 : UInt8), (108 : UInt8), (97 : UInt8), (114 : UInt8)] }, vi (2 : Int), vi (16 : Int), Value.func (Fn.func (108 : Nat)) { toList := [] } { toList := [] }, Value.func (Fn.func (109 : Nat)) { toList := [] } { toList := [] }] (121 : Nat))); let q17 := (some (Blk.cells [Value.string { data := #[(110 : UInt8), (117 : UInt8), (114 : UInt8), (115 : UInt8), (101 : UInt8), (114 : UInt8), (121 : UInt8)] }, vi (4 : Int), vi (64 : Int), Value.func (Fn.func (104 : Nat)) { toList := [] } { toList := [] }, Value.func (Fn.func (105 : Nat)) { toList := [] } { toList := [] }] (121 : Nat))); let q18 := (some (Blk.cells [vi q5, vi q6, vi c, vi d, vi e] (23 : Nat))); let q19 := (some (Blk.cells [Value.string { data := #[(114 : UInt8), (101 : UInt8), (103 : UInt8), (105 : UInt8), (115 : UInt8), (116 : UInt8), (101 : UInt8), (114 : UInt8), (115 : UInt8)] }, vi (1 : Int), vi (8 : Int), Value.func (Fn.func (106 : Nat)) { toList := [] } { toList := [] }, Value.func (Fn.func (107 : Nat)) { toList := [] } { toList := [] }] (121 : Nat))); let q20 := (@Eq (Option Blk) q10 q10); let q21 := (some (Blk.cells [vi q5, vi q6, vi q7, vi d, vi e] (23 : Nat))); let q22 := (@Eq (Option Blk) q11 q11); let q23 := (@Eq (Option Blk) q12 q12); let q24 := (some (Blk.cells [vi q5, vi q6, vi q7, vi q4, vi e] (23 : Nat))); let q25 := (@Eq (Option Blk) q13 q13); let q26 := (@Eq (Option Blk) q17 q17); let q27 := (@Eq (Option Blk) q18 q18); let q28 := (@Eq (Option Blk) q19 q19); let q29 := (@Eq (Option Blk) q21 q21); let q30 := (some (Blk.cells [Value.string { data := #[(99 : UInt8), (97 : UInt8), (114 : UInt8), (115 : UInt8)] }, vi (7 : Int), vi (24 : Int), Value.func (Fn.func (100 : Nat)) { toList := [] } { toList := [] }, Value.func (Fn.func (101 : Nat)) { toList := [] } { toList := [] }, Value.string { data := #[(111 : UInt8), (102 : UInt8)] }, vi (8 : Int), vi (64 : Int), Value.func (Fn.func (102 : Nat)) { toList := [] } { toList := [] }, Value.func (Fn.func (103 : Nat)) { toList := [] } { toList := [] }, Value.string { data := #[(110 : UInt8), (117 : UInt8), (114 : UInt8), (115 : UInt8), (101 : UInt8), (114 : UInt8), (121 : UInt8)] }, vi (4 : Int), vi (64 : Int), Value.func (Fn.func (104 : Nat)) { toList := [] } { toList := [] }, Value.func (Fn.func (105 : Nat)) { toList := [] } { toList := [] }, Value.string { data := #[(114 : UInt8), (101 : UInt8), (103 : UInt8), (105 : UInt8), (115 : UInt8), (116 : UInt8), (101 : UInt8), (114 : UInt8), (115 : UInt8)] }, vi (1 : Int), vi (8 : Int), Value.func (Fn.func (106 : Nat)) { toList := [] } { toList := [] }, Value.func (Fn.func (107 : Nat)) { toList := [] } { toList := [] }, Value.string { data := #[(112 : UInt8), (111 : UInt8), (112 : UInt8), (117 : UInt8), (108 : UInt8), (97 : UInt8), (114 : UInt8)] }, vi (2 : Int), vi (16 : Int), Value.func (Fn.func (108 : Nat)) { toList := [] } { toList := [] }, Value.func (Fn.func (109 : Nat)) { toList := [] } { toList := [] }] (121 : Nat))); let q31 := (@Eq (Option Blk) q30 q30); (t8 (q3 ∧ (q2 ∧ ((T0 ∧ q2) ∧ (q3 ∧ (T0 ∧ (q3 ∧ ((((0 : Int) ≤ (0 : Int)) ∧ ((0 : Int) < (↑(5 : Nat) : Int))) ∧ (t9 (t9 (t2 ((q25 ∧ (q31 ∧ (q20 ∧ (q14 ∧ q15)))) ∧ (t6 ((True) ∧ (t2 (((q1 ≤ (0 : Int) + (1 : Int)) ∧ ((0 : Int) + (1 : Int) ≤ q0)) ∧ (T0 ∧ (q3 ∧ ((((0 : Int) ≤ (0 : Int) + (1 : Int)) ∧ ((0 : Int) + (1 : Int) < (↑(5 : Nat) : Int))) ∧ (t9 (t9 (t2 ((q23 ∧ (q14 ∧ (q25 ∧ (q31 ∧ (q20 ∧ (q22 ∧ q15)))))) ∧ (t6 ((True) ∧ (t2 (((q1 ≤ (0 : Int) + (1 : Int) + (1 : Int)) ∧ ((0 : Int) + (1 : Int) + (1 : Int) ≤ q0)) ∧ (T0 ∧ (q3 ∧ ((((0 : Int) ≤ (0 : Int) + (1 : Int) + (1 : Int)) ∧ ((0 : Int) + (1 : Int) + (1 : Int) < (↑(5 : Nat) : Int))) ∧ (t9 (t9 (t2 ((q26 ∧ (q22 ∧ (q23 ∧ (q14 ∧ (q25 ∧ (q31 ∧ (q20 ∧ (q27 ∧ q15)))))))) ∧ (t6 ((True) ∧ (t2 (((q1 ≤ (0 : Int) + (1 : Int) + (1 : Int) + (1 : Int)) ∧ ((0 : Int) + (1 : Int) + (1 : Int) + (1 : Int) ≤ q0)) ∧ (T0 ∧ (q3 ∧ ((((0 : Int) ≤ (0 : Int) + (1 : Int) + (1 : Int) + (1 : Int)) ∧ ((0 : Int) + (1 : Int) + (1 : Int) + (1 : Int) < (↑(5 : Nat) : Int))) ∧ (t9 (t9 (t2 ((q28 ∧ (q27 ∧ (q26 ∧ (q22 ∧ (q23 ∧ (q14 ∧ (q25 ∧ (q31 ∧ (q20 ∧ (q29 ∧ q15)))))))))) ∧ (t6 ((True) ∧ (t2 (((q1 ≤ (0 : Int) + (1 : Int) + (1 : Int) + (1 : Int) + (1 : Int)) ∧ ((0 : Int) + (1 : Int) + (1 : Int) + (1 : Int) + (1 : Int) ≤ q0)) ∧ (T0 ∧ (q3 ∧ ((((0 : Int) ≤ (0 : Int) + (1 : Int) + (1 : Int) + (1 : Int) + (1 : Int)) ∧ ((0 : Int) + (1 : Int) + (1 : Int) + (1 : Int) + (1 : Int) < (↑(5 : Nat) : Int))) ∧ (t9 (t9 (t2 (((@Eq (Option Blk) q16 q16) ∧ (q29 ∧ (q28 ∧ (q27 ∧ (q26 ∧ (q22 ∧ (q23 ∧ (q14 ∧ (q25 ∧ (q31 ∧ (q20 ∧ ((@Eq (Option Blk) q24 q24) ∧ q15)))))))))))) ∧ (t6 ((True) ∧ (t2 (((q1 ≤ (0 : Int) + (1 : Int) + (1 : Int) + (1 : Int) + (1 : Int) + (1 : Int)) ∧ ((0 : Int) + (1 : Int) + (1 : Int) + (1 : Int) + (1 : Int) + (1 : Int) ≤ q0)) ∧ (t5 (q15 ∧ (if (eqL [if (64 : Int) < if a < (8 : Int) then (8 : Int) else a then (64 : Int) else if a < (8 : Int) then (8 : Int) else a, if (24 : Int) < if b < (7 : Int) then (7 : Int) else b then (24 : Int) else if b < (7 : Int) then (7 : Int) else b, if (64 : Int) < if c < (4 : Int) then (4 : Int) else c then (64 : Int) else if c < (4 : Int) then (4 : Int) else c, if (8 : Int) < if d < (1 : Int) then (1 : Int) else d then (8 : Int) else if d < (1 : Int) then (1 : Int) else d, if (16 : Int) < if e < (2 : Int) then (2 : Int) else e then (16 : Int) else if e < (2 : Int) then (2 : Int) else e] [a, b, c, d, e]) then (T0 ∧ (∃ y0 : Value, (∃ y1 : List Blk, ((Go.Rx.Found 0 (vi (0 : Int)) ({ h := [((13 : Nat), Blk.cells [vi q5, vi q6, vi q7, vi q4, vi e] (23 : Nat)), ((12 : Nat), Blk.cells [Value.string { data := #[(112 : UInt8), (111 : UInt8), (112 : UInt8), (117 : UInt8), (108 : UInt8), (97 : UInt8), (114 : UInt8)] }, vi (2 : Int), vi (16 : Int), Value.func (Fn.func (108 : Nat)) { toList := [] } { toList := [] }, Value.func (Fn.func (109 : Nat)) { toList := [] } { toList := [] }] (121 : Nat)), ((11 : Nat), Blk.cells [vi q5, vi q6, vi q7, vi d, vi e] (23 : Nat)), ((10 : Nat), Blk.cells [Value.string { data := #[(114 : UInt8), (101 : UInt8), (103 : UInt8), (105 : UInt8), (115 : UInt8), (116 : UInt8), (101 : UInt8), (114 : UInt8), (115 : UInt8)] }, vi (1 : Int), vi (8 : Int), Value.func (Fn.func (106 : Nat)) { toList := [] } { toList := [] }, Value.func (Fn.func (107 : Nat)) { toList := [] } { toList := [] }] (121 : Nat)), ((9 : Nat), Blk.cells [vi q5, vi q6, vi c, vi d, vi e] (23 : Nat)), ((8 : Nat), Blk.cells [Value.string { data := #[(110 : UInt8), (117 : UInt8), (114 : UInt8), (115 : UInt8), (101 : UInt8), (114 : UInt8), (121 : UInt8)] }, vi (4 : Int), vi (64 : Int), Value.func (Fn.func (104 : Nat)) { toList := [] } { toList := [] }, Value.func (Fn.func (105 : Nat)) { toList := [] } { toList := [] }] (121 : Nat)), ((7 : Nat), Blk.cells [vi a, vi q6, vi c, vi d, vi e] (23 : Nat)), ((6 : Nat), Blk.cells [Value.string { data := #[(111 : UInt8), (102 : UInt8)] }, vi (8 : Int), vi (64 : Int), Value.func (Fn.func (102 : Nat)) { toList := [] } { toList := [] }, Value.func (Fn.func (103 : Nat)) { toList := [] } { toList := [] }] (121 : Nat)), ((5 : Nat), Blk.cells [vi a, vi b, vi c, vi d, vi e] (23 : Nat)), ((4 : Nat), Blk.cells [Value.string { data := #[(99 : UInt8), (97 : UInt8), (114 : UInt8), (115 : UInt8)] }, vi (7 : Int), vi (24 : Int), Value.func (Fn.func (100 : Nat)) { toList := [] } { toList := [] }, Value.func (Fn.func (101 : Nat)) { toList := [] } { toList := [] }] (121 : Nat)), ((3 : Nat), Blk.cells [Value.string { data := #[(99 : UInt8), (97 : UInt8), (114 : UInt8), (115 : UInt8)] }, vi (7 : Int), vi (24 : Int), Value.func (Fn.func (100 : Nat)) { toList := [] } { toList := [] }, Value.func (Fn.func (101 : Nat)) { toList := [] } { toList := [] }, Value.string { data := #[(111 : UInt8), (102 : UInt8)] }, vi (8 : Int), vi (64 : Int), Value.func (Fn.func (102 : Nat)) { toList := [] } { toList := [] }, Value.func (Fn.func (103 : Nat)) { toList := [] } { toList := [] }, Value.string { data := #[(110 : UInt8), (117 : UInt8), (114 : UInt8), (115 : UInt8), (101 : UInt8), (114 : UInt8), (121 : UInt8)] }, vi (4 : Int), vi (64 : Int), Value.func (Fn.func (104 : Nat)) { toList := [] } { toList := [] }, Value.func (Fn.func (105 : Nat)) { toList := [] } { toList := [] }, Value.string { data := #[(114 : UInt8), (101 : UInt8), (103 : UInt8), (105 : UInt8), (115 : UInt8), (116 : UInt8), (101 : UInt8), (114 : UInt8), (115 : UInt8)] }, vi (1 : Int), vi (8 : Int), Value.func (Fn.func (106 : Nat)) { toList := [] } { toList := [] }, Value.func (Fn.func (107 : Nat)) { toList := [] } { toList := [] }, Value.string { data := #[(112 : UInt8), (111 : UInt8), (112 : UInt8), (117 : UInt8), (108 : UInt8), (97 : UInt8), (114 : UInt8)] }, vi (2 : Int), vi (16 : Int), Value.func (Fn.func (108 : Nat)) { toList := [] } { toList := [] }, Value.func (Fn.func (109 : Nat)) { toList := [] } { toList := [] }] (121 : Nat)), ((2 : Nat), Blk.cells [vi q5, vi q6, vi q7, vi q4, vi q8] (23 : Nat)), ((1 : Nat), Blk.cells [vi q5, vi q6, vi q7, vi q4, vi q8] (23 : Nat)), ((0 : Nat), Blk.cells [vi a, vi b, vi c, vi d, vi e] (23 : Nat))], next := (14 : Nat) }) (y0) (y1)) ∧ (K y0 y1))))) else (T0 ∧ (∃ y0 : Value, (∃ y1 : List Blk, ((Go.Rx.Found 0 (vi (7 : Int)) ({ h := [((13 : Nat), Blk.cells [vi q5, vi q6, vi q7, vi q4, vi e] (23 : Nat)), ((12 : Nat), Blk.cells [Value.string { data := #[(112 : UInt8), (111 : UInt8), (112 : UInt8), (117 : UInt8), (108 : UInt8), (97 : UInt8), (114 : UInt8)] }, vi (2 : Int), vi (16 : Int), Value.func (Fn.func (108 : Nat)) { toList := [] } { toList := [] }, Value.func (Fn.func (109 : Nat)) { toList := [] } { toList := [] }] (121 : Nat)), ((11 : Nat), Blk.cells [vi q5, vi q6, vi q7, vi d, vi e] (23 : Nat)), ((10 : Nat), Blk.cells [Value.string { data := #[(114 : UInt8), (101 : UInt8), (103 : UInt8), (105 : UInt8), (115 : UInt8), (116 : UInt8), (101 : UInt8), (114 : UInt8), (115 : UInt8)] }, vi (1 : Int), vi (8 : Int), Value.func (Fn.func (106 : Nat)) { toList := [] } { toList := [] }, Value.func (Fn.func (107 : Nat)) { toList := [] } { toList := [] }] (121 : Nat)), ((9 : Nat), Blk.cells [vi q5, vi q6, vi c, vi d, vi e] (23 : Nat)), ((8 : Nat), Blk.cells [Value.string { data := #[(110 : UInt8), (117 : UInt8), (114 : UInt8), (115 : UInt8), (101 : UInt8), (114 : UInt8), (121 : UInt8)] }, vi (4 : Int), vi (64 : Int), Value.func (Fn.func (104 : Nat)) { toList := [] } { toList := [] }, Value.func (Fn.func (105 : Nat)) { toList := [] } { toList := [] }] (121 : Nat)), ((7 : Nat), Blk.cells [vi a, vi q6, vi c, vi d, vi e] (23 : Nat)), ((6 : Nat), Blk.cells [Value.string { data := #[(111 : UInt8), (102 : UInt8)] }, vi (8 : Int), vi (64 : Int), Value.func (Fn.func (102 : Nat)) { toList := [] } { toList := [] }, Value.func (Fn.func (103 : Nat)) { toList := [] } { toList := [] }] (121 : Nat)), ((5 : Nat), Blk.cells [vi a, vi b, vi c, vi d, vi e] (23 : Nat)), ((4 : Nat), Blk.cells [Value.string { data := #[(99 : UInt8), (97 : UInt8), (114 : UInt8), (115 : UInt8)] }, vi (7 : Int), vi (24 : Int), Value.func (Fn.func (100 : Nat)) { toList := [] } { toList := [] }, Value.func (Fn.func (101 : Nat)) { toList := [] } { toList := [] }] (121 : Nat)), ((3 : Nat), Blk.cells [Value.string { data := #[(99 : UInt8), (97 : UInt8), (114 : UInt8), (115 : UInt8)] }, vi (7 : Int), vi (24 : Int), Value.func (Fn.func (100 : Nat)) { toList := [] } { toList := [] }, Value.func (Fn.func (101 : Nat)) { toList := [] } { toList := [] }, Value.string { data := #[(111 : UInt8), (102 : UInt8)] }, vi (8 : Int), vi (64 : Int), Value.func (Fn.func (102 : Nat)) { toList := [] } { toList := [] }, Value.func (Fn.func (103 : Nat)) { toList := [] } { toList := [] }, Value.string { data := #[(110 : UInt8), (117 : UInt8), (114 : UInt8), (115 : UInt8), (101 : UInt8), (114 : UInt8), (121 : UInt8)] }, vi (4 : Int), vi (64 : Int), Value.func (Fn.func (104 : Nat)) { toList := [] } { toList := [] }, Value.func (Fn.func (105 : Nat)) { toList := [] } { toList := [] }, Value.string { data := #[(114 : UInt8), (101 : UInt8), (103 : UInt8), (105 : UInt8), (115 : UInt8), (116 : UInt8), (101 : UInt8), (114 : UInt8), (115 : UInt8)] }, vi (1 : Int), vi (8 : Int), Value.func (Fn.func (106 : Nat)) { toList := [] } { toList := [] }, Value.func (Fn.func (107 : Nat)) { toList := [] } { toList := [] }, Value.string { data := #[(112 : UInt8), (111 : UInt8), (112 : UInt8), (117 : UInt8), (108 : UInt8), (97 : UInt8), (114 : UInt8)] }, vi (2 : Int), vi (16 : Int), Value.func (Fn.func (108 : Nat)) { toList := [] } { toList := [] }, Value.func (Fn.func (109 : Nat)) { toList := [] } { toList := [] }] (121 : Nat)), ((2 : Nat), Blk.cells [vi q5, vi q6, vi q7, vi q4, vi q8] (23 : Nat)), ((1 : Nat), Blk.cells [vi q5, vi q6, vi q7, vi q4, vi q8] (23 : Nat)), ((0 : Nat), Blk.cells [vi a, vi b, vi c, vi d, vi e] (23 : Nat))], next := (14 : Nat) }) (y0) (y1)) ∧ (K y0 y1))))))))))))))))))))))))))))))))))))))))))))))))))))))))))))))))))))
theorem con66_zE (a b c d e : Int) (K : Value → List Blk → Prop) : con66_zV a b c d e K = bodyX (mkC0 X0C) (callN (mkC0 X0C) 5) (con66_zA a b c d e) Try.f66 [five' a b c d e] (stOf []) (Fd 0 K) := by kernel_rfl
set_option tactic.hygienic false in
theorem con66_zP (a b c d e : Int) (K : Value → List Blk → Prop)  (hI : InC a b c d e) (h : K (.int .i64 (chk a b c d e)) []) : con66_zV a b c d e K := by
  unfold con66_zV
  conv => zeta

  repeat' (first | (with_reducible first | exact rfl | exact trivial | refine And.intro ?_ ?_ | refine br_intro (fun hq => ?_) fun hq => ?_ | refine if_both (fun hz => ?_) fun hz => ?_) | (intro) | fail)

  all_goals first
    | omega
    | assumption
    | (simp only [eqL, clamp_eq (show (8 : Int) ≤ 64 by omega), clamp_eq (show (7 : Int) ≤ 24 by omega), clamp_eq (show (4 : Int) ≤ 64 by omega), clamp_eq (show (1 : Int) ≤ 8 by omega), clamp_eq (show (2 : Int) ≤ 16 by omega)] at hz
       exact fin0 (by kernel_rfl) (by kernel_rfl) (fin0i (by have ck := chk_cases0 a b c d e; omega) h))
    | (exfalso; simp at hq; omega)
theorem con66_ok : BodyOk (mkC0 X0C) 5 Try.f66 con66 := by
  intro vs bs K hh hro
  clear hro
  unfold con66 at hh
  split at hh
  · rename_i u
    obtain ⟨a, b, c, d, e, rfl, hI, hh0⟩ := five_inv hh
    obtain ⟨rfl, -, hc⟩ := hh0
    exact ⟨_, _, cast (con66_zE a b c d e   K) (con66_zP a b c d e   K hI   hc)⟩
  · exact hh.elim
theorem con66_told : Told 66 (specOf con66) := toldC0 (X := X0C) X0C_told (by kernel_rfl) (by kernel_rfl) (by kernel_rfl) con66_ok
def sp66 : Rx.Spec := fun args s K => match args with
  | [v] => five v fun a b c d e => K (.int .i64 (chk a b c d e)) s
  | _ => False
theorem told66 : Told 66 sp66 := by
  refine ⟨con66_told.1, fun args s K h => con66_told.2 args s K ?_⟩
  unfold sp66 at h
  split at h
  · obtain ⟨a, b, c, d, e, rfl, hI, h⟩ := five_inv h
    exact ⟨rfl, hI, rfl, trivial, h⟩
  · exact h.elim
end Go.Proofs.Ytkflmglpniebfaa.Fr
namespace Go.Proofs.Ytkflmglpniebfaa.Fr
set_option maxRecDepth 100000
set_option maxHeartbeats 4000000
open Go.Rx
open Go.RowKit (Below)
abbrev z64 : Value := .int .i64 (Int.ofNat 0)
abbrev z8 : Value := .int .u8 (Int.ofNat 0)
def T : List (Nat × Ev.TI) := [
  (3, ⟨1, 8, false, some [z64], some z64, .int .i64, [], 0, 0, false, 1, .other⟩),
  (4, ⟨1, 1, false, some [.bool false], some (.bool false), .other, [], 0, 0, false, 1, .other⟩),
  (5, ⟨1, 1, false, some [z8], some z8, .int .u8, [], 0, 0, false, 1, .other⟩),
  (23, ⟨5, 40, true, some [z64, z64, z64, z64, z64], some (.agg ⟨[z64, z64, z64, z64, z64]⟩), .struct, [(0, false, 1), (1, false, 1), (2, false, 1), (3, false, 1), (4, false, 1)], 0, 0, false, 1, .other⟩),
  (24, ⟨1, 24, false, some [.slice none 0 0], some (.slice none 0 0), .slice, [], 0, 54, true, 2, .other⟩),
  (26, ⟨1, 8, false, some [z64], some z64, .int .i64, [], 0, 0, false, 1, .other⟩),
  (32, ⟨1, 24, false, some [.slice none 0 0], some (.slice none 0 0), .slice, [], 0, 3, false, 1, .other⟩),
  (41, ⟨2, 16, true, some [z64, z64], some (.agg ⟨[z64, z64]⟩), .array, [], 2, 3, false, 1, .other⟩),
  (54, ⟨2, 16, true, some [z64, z64], some (.agg ⟨[z64, z64]⟩), .struct, [(0, false, 1), (1, false, 1)], 0, 0, false, 1, .other⟩),
  (57, ⟨3, 3, true, some [z8, z8, z8], some (.agg ⟨[z8, z8, z8]⟩), .array, [], 3, 5, false, 1, .other⟩)]
noncomputable def F : List (Nat × Func) := [(19, Try.f19), (20, Try.f20), (21, Try.f21), (22, Try.f22), (23, Try.f23), (24, Try.f24), (25, Try.f25), (26, Try.f26), (27, Try.f27), (28, Try.f28), (29, Try.f29), (30, Try.f30), (31, Try.f31), (32, Try.f32), (33, Try.f33), (34, Try.f34), (35, Try.f35), (36, Try.f36), (37, Try.f37), (38, Try.f38), (39, Try.f39), (40, Try.f40), (41, Try.f41), (42, Try.f42), (43, Try.f43), (44, Try.f44), (67, Try.f67), (68, Try.f68), (69, Try.f69), (70, Try.f70), (71, Try.f71), (72, Try.f72), (73, Try.f73), (74, Try.f74), (75, Try.f75), (76, Try.f76), (77, Try.f77), (78, Try.f78), (79, Try.f79), (91, Try.f91)]
def Q : List (Nat × List IntKind) := [(23, [.i64, .i64, .i64, .i64, .i64]), (54, [.i64, .i64])]
noncomputable abbrev mk (X : List (Nat × Rx.Spec)) : Env := ⟨Try.prog, T, F, Rx.look X, Q, [4]⟩
theorem qs54 : Ev.QOk Try.prog 54 [.i64, .i64] := by
  intro l m hl hm op x y w ho
  obtain ⟨aa0, aa1, rfl⟩ : ∃ aa0 aa1, l = [aa0, aa1] := by
    match l, hl with
    | [aa0, aa1], _ => exact ⟨aa0, aa1, rfl⟩
  obtain ⟨cc0, cc1, rfl⟩ : ∃ cc0 cc1, m = [cc0, cc1] := by
    match m, hm with
    | [cc0, cc1], _ => exact ⟨cc0, cc1, rfl⟩
  have u3 := Try.underlying3
  have a3 := Try.isAgg3
  have z3 := Try.sizeOf3
  have hS : Try.prog.underlying 54 = some (.struct (Try.prog.fieldsOf 54)) := by kernel_rfl
  have hp : Try.prog.stoodInHeld 54 = false := by kernel_rfl
  have hg : Try.prog.eqGuardType Try.prog.depth 54 = false := by kernel_rfl
  simp only [Ev.ints]
  rw [Sem.run_bind, run_eqGuard_agg w op 54 x y _ _ hg]
  rcases ho with rfl | rfl
  · simp only [Result.andThen_ok]
    rw [run_eql_struct, show (10000 : Nat) = 9999 + 1 from rfl, run_equalIn_agg w 9999 54 _ _ hS hp]
    simp only [Program.fieldsOf, Try.underlying54]
    go_simp
    by_cases h0 : aa0 = cc0 <;> by_cases h1 : aa1 = cc1 <;> simp [h0, h1]
  · simp only [Result.andThen_ok]
    rw [run_neq_struct, show (10000 : Nat) = 9999 + 1 from rfl, run_equalIn_agg w 9999 54 _ _ hS hp]
    simp only [Program.fieldsOf, Try.underlying54]
    go_simp
    by_cases h0 : aa0 = cc0 <;> by_cases h1 : aa1 = cc1 <;> simp [h0, h1]
theorem mkOk {X : List (Nat × Rx.Spec)} (h : ∀ p ∈ X, Told p.1 p.2) : EnvOk (mk X) where
  types := look_all (q := fun ty i => Ev.mkTI Try.prog ty = some i) (by
    intro p hp
    simp only [T, List.mem_cons, List.not_mem_nil, or_false] at hp
    rcases hp with rfl | rfl | rfl | rfl | rfl | rfl | rfl | rfl | rfl | rfl <;> kernel_rfl)
  funcs := look_all (q := fun f fn => Try.prog.funcs[f]? = some fn ∧ (fn.name == "runtime.NumGoroutine") = false) (by
    intro p hp
    simp only [F, List.mem_cons, List.not_mem_nil, or_false] at hp
    rcases hp with rfl | rfl | rfl | rfl | rfl | rfl | rfl | rfl | rfl | rfl | rfl | rfl | rfl | rfl | rfl | rfl | rfl | rfl | rfl | rfl | rfl | rfl | rfl | rfl | rfl | rfl | rfl | rfl | rfl | rfl | rfl | rfl | rfl | rfl | rfl | rfl | rfl | rfl | rfl | rfl <;> exact ⟨by kernel_rfl, by kernel_rfl⟩)
  specs := look_all (q := Told) h
  mixed := mixed
  qs := look_all (q := fun ty ks => Ev.QOk Try.prog ty ks) (by
    intro p hp
    simp only [Q, List.mem_cons, List.not_mem_nil, or_false] at hp
    rcases hp with rfl | rfl
    · exact qs23
    · exact qs54)
  bo := by
    intro ty hty
    simp only [List.mem_cons, List.not_mem_nil, or_false] at hty
    subst hty
    kernel_rfl
/-- From a function's body to its contract. -/
theorem told {X : List (Nat × Rx.Spec)} (hX : ∀ p ∈ X, Told p.1 p.2) {f n : Nat} {fn : Func} (hf : Try.prog.funcs[f]? = some fn) (h1 : fn.body.isSome = true) (h2 : (fn.name == "runtime.NumGoroutine") = false) {c : Con} (hb : BodyOk (mk X) n fn c) : Told f (specOf c) :=
  ⟨⟨fn, hf, h1, h2⟩, specOf_ok (mkOk hX) hf hb⟩
end Go.Proofs.Ytkflmglpniebfaa.Fr
namespace Go.Proofs.Ytkflmglpniebfaa.Fr
set_option maxRecDepth 100000
set_option maxHeartbeats 4000000
open Go.Rx
open Go.RowKit (Below)
set_option linter.unusedVariables false
def con91 : Con := fun vs bs K => match vs with
  | [u, .int .i64 x] => parse [.i64] 0 u bs fun n f _ bs => bs = [] ∧ ∀ r : Int, -1 ≤ r → r ≤ 100000 → (0 ≤ r ↔ ∃ i, i < n ∧ f i 0 = x) → K (.int .i64 r) []
  | _ => False

def con91_nA (x : Int) : Ann := fun k _ _ => bif Nat.beq k 2 then some [{ α := Nat, T := fun k => ⟨19, [(0, .slice none 0 0), (1, .int .i64 x), (7, .int .i64 (0 : Nat)), (8, .int .i64 (k : Int))]⟩, S := fun _ => ⟨[], 0⟩, I := fun k => k ≤ 0 ∧ ∀ i, i < k → ¬ zF i 0 = x, m := fun k => 0 - k, ρ0 := [], ρ1 := [[]] }] else none
def con91_rA (es ns cs : Nat) (fs : RF) (x : Int) : Ann := fun k _ _ => bif Nat.beq k 2 then some [{ α := Nat, T := fun k => ⟨19, [(0, rsl 0 0 ns cs), (1, .int .i64 x), (7, .int .i64 (ns : Nat)), (8, .int .i64 (k : Int))]⟩, S := fun _ => ⟨[(0, .row true [.i64] es ns cs fs)], 1⟩, I := fun k => k ≤ ns ∧ ∀ i, i < k → ¬ fs i 0 = x, m := fun k => ns - k, ρ0 := [], ρ1 := [[]] }] else none
def con91_nV (x : Int) (K : Value → List Blk → Prop) : Prop := (T0 ∧ (TS ∧ ((∃ y0 : Nat, ((Go.Rx.Sub 0 [] ⟨19, [(8, vi (0 : Int)), (7, vi (0 : Int)), (0, vn), (1, vi x)]⟩ ⟨[], 0⟩ ({ n := (19 : Nat), m := [((0 : Nat), vn), ((1 : Nat), vi x), ((7 : Nat), vi (0 : Int)), ((8 : Nat), vi (↑y0 : Int))] }) ({ h := [], next := (0 : Nat) })) ∧ ((y0 ≤ (0 : Nat)) ∧ (∀ y1 : Nat, ((y1 < y0) → (¬zF y1 (0 : Nat) = x)))))) ∧ (∀ y0 : Nat, (((y0 ≤ (0 : Nat)) ∧ (∀ y1 : Nat, ((y1 < y0) → (¬zF y1 (0 : Nat) = x)))) → (T0 ∧ (∃ y1 : Value, (∃ y2 : List Blk, ((Go.Rx.Found 0 (vi (-1 : Int)) ({ h := [], next := (0 : Nat) }) (y1) (y2)) ∧ (K y1 y2))))))))))
theorem con91_nE (x : Int) (K : Value → List Blk → Prop) : con91_nV x K = bodyX (mk []) (callN (mk []) 3) (con91_nA x) Try.f91 [.slice none 0 0, .int .i64 x] (stOf []) (Fd 0 K) := by kernel_rfl
set_option tactic.hygienic false in
theorem con91_nP (x : Int) (K : Value → List Blk → Prop)  (h : ∀ r : Int, -1 ≤ r → r ≤ 100000 → (0 ≤ r ↔ ∃ i, i < 0 ∧ zF i 0 = x) → K (.int .i64 r) []) : con91_nV x K := by
  unfold con91_nV
  repeat' (first | (with_reducible first | exact rfl | exact trivial | refine And.intro ?_ ?_ | refine br_intro (fun hq => ?_) fun hq => ?_ | refine if_both (fun hz => ?_) fun hz => ?_) | (intro) | fail)
  all_goals first
    | omega
    | assumption
    | exact ⟨0, (by (refine And.intro (And.intro rfl (And.intro rfl (And.intro rfl rfl))) ?_; (repeat' (first | exact trivial | exact rfl | exact fun _ _ _ _ => rfl | refine And.intro ?_ ?_ | omega | fail)); done)), by omega, fun i hi => by omega⟩
    | (refine ⟨y0 + 1, (by (refine And.intro (And.intro rfl (And.intro rfl (And.intro rfl rfl))) ?_; (repeat' (first | exact trivial | exact rfl | exact fun _ _ _ _ => rfl | refine And.intro ?_ ?_ | omega | fail)); done)), ⟨by omega, fun i hi => ?_⟩, by omega⟩
       rcases Nat.lt_or_ge i y0 with q | q
       · exact ‹y0 ≤ 0 ∧ ∀ i : Nat, i < y0 → ¬ zF i 0 = x›.2 i q
       · obtain rfl : i = y0 := by omega
         omega)
    | exact fin0 (by kernel_rfl) (by kernel_rfl) (h _ (by omega) (by omega) ⟨fun _ => ⟨y0, by omega, by omega⟩, fun _ => by omega⟩)
    | exact fin0 (by kernel_rfl) (by kernel_rfl) (h (-1) (by omega) (by omega) ⟨fun e => absurd e (by omega), fun ⟨i, h1, h2⟩ => absurd h2 (‹y0 ≤ 0 ∧ ∀ i : Nat, i < y0 → ¬ zF i 0 = x›.2 i (by omega))⟩)
def con91_rV (es ns cs : Nat) (fs : RF) (x : Int) (K : Value → List Blk → Prop) : Prop := let q0 := (1, vi x); let q1 := (0, rsl (0 : Nat) (0 : Nat) ns cs); let q2 := ((1 : Nat), vi x); let q3 := (7, vi (↑ns : Int)); let q4 := TS; let q5 := ((0 : Nat), rsl (0 : Nat) (0 : Nat) ns cs); let q6 := (0, Blk.row true [IntKind.i64] es ns cs fs); let q7 := ((7 : Nat), vi (↑ns : Int)); (T0 ∧ (q4 ∧ ((∃ y0 : Nat, ((Go.Rx.Sub 1 [] ⟨19, [(8, vi (0 : Int)), q3, q1, q0]⟩ ⟨[q6], 1⟩ ({ n := (19 : Nat), m := [q5, q2, q7, ((8 : Nat), vi (↑y0 : Int))] }) ({ h := [((0 : Nat), Blk.row true [IntKind.i64] es ns cs fs)], next := (1 : Nat) })) ∧ ((y0 ≤ ns) ∧ (∀ y1 : Nat, ((y1 < y0) → (¬fs y1 (0 : Nat) = x)))))) ∧ (∀ y0 : Nat, (((y0 ≤ ns) ∧ (∀ y1 : Nat, ((y1 < y0) → (¬fs y1 (0 : Nat) = x)))) → (T0 ∧ (if ((↑y0 : Int) < (↑ns : Int)) then ((q4 ∧ (@Eq Nat ((1 : Nat)) ((1 : Nat)))) ∧ ((((0 : Int) ≤ (↑y0 : Int)) ∧ ((↑y0 : Int) < (↑ns : Int))) ∧ ((y0 < ns) ∧ (T0 ∧ (if (@Eq Int (x) (fs y0 (0 : Nat))) then (∃ y1 : Value, (∃ y2 : List Blk, ((Go.Rx.Found 1 (vi (↑y0 : Int)) ({ h := [((0 : Nat), Blk.row true [IntKind.i64] es ns cs fs)], next := (1 : Nat) }) (y1) (y2)) ∧ (K y1 y2)))) else (T0 ∧ ((((-9223372036854775808 : Int) ≤ (↑y0 : Int) + (1 : Int)) ∧ ((↑y0 : Int) + (1 : Int) ≤ (9223372036854775807 : Int))) ∧ (∃ y1 : Nat, ((Go.Rx.Sub 1 [] ⟨19, [(8, vi ((↑y0 : Int) + (1 : Int))), q1, q0, q3]⟩ ⟨[q6], 1⟩ ({ n := (19 : Nat), m := [q5, q2, q7, ((8 : Nat), vi (↑y1 : Int))] }) ({ h := [((0 : Nat), Blk.row true [IntKind.i64] es ns cs fs)], next := (1 : Nat) })) ∧ (((y1 ≤ ns) ∧ (∀ y2 : Nat, ((y2 < y1) → (¬fs y2 (0 : Nat) = x)))) ∧ (ns - y1 < ns - y0))))))))))) else (∃ y1 : Value, (∃ y2 : List Blk, ((Go.Rx.Found 1 (vi (-1 : Int)) ({ h := [((0 : Nat), Blk.row true [IntKind.i64] es ns cs fs)], next := (1 : Nat) }) (y1) (y2)) ∧ (K y1 y2)))))))))))
theorem con91_rE (es ns cs : Nat) (fs : RF) (x : Int) (K : Value → List Blk → Prop) : con91_rV es ns cs fs x K = bodyX (mk []) (callN (mk []) 3) (con91_rA es ns cs fs x) Try.f91 [rsl 0 0 ns cs, .int .i64 x] (stOf [.row true [.i64] es ns cs fs]) (Fd 1 K) := by kernel_rfl
set_option tactic.hygienic false in
theorem con91_rP (es ns cs : Nat) (fs : RF) (x : Int) (K : Value → List Blk → Prop)  (hns : ns ≤ 100000) (h : ∀ r : Int, -1 ≤ r → r ≤ 100000 → (0 ≤ r ↔ ∃ i, i < ns ∧ fs i 0 = x) → K (.int .i64 r) []) : con91_rV es ns cs fs x K := by
  unfold con91_rV
  conv => zeta
  repeat' (first | (with_reducible first | exact rfl | exact trivial | refine And.intro ?_ ?_ | refine br_intro (fun hq => ?_) fun hq => ?_ | refine if_both (fun hz => ?_) fun hz => ?_) | (intro) | fail)
  all_goals first
    | omega
    | assumption
    | exact ⟨0, (by (refine And.intro (And.intro rfl (And.intro rfl (And.intro rfl rfl))) ?_; (repeat' (first | exact trivial | exact rfl | exact fun _ _ _ _ => rfl | refine And.intro ?_ ?_ | omega | fail)); done)), by omega, fun i hi => by omega⟩
    | (refine ⟨y0 + 1, (by (refine And.intro (And.intro rfl (And.intro rfl (And.intro rfl rfl))) ?_; (repeat' (first | exact trivial | exact rfl | exact fun _ _ _ _ => rfl | refine And.intro ?_ ?_ | omega | fail)); done)), ⟨by omega, fun i hi => ?_⟩, by omega⟩
       rcases Nat.lt_or_ge i y0 with q | q
       · exact ‹y0 ≤ ns ∧ ∀ i : Nat, i < y0 → ¬ fs i 0 = x›.2 i q
       · obtain rfl : i = y0 := by omega
         omega)
    | exact fin0 (by kernel_rfl) (by kernel_rfl) (h _ (by omega) (by omega) ⟨fun _ => ⟨y0, by omega, by omega⟩, fun _ => by omega⟩)
    | exact fin0 (by kernel_rfl) (by kernel_rfl) (h (-1) (by omega) (by omega) ⟨fun e => absurd e (by omega), fun ⟨i, h1, h2⟩ => absurd h2 (‹y0 ≤ ns ∧ ∀ i : Nat, i < y0 → ¬ fs i 0 = x›.2 i (by omega))⟩)
theorem con91_ok : BodyOk (mk []) 3 Try.f91 con91 := by
  intro vs bs K hh hro
  clear hro
  unfold con91 at hh
  split at hh
  · rename_i u x
    rcases parse_inv hh with ⟨rfl, hh0⟩ | ⟨es, ns, cs, fs, bs0, rfl, hns, rfl, hh0⟩ <;> clear hh
    · obtain ⟨rfl, hc⟩ := hh0
      exact ⟨_, _, cast (con91_nE x K) (con91_nP x K  hc)⟩
    · obtain ⟨rfl, hc⟩ := hh0
      exact ⟨_, _, cast (con91_rE es ns cs fs x K) (con91_rP es ns cs fs x K hns hc)⟩
  · exact hh.elim
theorem con91_told : Told 91 (specOf con91) := told (X := []) (fun _ h => by cases h) (by kernel_rfl) (by kernel_rfl) (by kernel_rfl) con91_ok
end Go.Proofs.Ytkflmglpniebfaa.Fr
namespace Go.Proofs.Ytkflmglpniebfaa.Fr
set_option maxRecDepth 100000
set_option maxHeartbeats 4000000
open Go.Rx
open Go.RowKit (Below)
set_option linter.unusedVariables false
@[reducible] def X5 : List (Nat × Rx.Spec) := [(91, specOf con91)]
theorem X5_told : ∀ p ∈ X5, Told p.1 p.2 := by
  intro p hp
  simp only [List.mem_cons, List.not_mem_nil, or_false] at hp
  subst hp
  exact con91_told
def con79 : Con := fun vs bs K => match vs with
  | [u, .int .i64 x] => parse [.i64] 0 u bs fun n f _ bs => bs = [] ∧ ∀ bb : Bool, (bb = true ↔ ∃ i, i < n ∧ f i 0 = x) → K (.bool bb) []
  | _ => False

def con79_nA (x : Int) : Ann := fun _ _ _ => none
def con79_rA (es ns cs : Nat) (fs : RF) (x : Int) : Ann := fun _ _ _ => none
def con79_nV (x : Int) (K : Value → List Blk → Prop) : Prop := (t3 (eB ∧ (∀ y0 : Int, (((-1 : Int) ≤ y0) → ((y0 ≤ (100000 : Int)) → (((0 : Int) ≤ y0 ↔ ∃ i, i < (0 : Nat) ∧ zF i (0 : Nat) = x) → (T0 ∧ (if ((0 : Int) ≤ y0) then (∃ y1 : Value, (∃ y2 : List Blk, ((Go.Rx.Found 0 (Value.bool true) ({ h := [], next := (0 : Nat) }) (y1) (y2)) ∧ (K y1 y2)))) else (∃ y1 : Value, (∃ y2 : List Blk, ((Go.Rx.Found 0 (Value.bool false) ({ h := [], next := (0 : Nat) }) (y1) (y2)) ∧ (K y1 y2))))))))))))
theorem con79_nE (x : Int) (K : Value → List Blk → Prop) : con79_nV x K = bodyX (mk X5) (callN (mk X5) 3) (con79_nA x) Try.f79 [.slice none 0 0, .int .i64 x] (stOf []) (Fd 0 K) := by kernel_rfl
set_option tactic.hygienic false in
theorem con79_nP (x : Int) (K : Value → List Blk → Prop)  (h : ∀ bb : Bool, (bb = true ↔ ∃ i, i < 0 ∧ zF i 0 = x) → K (.bool bb) []) : con79_nV x K := by
  unfold con79_nV
  repeat' (first | (with_reducible first | exact rfl | exact trivial | refine And.intro ?_ ?_ | refine br_intro (fun hq => ?_) fun hq => ?_ | refine if_both (fun hz => ?_) fun hz => ?_) | (intro) | fail)
  all_goals first
    | omega
    | assumption
    | exact fin0 (by kernel_rfl) (by kernel_rfl) (h true ⟨fun _ => (show 0 ≤ y0 ↔ ∃ i, i < 0 ∧ zF i 0 = x by assumption).1 (by assumption), fun _ => rfl⟩)
    | exact fin0 (by kernel_rfl) (by kernel_rfl) (h false ⟨fun e => (by cases e), fun e => absurd ((show 0 ≤ y0 ↔ ∃ i, i < 0 ∧ zF i 0 = x by assumption).2 e) (by assumption)⟩)
def con79_rV (es ns cs : Nat) (fs : RF) (x : Int) (K : Value → List Blk → Prop) : Prop := (T0 ∧ (((0 : Nat) + ns ≤ ns) ∧ (T0 ∧ ((@Eq Nat ((0 : Nat)) ((0 : Nat))) ∧ ((ns ≤ (100000 : Nat)) ∧ (((@Eq (List IntKind) ([IntKind.i64]) ([IntKind.i64])) ∧ ((@Eq Nat (ns) (ns)) ∧ (@Eq Nat (cs) (cs)))) ∧ (eB ∧ (∀ y0 : Int, (((-1 : Int) ≤ y0) → ((y0 ≤ (100000 : Int)) → (((0 : Int) ≤ y0 ↔ ∃ i, i < ns ∧ fs i (0 : Nat) = x) → (T0 ∧ (if ((0 : Int) ≤ y0) then (∃ y1 : Value, (∃ y2 : List Blk, ((Go.Rx.Found 1 (Value.bool true) ({ h := [((0 : Nat), Blk.row true [IntKind.i64] es ns cs fs)], next := (1 : Nat) }) (y1) (y2)) ∧ (K y1 y2)))) else (∃ y1 : Value, (∃ y2 : List Blk, ((Go.Rx.Found 1 (Value.bool false) ({ h := [((0 : Nat), Blk.row true [IntKind.i64] es ns cs fs)], next := (1 : Nat) }) (y1) (y2)) ∧ (K y1 y2)))))))))))))))))
theorem con79_rE (es ns cs : Nat) (fs : RF) (x : Int) (K : Value → List Blk → Prop) : con79_rV es ns cs fs x K = bodyX (mk X5) (callN (mk X5) 3) (con79_rA es ns cs fs x) Try.f79 [rsl 0 0 ns cs, .int .i64 x] (stOf [.row true [.i64] es ns cs fs]) (Fd 1 K) := by kernel_rfl
set_option tactic.hygienic false in
theorem con79_rP (es ns cs : Nat) (fs : RF) (x : Int) (K : Value → List Blk → Prop)  (hns : ns ≤ 100000) (h : ∀ bb : Bool, (bb = true ↔ ∃ i, i < ns ∧ fs i 0 = x) → K (.bool bb) []) : con79_rV es ns cs fs x K := by
  unfold con79_rV
  repeat' (first | (with_reducible first | exact rfl | exact trivial | refine And.intro ?_ ?_ | refine br_intro (fun hq => ?_) fun hq => ?_ | refine if_both (fun hz => ?_) fun hz => ?_) | (intro) | fail)
  all_goals first
    | omega
    | assumption
    | exact fin0 (by kernel_rfl) (by kernel_rfl) (h true ⟨fun _ => (show 0 ≤ y0 ↔ ∃ i, i < ns ∧ fs i 0 = x by assumption).1 (by assumption), fun _ => rfl⟩)
    | exact fin0 (by kernel_rfl) (by kernel_rfl) (h false ⟨fun e => (by cases e), fun e => absurd ((show 0 ≤ y0 ↔ ∃ i, i < ns ∧ fs i 0 = x by assumption).2 e) (by assumption)⟩)
theorem con79_ok : BodyOk (mk X5) 3 Try.f79 con79 := by
  intro vs bs K hh hro
  clear hro
  unfold con79 at hh
  split at hh
  · rename_i u x
    rcases parse_inv hh with ⟨rfl, hh0⟩ | ⟨es, ns, cs, fs, bs0, rfl, hns, rfl, hh0⟩ <;> clear hh
    · obtain ⟨rfl, hc⟩ := hh0
      exact ⟨_, _, cast (con79_nE x K) (con79_nP x K  hc)⟩
    · obtain ⟨rfl, hc⟩ := hh0
      exact ⟨_, _, cast (con79_rE es ns cs fs x K) (con79_rP es ns cs fs x K hns hc)⟩
  · exact hh.elim
theorem con79_told : Told 79 (specOf con79) := told (X := X5) (X5_told) (by kernel_rfl) (by kernel_rfl) (by kernel_rfl) con79_ok
end Go.Proofs.Ytkflmglpniebfaa.Fr
namespace Go.Proofs.Ytkflmglpniebfaa.Fr
set_option maxRecDepth 100000
set_option maxHeartbeats 4000000
open Go.Rx
open Go.RowKit (Below)
set_option linter.unusedVariables false
@[reducible] def X6 : List (Nat × Rx.Spec) := [(79, specOf con79)]
theorem X6_told : ∀ p ∈ X6, Told p.1 p.2 := by
  intro p hp
  simp only [List.mem_cons, List.not_mem_nil, or_false] at hp
  subst hp
  exact con79_told
def selB (m : Nat) (g f : RF) (i : Nat) : Bool := (List.range m).any fun q => decide (g q 0 = f i 0)
theorem selB_iff {m : Nat} {g f : RF} {i : Nat} : selB m g f i = true ↔ ∃ q, q < m ∧ g q 0 = f i 0 := by simp [selB]
/-- The numbers below k that p says yes to. -/
def sel (p : Nat → Bool) : Nat → List Int
  | 0 => []
  | k + 1 => bif p k then sel p k ++ [(k : Int)] else sel p k
theorem lF_one {x : Int} {f g : RF} (hg : g 0 0 = x) (i j : Nat) (hi : i < 1) (hj : j < 1) : lF ([] ++ [x]) i j = appF f 0 g 0 i j := by
  obtain rfl : i = 0 := by omega
  obtain rfl : j = 0 := by omega
  simp [lF, appF, hg]
theorem sel_yes {p : Nat → Bool} {k : Nat} (h : p k = true) : sel p (k + 1) = sel p k ++ [(k : Int)] := by simp [sel, h]
theorem sel_no {p : Nat → Bool} {k : Nat} (h : ¬ p k = true) : sel p (k + 1) = sel p k := by simp [sel, h]
def con68 : Con := fun vs bs K => match vs with
  | [u, v] => parse [.i64, .i64] 0 u bs fun n f j bs => parse [.i64] j v bs fun m g j2 bs => bs = [] ∧ ((sel (selB m g f) n) = [] → K (.slice none 0 0) []) ∧ (¬ (sel (selB m g f) n) = [] → ∀ cp, List.length (sel (selB m g f) n) ≤ cp → K (rsl j2 0 (List.length (sel (selB m g f) n)) cp) [.row false [.i64] 3 (List.length (sel (selB m g f) n)) cp (lF (sel (selB m g f) n))])
  | _ => False

def con68_nnA  : Ann := fun k _ _ => bif Nat.beq k 3 then some [{ α := Nat, T := fun k => ⟨25, [(1, .slice none 0 0), (8, .slice none 0 0), (9, .int .i64 (0 : Nat)), (10, .int .i64 ((k : Nat) : Int)), (5, .slice none 0 0)]⟩, S := fun _ => ⟨[], 0⟩, I := fun k => k ≤ 0 ∧ (sel (selB 0 zF zF) k) = [], m := fun k => 0 - k, ρ0 := [], ρ1 := [[]] }, { α := Nat × Nat, T := fun a => ⟨25, [(1, .slice none 0 0), (8, .slice none 0 0), (9, .int .i64 (0 : Nat)), (10, .int .i64 ((a.1 : Nat) : Int)), (5, rsl 0 0 (List.length (sel (selB 0 zF zF) a.1)) (a.2 + 1))]⟩, S := fun a => ⟨[(0, .row false [.i64] 3 (List.length (sel (selB 0 zF zF) a.1)) (a.2 + 1) (lF (sel (selB 0 zF zF) a.1)))], 1⟩, I := fun a => a.1 ≤ 0 ∧ ¬ (sel (selB 0 zF zF) a.1) = [] ∧ List.length (sel (selB 0 zF zF) a.1) ≤ a.1 ∧ List.length (sel (selB 0 zF zF) a.1) ≤ a.2 + 1, m := fun a => 0 - a.1, ρ0 := [(0, 0)], ρ1 := [[(0, 0)], [(0, 2)], [(0, 3)]] }] else none
def con68_nrA (es ns cs : Nat) (fs : RF) : Ann := fun k _ _ => bif Nat.beq k 3 then some [{ α := Nat, T := fun k => ⟨25, [(1, rsl 0 0 ns cs), (8, .slice none 0 0), (9, .int .i64 (0 : Nat)), (10, .int .i64 ((k : Nat) : Int)), (5, .slice none 0 0)]⟩, S := fun _ => ⟨[(0, .row true [.i64] es ns cs fs)], 1⟩, I := fun k => k ≤ 0 ∧ (sel (selB ns fs zF) k) = [], m := fun k => 0 - k, ρ0 := [], ρ1 := [[]] }, { α := Nat × Nat, T := fun a => ⟨25, [(1, rsl 0 0 ns cs), (8, .slice none 0 0), (9, .int .i64 (0 : Nat)), (10, .int .i64 ((a.1 : Nat) : Int)), (5, rsl 1 0 (List.length (sel (selB ns fs zF) a.1)) (a.2 + 1))]⟩, S := fun a => ⟨[(0, .row true [.i64] es ns cs fs), (1, .row false [.i64] 3 (List.length (sel (selB ns fs zF) a.1)) (a.2 + 1) (lF (sel (selB ns fs zF) a.1)))], 2⟩, I := fun a => a.1 ≤ 0 ∧ ¬ (sel (selB ns fs zF) a.1) = [] ∧ List.length (sel (selB ns fs zF) a.1) ≤ a.1 ∧ List.length (sel (selB ns fs zF) a.1) ≤ a.2 + 1, m := fun a => 0 - a.1, ρ0 := [(1, 1)], ρ1 := [[(1, 1)], [(1, 3)], [(1, 4)]] }] else none
def con68_rnA (el nl cl : Nat) (fl : RF) : Ann := fun k _ _ => bif Nat.beq k 3 then some [{ α := Nat, T := fun k => ⟨25, [(1, .slice none 0 0), (8, rsl 0 0 nl cl), (9, .int .i64 (nl : Nat)), (10, .int .i64 ((k : Nat) : Int)), (5, .slice none 0 0)]⟩, S := fun _ => ⟨[(0, .row true [.i64, .i64] el nl cl fl)], 1⟩, I := fun k => k ≤ nl ∧ (sel (selB 0 zF fl) k) = [], m := fun k => nl - k, ρ0 := [], ρ1 := [[]] }, { α := Nat × Nat, T := fun a => ⟨25, [(1, .slice none 0 0), (8, rsl 0 0 nl cl), (9, .int .i64 (nl : Nat)), (10, .int .i64 ((a.1 : Nat) : Int)), (5, rsl 1 0 (List.length (sel (selB 0 zF fl) a.1)) (a.2 + 1))]⟩, S := fun a => ⟨[(0, .row true [.i64, .i64] el nl cl fl), (1, .row false [.i64] 3 (List.length (sel (selB 0 zF fl) a.1)) (a.2 + 1) (lF (sel (selB 0 zF fl) a.1)))], 2⟩, I := fun a => a.1 ≤ nl ∧ ¬ (sel (selB 0 zF fl) a.1) = [] ∧ List.length (sel (selB 0 zF fl) a.1) ≤ a.1 ∧ List.length (sel (selB 0 zF fl) a.1) ≤ a.2 + 1, m := fun a => nl - a.1, ρ0 := [(1, 1)], ρ1 := [[(1, 1)], [(1, 3)], [(1, 4)]] }] else none
def con68_rrA (el nl cl : Nat) (fl : RF) (es ns cs : Nat) (fs : RF) : Ann := fun k _ _ => bif Nat.beq k 3 then some [{ α := Nat, T := fun k => ⟨25, [(1, rsl 1 0 ns cs), (8, rsl 0 0 nl cl), (9, .int .i64 (nl : Nat)), (10, .int .i64 ((k : Nat) : Int)), (5, .slice none 0 0)]⟩, S := fun _ => ⟨[(0, .row true [.i64, .i64] el nl cl fl), (1, .row true [.i64] es ns cs fs)], 2⟩, I := fun k => k ≤ nl ∧ (sel (selB ns fs fl) k) = [], m := fun k => nl - k, ρ0 := [], ρ1 := [[]] }, { α := Nat × Nat, T := fun a => ⟨25, [(1, rsl 1 0 ns cs), (8, rsl 0 0 nl cl), (9, .int .i64 (nl : Nat)), (10, .int .i64 ((a.1 : Nat) : Int)), (5, rsl 2 0 (List.length (sel (selB ns fs fl) a.1)) (a.2 + 1))]⟩, S := fun a => ⟨[(0, .row true [.i64, .i64] el nl cl fl), (1, .row true [.i64] es ns cs fs), (2, .row false [.i64] 3 (List.length (sel (selB ns fs fl) a.1)) (a.2 + 1) (lF (sel (selB ns fs fl) a.1)))], 3⟩, I := fun a => a.1 ≤ nl ∧ ¬ (sel (selB ns fs fl) a.1) = [] ∧ List.length (sel (selB ns fs fl) a.1) ≤ a.1 ∧ List.length (sel (selB ns fs fl) a.1) ≤ a.2 + 1, m := fun a => nl - a.1, ρ0 := [(2, 2)], ρ1 := [[(2, 2)], [(2, 4)], [(2, 5)]] }] else none
def con68_nnV  (K : Value → List Blk → Prop) : Prop := let q3 := (selB (0 : Nat) zF zF); let q4 := (9, vi (0 : Int)); let q5 := (10, vi (0 : Int)); let q6 := (8, vn); let q7 := (5, vn); let q8 := (1, vn); let q9 := ((9 : Nat), vi (0 : Int)); let q10 := ((1 : Nat), vn); let q11 := ((8 : Nat), vn); (T0 ∧ (TS ∧ (((∃ y0 : Nat, ((Go.Rx.Sub 0 [] ⟨25, [q5, q4, q6, q7, q8]⟩ ⟨[], 0⟩ ({ n := (25 : Nat), m := [q10, q11, q9, ((10 : Nat), vi (↑y0 : Int)), ((5 : Nat), vn)] }) ({ h := [], next := (0 : Nat) })) ∧ ((y0 ≤ (0 : Nat)) ∧ (sel q3 y0 = [])))) ∨ (∃ y0 : Nat × Nat, let q12 := (Prod.snd y0 + (1 : Nat)); let q13 := (sel q3 (Prod.fst y0)); let q14 := (List.length q13); ((Go.Rx.Sub 0 [((0 : Nat), (0 : Nat))] ⟨25, [q5, q4, q6, q7, q8]⟩ ⟨[], 0⟩ ({ n := (25 : Nat), m := [q10, q11, q9, ((10 : Nat), vi (↑(Prod.fst y0) : Int)), ((5 : Nat), rsl (0 : Nat) (0 : Nat) q14 q12)] }) ({ h := [((0 : Nat), Blk.row false [IntKind.i64] (3 : Nat) q14 q12 (lF q13))], next := (1 : Nat) })) ∧ ((Prod.fst y0 ≤ (0 : Nat)) ∧ ((¬sel q3 (Prod.fst y0) = []) ∧ ((List.length q13 ≤ Prod.fst y0) ∧ (List.length q13 ≤ Prod.snd y0 + (1 : Nat)))))))) ∧ ((∀ y0 : Nat, (((y0 ≤ (0 : Nat)) ∧ (sel q3 y0 = [])) → (T0 ∧ (∃ y1 : Value, (∃ y2 : List Blk, ((Go.Rx.Found 0 (vn) ({ h := [], next := (0 : Nat) }) (y1) (y2)) ∧ (K y1 y2))))))) ∧ (∀ y0 : Nat × Nat, let q0 := (Prod.snd y0 + (1 : Nat)); let q1 := (sel q3 (Prod.fst y0)); let q2 := (List.length q1); (((Prod.fst y0 ≤ (0 : Nat)) ∧ ((¬sel q3 (Prod.fst y0) = []) ∧ ((List.length q1 ≤ Prod.fst y0) ∧ (List.length q1 ≤ Prod.snd y0 + (1 : Nat))))) → (T0 ∧ (∃ y1 : Value, (∃ y2 : List Blk, ((Go.Rx.Found 0 (rsl (0 : Nat) (0 : Nat) q2 q0) ({ h := [((0 : Nat), Blk.row false [IntKind.i64] (3 : Nat) q2 q0 (lF q1))], next := (1 : Nat) }) (y1) (y2)) ∧ (K y1 y2)))))))))))
theorem con68_nnE  (K : Value → List Blk → Prop) : con68_nnV  K = bodyX (mk X6) (callN (mk X6) 3) (con68_nnA ) Try.f68 [.slice none 0 0, .slice none 0 0] (stOf []) (Fd 0 K) := by kernel_rfl
set_option tactic.hygienic false in
theorem con68_nnP  (K : Value → List Blk → Prop)  (h : ((sel (selB 0 zF zF) 0) = [] → K (.slice none 0 0) []) ∧ (¬ (sel (selB 0 zF zF) 0) = [] → ∀ cp, List.length (sel (selB 0 zF zF) 0) ≤ cp → K (rsl 0 0 (List.length (sel (selB 0 zF zF) 0)) cp) [.row false [.i64] 3 (List.length (sel (selB 0 zF zF) 0)) cp (lF (sel (selB 0 zF zF) 0))])) : con68_nnV  K := by
  unfold con68_nnV
  conv => zeta
  repeat' (first | (with_reducible first | exact rfl | exact trivial | refine And.intro ?_ ?_ | refine br_intro (fun hq => ?_) fun hq => ?_ | refine if_both (fun hz => ?_) fun hz => ?_) | (intro) | fail)
  all_goals first
    | omega
    | assumption
    | exact .inl ⟨0, (by (refine And.intro (And.intro rfl (And.intro rfl (And.intro rfl rfl))) ?_; (repeat' (first | exact trivial | exact rfl | exact fun _ _ _ _ => rfl | refine And.intro ?_ ?_ | omega | fail)); done)), by omega, rfl⟩
    | (have hq0 : y1 = false := hq
       have e : sel (selB 0 zF zF) (y0 + 1) = sel (selB 0 zF zF) y0 := sel_no (fun q => by rw [(show y1 = true ↔ ∃ i, i < 0 ∧ zF i 0 = zF y0 0 by assumption).2 (selB_iff.1 q)] at hq0; cases hq0)
       exact .inl ⟨y0 + 1, (by (refine And.intro (And.intro rfl (And.intro rfl (And.intro rfl rfl))) ?_; repeat' (first | exact trivial | exact rfl | exact fun _ _ _ _ => rfl | refine And.intro ?_ ?_ | omega | (show List.length (sel (selB 0 zF zF) (y0 + 1)) = _; first | (rw [e]; done) | (rw [e]; rfl) | (rw [e]; simp; done)) | (show (_ : Nat) - 1 + 1 = _; omega) | (intro i j hi hj; have hi2 : i < List.length (sel (selB 0 zF zF) (y0 + 1)) := hi; rw [e] at hi2; show lF (sel (selB 0 zF zF) (y0 + 1)) i j = _; first | (rw [e]; done) | (rw [e]; refine lF_one ?_ i j (by simpa using hi2) hj; rfl) | (rw [e]; refine lF_app ?_ i j (by simpa using hi2) hj; rfl) | (rw [e]; rfl)) | fail))), ⟨by omega, e.trans (show y0 ≤ 0 ∧ sel (selB 0 zF zF) y0 = [] by assumption).2⟩, by omega⟩)
    | (have hq1 : y1 = true := hq
       have e : sel (selB 0 zF zF) (y0 + 1) = [] ++ [(y0 : Int)] := by
         rw [sel_yes (selB_iff.2 ((show y1 = true ↔ ∃ i, i < 0 ∧ zF i 0 = zF y0 0 by assumption).1 hq1)), (show y0 ≤ 0 ∧ sel (selB 0 zF zF) y0 = [] by assumption).2]
       exact .inr (.inr (.inl ⟨(y0 + 1, y2 - 1), (by (refine And.intro (And.intro rfl (And.intro rfl (And.intro rfl rfl))) ?_; repeat' (first | exact trivial | exact rfl | exact fun _ _ _ _ => rfl | refine And.intro ?_ ?_ | omega | (show List.length (sel (selB 0 zF zF) (y0 + 1)) = _; first | (rw [e]; done) | (rw [e]; rfl) | (rw [e]; simp; done)) | (show (_ : Nat) - 1 + 1 = _; omega) | (intro i j hi hj; have hi2 : i < List.length (sel (selB 0 zF zF) (y0 + 1)) := hi; rw [e] at hi2; show lF (sel (selB 0 zF zF) (y0 + 1)) i j = _; first | (rw [e]; done) | (rw [e]; refine lF_one ?_ i j (by simpa using hi2) hj; rfl) | (rw [e]; refine lF_app ?_ i j (by simpa using hi2) hj; rfl) | (rw [e]; rfl)) | fail))), ⟨by show y0 + 1 ≤ 0; omega, by rw [e]; simp, by rw [e]; simp, (by rw [e]; show 1 ≤ y2 - 1 + 1; omega)⟩, by show 0 - (y0 + 1) < 0 - y0; omega⟩)))
    | (have I := (show y0.1 ≤ 0 ∧ ¬ sel (selB 0 zF zF) y0.1 = [] ∧ List.length (sel (selB 0 zF zF) y0.1) ≤ y0.1 ∧ List.length (sel (selB 0 zF zF) y0.1) ≤ y0.2 + 1 by assumption)
       have hq0 : y1 = false := hq
       have e : sel (selB 0 zF zF) (y0.1 + 1) = sel (selB 0 zF zF) y0.1 := sel_no (fun q => by rw [(show y1 = true ↔ ∃ i, i < 0 ∧ zF i 0 = zF y0.1 0 by assumption).2 (selB_iff.1 q)] at hq0; cases hq0)
       exact .inr (.inl ⟨(y0.1 + 1, y0.2), (by (refine And.intro (And.intro rfl (And.intro rfl (And.intro rfl rfl))) ?_; repeat' (first | exact trivial | exact rfl | exact fun _ _ _ _ => rfl | refine And.intro ?_ ?_ | omega | (show List.length (sel (selB 0 zF zF) (y0.1 + 1)) = _; first | (rw [e]; done) | (rw [e]; rfl) | (rw [e]; simp; done)) | (show (_ : Nat) - 1 + 1 = _; omega) | (intro i j hi hj; have hi2 : i < List.length (sel (selB 0 zF zF) (y0.1 + 1)) := hi; rw [e] at hi2; show lF (sel (selB 0 zF zF) (y0.1 + 1)) i j = _; first | (rw [e]; done) | (rw [e]; refine lF_one ?_ i j (by simpa using hi2) hj; rfl) | (rw [e]; refine lF_app ?_ i j (by simpa using hi2) hj; rfl) | (rw [e]; rfl)) | fail))), ⟨by show y0.1 + 1 ≤ 0; omega, by rw [e]; exact I.2.1, by rw [e]; show _ ≤ y0.1 + 1; omega, by rw [e]; exact I.2.2.2⟩, by show 0 - (y0.1 + 1) < 0 - y0.1; omega⟩))
    | (have I := (show y0.1 ≤ 0 ∧ ¬ sel (selB 0 zF zF) y0.1 = [] ∧ List.length (sel (selB 0 zF zF) y0.1) ≤ y0.1 ∧ List.length (sel (selB 0 zF zF) y0.1) ≤ y0.2 + 1 by assumption)
       have hq1 : y1 = true := hq
       have e : sel (selB 0 zF zF) (y0.1 + 1) = sel (selB 0 zF zF) y0.1 ++ [(y0.1 : Int)] := sel_yes (selB_iff.2 ((show y1 = true ↔ ∃ i, i < 0 ∧ zF i 0 = zF y0.1 0 by assumption).1 hq1))
       exact .inr (.inr (.inr ⟨(y0.1 + 1, y2 - 1), (by (refine And.intro (And.intro rfl (And.intro rfl (And.intro rfl rfl))) ?_; repeat' (first | exact trivial | exact rfl | exact fun _ _ _ _ => rfl | refine And.intro ?_ ?_ | omega | (show List.length (sel (selB 0 zF zF) (y0.1 + 1)) = _; first | (rw [e]; done) | (rw [e]; rfl) | (rw [e]; simp; done)) | (show (_ : Nat) - 1 + 1 = _; omega) | (intro i j hi hj; have hi2 : i < List.length (sel (selB 0 zF zF) (y0.1 + 1)) := hi; rw [e] at hi2; show lF (sel (selB 0 zF zF) (y0.1 + 1)) i j = _; first | (rw [e]; done) | (rw [e]; refine lF_one ?_ i j (by simpa using hi2) hj; rfl) | (rw [e]; refine lF_app ?_ i j (by simpa using hi2) hj; rfl) | (rw [e]; rfl)) | fail))), ⟨by show y0.1 + 1 ≤ 0; omega, by rw [e]; simp, by rw [e]; simp; omega, by rw [e]; simp; omega⟩, by show 0 - (y0.1 + 1) < 0 - y0.1; omega⟩)))
    | (have I := (show y0 ≤ 0 ∧ sel (selB 0 zF zF) y0 = [] by assumption)
       exact fin0 (by kernel_rfl) (by kernel_rfl) (h.1 (by rw [← I.2]; congr 1; omega)))
    | (have I := (show y0.1 ≤ 0 ∧ ¬ sel (selB 0 zF zF) y0.1 = [] ∧ List.length (sel (selB 0 zF zF) y0.1) ≤ y0.1 ∧ List.length (sel (selB 0 zF zF) y0.1) ≤ y0.2 + 1 by assumption)
       have e : y0.1 = 0 := by omega
       rw [e] at I ⊢
       exact fin1 (by kernel_rfl) (fun _ _ _ _ => rfl) (h.2 I.2.1 _ I.2.2.2))
def con68_nrV (es ns cs : Nat) (fs : RF) (K : Value → List Blk → Prop) : Prop := let q0 := (1, rsl (0 : Nat) (0 : Nat) ns cs); let q1 := (9, vi (0 : Int)); let q2 := (10, vi (0 : Int)); let q3 := (8, vn); let q4 := (5, vn); let q5 := ((1 : Nat), rsl (0 : Nat) (0 : Nat) ns cs); let q6 := (0, Blk.row true [IntKind.i64] es ns cs fs); let q7 := ((9 : Nat), vi (0 : Int)); let q8 := ((8 : Nat), vn); let q9 := ((0 : Nat), Blk.row true [IntKind.i64] es ns cs fs); (T0 ∧ (TS ∧ (((∃ y0 : Nat, ((Go.Rx.Sub 1 [] ⟨25, [q2, q1, q3, q4, q0]⟩ ⟨[q6], 1⟩ ({ n := (25 : Nat), m := [q5, q8, q7, ((10 : Nat), vi (↑y0 : Int)), ((5 : Nat), vn)] }) ({ h := [q9], next := (1 : Nat) })) ∧ ((y0 ≤ (0 : Nat)) ∧ (sel (selB ns fs zF) y0 = [])))) ∨ (∃ y0 : Nat × Nat, let q13 := (Prod.snd y0 + (1 : Nat)); let q14 := (sel (selB ns fs zF) (Prod.fst y0)); let q15 := (List.length q14); ((Go.Rx.Sub 1 [((1 : Nat), (1 : Nat))] ⟨25, [q2, q1, q3, q4, q0]⟩ ⟨[q6], 1⟩ ({ n := (25 : Nat), m := [q5, q8, q7, ((10 : Nat), vi (↑(Prod.fst y0) : Int)), ((5 : Nat), rsl (1 : Nat) (0 : Nat) q15 q13)] }) ({ h := [q9, ((1 : Nat), Blk.row false [IntKind.i64] (3 : Nat) q15 q13 (lF q14))], next := (2 : Nat) })) ∧ ((Prod.fst y0 ≤ (0 : Nat)) ∧ ((¬sel (selB ns fs zF) (Prod.fst y0) = []) ∧ ((List.length q14 ≤ Prod.fst y0) ∧ (List.length q14 ≤ Prod.snd y0 + (1 : Nat)))))))) ∧ ((∀ y0 : Nat, (((y0 ≤ (0 : Nat)) ∧ (sel (selB ns fs zF) y0 = [])) → (T0 ∧ (∃ y1 : Value, (∃ y2 : List Blk, ((Go.Rx.Found 1 (vn) ({ h := [q9], next := (1 : Nat) }) (y1) (y2)) ∧ (K y1 y2))))))) ∧ (∀ y0 : Nat × Nat, let q10 := (Prod.snd y0 + (1 : Nat)); let q11 := (sel (selB ns fs zF) (Prod.fst y0)); let q12 := (List.length q11); (((Prod.fst y0 ≤ (0 : Nat)) ∧ ((¬sel (selB ns fs zF) (Prod.fst y0) = []) ∧ ((List.length q11 ≤ Prod.fst y0) ∧ (List.length q11 ≤ Prod.snd y0 + (1 : Nat))))) → (T0 ∧ (∃ y1 : Value, (∃ y2 : List Blk, ((Go.Rx.Found 1 (rsl (1 : Nat) (0 : Nat) q12 q10) ({ h := [q9, ((1 : Nat), Blk.row false [IntKind.i64] (3 : Nat) q12 q10 (lF q11))], next := (2 : Nat) }) (y1) (y2)) ∧ (K y1 y2)))))))))))
theorem con68_nrE (es ns cs : Nat) (fs : RF) (K : Value → List Blk → Prop) : con68_nrV es ns cs fs K = bodyX (mk X6) (callN (mk X6) 3) (con68_nrA es ns cs fs) Try.f68 [.slice none 0 0, rsl 0 0 ns cs] (stOf [.row true [.i64] es ns cs fs]) (Fd 1 K) := by kernel_rfl
set_option tactic.hygienic false in
theorem con68_nrP (es ns cs : Nat) (fs : RF) (K : Value → List Blk → Prop)  (hns : ns ≤ 100000) (h : ((sel (selB ns fs zF) 0) = [] → K (.slice none 0 0) []) ∧ (¬ (sel (selB ns fs zF) 0) = [] → ∀ cp, List.length (sel (selB ns fs zF) 0) ≤ cp → K (rsl 1 0 (List.length (sel (selB ns fs zF) 0)) cp) [.row false [.i64] 3 (List.length (sel (selB ns fs zF) 0)) cp (lF (sel (selB ns fs zF) 0))])) : con68_nrV es ns cs fs K := by
  unfold con68_nrV
  conv => zeta
  repeat' (first | (with_reducible first | exact rfl | exact trivial | refine And.intro ?_ ?_ | refine br_intro (fun hq => ?_) fun hq => ?_ | refine if_both (fun hz => ?_) fun hz => ?_) | (intro) | fail)
  all_goals first
    | omega
    | assumption
    | exact .inl ⟨0, (by (refine And.intro (And.intro rfl (And.intro rfl (And.intro rfl rfl))) ?_; (repeat' (first | exact trivial | exact rfl | exact fun _ _ _ _ => rfl | refine And.intro ?_ ?_ | omega | fail)); done)), by omega, rfl⟩
    | (have hq0 : y1 = false := hq
       have e : sel (selB ns fs zF) (y0 + 1) = sel (selB ns fs zF) y0 := sel_no (fun q => by rw [(show y1 = true ↔ ∃ i, i < ns ∧ fs i 0 = zF y0 0 by assumption).2 (selB_iff.1 q)] at hq0; cases hq0)
       exact .inl ⟨y0 + 1, (by (refine And.intro (And.intro rfl (And.intro rfl (And.intro rfl rfl))) ?_; repeat' (first | exact trivial | exact rfl | exact fun _ _ _ _ => rfl | refine And.intro ?_ ?_ | omega | (show List.length (sel (selB ns fs zF) (y0 + 1)) = _; first | (rw [e]; done) | (rw [e]; rfl) | (rw [e]; simp; done)) | (show (_ : Nat) - 1 + 1 = _; omega) | (intro i j hi hj; have hi2 : i < List.length (sel (selB ns fs zF) (y0 + 1)) := hi; rw [e] at hi2; show lF (sel (selB ns fs zF) (y0 + 1)) i j = _; first | (rw [e]; done) | (rw [e]; refine lF_one ?_ i j (by simpa using hi2) hj; rfl) | (rw [e]; refine lF_app ?_ i j (by simpa using hi2) hj; rfl) | (rw [e]; rfl)) | fail))), ⟨by omega, e.trans (show y0 ≤ 0 ∧ sel (selB ns fs zF) y0 = [] by assumption).2⟩, by omega⟩)
    | (have hq1 : y1 = true := hq
       have e : sel (selB ns fs zF) (y0 + 1) = [] ++ [(y0 : Int)] := by
         rw [sel_yes (selB_iff.2 ((show y1 = true ↔ ∃ i, i < ns ∧ fs i 0 = zF y0 0 by assumption).1 hq1)), (show y0 ≤ 0 ∧ sel (selB ns fs zF) y0 = [] by assumption).2]
       exact .inr (.inr (.inl ⟨(y0 + 1, y2 - 1), (by (refine And.intro (And.intro rfl (And.intro rfl (And.intro rfl rfl))) ?_; repeat' (first | exact trivial | exact rfl | exact fun _ _ _ _ => rfl | refine And.intro ?_ ?_ | omega | (show List.length (sel (selB ns fs zF) (y0 + 1)) = _; first | (rw [e]; done) | (rw [e]; rfl) | (rw [e]; simp; done)) | (show (_ : Nat) - 1 + 1 = _; omega) | (intro i j hi hj; have hi2 : i < List.length (sel (selB ns fs zF) (y0 + 1)) := hi; rw [e] at hi2; show lF (sel (selB ns fs zF) (y0 + 1)) i j = _; first | (rw [e]; done) | (rw [e]; refine lF_one ?_ i j (by simpa using hi2) hj; rfl) | (rw [e]; refine lF_app ?_ i j (by simpa using hi2) hj; rfl) | (rw [e]; rfl)) | fail))), ⟨by show y0 + 1 ≤ 0; omega, by rw [e]; simp, by rw [e]; simp, (by rw [e]; show 1 ≤ y2 - 1 + 1; omega)⟩, by show 0 - (y0 + 1) < 0 - y0; omega⟩)))
    | (have I := (show y0.1 ≤ 0 ∧ ¬ sel (selB ns fs zF) y0.1 = [] ∧ List.length (sel (selB ns fs zF) y0.1) ≤ y0.1 ∧ List.length (sel (selB ns fs zF) y0.1) ≤ y0.2 + 1 by assumption)
       have hq0 : y1 = false := hq
       have e : sel (selB ns fs zF) (y0.1 + 1) = sel (selB ns fs zF) y0.1 := sel_no (fun q => by rw [(show y1 = true ↔ ∃ i, i < ns ∧ fs i 0 = zF y0.1 0 by assumption).2 (selB_iff.1 q)] at hq0; cases hq0)
       exact .inr (.inl ⟨(y0.1 + 1, y0.2), (by (refine And.intro (And.intro rfl (And.intro rfl (And.intro rfl rfl))) ?_; repeat' (first | exact trivial | exact rfl | exact fun _ _ _ _ => rfl | refine And.intro ?_ ?_ | omega | (show List.length (sel (selB ns fs zF) (y0.1 + 1)) = _; first | (rw [e]; done) | (rw [e]; rfl) | (rw [e]; simp; done)) | (show (_ : Nat) - 1 + 1 = _; omega) | (intro i j hi hj; have hi2 : i < List.length (sel (selB ns fs zF) (y0.1 + 1)) := hi; rw [e] at hi2; show lF (sel (selB ns fs zF) (y0.1 + 1)) i j = _; first | (rw [e]; done) | (rw [e]; refine lF_one ?_ i j (by simpa using hi2) hj; rfl) | (rw [e]; refine lF_app ?_ i j (by simpa using hi2) hj; rfl) | (rw [e]; rfl)) | fail))), ⟨by show y0.1 + 1 ≤ 0; omega, by rw [e]; exact I.2.1, by rw [e]; show _ ≤ y0.1 + 1; omega, by rw [e]; exact I.2.2.2⟩, by show 0 - (y0.1 + 1) < 0 - y0.1; omega⟩))
    | (have I := (show y0.1 ≤ 0 ∧ ¬ sel (selB ns fs zF) y0.1 = [] ∧ List.length (sel (selB ns fs zF) y0.1) ≤ y0.1 ∧ List.length (sel (selB ns fs zF) y0.1) ≤ y0.2 + 1 by assumption)
       have hq1 : y1 = true := hq
       have e : sel (selB ns fs zF) (y0.1 + 1) = sel (selB ns fs zF) y0.1 ++ [(y0.1 : Int)] := sel_yes (selB_iff.2 ((show y1 = true ↔ ∃ i, i < ns ∧ fs i 0 = zF y0.1 0 by assumption).1 hq1))
       exact .inr (.inr (.inr ⟨(y0.1 + 1, y2 - 1), (by (refine And.intro (And.intro rfl (And.intro rfl (And.intro rfl rfl))) ?_; repeat' (first | exact trivial | exact rfl | exact fun _ _ _ _ => rfl | refine And.intro ?_ ?_ | omega | (show List.length (sel (selB ns fs zF) (y0.1 + 1)) = _; first | (rw [e]; done) | (rw [e]; rfl) | (rw [e]; simp; done)) | (show (_ : Nat) - 1 + 1 = _; omega) | (intro i j hi hj; have hi2 : i < List.length (sel (selB ns fs zF) (y0.1 + 1)) := hi; rw [e] at hi2; show lF (sel (selB ns fs zF) (y0.1 + 1)) i j = _; first | (rw [e]; done) | (rw [e]; refine lF_one ?_ i j (by simpa using hi2) hj; rfl) | (rw [e]; refine lF_app ?_ i j (by simpa using hi2) hj; rfl) | (rw [e]; rfl)) | fail))), ⟨by show y0.1 + 1 ≤ 0; omega, by rw [e]; simp, by rw [e]; simp; omega, by rw [e]; simp; omega⟩, by show 0 - (y0.1 + 1) < 0 - y0.1; omega⟩)))
    | (have I := (show y0 ≤ 0 ∧ sel (selB ns fs zF) y0 = [] by assumption)
       exact fin0 (by kernel_rfl) (by kernel_rfl) (h.1 (by rw [← I.2]; congr 1; omega)))
    | (have I := (show y0.1 ≤ 0 ∧ ¬ sel (selB ns fs zF) y0.1 = [] ∧ List.length (sel (selB ns fs zF) y0.1) ≤ y0.1 ∧ List.length (sel (selB ns fs zF) y0.1) ≤ y0.2 + 1 by assumption)
       have e : y0.1 = 0 := by omega
       rw [e] at I ⊢
       exact fin1 (by kernel_rfl) (fun _ _ _ _ => rfl) (h.2 I.2.1 _ I.2.2.2))
def con68_rnV (el nl cl : Nat) (fl : RF) (K : Value → List Blk → Prop) : Prop := let q0 := (selB (0 : Nat) zF fl); let q1 := ((1 : Nat), (4 : Nat)); let q2 := ((1 : Nat), (3 : Nat)); let q3 := ((1 : Nat), (1 : Nat)); let q4 := ((1 : Nat) ≤ (1 : Nat)); let q5 := eB; let q6 := (9223372036854775807 : Int); let q7 := (List.length [IntKind.i64]); let q8 := (-9223372036854775808 : Int); let q9 := ((1 : Nat) ≤ (100000 : Nat)); let q10 := (@Eq Nat ((0 : Nat)) ((0 : Nat))); let q11 := (@Eq Nat ((2 : Nat)) ((2 : Nat))); let q12 := (8, rsl (0 : Nat) (0 : Nat) nl cl); let q13 := (10, vi (0 : Int)); let q14 := (9, vi (↑nl : Int)); let q15 := TS; let q16 := (1, vn); let q17 := (5, vn); let q18 := ((8 : Nat), rsl (0 : Nat) (0 : Nat) nl cl); let q19 := ((9 : Nat), vi (↑nl : Int)); let q20 := ((1 : Nat), vn); let q21 := ((5 : Nat), vn); let q22 := (0, rT el nl cl fl); let q23 := ((0 : Nat), rT el nl cl fl); let q24 := (q10 ∧ q11); let q25 := (q15 ∧ q11); (T0 ∧ (q15 ∧ (((∃ y0 : Nat, ((Go.Rx.Sub 1 [] ⟨25, [q13, q14, q12, q17, q16]⟩ ⟨[q22], 1⟩ ({ n := (25 : Nat), m := [q20, q18, q19, ((10 : Nat), vi (↑y0 : Int)), q21] }) ({ h := [q23], next := (1 : Nat) })) ∧ ((y0 ≤ nl) ∧ (sel q0 y0 = [])))) ∨ (∃ y0 : Nat × Nat, let q79 := (Prod.snd y0 + (1 : Nat)); let q80 := (sel q0 (Prod.fst y0)); let q81 := (List.length q80); ((Go.Rx.Sub 1 [q3] ⟨25, [q13, q14, q12, q17, q16]⟩ ⟨[q22], 1⟩ ({ n := (25 : Nat), m := [q20, q18, q19, ((10 : Nat), vi (↑(Prod.fst y0) : Int)), ((5 : Nat), rsl (1 : Nat) (0 : Nat) q81 q79)] }) ({ h := [q23, ((1 : Nat), Blk.row false [IntKind.i64] (3 : Nat) q81 q79 (lF q80))], next := (2 : Nat) })) ∧ ((Prod.fst y0 ≤ nl) ∧ ((¬sel q0 (Prod.fst y0) = []) ∧ ((List.length q80 ≤ Prod.fst y0) ∧ (List.length q80 ≤ Prod.snd y0 + (1 : Nat)))))))) ∧ ((∀ y0 : Nat, let q56 := (10, vi ((↑y0 : Int) + (1 : Int))); let q57 := (1, Blk.cells [vi (fl y0 (0 : Nat)), vi (fl y0 (1 : Nat))] (54 : Nat)); let q58 := ((q8 ≤ (↑y0 : Int) + (1 : Int)) ∧ ((↑y0 : Int) + (1 : Int) ≤ q6)); (((y0 ≤ nl) ∧ (sel q0 y0 = [])) → (T0 ∧ (if ((↑y0 : Int) < (↑nl : Int)) then (q25 ∧ ((((0 : Int) ≤ (↑y0 : Int)) ∧ ((↑y0 : Int) < (↑nl : Int))) ∧ ((y0 < nl) ∧ (q24 ∧ (t5 (q5 ∧ (∀ y1 : Bool, ((y1 = true ↔ ∃ i, i < (0 : Nat) ∧ zF i (0 : Nat) = fl y0 (0 : Nat)) → (Go.Rx.br (y1) (q15 ∧ (t4 (q15 ∧ (q15 ∧ (t4 (q4 ∧ (q9 ∧ (∀ y2 : Nat, let q71 := (y2 - (1 : Nat) + (1 : Nat)); let q72 := (5, rsl (3 : Nat) (0 : Nat) (1 : Nat) q71); (((1 : Nat) ≤ y2) → (T0 ∧ (q58 ∧ ((∃ y3 : Nat, ((Go.Rx.Sub 1 [] ⟨25, [q56, q72, q16, q12, q14]⟩ ⟨[q22], 4⟩ ({ n := (25 : Nat), m := [q20, q18, q19, ((10 : Nat), vi (↑y3 : Int)), q21] }) ({ h := [q23], next := (1 : Nat) })) ∧ (((y3 ≤ nl) ∧ (sel q0 y3 = [])) ∧ (nl - y3 < nl - y0)))) ∨ ((∃ y3 : Nat × Nat, let q76 := (Prod.snd y3 + (1 : Nat)); let q77 := (sel q0 (Prod.fst y3)); let q78 := (List.length q77); ((Go.Rx.Sub 1 [q3] ⟨25, [q56, q72, q16, q12, q14]⟩ ⟨[q57, q22], 4⟩ ({ n := (25 : Nat), m := [q20, q18, q19, ((10 : Nat), vi (↑(Prod.fst y3) : Int)), ((5 : Nat), rsl (1 : Nat) (0 : Nat) q78 q76)] }) ({ h := [q23, ((1 : Nat), Blk.row false [IntKind.i64] (3 : Nat) q78 q76 (lF q77))], next := (2 : Nat) })) ∧ (((Prod.fst y3 ≤ nl) ∧ ((¬sel q0 (Prod.fst y3) = []) ∧ ((List.length q77 ≤ Prod.fst y3) ∧ (List.length q77 ≤ Prod.snd y3 + (1 : Nat))))) ∧ (nl - Prod.fst y3 < nl - y0)))) ∨ ((∃ y3 : Nat × Nat, let q73 := (Prod.snd y3 + (1 : Nat)); let q74 := (sel q0 (Prod.fst y3)); let q75 := (List.length q74); ((Go.Rx.Sub 1 [q2] ⟨25, [q56, q72, q16, q12, q14]⟩ ⟨[(3, Blk.row false [IntKind.i64] (3 : Nat) (1 : Nat) q71 (appF (fun x x_1 ↦ (0 : Int)) (0 : Nat) (litF q7 ([(↑y0 : Int)] ++ [])) (0 : Nat))), q22], 4⟩ ({ n := (25 : Nat), m := [q20, q18, q19, ((10 : Nat), vi (↑(Prod.fst y3) : Int)), ((5 : Nat), rsl (1 : Nat) (0 : Nat) q75 q73)] }) ({ h := [q23, ((1 : Nat), Blk.row false [IntKind.i64] (3 : Nat) q75 q73 (lF q74))], next := (2 : Nat) })) ∧ (((Prod.fst y3 ≤ nl) ∧ ((¬sel q0 (Prod.fst y3) = []) ∧ ((List.length q74 ≤ Prod.fst y3) ∧ (List.length q74 ≤ Prod.snd y3 + (1 : Nat))))) ∧ (nl - Prod.fst y3 < nl - y0)))) ∨ (∃ y3 : Nat × Nat, let q68 := (Prod.snd y3 + (1 : Nat)); let q69 := (sel q0 (Prod.fst y3)); let q70 := (List.length q69); ((Go.Rx.Sub 1 [q1] ⟨25, [q56, q72, q16, q12, q14]⟩ ⟨[q22], 4⟩ ({ n := (25 : Nat), m := [q20, q18, q19, ((10 : Nat), vi (↑(Prod.fst y3) : Int)), ((5 : Nat), rsl (1 : Nat) (0 : Nat) q70 q68)] }) ({ h := [q23, ((1 : Nat), Blk.row false [IntKind.i64] (3 : Nat) q70 q68 (lF q69))], next := (2 : Nat) })) ∧ (((Prod.fst y3 ≤ nl) ∧ ((¬sel q0 (Prod.fst y3) = []) ∧ ((List.length q69 ≤ Prod.fst y3) ∧ (List.length q69 ≤ Prod.snd y3 + (1 : Nat))))) ∧ (nl - Prod.fst y3 < nl - y0)))))))))))))))))) (T0 ∧ (q58 ∧ ((∃ y2 : Nat, ((Go.Rx.Sub 1 [] ⟨25, [q56, q16, q12, q14, q17]⟩ ⟨[q22], 2⟩ ({ n := (25 : Nat), m := [q20, q18, q19, ((10 : Nat), vi (↑y2 : Int)), q21] }) ({ h := [q23], next := (1 : Nat) })) ∧ (((y2 ≤ nl) ∧ (sel q0 y2 = [])) ∧ (nl - y2 < nl - y0)))) ∨ ((∃ y2 : Nat × Nat, let q65 := (Prod.snd y2 + (1 : Nat)); let q66 := (sel q0 (Prod.fst y2)); let q67 := (List.length q66); ((Go.Rx.Sub 1 [q3] ⟨25, [q56, q16, q12, q14, q17]⟩ ⟨[q57, q22], 2⟩ ({ n := (25 : Nat), m := [q20, q18, q19, ((10 : Nat), vi (↑(Prod.fst y2) : Int)), ((5 : Nat), rsl (1 : Nat) (0 : Nat) q67 q65)] }) ({ h := [q23, ((1 : Nat), Blk.row false [IntKind.i64] (3 : Nat) q67 q65 (lF q66))], next := (2 : Nat) })) ∧ (((Prod.fst y2 ≤ nl) ∧ ((¬sel q0 (Prod.fst y2) = []) ∧ ((List.length q66 ≤ Prod.fst y2) ∧ (List.length q66 ≤ Prod.snd y2 + (1 : Nat))))) ∧ (nl - Prod.fst y2 < nl - y0)))) ∨ ((∃ y2 : Nat × Nat, let q62 := (Prod.snd y2 + (1 : Nat)); let q63 := (sel q0 (Prod.fst y2)); let q64 := (List.length q63); ((Go.Rx.Sub 1 [q2] ⟨25, [q56, q16, q12, q14, q17]⟩ ⟨[q22], 2⟩ ({ n := (25 : Nat), m := [q20, q18, q19, ((10 : Nat), vi (↑(Prod.fst y2) : Int)), ((5 : Nat), rsl (1 : Nat) (0 : Nat) q64 q62)] }) ({ h := [q23, ((1 : Nat), Blk.row false [IntKind.i64] (3 : Nat) q64 q62 (lF q63))], next := (2 : Nat) })) ∧ (((Prod.fst y2 ≤ nl) ∧ ((¬sel q0 (Prod.fst y2) = []) ∧ ((List.length q63 ≤ Prod.fst y2) ∧ (List.length q63 ≤ Prod.snd y2 + (1 : Nat))))) ∧ (nl - Prod.fst y2 < nl - y0)))) ∨ (∃ y2 : Nat × Nat, let q59 := (Prod.snd y2 + (1 : Nat)); let q60 := (sel q0 (Prod.fst y2)); let q61 := (List.length q60); ((Go.Rx.Sub 1 [q1] ⟨25, [q56, q16, q12, q14, q17]⟩ ⟨[q22], 2⟩ ({ n := (25 : Nat), m := [q20, q18, q19, ((10 : Nat), vi (↑(Prod.fst y2) : Int)), ((5 : Nat), rsl (1 : Nat) (0 : Nat) q61 q59)] }) ({ h := [q23, ((1 : Nat), Blk.row false [IntKind.i64] (3 : Nat) q61 q59 (lF q60))], next := (2 : Nat) })) ∧ (((Prod.fst y2 ≤ nl) ∧ ((¬sel q0 (Prod.fst y2) = []) ∧ ((List.length q60 ≤ Prod.fst y2) ∧ (List.length q60 ≤ Prod.snd y2 + (1 : Nat))))) ∧ (nl - Prod.fst y2 < nl - y0)))))))))))))))))) else (∃ y1 : Value, (∃ y2 : List Blk, ((Go.Rx.Found 1 (vn) ({ h := [q23], next := (1 : Nat) }) (y1) (y2)) ∧ (K y1 y2)))))))) ∧ (∀ y0 : Nat × Nat, let q26 := (↑(Prod.fst y0) : Int); let q27 := (Prod.snd y0 + (1 : Nat)); let q28 := (sel q0 (Prod.fst y0)); let q29 := (lF q28); let q30 := (List.length q28); let q31 := (10, vi (q26 + (1 : Int))); let q32 := (litF q7 ([q26] ++ [])); let q33 := (List.length q28 + (1 : Nat)); let q34 := (5, rsl (1 : Nat) (0 : Nat) q30 q27); let q35 := ((q8 ≤ q26 + (1 : Int)) ∧ (q26 + (1 : Int) ≤ q6)); (((Prod.fst y0 ≤ nl) ∧ ((¬sel q0 (Prod.fst y0) = []) ∧ ((List.length q28 ≤ Prod.fst y0) ∧ (List.length q28 ≤ Prod.snd y0 + (1 : Nat))))) → (T0 ∧ (if (q26 < (↑nl : Int)) then (q25 ∧ ((((0 : Int) ≤ q26) ∧ (q26 < (↑nl : Int))) ∧ ((Prod.fst y0 < nl) ∧ (q24 ∧ (t5 (q5 ∧ (∀ y1 : Bool, ((y1 = true ↔ ∃ i, i < (0 : Nat) ∧ zF i (0 : Nat) = fl (Prod.fst y0) (0 : Nat)) → (Go.Rx.br (y1) (q15 ∧ (t4 (q15 ∧ (q15 ∧ (t4 (q4 ∧ (q9 ∧ (T0 ∧ ((T0 ∧ ((false = false) ∧ (q10 ∧ ((@Eq Nat q30 q30) ∧ ((@Eq Nat q27 q27) ∧ (List.length q28 + (1 : Nat) ≤ (100000 : Nat))))))) ∧ (∀ y2 : Nat, let q48 := (y2 - (1 : Nat) + (1 : Nat)); let q49 := (5, rsl (4 : Nat) (0 : Nat) q33 q48); ((List.length q28 + (1 : Nat) ≤ y2) → (T0 ∧ (q35 ∧ ((∃ y3 : Nat, ((Go.Rx.Sub 1 [] ⟨25, [q31, q49, q16, q12, q14]⟩ ⟨[q22], 5⟩ ({ n := (25 : Nat), m := [q20, q18, q19, ((10 : Nat), vi (↑y3 : Int)), q21] }) ({ h := [q23], next := (1 : Nat) })) ∧ (((y3 ≤ nl) ∧ (sel q0 y3 = [])) ∧ (nl - y3 < nl - Prod.fst y0)))) ∨ ((∃ y3 : Nat × Nat, let q53 := (Prod.snd y3 + (1 : Nat)); let q54 := (sel q0 (Prod.fst y3)); let q55 := (List.length q54); ((Go.Rx.Sub 1 [q3] ⟨25, [q31, q49, q16, q12, q14]⟩ ⟨[q22], 5⟩ ({ n := (25 : Nat), m := [q20, q18, q19, ((10 : Nat), vi (↑(Prod.fst y3) : Int)), ((5 : Nat), rsl (1 : Nat) (0 : Nat) q55 q53)] }) ({ h := [q23, ((1 : Nat), Blk.row false [IntKind.i64] (3 : Nat) q55 q53 (lF q54))], next := (2 : Nat) })) ∧ (((Prod.fst y3 ≤ nl) ∧ ((¬sel q0 (Prod.fst y3) = []) ∧ ((List.length q54 ≤ Prod.fst y3) ∧ (List.length q54 ≤ Prod.snd y3 + (1 : Nat))))) ∧ (nl - Prod.fst y3 < nl - Prod.fst y0)))) ∨ ((∃ y3 : Nat × Nat, let q50 := (Prod.snd y3 + (1 : Nat)); let q51 := (sel q0 (Prod.fst y3)); let q52 := (List.length q51); ((Go.Rx.Sub 1 [q2] ⟨25, [q31, q49, q16, q12, q14]⟩ ⟨[(3, Blk.row false [IntKind.i64] (3 : Nat) (1 : Nat) (1 : Nat) q32), q22], 5⟩ ({ n := (25 : Nat), m := [q20, q18, q19, ((10 : Nat), vi (↑(Prod.fst y3) : Int)), ((5 : Nat), rsl (1 : Nat) (0 : Nat) q52 q50)] }) ({ h := [q23, ((1 : Nat), Blk.row false [IntKind.i64] (3 : Nat) q52 q50 (lF q51))], next := (2 : Nat) })) ∧ (((Prod.fst y3 ≤ nl) ∧ ((¬sel q0 (Prod.fst y3) = []) ∧ ((List.length q51 ≤ Prod.fst y3) ∧ (List.length q51 ≤ Prod.snd y3 + (1 : Nat))))) ∧ (nl - Prod.fst y3 < nl - Prod.fst y0)))) ∨ (∃ y3 : Nat × Nat, let q45 := (Prod.snd y3 + (1 : Nat)); let q46 := (sel q0 (Prod.fst y3)); let q47 := (List.length q46); ((Go.Rx.Sub 1 [q1] ⟨25, [q31, q49, q16, q12, q14]⟩ ⟨[(4, Blk.row false [IntKind.i64] (3 : Nat) q33 q48 (appF q29 q30 q32 (0 : Nat))), q22], 5⟩ ({ n := (25 : Nat), m := [q20, q18, q19, ((10 : Nat), vi (↑(Prod.fst y3) : Int)), ((5 : Nat), rsl (1 : Nat) (0 : Nat) q47 q45)] }) ({ h := [q23, ((1 : Nat), Blk.row false [IntKind.i64] (3 : Nat) q47 q45 (lF q46))], next := (2 : Nat) })) ∧ (((Prod.fst y3 ≤ nl) ∧ ((¬sel q0 (Prod.fst y3) = []) ∧ ((List.length q46 ≤ Prod.fst y3) ∧ (List.length q46 ≤ Prod.snd y3 + (1 : Nat))))) ∧ (nl - Prod.fst y3 < nl - Prod.fst y0)))))))))))))))))))) (T0 ∧ (q35 ∧ ((∃ y2 : Nat, ((Go.Rx.Sub 1 [] ⟨25, [q31, q16, q12, q14, q34]⟩ ⟨[q22], 3⟩ ({ n := (25 : Nat), m := [q20, q18, q19, ((10 : Nat), vi (↑y2 : Int)), q21] }) ({ h := [q23], next := (1 : Nat) })) ∧ (((y2 ≤ nl) ∧ (sel q0 y2 = [])) ∧ (nl - y2 < nl - Prod.fst y0)))) ∨ ((∃ y2 : Nat × Nat, let q42 := (Prod.snd y2 + (1 : Nat)); let q43 := (sel q0 (Prod.fst y2)); let q44 := (List.length q43); ((Go.Rx.Sub 1 [q3] ⟨25, [q31, q16, q12, q14, q34]⟩ ⟨[q22, (1, Blk.row false [IntKind.i64] (3 : Nat) q30 q27 q29)], 3⟩ ({ n := (25 : Nat), m := [q20, q18, q19, ((10 : Nat), vi (↑(Prod.fst y2) : Int)), ((5 : Nat), rsl (1 : Nat) (0 : Nat) q44 q42)] }) ({ h := [q23, ((1 : Nat), Blk.row false [IntKind.i64] (3 : Nat) q44 q42 (lF q43))], next := (2 : Nat) })) ∧ (((Prod.fst y2 ≤ nl) ∧ ((¬sel q0 (Prod.fst y2) = []) ∧ ((List.length q43 ≤ Prod.fst y2) ∧ (List.length q43 ≤ Prod.snd y2 + (1 : Nat))))) ∧ (nl - Prod.fst y2 < nl - Prod.fst y0)))) ∨ ((∃ y2 : Nat × Nat, let q39 := (Prod.snd y2 + (1 : Nat)); let q40 := (sel q0 (Prod.fst y2)); let q41 := (List.length q40); ((Go.Rx.Sub 1 [q2] ⟨25, [q31, q16, q12, q14, q34]⟩ ⟨[q22], 3⟩ ({ n := (25 : Nat), m := [q20, q18, q19, ((10 : Nat), vi (↑(Prod.fst y2) : Int)), ((5 : Nat), rsl (1 : Nat) (0 : Nat) q41 q39)] }) ({ h := [q23, ((1 : Nat), Blk.row false [IntKind.i64] (3 : Nat) q41 q39 (lF q40))], next := (2 : Nat) })) ∧ (((Prod.fst y2 ≤ nl) ∧ ((¬sel q0 (Prod.fst y2) = []) ∧ ((List.length q40 ≤ Prod.fst y2) ∧ (List.length q40 ≤ Prod.snd y2 + (1 : Nat))))) ∧ (nl - Prod.fst y2 < nl - Prod.fst y0)))) ∨ (∃ y2 : Nat × Nat, let q36 := (Prod.snd y2 + (1 : Nat)); let q37 := (sel q0 (Prod.fst y2)); let q38 := (List.length q37); ((Go.Rx.Sub 1 [q1] ⟨25, [q31, q16, q12, q14, q34]⟩ ⟨[q22], 3⟩ ({ n := (25 : Nat), m := [q20, q18, q19, ((10 : Nat), vi (↑(Prod.fst y2) : Int)), ((5 : Nat), rsl (1 : Nat) (0 : Nat) q38 q36)] }) ({ h := [q23, ((1 : Nat), Blk.row false [IntKind.i64] (3 : Nat) q38 q36 (lF q37))], next := (2 : Nat) })) ∧ (((Prod.fst y2 ≤ nl) ∧ ((¬sel q0 (Prod.fst y2) = []) ∧ ((List.length q37 ≤ Prod.fst y2) ∧ (List.length q37 ≤ Prod.snd y2 + (1 : Nat))))) ∧ (nl - Prod.fst y2 < nl - Prod.fst y0)))))))))))))))))) else (∃ y1 : Value, (∃ y2 : List Blk, ((Go.Rx.Found 1 (rsl (1 : Nat) (0 : Nat) q30 q27) ({ h := [q23, ((1 : Nat), Blk.row false [IntKind.i64] (3 : Nat) q30 q27 q29)], next := (2 : Nat) }) (y1) (y2)) ∧ (K y1 y2))))))))))))
theorem con68_rnE (el nl cl : Nat) (fl : RF) (K : Value → List Blk → Prop) : con68_rnV el nl cl fl K = bodyX (mk X6) (callN (mk X6) 3) (con68_rnA el nl cl fl) Try.f68 [rsl 0 0 nl cl, .slice none 0 0] (stOf [.row true [.i64, .i64] el nl cl fl]) (Fd 1 K) := by kernel_rfl
set_option tactic.hygienic false in
theorem con68_rnP (el nl cl : Nat) (fl : RF) (K : Value → List Blk → Prop)  (hnl : nl ≤ 100000) (h : ((sel (selB 0 zF fl) nl) = [] → K (.slice none 0 0) []) ∧ (¬ (sel (selB 0 zF fl) nl) = [] → ∀ cp, List.length (sel (selB 0 zF fl) nl) ≤ cp → K (rsl 1 0 (List.length (sel (selB 0 zF fl) nl)) cp) [.row false [.i64] 3 (List.length (sel (selB 0 zF fl) nl)) cp (lF (sel (selB 0 zF fl) nl))])) : con68_rnV el nl cl fl K := by
  unfold con68_rnV
  conv => zeta
  repeat' (first | (with_reducible first | exact rfl | exact trivial | refine And.intro ?_ ?_ | refine br_intro (fun hq => ?_) fun hq => ?_ | refine if_both (fun hz => ?_) fun hz => ?_) | (intro) | fail)
  all_goals first
    | omega
    | assumption
    | exact .inl ⟨0, (by (refine And.intro (And.intro rfl (And.intro rfl (And.intro rfl rfl))) ?_; (repeat' (first | exact trivial | exact rfl | exact fun _ _ _ _ => rfl | refine And.intro ?_ ?_ | omega | fail)); done)), by omega, rfl⟩
    | (have hq0 : y1 = false := hq
       have e : sel (selB 0 zF fl) (y0 + 1) = sel (selB 0 zF fl) y0 := sel_no (fun q => by rw [(show y1 = true ↔ ∃ i, i < 0 ∧ zF i 0 = fl y0 0 by assumption).2 (selB_iff.1 q)] at hq0; cases hq0)
       exact .inl ⟨y0 + 1, (by (refine And.intro (And.intro rfl (And.intro rfl (And.intro rfl rfl))) ?_; repeat' (first | exact trivial | exact rfl | exact fun _ _ _ _ => rfl | refine And.intro ?_ ?_ | omega | (show List.length (sel (selB 0 zF fl) (y0 + 1)) = _; first | (rw [e]; done) | (rw [e]; rfl) | (rw [e]; simp; done)) | (show (_ : Nat) - 1 + 1 = _; omega) | (intro i j hi hj; have hi2 : i < List.length (sel (selB 0 zF fl) (y0 + 1)) := hi; rw [e] at hi2; show lF (sel (selB 0 zF fl) (y0 + 1)) i j = _; first | (rw [e]; done) | (rw [e]; refine lF_one ?_ i j (by simpa using hi2) hj; rfl) | (rw [e]; refine lF_app ?_ i j (by simpa using hi2) hj; rfl) | (rw [e]; rfl)) | fail))), ⟨by omega, e.trans (show y0 ≤ nl ∧ sel (selB 0 zF fl) y0 = [] by assumption).2⟩, by omega⟩)
    | (have hq1 : y1 = true := hq
       have e : sel (selB 0 zF fl) (y0 + 1) = [] ++ [(y0 : Int)] := by
         rw [sel_yes (selB_iff.2 ((show y1 = true ↔ ∃ i, i < 0 ∧ zF i 0 = fl y0 0 by assumption).1 hq1)), (show y0 ≤ nl ∧ sel (selB 0 zF fl) y0 = [] by assumption).2]
       exact .inr (.inr (.inl ⟨(y0 + 1, y2 - 1), (by (refine And.intro (And.intro rfl (And.intro rfl (And.intro rfl rfl))) ?_; repeat' (first | exact trivial | exact rfl | exact fun _ _ _ _ => rfl | refine And.intro ?_ ?_ | omega | (show List.length (sel (selB 0 zF fl) (y0 + 1)) = _; first | (rw [e]; done) | (rw [e]; rfl) | (rw [e]; simp; done)) | (show (_ : Nat) - 1 + 1 = _; omega) | (intro i j hi hj; have hi2 : i < List.length (sel (selB 0 zF fl) (y0 + 1)) := hi; rw [e] at hi2; show lF (sel (selB 0 zF fl) (y0 + 1)) i j = _; first | (rw [e]; done) | (rw [e]; refine lF_one ?_ i j (by simpa using hi2) hj; rfl) | (rw [e]; refine lF_app ?_ i j (by simpa using hi2) hj; rfl) | (rw [e]; rfl)) | fail))), ⟨by show y0 + 1 ≤ nl; omega, by rw [e]; simp, by rw [e]; simp, (by rw [e]; show 1 ≤ y2 - 1 + 1; omega)⟩, by show nl - (y0 + 1) < nl - y0; omega⟩)))
    | (have I := (show y0.1 ≤ nl ∧ ¬ sel (selB 0 zF fl) y0.1 = [] ∧ List.length (sel (selB 0 zF fl) y0.1) ≤ y0.1 ∧ List.length (sel (selB 0 zF fl) y0.1) ≤ y0.2 + 1 by assumption)
       have hq0 : y1 = false := hq
       have e : sel (selB 0 zF fl) (y0.1 + 1) = sel (selB 0 zF fl) y0.1 := sel_no (fun q => by rw [(show y1 = true ↔ ∃ i, i < 0 ∧ zF i 0 = fl y0.1 0 by assumption).2 (selB_iff.1 q)] at hq0; cases hq0)
       exact .inr (.inl ⟨(y0.1 + 1, y0.2), (by (refine And.intro (And.intro rfl (And.intro rfl (And.intro rfl rfl))) ?_; repeat' (first | exact trivial | exact rfl | exact fun _ _ _ _ => rfl | refine And.intro ?_ ?_ | omega | (show List.length (sel (selB 0 zF fl) (y0.1 + 1)) = _; first | (rw [e]; done) | (rw [e]; rfl) | (rw [e]; simp; done)) | (show (_ : Nat) - 1 + 1 = _; omega) | (intro i j hi hj; have hi2 : i < List.length (sel (selB 0 zF fl) (y0.1 + 1)) := hi; rw [e] at hi2; show lF (sel (selB 0 zF fl) (y0.1 + 1)) i j = _; first | (rw [e]; done) | (rw [e]; refine lF_one ?_ i j (by simpa using hi2) hj; rfl) | (rw [e]; refine lF_app ?_ i j (by simpa using hi2) hj; rfl) | (rw [e]; rfl)) | fail))), ⟨by show y0.1 + 1 ≤ nl; omega, by rw [e]; exact I.2.1, by rw [e]; show _ ≤ y0.1 + 1; omega, by rw [e]; exact I.2.2.2⟩, by show nl - (y0.1 + 1) < nl - y0.1; omega⟩))
    | (have I := (show y0.1 ≤ nl ∧ ¬ sel (selB 0 zF fl) y0.1 = [] ∧ List.length (sel (selB 0 zF fl) y0.1) ≤ y0.1 ∧ List.length (sel (selB 0 zF fl) y0.1) ≤ y0.2 + 1 by assumption)
       have hq1 : y1 = true := hq
       have e : sel (selB 0 zF fl) (y0.1 + 1) = sel (selB 0 zF fl) y0.1 ++ [(y0.1 : Int)] := sel_yes (selB_iff.2 ((show y1 = true ↔ ∃ i, i < 0 ∧ zF i 0 = fl y0.1 0 by assumption).1 hq1))
       exact .inr (.inr (.inr ⟨(y0.1 + 1, y2 - 1), (by (refine And.intro (And.intro rfl (And.intro rfl (And.intro rfl rfl))) ?_; repeat' (first | exact trivial | exact rfl | exact fun _ _ _ _ => rfl | refine And.intro ?_ ?_ | omega | (show List.length (sel (selB 0 zF fl) (y0.1 + 1)) = _; first | (rw [e]; done) | (rw [e]; rfl) | (rw [e]; simp; done)) | (show (_ : Nat) - 1 + 1 = _; omega) | (intro i j hi hj; have hi2 : i < List.length (sel (selB 0 zF fl) (y0.1 + 1)) := hi; rw [e] at hi2; show lF (sel (selB 0 zF fl) (y0.1 + 1)) i j = _; first | (rw [e]; done) | (rw [e]; refine lF_one ?_ i j (by simpa using hi2) hj; rfl) | (rw [e]; refine lF_app ?_ i j (by simpa using hi2) hj; rfl) | (rw [e]; rfl)) | fail))), ⟨by show y0.1 + 1 ≤ nl; omega, by rw [e]; simp, by rw [e]; simp; omega, by rw [e]; simp; omega⟩, by show nl - (y0.1 + 1) < nl - y0.1; omega⟩)))
    | (have I := (show y0 ≤ nl ∧ sel (selB 0 zF fl) y0 = [] by assumption)
       exact fin0 (by kernel_rfl) (by kernel_rfl) (h.1 (by rw [← I.2]; congr 1; omega)))
    | (have I := (show y0.1 ≤ nl ∧ ¬ sel (selB 0 zF fl) y0.1 = [] ∧ List.length (sel (selB 0 zF fl) y0.1) ≤ y0.1 ∧ List.length (sel (selB 0 zF fl) y0.1) ≤ y0.2 + 1 by assumption)
       have e : y0.1 = nl := by omega
       rw [e] at I ⊢
       exact fin1 (by kernel_rfl) (fun _ _ _ _ => rfl) (h.2 I.2.1 _ I.2.2.2))
def con68_rrV (el nl cl : Nat) (fl : RF) (es ns cs : Nat) (fs : RF) (K : Value → List Blk → Prop) : Prop := let q0 := ((0 : Nat) + ns ≤ ns); let q1 := (ns ≤ (100000 : Nat)); let q2 := ((2 : Nat), (5 : Nat)); let q3 := ((2 : Nat), (4 : Nat)); let q4 := ((2 : Nat), (2 : Nat)); let q5 := ((1 : Nat) ≤ (1 : Nat)); let q6 := eB; let q7 := (9223372036854775807 : Int); let q8 := (List.length [IntKind.i64]); let q9 := (-9223372036854775808 : Int); let q10 := ((1 : Nat) ≤ (100000 : Nat)); let q11 := (@Eq Nat ((0 : Nat)) ((0 : Nat))); let q12 := (@Eq Nat ((2 : Nat)) ((2 : Nat))); let q13 := (1, rsl (1 : Nat) (0 : Nat) ns cs); let q14 := (8, rsl (0 : Nat) (0 : Nat) nl cl); let q15 := (10, vi (0 : Int)); let q16 := (9, vi (↑nl : Int)); let q17 := TS; let q18 := (5, vn); let q19 := ((1 : Nat), rsl (1 : Nat) (0 : Nat) ns cs); let q20 := ((8 : Nat), rsl (0 : Nat) (0 : Nat) nl cl); let q21 := (1, Blk.row true [IntKind.i64] es ns cs fs); let q22 := ((9 : Nat), vi (↑nl : Int)); let q23 := ((5 : Nat), vn); let q24 := ((1 : Nat), Blk.row true [IntKind.i64] es ns cs fs); let q25 := (0, rT el nl cl fl); let q26 := ((0 : Nat), rT el nl cl fl); let q27 := (q11 ∧ q12); let q28 := (q17 ∧ q12); let q29 := ((@Eq (List IntKind) ([IntKind.i64]) ([IntKind.i64])) ∧ ((@Eq Nat (ns) (ns)) ∧ (@Eq Nat (cs) (cs)))); (T0 ∧ (q17 ∧ (((∃ y0 : Nat, ((Go.Rx.Sub 2 [] ⟨25, [q15, q16, q14, q18, q13]⟩ ⟨[q25, q21], 2⟩ ({ n := (25 : Nat), m := [q19, q20, q22, ((10 : Nat), vi (↑y0 : Int)), q23] }) ({ h := [q26, q24], next := (2 : Nat) })) ∧ ((y0 ≤ nl) ∧ (sel (selB ns fs fl) y0 = [])))) ∨ (∃ y0 : Nat × Nat, let q83 := (Prod.snd y0 + (1 : Nat)); let q84 := (sel (selB ns fs fl) (Prod.fst y0)); let q85 := (List.length q84); ((Go.Rx.Sub 2 [q4] ⟨25, [q15, q16, q14, q18, q13]⟩ ⟨[q25, q21], 2⟩ ({ n := (25 : Nat), m := [q19, q20, q22, ((10 : Nat), vi (↑(Prod.fst y0) : Int)), ((5 : Nat), rsl (2 : Nat) (0 : Nat) q85 q83)] }) ({ h := [q26, q24, ((2 : Nat), Blk.row false [IntKind.i64] (3 : Nat) q85 q83 (lF q84))], next := (3 : Nat) })) ∧ ((Prod.fst y0 ≤ nl) ∧ ((¬sel (selB ns fs fl) (Prod.fst y0) = []) ∧ ((List.length q84 ≤ Prod.fst y0) ∧ (List.length q84 ≤ Prod.snd y0 + (1 : Nat)))))))) ∧ ((∀ y0 : Nat, let q60 := (10, vi ((↑y0 : Int) + (1 : Int))); let q61 := (2, Blk.cells [vi (fl y0 (0 : Nat)), vi (fl y0 (1 : Nat))] (54 : Nat)); let q62 := ((q9 ≤ (↑y0 : Int) + (1 : Int)) ∧ ((↑y0 : Int) + (1 : Int) ≤ q7)); (((y0 ≤ nl) ∧ (sel (selB ns fs fl) y0 = [])) → (T0 ∧ (if ((↑y0 : Int) < (↑nl : Int)) then (q28 ∧ ((((0 : Int) ≤ (↑y0 : Int)) ∧ ((↑y0 : Int) < (↑nl : Int))) ∧ ((y0 < nl) ∧ (q27 ∧ (t3 (q0 ∧ (T0 ∧ (q11 ∧ (q1 ∧ (q29 ∧ (q6 ∧ (∀ y1 : Bool, ((y1 = true ↔ ∃ i, i < ns ∧ fs i (0 : Nat) = fl y0 (0 : Nat)) → (Go.Rx.br (y1) (q17 ∧ (t4 (q17 ∧ (q17 ∧ (t4 (q5 ∧ (q10 ∧ (∀ y2 : Nat, let q75 := (y2 - (1 : Nat) + (1 : Nat)); let q76 := (5, rsl (4 : Nat) (0 : Nat) (1 : Nat) q75); (((1 : Nat) ≤ y2) → (T0 ∧ (q62 ∧ ((∃ y3 : Nat, ((Go.Rx.Sub 2 [] ⟨25, [q60, q76, q13, q14, q16]⟩ ⟨[q25, q21], 5⟩ ({ n := (25 : Nat), m := [q19, q20, q22, ((10 : Nat), vi (↑y3 : Int)), q23] }) ({ h := [q26, q24], next := (2 : Nat) })) ∧ (((y3 ≤ nl) ∧ (sel (selB ns fs fl) y3 = [])) ∧ (nl - y3 < nl - y0)))) ∨ ((∃ y3 : Nat × Nat, let q80 := (Prod.snd y3 + (1 : Nat)); let q81 := (sel (selB ns fs fl) (Prod.fst y3)); let q82 := (List.length q81); ((Go.Rx.Sub 2 [q4] ⟨25, [q60, q76, q13, q14, q16]⟩ ⟨[q61, q25, q21], 5⟩ ({ n := (25 : Nat), m := [q19, q20, q22, ((10 : Nat), vi (↑(Prod.fst y3) : Int)), ((5 : Nat), rsl (2 : Nat) (0 : Nat) q82 q80)] }) ({ h := [q26, q24, ((2 : Nat), Blk.row false [IntKind.i64] (3 : Nat) q82 q80 (lF q81))], next := (3 : Nat) })) ∧ (((Prod.fst y3 ≤ nl) ∧ ((¬sel (selB ns fs fl) (Prod.fst y3) = []) ∧ ((List.length q81 ≤ Prod.fst y3) ∧ (List.length q81 ≤ Prod.snd y3 + (1 : Nat))))) ∧ (nl - Prod.fst y3 < nl - y0)))) ∨ ((∃ y3 : Nat × Nat, let q77 := (Prod.snd y3 + (1 : Nat)); let q78 := (sel (selB ns fs fl) (Prod.fst y3)); let q79 := (List.length q78); ((Go.Rx.Sub 2 [q3] ⟨25, [q60, q76, q13, q14, q16]⟩ ⟨[(4, Blk.row false [IntKind.i64] (3 : Nat) (1 : Nat) q75 (appF (fun x x_1 ↦ (0 : Int)) (0 : Nat) (litF q8 ([(↑y0 : Int)] ++ [])) (0 : Nat))), q25, q21], 5⟩ ({ n := (25 : Nat), m := [q19, q20, q22, ((10 : Nat), vi (↑(Prod.fst y3) : Int)), ((5 : Nat), rsl (2 : Nat) (0 : Nat) q79 q77)] }) ({ h := [q26, q24, ((2 : Nat), Blk.row false [IntKind.i64] (3 : Nat) q79 q77 (lF q78))], next := (3 : Nat) })) ∧ (((Prod.fst y3 ≤ nl) ∧ ((¬sel (selB ns fs fl) (Prod.fst y3) = []) ∧ ((List.length q78 ≤ Prod.fst y3) ∧ (List.length q78 ≤ Prod.snd y3 + (1 : Nat))))) ∧ (nl - Prod.fst y3 < nl - y0)))) ∨ (∃ y3 : Nat × Nat, let q72 := (Prod.snd y3 + (1 : Nat)); let q73 := (sel (selB ns fs fl) (Prod.fst y3)); let q74 := (List.length q73); ((Go.Rx.Sub 2 [q2] ⟨25, [q60, q76, q13, q14, q16]⟩ ⟨[q25, q21], 5⟩ ({ n := (25 : Nat), m := [q19, q20, q22, ((10 : Nat), vi (↑(Prod.fst y3) : Int)), ((5 : Nat), rsl (2 : Nat) (0 : Nat) q74 q72)] }) ({ h := [q26, q24, ((2 : Nat), Blk.row false [IntKind.i64] (3 : Nat) q74 q72 (lF q73))], next := (3 : Nat) })) ∧ (((Prod.fst y3 ≤ nl) ∧ ((¬sel (selB ns fs fl) (Prod.fst y3) = []) ∧ ((List.length q73 ≤ Prod.fst y3) ∧ (List.length q73 ≤ Prod.snd y3 + (1 : Nat))))) ∧ (nl - Prod.fst y3 < nl - y0)))))))))))))))))) (T0 ∧ (q62 ∧ ((∃ y2 : Nat, ((Go.Rx.Sub 2 [] ⟨25, [q60, q13, q14, q16, q18]⟩ ⟨[q25, q21], 3⟩ ({ n := (25 : Nat), m := [q19, q20, q22, ((10 : Nat), vi (↑y2 : Int)), q23] }) ({ h := [q26, q24], next := (2 : Nat) })) ∧ (((y2 ≤ nl) ∧ (sel (selB ns fs fl) y2 = [])) ∧ (nl - y2 < nl - y0)))) ∨ ((∃ y2 : Nat × Nat, let q69 := (Prod.snd y2 + (1 : Nat)); let q70 := (sel (selB ns fs fl) (Prod.fst y2)); let q71 := (List.length q70); ((Go.Rx.Sub 2 [q4] ⟨25, [q60, q13, q14, q16, q18]⟩ ⟨[q61, q25, q21], 3⟩ ({ n := (25 : Nat), m := [q19, q20, q22, ((10 : Nat), vi (↑(Prod.fst y2) : Int)), ((5 : Nat), rsl (2 : Nat) (0 : Nat) q71 q69)] }) ({ h := [q26, q24, ((2 : Nat), Blk.row false [IntKind.i64] (3 : Nat) q71 q69 (lF q70))], next := (3 : Nat) })) ∧ (((Prod.fst y2 ≤ nl) ∧ ((¬sel (selB ns fs fl) (Prod.fst y2) = []) ∧ ((List.length q70 ≤ Prod.fst y2) ∧ (List.length q70 ≤ Prod.snd y2 + (1 : Nat))))) ∧ (nl - Prod.fst y2 < nl - y0)))) ∨ ((∃ y2 : Nat × Nat, let q66 := (Prod.snd y2 + (1 : Nat)); let q67 := (sel (selB ns fs fl) (Prod.fst y2)); let q68 := (List.length q67); ((Go.Rx.Sub 2 [q3] ⟨25, [q60, q13, q14, q16, q18]⟩ ⟨[q25, q21], 3⟩ ({ n := (25 : Nat), m := [q19, q20, q22, ((10 : Nat), vi (↑(Prod.fst y2) : Int)), ((5 : Nat), rsl (2 : Nat) (0 : Nat) q68 q66)] }) ({ h := [q26, q24, ((2 : Nat), Blk.row false [IntKind.i64] (3 : Nat) q68 q66 (lF q67))], next := (3 : Nat) })) ∧ (((Prod.fst y2 ≤ nl) ∧ ((¬sel (selB ns fs fl) (Prod.fst y2) = []) ∧ ((List.length q67 ≤ Prod.fst y2) ∧ (List.length q67 ≤ Prod.snd y2 + (1 : Nat))))) ∧ (nl - Prod.fst y2 < nl - y0)))) ∨ (∃ y2 : Nat × Nat, let q63 := (Prod.snd y2 + (1 : Nat)); let q64 := (sel (selB ns fs fl) (Prod.fst y2)); let q65 := (List.length q64); ((Go.Rx.Sub 2 [q2] ⟨25, [q60, q13, q14, q16, q18]⟩ ⟨[q25, q21], 3⟩ ({ n := (25 : Nat), m := [q19, q20, q22, ((10 : Nat), vi (↑(Prod.fst y2) : Int)), ((5 : Nat), rsl (2 : Nat) (0 : Nat) q65 q63)] }) ({ h := [q26, q24, ((2 : Nat), Blk.row false [IntKind.i64] (3 : Nat) q65 q63 (lF q64))], next := (3 : Nat) })) ∧ (((Prod.fst y2 ≤ nl) ∧ ((¬sel (selB ns fs fl) (Prod.fst y2) = []) ∧ ((List.length q64 ≤ Prod.fst y2) ∧ (List.length q64 ≤ Prod.snd y2 + (1 : Nat))))) ∧ (nl - Prod.fst y2 < nl - y0))))))))))))))))))))))) else (∃ y1 : Value, (∃ y2 : List Blk, ((Go.Rx.Found 2 (vn) ({ h := [q26, q24], next := (2 : Nat) }) (y1) (y2)) ∧ (K y1 y2)))))))) ∧ (∀ y0 : Nat × Nat, let q30 := (↑(Prod.fst y0) : Int); let q31 := (Prod.snd y0 + (1 : Nat)); let q32 := (sel (selB ns fs fl) (Prod.fst y0)); let q33 := (lF q32); let q34 := (List.length q32); let q35 := (List.length q32 + (1 : Nat)); let q36 := (10, vi (q30 + (1 : Int))); let q37 := (litF q8 ([q30] ++ [])); let q38 := (5, rsl (2 : Nat) (0 : Nat) q34 q31); let q39 := ((q9 ≤ q30 + (1 : Int)) ∧ (q30 + (1 : Int) ≤ q7)); (((Prod.fst y0 ≤ nl) ∧ ((¬sel (selB ns fs fl) (Prod.fst y0) = []) ∧ ((List.length q32 ≤ Prod.fst y0) ∧ (List.length q32 ≤ Prod.snd y0 + (1 : Nat))))) → (T0 ∧ (if (q30 < (↑nl : Int)) then (q28 ∧ ((((0 : Int) ≤ q30) ∧ (q30 < (↑nl : Int))) ∧ ((Prod.fst y0 < nl) ∧ (q27 ∧ (t3 (q0 ∧ (T0 ∧ (q11 ∧ (q1 ∧ (q29 ∧ (q6 ∧ (∀ y1 : Bool, ((y1 = true ↔ ∃ i, i < ns ∧ fs i (0 : Nat) = fl (Prod.fst y0) (0 : Nat)) → (Go.Rx.br (y1) (q17 ∧ (t4 (q17 ∧ (q17 ∧ (t4 (q5 ∧ (q10 ∧ (T0 ∧ ((T0 ∧ ((false = false) ∧ (q11 ∧ ((@Eq Nat q34 q34) ∧ ((@Eq Nat q31 q31) ∧ (List.length q32 + (1 : Nat) ≤ (100000 : Nat))))))) ∧ (∀ y2 : Nat, let q52 := (y2 - (1 : Nat) + (1 : Nat)); let q53 := (5, rsl (5 : Nat) (0 : Nat) q35 q52); ((List.length q32 + (1 : Nat) ≤ y2) → (T0 ∧ (q39 ∧ ((∃ y3 : Nat, ((Go.Rx.Sub 2 [] ⟨25, [q36, q53, q13, q14, q16]⟩ ⟨[q25, q21], 6⟩ ({ n := (25 : Nat), m := [q19, q20, q22, ((10 : Nat), vi (↑y3 : Int)), q23] }) ({ h := [q26, q24], next := (2 : Nat) })) ∧ (((y3 ≤ nl) ∧ (sel (selB ns fs fl) y3 = [])) ∧ (nl - y3 < nl - Prod.fst y0)))) ∨ ((∃ y3 : Nat × Nat, let q57 := (Prod.snd y3 + (1 : Nat)); let q58 := (sel (selB ns fs fl) (Prod.fst y3)); let q59 := (List.length q58); ((Go.Rx.Sub 2 [q4] ⟨25, [q36, q53, q13, q14, q16]⟩ ⟨[q25, q21], 6⟩ ({ n := (25 : Nat), m := [q19, q20, q22, ((10 : Nat), vi (↑(Prod.fst y3) : Int)), ((5 : Nat), rsl (2 : Nat) (0 : Nat) q59 q57)] }) ({ h := [q26, q24, ((2 : Nat), Blk.row false [IntKind.i64] (3 : Nat) q59 q57 (lF q58))], next := (3 : Nat) })) ∧ (((Prod.fst y3 ≤ nl) ∧ ((¬sel (selB ns fs fl) (Prod.fst y3) = []) ∧ ((List.length q58 ≤ Prod.fst y3) ∧ (List.length q58 ≤ Prod.snd y3 + (1 : Nat))))) ∧ (nl - Prod.fst y3 < nl - Prod.fst y0)))) ∨ ((∃ y3 : Nat × Nat, let q54 := (Prod.snd y3 + (1 : Nat)); let q55 := (sel (selB ns fs fl) (Prod.fst y3)); let q56 := (List.length q55); ((Go.Rx.Sub 2 [q3] ⟨25, [q36, q53, q13, q14, q16]⟩ ⟨[(4, Blk.row false [IntKind.i64] (3 : Nat) (1 : Nat) (1 : Nat) q37), q25, q21], 6⟩ ({ n := (25 : Nat), m := [q19, q20, q22, ((10 : Nat), vi (↑(Prod.fst y3) : Int)), ((5 : Nat), rsl (2 : Nat) (0 : Nat) q56 q54)] }) ({ h := [q26, q24, ((2 : Nat), Blk.row false [IntKind.i64] (3 : Nat) q56 q54 (lF q55))], next := (3 : Nat) })) ∧ (((Prod.fst y3 ≤ nl) ∧ ((¬sel (selB ns fs fl) (Prod.fst y3) = []) ∧ ((List.length q55 ≤ Prod.fst y3) ∧ (List.length q55 ≤ Prod.snd y3 + (1 : Nat))))) ∧ (nl - Prod.fst y3 < nl - Prod.fst y0)))) ∨ (∃ y3 : Nat × Nat, let q49 := (Prod.snd y3 + (1 : Nat)); let q50 := (sel (selB ns fs fl) (Prod.fst y3)); let q51 := (List.length q50); ((Go.Rx.Sub 2 [q2] ⟨25, [q36, q53, q13, q14, q16]⟩ ⟨[(5, Blk.row false [IntKind.i64] (3 : Nat) q35 q52 (appF q33 q34 q37 (0 : Nat))), q25, q21], 6⟩ ({ n := (25 : Nat), m := [q19, q20, q22, ((10 : Nat), vi (↑(Prod.fst y3) : Int)), ((5 : Nat), rsl (2 : Nat) (0 : Nat) q51 q49)] }) ({ h := [q26, q24, ((2 : Nat), Blk.row false [IntKind.i64] (3 : Nat) q51 q49 (lF q50))], next := (3 : Nat) })) ∧ (((Prod.fst y3 ≤ nl) ∧ ((¬sel (selB ns fs fl) (Prod.fst y3) = []) ∧ ((List.length q50 ≤ Prod.fst y3) ∧ (List.length q50 ≤ Prod.snd y3 + (1 : Nat))))) ∧ (nl - Prod.fst y3 < nl - Prod.fst y0)))))))))))))))))))) (T0 ∧ (q39 ∧ ((∃ y2 : Nat, ((Go.Rx.Sub 2 [] ⟨25, [q36, q13, q14, q16, q38]⟩ ⟨[q25, q21], 4⟩ ({ n := (25 : Nat), m := [q19, q20, q22, ((10 : Nat), vi (↑y2 : Int)), q23] }) ({ h := [q26, q24], next := (2 : Nat) })) ∧ (((y2 ≤ nl) ∧ (sel (selB ns fs fl) y2 = [])) ∧ (nl - y2 < nl - Prod.fst y0)))) ∨ ((∃ y2 : Nat × Nat, let q46 := (Prod.snd y2 + (1 : Nat)); let q47 := (sel (selB ns fs fl) (Prod.fst y2)); let q48 := (List.length q47); ((Go.Rx.Sub 2 [q4] ⟨25, [q36, q13, q14, q16, q38]⟩ ⟨[q25, q21, (2, Blk.row false [IntKind.i64] (3 : Nat) q34 q31 q33)], 4⟩ ({ n := (25 : Nat), m := [q19, q20, q22, ((10 : Nat), vi (↑(Prod.fst y2) : Int)), ((5 : Nat), rsl (2 : Nat) (0 : Nat) q48 q46)] }) ({ h := [q26, q24, ((2 : Nat), Blk.row false [IntKind.i64] (3 : Nat) q48 q46 (lF q47))], next := (3 : Nat) })) ∧ (((Prod.fst y2 ≤ nl) ∧ ((¬sel (selB ns fs fl) (Prod.fst y2) = []) ∧ ((List.length q47 ≤ Prod.fst y2) ∧ (List.length q47 ≤ Prod.snd y2 + (1 : Nat))))) ∧ (nl - Prod.fst y2 < nl - Prod.fst y0)))) ∨ ((∃ y2 : Nat × Nat, let q43 := (Prod.snd y2 + (1 : Nat)); let q44 := (sel (selB ns fs fl) (Prod.fst y2)); let q45 := (List.length q44); ((Go.Rx.Sub 2 [q3] ⟨25, [q36, q13, q14, q16, q38]⟩ ⟨[q25, q21], 4⟩ ({ n := (25 : Nat), m := [q19, q20, q22, ((10 : Nat), vi (↑(Prod.fst y2) : Int)), ((5 : Nat), rsl (2 : Nat) (0 : Nat) q45 q43)] }) ({ h := [q26, q24, ((2 : Nat), Blk.row false [IntKind.i64] (3 : Nat) q45 q43 (lF q44))], next := (3 : Nat) })) ∧ (((Prod.fst y2 ≤ nl) ∧ ((¬sel (selB ns fs fl) (Prod.fst y2) = []) ∧ ((List.length q44 ≤ Prod.fst y2) ∧ (List.length q44 ≤ Prod.snd y2 + (1 : Nat))))) ∧ (nl - Prod.fst y2 < nl - Prod.fst y0)))) ∨ (∃ y2 : Nat × Nat, let q40 := (Prod.snd y2 + (1 : Nat)); let q41 := (sel (selB ns fs fl) (Prod.fst y2)); let q42 := (List.length q41); ((Go.Rx.Sub 2 [q2] ⟨25, [q36, q13, q14, q16, q38]⟩ ⟨[q25, q21], 4⟩ ({ n := (25 : Nat), m := [q19, q20, q22, ((10 : Nat), vi (↑(Prod.fst y2) : Int)), ((5 : Nat), rsl (2 : Nat) (0 : Nat) q42 q40)] }) ({ h := [q26, q24, ((2 : Nat), Blk.row false [IntKind.i64] (3 : Nat) q42 q40 (lF q41))], next := (3 : Nat) })) ∧ (((Prod.fst y2 ≤ nl) ∧ ((¬sel (selB ns fs fl) (Prod.fst y2) = []) ∧ ((List.length q41 ≤ Prod.fst y2) ∧ (List.length q41 ≤ Prod.snd y2 + (1 : Nat))))) ∧ (nl - Prod.fst y2 < nl - Prod.fst y0))))))))))))))))))))))) else (∃ y1 : Value, (∃ y2 : List Blk, ((Go.Rx.Found 2 (rsl (2 : Nat) (0 : Nat) q34 q31) ({ h := [q26, q24, ((2 : Nat), Blk.row false [IntKind.i64] (3 : Nat) q34 q31 q33)], next := (3 : Nat) }) (y1) (y2)) ∧ (K y1 y2))))))))))))
theorem con68_rrE (el nl cl : Nat) (fl : RF) (es ns cs : Nat) (fs : RF) (K : Value → List Blk → Prop) : con68_rrV el nl cl fl es ns cs fs K = bodyX (mk X6) (callN (mk X6) 3) (con68_rrA el nl cl fl es ns cs fs) Try.f68 [rsl 0 0 nl cl, rsl 1 0 ns cs] (stOf [.row true [.i64, .i64] el nl cl fl, .row true [.i64] es ns cs fs]) (Fd 2 K) := by kernel_rfl
set_option tactic.hygienic false in
theorem con68_rrP (el nl cl : Nat) (fl : RF) (es ns cs : Nat) (fs : RF) (K : Value → List Blk → Prop)  (hnl : nl ≤ 100000) (hns : ns ≤ 100000) (h : ((sel (selB ns fs fl) nl) = [] → K (.slice none 0 0) []) ∧ (¬ (sel (selB ns fs fl) nl) = [] → ∀ cp, List.length (sel (selB ns fs fl) nl) ≤ cp → K (rsl 2 0 (List.length (sel (selB ns fs fl) nl)) cp) [.row false [.i64] 3 (List.length (sel (selB ns fs fl) nl)) cp (lF (sel (selB ns fs fl) nl))])) : con68_rrV el nl cl fl es ns cs fs K := by
  unfold con68_rrV
  conv => zeta
  repeat' (first | (with_reducible first | exact rfl | exact trivial | refine And.intro ?_ ?_ | refine br_intro (fun hq => ?_) fun hq => ?_ | refine if_both (fun hz => ?_) fun hz => ?_) | (intro) | fail)
  all_goals first
    | omega
    | assumption
    | exact .inl ⟨0, (by (refine And.intro (And.intro rfl (And.intro rfl (And.intro rfl rfl))) ?_; (repeat' (first | exact trivial | exact rfl | exact fun _ _ _ _ => rfl | refine And.intro ?_ ?_ | omega | fail)); done)), by omega, rfl⟩
    | (have hq0 : y1 = false := hq
       have e : sel (selB ns fs fl) (y0 + 1) = sel (selB ns fs fl) y0 := sel_no (fun q => by rw [(show y1 = true ↔ ∃ i, i < ns ∧ fs i 0 = fl y0 0 by assumption).2 (selB_iff.1 q)] at hq0; cases hq0)
       exact .inl ⟨y0 + 1, (by (refine And.intro (And.intro rfl (And.intro rfl (And.intro rfl rfl))) ?_; repeat' (first | exact trivial | exact rfl | exact fun _ _ _ _ => rfl | refine And.intro ?_ ?_ | omega | (show List.length (sel (selB ns fs fl) (y0 + 1)) = _; first | (rw [e]; done) | (rw [e]; rfl) | (rw [e]; simp; done)) | (show (_ : Nat) - 1 + 1 = _; omega) | (intro i j hi hj; have hi2 : i < List.length (sel (selB ns fs fl) (y0 + 1)) := hi; rw [e] at hi2; show lF (sel (selB ns fs fl) (y0 + 1)) i j = _; first | (rw [e]; done) | (rw [e]; refine lF_one ?_ i j (by simpa using hi2) hj; rfl) | (rw [e]; refine lF_app ?_ i j (by simpa using hi2) hj; rfl) | (rw [e]; rfl)) | fail))), ⟨by omega, e.trans (show y0 ≤ nl ∧ sel (selB ns fs fl) y0 = [] by assumption).2⟩, by omega⟩)
    | (have hq1 : y1 = true := hq
       have e : sel (selB ns fs fl) (y0 + 1) = [] ++ [(y0 : Int)] := by
         rw [sel_yes (selB_iff.2 ((show y1 = true ↔ ∃ i, i < ns ∧ fs i 0 = fl y0 0 by assumption).1 hq1)), (show y0 ≤ nl ∧ sel (selB ns fs fl) y0 = [] by assumption).2]
       exact .inr (.inr (.inl ⟨(y0 + 1, y2 - 1), (by (refine And.intro (And.intro rfl (And.intro rfl (And.intro rfl rfl))) ?_; repeat' (first | exact trivial | exact rfl | exact fun _ _ _ _ => rfl | refine And.intro ?_ ?_ | omega | (show List.length (sel (selB ns fs fl) (y0 + 1)) = _; first | (rw [e]; done) | (rw [e]; rfl) | (rw [e]; simp; done)) | (show (_ : Nat) - 1 + 1 = _; omega) | (intro i j hi hj; have hi2 : i < List.length (sel (selB ns fs fl) (y0 + 1)) := hi; rw [e] at hi2; show lF (sel (selB ns fs fl) (y0 + 1)) i j = _; first | (rw [e]; done) | (rw [e]; refine lF_one ?_ i j (by simpa using hi2) hj; rfl) | (rw [e]; refine lF_app ?_ i j (by simpa using hi2) hj; rfl) | (rw [e]; rfl)) | fail))), ⟨by show y0 + 1 ≤ nl; omega, by rw [e]; simp, by rw [e]; simp, (by rw [e]; show 1 ≤ y2 - 1 + 1; omega)⟩, by show nl - (y0 + 1) < nl - y0; omega⟩)))
    | (have I := (show y0.1 ≤ nl ∧ ¬ sel (selB ns fs fl) y0.1 = [] ∧ List.length (sel (selB ns fs fl) y0.1) ≤ y0.1 ∧ List.length (sel (selB ns fs fl) y0.1) ≤ y0.2 + 1 by assumption)
       have hq0 : y1 = false := hq
       have e : sel (selB ns fs fl) (y0.1 + 1) = sel (selB ns fs fl) y0.1 := sel_no (fun q => by rw [(show y1 = true ↔ ∃ i, i < ns ∧ fs i 0 = fl y0.1 0 by assumption).2 (selB_iff.1 q)] at hq0; cases hq0)
       exact .inr (.inl ⟨(y0.1 + 1, y0.2), (by (refine And.intro (And.intro rfl (And.intro rfl (And.intro rfl rfl))) ?_; repeat' (first | exact trivial | exact rfl | exact fun _ _ _ _ => rfl | refine And.intro ?_ ?_ | omega | (show List.length (sel (selB ns fs fl) (y0.1 + 1)) = _; first | (rw [e]; done) | (rw [e]; rfl) | (rw [e]; simp; done)) | (show (_ : Nat) - 1 + 1 = _; omega) | (intro i j hi hj; have hi2 : i < List.length (sel (selB ns fs fl) (y0.1 + 1)) := hi; rw [e] at hi2; show lF (sel (selB ns fs fl) (y0.1 + 1)) i j = _; first | (rw [e]; done) | (rw [e]; refine lF_one ?_ i j (by simpa using hi2) hj; rfl) | (rw [e]; refine lF_app ?_ i j (by simpa using hi2) hj; rfl) | (rw [e]; rfl)) | fail))), ⟨by show y0.1 + 1 ≤ nl; omega, by rw [e]; exact I.2.1, by rw [e]; show _ ≤ y0.1 + 1; omega, by rw [e]; exact I.2.2.2⟩, by show nl - (y0.1 + 1) < nl - y0.1; omega⟩))
    | (have I := (show y0.1 ≤ nl ∧ ¬ sel (selB ns fs fl) y0.1 = [] ∧ List.length (sel (selB ns fs fl) y0.1) ≤ y0.1 ∧ List.length (sel (selB ns fs fl) y0.1) ≤ y0.2 + 1 by assumption)
       have hq1 : y1 = true := hq
       have e : sel (selB ns fs fl) (y0.1 + 1) = sel (selB ns fs fl) y0.1 ++ [(y0.1 : Int)] := sel_yes (selB_iff.2 ((show y1 = true ↔ ∃ i, i < ns ∧ fs i 0 = fl y0.1 0 by assumption).1 hq1))
       exact .inr (.inr (.inr ⟨(y0.1 + 1, y2 - 1), (by (refine And.intro (And.intro rfl (And.intro rfl (And.intro rfl rfl))) ?_; repeat' (first | exact trivial | exact rfl | exact fun _ _ _ _ => rfl | refine And.intro ?_ ?_ | omega | (show List.length (sel (selB ns fs fl) (y0.1 + 1)) = _; first | (rw [e]; done) | (rw [e]; rfl) | (rw [e]; simp; done)) | (show (_ : Nat) - 1 + 1 = _; omega) | (intro i j hi hj; have hi2 : i < List.length (sel (selB ns fs fl) (y0.1 + 1)) := hi; rw [e] at hi2; show lF (sel (selB ns fs fl) (y0.1 + 1)) i j = _; first | (rw [e]; done) | (rw [e]; refine lF_one ?_ i j (by simpa using hi2) hj; rfl) | (rw [e]; refine lF_app ?_ i j (by simpa using hi2) hj; rfl) | (rw [e]; rfl)) | fail))), ⟨by show y0.1 + 1 ≤ nl; omega, by rw [e]; simp, by rw [e]; simp; omega, by rw [e]; simp; omega⟩, by show nl - (y0.1 + 1) < nl - y0.1; omega⟩)))
    | (have I := (show y0 ≤ nl ∧ sel (selB ns fs fl) y0 = [] by assumption)
       exact fin0 (by kernel_rfl) (by kernel_rfl) (h.1 (by rw [← I.2]; congr 1; omega)))
    | (have I := (show y0.1 ≤ nl ∧ ¬ sel (selB ns fs fl) y0.1 = [] ∧ List.length (sel (selB ns fs fl) y0.1) ≤ y0.1 ∧ List.length (sel (selB ns fs fl) y0.1) ≤ y0.2 + 1 by assumption)
       have e : y0.1 = nl := by omega
       rw [e] at I ⊢
       exact fin1 (by kernel_rfl) (fun _ _ _ _ => rfl) (h.2 I.2.1 _ I.2.2.2))
theorem con68_ok : BodyOk (mk X6) 3 Try.f68 con68 := by
  intro vs bs K hh hro
  clear hro
  unfold con68 at hh
  split at hh
  · rcases parse_inv hh with ⟨rfl, hh0⟩ | ⟨el, nl, cl, fl, bs0, rfl, hnl, rfl, hh0⟩ <;> clear hh
    · rcases parse_inv hh0 with ⟨rfl, hh1⟩ | ⟨es, ns, cs, fs, bs1, rfl, hns, rfl, hh1⟩ <;> clear hh0
      · obtain ⟨rfl, hc⟩ := hh1
        exact ⟨_, _, cast (con68_nnE  K) (con68_nnP  K  hc)⟩
      · obtain ⟨rfl, hc⟩ := hh1
        exact ⟨_, _, cast (con68_nrE es ns cs fs K) (con68_nrP es ns cs fs K hns hc)⟩
    · rcases parse_inv hh0 with ⟨rfl, hh1⟩ | ⟨es, ns, cs, fs, bs1, rfl, hns, rfl, hh1⟩ <;> clear hh0
      · obtain ⟨rfl, hc⟩ := hh1
        exact ⟨_, _, cast (con68_rnE el nl cl fl K) (con68_rnP el nl cl fl K hnl hc)⟩
      · obtain ⟨rfl, hc⟩ := hh1
        exact ⟨_, _, cast (con68_rrE el nl cl fl es ns cs fs K) (con68_rrP el nl cl fl es ns cs fs K hnl hns hc)⟩
  · exact hh.elim
theorem con68_told : Told 68 (specOf con68) := told (X := X6) (X6_told) (by kernel_rfl) (by kernel_rfl) (by kernel_rfl) con68_ok
end Go.Proofs.Ytkflmglpniebfaa.Fr
namespace Go.Proofs.Ytkflmglpniebfaa.Fr
set_option maxRecDepth 100000
set_option maxHeartbeats 4000000
open Go.Rx
open Go.RowKit (Below)
set_option linter.unusedVariables false
def conInts : Con := fun vs bs K => match vs with
  | [u, v] => parse [.i64] 0 u bs fun n f j bs => parse [.i64] j v bs fun m g _ bs => bs = [] ∧ ∀ b, (b = true ↔ n = m ∧ ∀ i, i < n → f i 0 = g i 0) → K (.bool b) []
  | _ => False

def conInts_nnA  : Ann := fun k _ _ => bif Nat.beq k 4 then some [{ α := Nat, T := fun k => ⟨26, [(0, .slice none 0 0), (1, .slice none 0 0), (5, .int .i64 (k : Int))]⟩, S := fun _ => ⟨[], 0⟩, I := fun k => k ≤ 0 ∧ ∀ i, i < k → (zF i 0 = zF i 0), m := fun k => 0 - k, ρ0 := [], ρ1 := [[]] }] else none
def conInts_nrA (eb nb cb : Nat) (fb : RF) : Ann := fun k _ _ => bif Nat.beq k 4 then some [{ α := Nat, T := fun k => ⟨26, [(0, .slice none 0 0), (1, rsl 0 0 nb cb), (5, .int .i64 (k : Int))]⟩, S := fun _ => ⟨[(0, .row true [.i64] eb nb cb fb)], 1⟩, I := fun k => k ≤ 0 ∧ ∀ i, i < k → (zF i 0 = fb i 0), m := fun k => 0 - k, ρ0 := [], ρ1 := [[]] }] else none
def conInts_rnA (ea na ca : Nat) (fa : RF) : Ann := fun k _ _ => bif Nat.beq k 4 then some [{ α := Nat, T := fun k => ⟨26, [(0, rsl 0 0 na ca), (1, .slice none 0 0), (5, .int .i64 (k : Int))]⟩, S := fun _ => ⟨[(0, .row true [.i64] ea na ca fa)], 1⟩, I := fun k => k ≤ na ∧ ∀ i, i < k → (fa i 0 = zF i 0), m := fun k => na - k, ρ0 := [], ρ1 := [[]] }] else none
def conInts_rrA (ea na ca : Nat) (fa : RF) (eb nb cb : Nat) (fb : RF) : Ann := fun k _ _ => bif Nat.beq k 4 then some [{ α := Nat, T := fun k => ⟨26, [(0, rsl 0 0 na ca), (1, rsl 1 0 nb cb), (5, .int .i64 (k : Int))]⟩, S := fun _ => ⟨[(0, .row true [.i64] ea na ca fa), (1, .row true [.i64] eb nb cb fb)], 2⟩, I := fun k => k ≤ na ∧ ∀ i, i < k → (fa i 0 = fb i 0), m := fun k => na - k, ρ0 := [], ρ1 := [[]] }] else none
def conSame : Con := fun vs bs K => match vs with
  | [u, v] => parse [.i64, .i64] 0 u bs fun n f j bs => parse [.i64, .i64] j v bs fun m g _ bs => bs = [] ∧ ∀ b, (b = true ↔ n = m ∧ ∀ i, i < n → f i 0 = g i 0 ∧ f i 1 = g i 1) → K (.bool b) []
  | _ => False

def conSame_nnA  : Ann := fun k _ _ => bif Nat.beq k 4 then some [{ α := Nat, T := fun k => ⟨26, [(0, .slice none 0 0), (1, .slice none 0 0), (5, .int .i64 (k : Int))]⟩, S := fun _ => ⟨[], 0⟩, I := fun k => k ≤ 0 ∧ ∀ i, i < k → (zF i 0 = zF i 0 ∧ zF i 1 = zF i 1), m := fun k => 0 - k, ρ0 := [], ρ1 := [[]] }] else none
def conSame_nrA (eb nb cb : Nat) (fb : RF) : Ann := fun k _ _ => bif Nat.beq k 4 then some [{ α := Nat, T := fun k => ⟨26, [(0, .slice none 0 0), (1, rsl 0 0 nb cb), (5, .int .i64 (k : Int))]⟩, S := fun _ => ⟨[(0, .row true [.i64, .i64] eb nb cb fb)], 1⟩, I := fun k => k ≤ 0 ∧ ∀ i, i < k → (zF i 0 = fb i 0 ∧ zF i 1 = fb i 1), m := fun k => 0 - k, ρ0 := [], ρ1 := [[]] }] else none
def conSame_rnA (ea na ca : Nat) (fa : RF) : Ann := fun k _ _ => bif Nat.beq k 4 then some [{ α := Nat, T := fun k => ⟨26, [(0, rsl 0 0 na ca), (1, .slice none 0 0), (5, .int .i64 (k : Int))]⟩, S := fun _ => ⟨[(0, .row true [.i64, .i64] ea na ca fa)], 1⟩, I := fun k => k ≤ na ∧ ∀ i, i < k → (fa i 0 = zF i 0 ∧ fa i 1 = zF i 1), m := fun k => na - k, ρ0 := [], ρ1 := [[]] }] else none
def conSame_rrA (ea na ca : Nat) (fa : RF) (eb nb cb : Nat) (fb : RF) : Ann := fun k _ _ => bif Nat.beq k 4 then some [{ α := Nat, T := fun k => ⟨26, [(0, rsl 0 0 na ca), (1, rsl 1 0 nb cb), (5, .int .i64 (k : Int))]⟩, S := fun _ => ⟨[(0, .row true [.i64, .i64] ea na ca fa), (1, .row true [.i64, .i64] eb nb cb fb)], 2⟩, I := fun k => k ≤ na ∧ ∀ i, i < k → (fa i 0 = fb i 0 ∧ fa i 1 = fb i 1), m := fun k => na - k, ρ0 := [], ρ1 := [[]] }] else none
def conInts_nnV  (K : Value → List Blk → Prop) : Prop := let q0 := TS; (T0 ∧ (q0 ∧ (q0 ∧ (T0 ∧ ((∃ y0 : Nat, ((Go.Rx.Sub 0 [] ⟨26, [(5, vi (0 : Int)), (0, vn), (1, vn)]⟩ ⟨[], 0⟩ ({ n := (26 : Nat), m := [((0 : Nat), vn), ((1 : Nat), vn), ((5 : Nat), vi (↑y0 : Int))] }) ({ h := [], next := (0 : Nat) })) ∧ ((y0 ≤ (0 : Nat)) ∧ (∀ y1 : Nat, ((y1 < y0) → (@Eq Int (zF y1 (0 : Nat)) (zF y1 (0 : Nat)))))))) ∧ (∀ y0 : Nat, (((y0 ≤ (0 : Nat)) ∧ (∀ y1 : Nat, ((y1 < y0) → (@Eq Int (zF y1 (0 : Nat)) (zF y1 (0 : Nat)))))) → (q0 ∧ (T0 ∧ (∃ y1 : Value, (∃ y2 : List Blk, ((Go.Rx.Found 0 (Value.bool true) ({ h := [], next := (0 : Nat) }) (y1) (y2)) ∧ (K y1 y2)))))))))))))
theorem conInts_nnE  (K : Value → List Blk → Prop) : conInts_nnV  K = bodyX (mk []) (callN (mk []) 3) (conInts_nnA ) Try.f28 [.slice none 0 0, .slice none 0 0] (stOf []) (Fd 0 K) := by kernel_rfl
set_option tactic.hygienic false in
theorem conInts_nnP  (K : Value → List Blk → Prop)  (h : ∀ b, (b = true ↔ 0 = 0 ∧ ∀ i, i < 0 → (zF i 0 = zF i 0)) → K (.bool b) []) : conInts_nnV  K := by
  unfold conInts_nnV
  conv => zeta
  repeat' (first | (with_reducible first | exact rfl | exact trivial | refine And.intro ?_ ?_ | refine br_intro (fun hq => ?_) fun hq => ?_ | refine if_both (fun hz => ?_) fun hz => ?_) | (intro) | fail)
  all_goals first
    | omega
    | assumption
    | exact ⟨0, (by (refine And.intro (And.intro rfl (And.intro rfl (And.intro rfl rfl))) ?_; (repeat' (first | exact trivial | exact rfl | exact fun _ _ _ _ => rfl | refine And.intro ?_ ?_ | omega | fail)); done)), by omega, fun i hi => by omega⟩
    | (refine ⟨y0 + 1, (by (refine And.intro (And.intro rfl (And.intro rfl (And.intro rfl rfl))) ?_; (repeat' (first | exact trivial | exact rfl | exact fun _ _ _ _ => rfl | refine And.intro ?_ ?_ | omega | fail)); done)), ⟨by omega, fun i hi => ?_⟩, by omega⟩
       rcases Nat.lt_or_ge i y0 with q | q
       · exact ‹y0 ≤ 0 ∧ ∀ i : Nat, i < y0 → (zF i 0 = zF i 0)›.2 i q
       · obtain rfl : i = y0 := by omega
         assumption)
    | exact fin0 (by kernel_rfl) (by kernel_rfl) (h true ⟨fun _ => ⟨by omega, fun i hi => ‹y0 ≤ 0 ∧ ∀ i : Nat, i < y0 → (zF i 0 = zF i 0)›.2 i (by omega)⟩, fun _ => rfl⟩)
    | exact fin0 (by kernel_rfl) (by kernel_rfl) (h false ⟨fun e => (by cases e), fun e => (by have := e.2 y0 (by omega); omega)⟩)
    | exact fin0 (by kernel_rfl) (by kernel_rfl) (h false ⟨fun e => (by cases e), fun e => (by omega)⟩)
    | exact fin0 (by kernel_rfl) (by kernel_rfl) (h false ⟨fun e => (by cases e), fun e => absurd (e.2 y0 (by omega)) (show ¬ eqL [zF y0 0, zF y0 1] [zF y0 0, zF y0 1] by assumption)⟩)
def conInts_nrV (eb nb cb : Nat) (fb : RF) (K : Value → List Blk → Prop) : Prop := let q0 := TS; (T0 ∧ (q0 ∧ (q0 ∧ (T0 ∧ (if (@Eq Int ((0 : Int)) ((↑nb : Int))) then ((∃ y0 : Nat, ((Go.Rx.Sub 1 [] ⟨26, [(5, vi (0 : Int)), (0, vn), (1, rsl (0 : Nat) (0 : Nat) nb cb)]⟩ ⟨[(0, Blk.row true [IntKind.i64] eb nb cb fb)], 1⟩ ({ n := (26 : Nat), m := [((0 : Nat), vn), ((1 : Nat), rsl (0 : Nat) (0 : Nat) nb cb), ((5 : Nat), vi (↑y0 : Int))] }) ({ h := [((0 : Nat), Blk.row true [IntKind.i64] eb nb cb fb)], next := (1 : Nat) })) ∧ ((y0 ≤ (0 : Nat)) ∧ (∀ y1 : Nat, ((y1 < y0) → (@Eq Int (zF y1 (0 : Nat)) (fb y1 (0 : Nat)))))))) ∧ (∀ y0 : Nat, (((y0 ≤ (0 : Nat)) ∧ (∀ y1 : Nat, ((y1 < y0) → (@Eq Int (zF y1 (0 : Nat)) (fb y1 (0 : Nat)))))) → (q0 ∧ (T0 ∧ (∃ y1 : Value, (∃ y2 : List Blk, ((Go.Rx.Found 1 (Value.bool true) ({ h := [((0 : Nat), Blk.row true [IntKind.i64] eb nb cb fb)], next := (1 : Nat) }) (y1) (y2)) ∧ (K y1 y2))))))))) else (∃ y0 : Value, (∃ y1 : List Blk, ((Go.Rx.Found 1 (Value.bool false) ({ h := [((0 : Nat), Blk.row true [IntKind.i64] eb nb cb fb)], next := (1 : Nat) }) (y0) (y1)) ∧ (K y0 y1)))))))))
theorem conInts_nrE (eb nb cb : Nat) (fb : RF) (K : Value → List Blk → Prop) : conInts_nrV eb nb cb fb K = bodyX (mk []) (callN (mk []) 3) (conInts_nrA eb nb cb fb) Try.f28 [.slice none 0 0, rsl 0 0 nb cb] (stOf [.row true [.i64] eb nb cb fb]) (Fd 1 K) := by kernel_rfl
set_option tactic.hygienic false in
theorem conInts_nrP (eb nb cb : Nat) (fb : RF) (K : Value → List Blk → Prop)  (hnb : nb ≤ 100000) (h : ∀ b, (b = true ↔ 0 = nb ∧ ∀ i, i < 0 → (zF i 0 = fb i 0)) → K (.bool b) []) : conInts_nrV eb nb cb fb K := by
  unfold conInts_nrV
  conv => zeta
  repeat' (first | (with_reducible first | exact rfl | exact trivial | refine And.intro ?_ ?_ | refine br_intro (fun hq => ?_) fun hq => ?_ | refine if_both (fun hz => ?_) fun hz => ?_) | (intro) | fail)
  all_goals first
    | omega
    | assumption
    | exact ⟨0, (by (refine And.intro (And.intro rfl (And.intro rfl (And.intro rfl rfl))) ?_; (repeat' (first | exact trivial | exact rfl | exact fun _ _ _ _ => rfl | refine And.intro ?_ ?_ | omega | fail)); done)), by omega, fun i hi => by omega⟩
    | (refine ⟨y0 + 1, (by (refine And.intro (And.intro rfl (And.intro rfl (And.intro rfl rfl))) ?_; (repeat' (first | exact trivial | exact rfl | exact fun _ _ _ _ => rfl | refine And.intro ?_ ?_ | omega | fail)); done)), ⟨by omega, fun i hi => ?_⟩, by omega⟩
       rcases Nat.lt_or_ge i y0 with q | q
       · exact ‹y0 ≤ 0 ∧ ∀ i : Nat, i < y0 → (zF i 0 = fb i 0)›.2 i q
       · obtain rfl : i = y0 := by omega
         assumption)
    | exact fin0 (by kernel_rfl) (by kernel_rfl) (h true ⟨fun _ => ⟨by omega, fun i hi => ‹y0 ≤ 0 ∧ ∀ i : Nat, i < y0 → (zF i 0 = fb i 0)›.2 i (by omega)⟩, fun _ => rfl⟩)
    | exact fin0 (by kernel_rfl) (by kernel_rfl) (h false ⟨fun e => (by cases e), fun e => (by have := e.2 y0 (by omega); omega)⟩)
    | exact fin0 (by kernel_rfl) (by kernel_rfl) (h false ⟨fun e => (by cases e), fun e => (by omega)⟩)
    | exact fin0 (by kernel_rfl) (by kernel_rfl) (h false ⟨fun e => (by cases e), fun e => absurd (e.2 y0 (by omega)) (show ¬ eqL [zF y0 0, zF y0 1] [fb y0 0, fb y0 1] by assumption)⟩)
def conInts_rnV (ea na ca : Nat) (fa : RF) (K : Value → List Blk → Prop) : Prop := let q0 := TS; (T0 ∧ (q0 ∧ (q0 ∧ (T0 ∧ (if (@Eq Int ((↑na : Int)) ((0 : Int))) then ((∃ y0 : Nat, ((Go.Rx.Sub 1 [] ⟨26, [(5, vi (0 : Int)), (0, rsl (0 : Nat) (0 : Nat) na ca), (1, vn)]⟩ ⟨[(0, Blk.row true [IntKind.i64] ea na ca fa)], 1⟩ ({ n := (26 : Nat), m := [((0 : Nat), rsl (0 : Nat) (0 : Nat) na ca), ((1 : Nat), vn), ((5 : Nat), vi (↑y0 : Int))] }) ({ h := [((0 : Nat), Blk.row true [IntKind.i64] ea na ca fa)], next := (1 : Nat) })) ∧ ((y0 ≤ na) ∧ (∀ y1 : Nat, ((y1 < y0) → (@Eq Int (fa y1 (0 : Nat)) (zF y1 (0 : Nat)))))))) ∧ (∀ y0 : Nat, (((y0 ≤ na) ∧ (∀ y1 : Nat, ((y1 < y0) → (@Eq Int (fa y1 (0 : Nat)) (zF y1 (0 : Nat)))))) → (q0 ∧ (T0 ∧ (if ((↑y0 : Int) < (↑na : Int)) then (t4 ((q0 ∧ (@Eq Nat ((1 : Nat)) ((1 : Nat)))) ∧ ((((0 : Int) ≤ (↑y0 : Int)) ∧ ((↑y0 : Int) < (↑na : Int))) ∧ (T0 ∧ ((y0 < na) ∧ (t3 (False))))))) else (∃ y1 : Value, (∃ y2 : List Blk, ((Go.Rx.Found 1 (Value.bool true) ({ h := [((0 : Nat), Blk.row true [IntKind.i64] ea na ca fa)], next := (1 : Nat) }) (y1) (y2)) ∧ (K y1 y2)))))))))) else (∃ y0 : Value, (∃ y1 : List Blk, ((Go.Rx.Found 1 (Value.bool false) ({ h := [((0 : Nat), Blk.row true [IntKind.i64] ea na ca fa)], next := (1 : Nat) }) (y0) (y1)) ∧ (K y0 y1)))))))))
theorem conInts_rnE (ea na ca : Nat) (fa : RF) (K : Value → List Blk → Prop) : conInts_rnV ea na ca fa K = bodyX (mk []) (callN (mk []) 3) (conInts_rnA ea na ca fa) Try.f28 [rsl 0 0 na ca, .slice none 0 0] (stOf [.row true [.i64] ea na ca fa]) (Fd 1 K) := by kernel_rfl
set_option tactic.hygienic false in
theorem conInts_rnP (ea na ca : Nat) (fa : RF) (K : Value → List Blk → Prop)  (hna : na ≤ 100000) (h : ∀ b, (b = true ↔ na = 0 ∧ ∀ i, i < na → (fa i 0 = zF i 0)) → K (.bool b) []) : conInts_rnV ea na ca fa K := by
  unfold conInts_rnV
  conv => zeta
  repeat' (first | (with_reducible first | exact rfl | exact trivial | refine And.intro ?_ ?_ | refine br_intro (fun hq => ?_) fun hq => ?_ | refine if_both (fun hz => ?_) fun hz => ?_) | (intro) | fail)
  all_goals first
    | omega
    | assumption
    | exact ⟨0, (by (refine And.intro (And.intro rfl (And.intro rfl (And.intro rfl rfl))) ?_; (repeat' (first | exact trivial | exact rfl | exact fun _ _ _ _ => rfl | refine And.intro ?_ ?_ | omega | fail)); done)), by omega, fun i hi => by omega⟩
    | (refine ⟨y0 + 1, (by (refine And.intro (And.intro rfl (And.intro rfl (And.intro rfl rfl))) ?_; (repeat' (first | exact trivial | exact rfl | exact fun _ _ _ _ => rfl | refine And.intro ?_ ?_ | omega | fail)); done)), ⟨by omega, fun i hi => ?_⟩, by omega⟩
       rcases Nat.lt_or_ge i y0 with q | q
       · exact ‹y0 ≤ na ∧ ∀ i : Nat, i < y0 → (fa i 0 = zF i 0)›.2 i q
       · obtain rfl : i = y0 := by omega
         assumption)
    | exact fin0 (by kernel_rfl) (by kernel_rfl) (h true ⟨fun _ => ⟨by omega, fun i hi => ‹y0 ≤ na ∧ ∀ i : Nat, i < y0 → (fa i 0 = zF i 0)›.2 i (by omega)⟩, fun _ => rfl⟩)
    | exact fin0 (by kernel_rfl) (by kernel_rfl) (h false ⟨fun e => (by cases e), fun e => (by have := e.2 y0 (by omega); omega)⟩)
    | exact fin0 (by kernel_rfl) (by kernel_rfl) (h false ⟨fun e => (by cases e), fun e => (by omega)⟩)
    | exact fin0 (by kernel_rfl) (by kernel_rfl) (h false ⟨fun e => (by cases e), fun e => absurd (e.2 y0 (by omega)) (show ¬ eqL [fa y0 0, fa y0 1] [zF y0 0, zF y0 1] by assumption)⟩)
def conInts_rrV (ea na ca : Nat) (fa : RF) (eb nb cb : Nat) (fb : RF) (K : Value → List Blk → Prop) : Prop := let q0 := (0, rsl (0 : Nat) (0 : Nat) na ca); let q1 := (1, rsl (1 : Nat) (0 : Nat) nb cb); let q2 := TS; let q3 := ((0 : Nat), rsl (0 : Nat) (0 : Nat) na ca); let q4 := ((1 : Nat), rsl (1 : Nat) (0 : Nat) nb cb); let q5 := (0, Blk.row true [IntKind.i64] ea na ca fa); let q6 := (1, Blk.row true [IntKind.i64] eb nb cb fb); let q7 := (q2 ∧ (@Eq Nat ((1 : Nat)) ((1 : Nat)))); (T0 ∧ (q2 ∧ (q2 ∧ (T0 ∧ (if (@Eq Int ((↑na : Int)) ((↑nb : Int))) then ((∃ y0 : Nat, ((Go.Rx.Sub 2 [] ⟨26, [(5, vi (0 : Int)), q0, q1]⟩ ⟨[q5, q6], 2⟩ ({ n := (26 : Nat), m := [q3, q4, ((5 : Nat), vi (↑y0 : Int))] }) ({ h := [((0 : Nat), Blk.row true [IntKind.i64] ea na ca fa), ((1 : Nat), Blk.row true [IntKind.i64] eb nb cb fb)], next := (2 : Nat) })) ∧ ((y0 ≤ na) ∧ (∀ y1 : Nat, ((y1 < y0) → (@Eq Int (fa y1 (0 : Nat)) (fb y1 (0 : Nat)))))))) ∧ (∀ y0 : Nat, let q8 := ((0 : Int) ≤ (↑y0 : Int)); (((y0 ≤ na) ∧ (∀ y1 : Nat, ((y1 < y0) → (@Eq Int (fa y1 (0 : Nat)) (fb y1 (0 : Nat)))))) → (q2 ∧ (T0 ∧ (if ((↑y0 : Int) < (↑na : Int)) then (t4 (q7 ∧ ((q8 ∧ ((↑y0 : Int) < (↑na : Int))) ∧ (T0 ∧ ((y0 < na) ∧ (t3 (q7 ∧ ((q8 ∧ ((↑y0 : Int) < (↑nb : Int))) ∧ (T0 ∧ ((y0 < nb) ∧ (t2 (if (@Eq Int (fa y0 (0 : Nat)) (fb y0 (0 : Nat))) then (T0 ∧ ((((-9223372036854775808 : Int) ≤ (↑y0 : Int) + (1 : Int)) ∧ ((↑y0 : Int) + (1 : Int) ≤ (9223372036854775807 : Int))) ∧ (∃ y1 : Nat, ((Go.Rx.Sub 2 [] ⟨26, [(5, vi ((↑y0 : Int) + (1 : Int))), q0, q1]⟩ ⟨[q5, q6], 2⟩ ({ n := (26 : Nat), m := [q3, q4, ((5 : Nat), vi (↑y1 : Int))] }) ({ h := [((0 : Nat), Blk.row true [IntKind.i64] ea na ca fa), ((1 : Nat), Blk.row true [IntKind.i64] eb nb cb fb)], next := (2 : Nat) })) ∧ (((y1 ≤ na) ∧ (∀ y2 : Nat, ((y2 < y1) → (@Eq Int (fa y2 (0 : Nat)) (fb y2 (0 : Nat)))))) ∧ (na - y1 < na - y0)))))) else (∃ y1 : Value, (∃ y2 : List Blk, ((Go.Rx.Found 2 (Value.bool false) ({ h := [((0 : Nat), Blk.row true [IntKind.i64] ea na ca fa), ((1 : Nat), Blk.row true [IntKind.i64] eb nb cb fb)], next := (2 : Nat) }) (y1) (y2)) ∧ (K y1 y2)))))))))))))))) else (∃ y1 : Value, (∃ y2 : List Blk, ((Go.Rx.Found 2 (Value.bool true) ({ h := [((0 : Nat), Blk.row true [IntKind.i64] ea na ca fa), ((1 : Nat), Blk.row true [IntKind.i64] eb nb cb fb)], next := (2 : Nat) }) (y1) (y2)) ∧ (K y1 y2)))))))))) else (∃ y0 : Value, (∃ y1 : List Blk, ((Go.Rx.Found 2 (Value.bool false) ({ h := [((0 : Nat), Blk.row true [IntKind.i64] ea na ca fa), ((1 : Nat), Blk.row true [IntKind.i64] eb nb cb fb)], next := (2 : Nat) }) (y0) (y1)) ∧ (K y0 y1)))))))))
theorem conInts_rrE (ea na ca : Nat) (fa : RF) (eb nb cb : Nat) (fb : RF) (K : Value → List Blk → Prop) : conInts_rrV ea na ca fa eb nb cb fb K = bodyX (mk []) (callN (mk []) 3) (conInts_rrA ea na ca fa eb nb cb fb) Try.f28 [rsl 0 0 na ca, rsl 1 0 nb cb] (stOf [.row true [.i64] ea na ca fa, .row true [.i64] eb nb cb fb]) (Fd 2 K) := by kernel_rfl
set_option tactic.hygienic false in
theorem conInts_rrP (ea na ca : Nat) (fa : RF) (eb nb cb : Nat) (fb : RF) (K : Value → List Blk → Prop)  (hna : na ≤ 100000) (hnb : nb ≤ 100000) (h : ∀ b, (b = true ↔ na = nb ∧ ∀ i, i < na → (fa i 0 = fb i 0)) → K (.bool b) []) : conInts_rrV ea na ca fa eb nb cb fb K := by
  unfold conInts_rrV
  conv => zeta
  repeat' (first | (with_reducible first | exact rfl | exact trivial | refine And.intro ?_ ?_ | refine br_intro (fun hq => ?_) fun hq => ?_ | refine if_both (fun hz => ?_) fun hz => ?_) | (intro) | fail)
  all_goals first
    | omega
    | assumption
    | exact ⟨0, (by (refine And.intro (And.intro rfl (And.intro rfl (And.intro rfl rfl))) ?_; (repeat' (first | exact trivial | exact rfl | exact fun _ _ _ _ => rfl | refine And.intro ?_ ?_ | omega | fail)); done)), by omega, fun i hi => by omega⟩
    | (refine ⟨y0 + 1, (by (refine And.intro (And.intro rfl (And.intro rfl (And.intro rfl rfl))) ?_; (repeat' (first | exact trivial | exact rfl | exact fun _ _ _ _ => rfl | refine And.intro ?_ ?_ | omega | fail)); done)), ⟨by omega, fun i hi => ?_⟩, by omega⟩
       rcases Nat.lt_or_ge i y0 with q | q
       · exact ‹y0 ≤ na ∧ ∀ i : Nat, i < y0 → (fa i 0 = fb i 0)›.2 i q
       · obtain rfl : i = y0 := by omega
         assumption)
    | exact fin0 (by kernel_rfl) (by kernel_rfl) (h true ⟨fun _ => ⟨by omega, fun i hi => ‹y0 ≤ na ∧ ∀ i : Nat, i < y0 → (fa i 0 = fb i 0)›.2 i (by omega)⟩, fun _ => rfl⟩)
    | exact fin0 (by kernel_rfl) (by kernel_rfl) (h false ⟨fun e => (by cases e), fun e => (by have := e.2 y0 (by omega); omega)⟩)
    | exact fin0 (by kernel_rfl) (by kernel_rfl) (h false ⟨fun e => (by cases e), fun e => (by omega)⟩)
    | exact fin0 (by kernel_rfl) (by kernel_rfl) (h false ⟨fun e => (by cases e), fun e => absurd (e.2 y0 (by omega)) (show ¬ eqL [fa y0 0, fa y0 1] [fb y0 0, fb y0 1] by assumption)⟩)
theorem conInts_ok : BodyOk (mk []) 3 Try.f28 conInts := by
  intro vs bs K hh hro
  clear hro
  unfold conInts at hh
  split at hh
  · rcases parse_inv hh with ⟨rfl, hh0⟩ | ⟨ea, na, ca, fa, bs0, rfl, hna, rfl, hh0⟩ <;> clear hh
    · rcases parse_inv hh0 with ⟨rfl, hh1⟩ | ⟨eb, nb, cb, fb, bs1, rfl, hnb, rfl, hh1⟩ <;> clear hh0
      · obtain ⟨rfl, hc⟩ := hh1
        exact ⟨_, _, cast (conInts_nnE  K) (conInts_nnP  K  hc)⟩
      · obtain ⟨rfl, hc⟩ := hh1
        exact ⟨_, _, cast (conInts_nrE eb nb cb fb K) (conInts_nrP eb nb cb fb K hnb hc)⟩
    · rcases parse_inv hh0 with ⟨rfl, hh1⟩ | ⟨eb, nb, cb, fb, bs1, rfl, hnb, rfl, hh1⟩ <;> clear hh0
      · obtain ⟨rfl, hc⟩ := hh1
        exact ⟨_, _, cast (conInts_rnE ea na ca fa K) (conInts_rnP ea na ca fa K hna hc)⟩
      · obtain ⟨rfl, hc⟩ := hh1
        exact ⟨_, _, cast (conInts_rrE ea na ca fa eb nb cb fb K) (conInts_rrP ea na ca fa eb nb cb fb K hna hnb hc)⟩
  · exact hh.elim
theorem conInts_told : Told 28 (specOf conInts) := told (X := []) (fun _ h => by cases h) (by kernel_rfl) (by kernel_rfl) (by kernel_rfl) conInts_ok
def conSame_nnV  (K : Value → List Blk → Prop) : Prop := let q0 := TS; (T0 ∧ (q0 ∧ (q0 ∧ (T0 ∧ ((∃ y0 : Nat, ((Go.Rx.Sub 0 [] ⟨26, [(5, vi (0 : Int)), (0, vn), (1, vn)]⟩ ⟨[], 0⟩ ({ n := (26 : Nat), m := [((0 : Nat), vn), ((1 : Nat), vn), ((5 : Nat), vi (↑y0 : Int))] }) ({ h := [], next := (0 : Nat) })) ∧ ((y0 ≤ (0 : Nat)) ∧ (∀ y1 : Nat, ((y1 < y0) → ((@Eq Int (zF y1 (0 : Nat)) (zF y1 (0 : Nat))) ∧ (@Eq Int (zF y1 (1 : Nat)) (zF y1 (1 : Nat))))))))) ∧ (∀ y0 : Nat, (((y0 ≤ (0 : Nat)) ∧ (∀ y1 : Nat, ((y1 < y0) → ((@Eq Int (zF y1 (0 : Nat)) (zF y1 (0 : Nat))) ∧ (@Eq Int (zF y1 (1 : Nat)) (zF y1 (1 : Nat))))))) → (q0 ∧ (T0 ∧ (∃ y1 : Value, (∃ y2 : List Blk, ((Go.Rx.Found 0 (Value.bool true) ({ h := [], next := (0 : Nat) }) (y1) (y2)) ∧ (K y1 y2)))))))))))))
theorem conSame_nnE  (K : Value → List Blk → Prop) : conSame_nnV  K = bodyX (mk []) (callN (mk []) 3) (conSame_nnA ) Try.f23 [.slice none 0 0, .slice none 0 0] (stOf []) (Fd 0 K) := by kernel_rfl
set_option tactic.hygienic false in
theorem conSame_nnP  (K : Value → List Blk → Prop)  (h : ∀ b, (b = true ↔ 0 = 0 ∧ ∀ i, i < 0 → (zF i 0 = zF i 0 ∧ zF i 1 = zF i 1)) → K (.bool b) []) : conSame_nnV  K := by
  unfold conSame_nnV
  conv => zeta
  repeat' (first | (with_reducible first | exact rfl | exact trivial | refine And.intro ?_ ?_ | refine br_intro (fun hq => ?_) fun hq => ?_ | refine if_both (fun hz => ?_) fun hz => ?_) | (intro) | fail)
  all_goals first
    | omega
    | assumption
    | exact ⟨0, (by (refine And.intro (And.intro rfl (And.intro rfl (And.intro rfl rfl))) ?_; (repeat' (first | exact trivial | exact rfl | exact fun _ _ _ _ => rfl | refine And.intro ?_ ?_ | omega | fail)); done)), by omega, fun i hi => by omega⟩
    | (refine ⟨y0 + 1, (by (refine And.intro (And.intro rfl (And.intro rfl (And.intro rfl rfl))) ?_; (repeat' (first | exact trivial | exact rfl | exact fun _ _ _ _ => rfl | refine And.intro ?_ ?_ | omega | fail)); done)), ⟨by omega, fun i hi => ?_⟩, by omega⟩
       rcases Nat.lt_or_ge i y0 with q | q
       · exact ‹y0 ≤ 0 ∧ ∀ i : Nat, i < y0 → (zF i 0 = zF i 0 ∧ zF i 1 = zF i 1)›.2 i q
       · obtain rfl : i = y0 := by omega
         assumption)
    | exact fin0 (by kernel_rfl) (by kernel_rfl) (h true ⟨fun _ => ⟨by omega, fun i hi => ‹y0 ≤ 0 ∧ ∀ i : Nat, i < y0 → (zF i 0 = zF i 0 ∧ zF i 1 = zF i 1)›.2 i (by omega)⟩, fun _ => rfl⟩)
    | exact fin0 (by kernel_rfl) (by kernel_rfl) (h false ⟨fun e => (by cases e), fun e => (by have := e.2 y0 (by omega); omega)⟩)
    | exact fin0 (by kernel_rfl) (by kernel_rfl) (h false ⟨fun e => (by cases e), fun e => (by omega)⟩)
    | exact fin0 (by kernel_rfl) (by kernel_rfl) (h false ⟨fun e => (by cases e), fun e => absurd (e.2 y0 (by omega)) (show ¬ eqL [zF y0 0, zF y0 1] [zF y0 0, zF y0 1] by assumption)⟩)
def conSame_nrV (eb nb cb : Nat) (fb : RF) (K : Value → List Blk → Prop) : Prop := let q0 := TS; (T0 ∧ (q0 ∧ (q0 ∧ (T0 ∧ (if (@Eq Int ((0 : Int)) ((↑nb : Int))) then ((∃ y0 : Nat, ((Go.Rx.Sub 1 [] ⟨26, [(5, vi (0 : Int)), (0, vn), (1, rsl (0 : Nat) (0 : Nat) nb cb)]⟩ ⟨[(0, rT eb nb cb fb)], 1⟩ ({ n := (26 : Nat), m := [((0 : Nat), vn), ((1 : Nat), rsl (0 : Nat) (0 : Nat) nb cb), ((5 : Nat), vi (↑y0 : Int))] }) ({ h := [((0 : Nat), rT eb nb cb fb)], next := (1 : Nat) })) ∧ ((y0 ≤ (0 : Nat)) ∧ (∀ y1 : Nat, ((y1 < y0) → ((@Eq Int (zF y1 (0 : Nat)) (fb y1 (0 : Nat))) ∧ (@Eq Int (zF y1 (1 : Nat)) (fb y1 (1 : Nat))))))))) ∧ (∀ y0 : Nat, (((y0 ≤ (0 : Nat)) ∧ (∀ y1 : Nat, ((y1 < y0) → ((@Eq Int (zF y1 (0 : Nat)) (fb y1 (0 : Nat))) ∧ (@Eq Int (zF y1 (1 : Nat)) (fb y1 (1 : Nat))))))) → (q0 ∧ (T0 ∧ (∃ y1 : Value, (∃ y2 : List Blk, ((Go.Rx.Found 1 (Value.bool true) ({ h := [((0 : Nat), rT eb nb cb fb)], next := (1 : Nat) }) (y1) (y2)) ∧ (K y1 y2))))))))) else (∃ y0 : Value, (∃ y1 : List Blk, ((Go.Rx.Found 1 (Value.bool false) ({ h := [((0 : Nat), rT eb nb cb fb)], next := (1 : Nat) }) (y0) (y1)) ∧ (K y0 y1)))))))))
theorem conSame_nrE (eb nb cb : Nat) (fb : RF) (K : Value → List Blk → Prop) : conSame_nrV eb nb cb fb K = bodyX (mk []) (callN (mk []) 3) (conSame_nrA eb nb cb fb) Try.f23 [.slice none 0 0, rsl 0 0 nb cb] (stOf [.row true [.i64, .i64] eb nb cb fb]) (Fd 1 K) := by kernel_rfl
set_option tactic.hygienic false in
theorem conSame_nrP (eb nb cb : Nat) (fb : RF) (K : Value → List Blk → Prop)  (hnb : nb ≤ 100000) (h : ∀ b, (b = true ↔ 0 = nb ∧ ∀ i, i < 0 → (zF i 0 = fb i 0 ∧ zF i 1 = fb i 1)) → K (.bool b) []) : conSame_nrV eb nb cb fb K := by
  unfold conSame_nrV
  conv => zeta
  repeat' (first | (with_reducible first | exact rfl | exact trivial | refine And.intro ?_ ?_ | refine br_intro (fun hq => ?_) fun hq => ?_ | refine if_both (fun hz => ?_) fun hz => ?_) | (intro) | fail)
  all_goals first
    | omega
    | assumption
    | exact ⟨0, (by (refine And.intro (And.intro rfl (And.intro rfl (And.intro rfl rfl))) ?_; (repeat' (first | exact trivial | exact rfl | exact fun _ _ _ _ => rfl | refine And.intro ?_ ?_ | omega | fail)); done)), by omega, fun i hi => by omega⟩
    | (refine ⟨y0 + 1, (by (refine And.intro (And.intro rfl (And.intro rfl (And.intro rfl rfl))) ?_; (repeat' (first | exact trivial | exact rfl | exact fun _ _ _ _ => rfl | refine And.intro ?_ ?_ | omega | fail)); done)), ⟨by omega, fun i hi => ?_⟩, by omega⟩
       rcases Nat.lt_or_ge i y0 with q | q
       · exact ‹y0 ≤ 0 ∧ ∀ i : Nat, i < y0 → (zF i 0 = fb i 0 ∧ zF i 1 = fb i 1)›.2 i q
       · obtain rfl : i = y0 := by omega
         assumption)
    | exact fin0 (by kernel_rfl) (by kernel_rfl) (h true ⟨fun _ => ⟨by omega, fun i hi => ‹y0 ≤ 0 ∧ ∀ i : Nat, i < y0 → (zF i 0 = fb i 0 ∧ zF i 1 = fb i 1)›.2 i (by omega)⟩, fun _ => rfl⟩)
    | exact fin0 (by kernel_rfl) (by kernel_rfl) (h false ⟨fun e => (by cases e), fun e => (by have := e.2 y0 (by omega); omega)⟩)
    | exact fin0 (by kernel_rfl) (by kernel_rfl) (h false ⟨fun e => (by cases e), fun e => (by omega)⟩)
    | exact fin0 (by kernel_rfl) (by kernel_rfl) (h false ⟨fun e => (by cases e), fun e => absurd (e.2 y0 (by omega)) (show ¬ eqL [zF y0 0, zF y0 1] [fb y0 0, fb y0 1] by assumption)⟩)
def conSame_rnV (ea na ca : Nat) (fa : RF) (K : Value → List Blk → Prop) : Prop := let q0 := (@Eq Nat ((2 : Nat)) ((2 : Nat))); let q1 := TS; (T0 ∧ (q1 ∧ (q1 ∧ (T0 ∧ (if (@Eq Int ((↑na : Int)) ((0 : Int))) then ((∃ y0 : Nat, ((Go.Rx.Sub 1 [] ⟨26, [(5, vi (0 : Int)), (0, rsl (0 : Nat) (0 : Nat) na ca), (1, vn)]⟩ ⟨[(0, rT ea na ca fa)], 1⟩ ({ n := (26 : Nat), m := [((0 : Nat), rsl (0 : Nat) (0 : Nat) na ca), ((1 : Nat), vn), ((5 : Nat), vi (↑y0 : Int))] }) ({ h := [((0 : Nat), rT ea na ca fa)], next := (1 : Nat) })) ∧ ((y0 ≤ na) ∧ (∀ y1 : Nat, ((y1 < y0) → ((@Eq Int (fa y1 (0 : Nat)) (zF y1 (0 : Nat))) ∧ (@Eq Int (fa y1 (1 : Nat)) (zF y1 (1 : Nat))))))))) ∧ (∀ y0 : Nat, (((y0 ≤ na) ∧ (∀ y1 : Nat, ((y1 < y0) → ((@Eq Int (fa y1 (0 : Nat)) (zF y1 (0 : Nat))) ∧ (@Eq Int (fa y1 (1 : Nat)) (zF y1 (1 : Nat))))))) → (q1 ∧ (T0 ∧ (if ((↑y0 : Int) < (↑na : Int)) then (t4 ((q1 ∧ q0) ∧ ((((0 : Int) ≤ (↑y0 : Int)) ∧ ((↑y0 : Int) < (↑na : Int))) ∧ (T0 ∧ ((y0 < na) ∧ (((@Eq Nat ((0 : Nat)) ((0 : Nat))) ∧ q0) ∧ (t3 (False)))))))) else (∃ y1 : Value, (∃ y2 : List Blk, ((Go.Rx.Found 1 (Value.bool true) ({ h := [((0 : Nat), rT ea na ca fa)], next := (1 : Nat) }) (y1) (y2)) ∧ (K y1 y2)))))))))) else (∃ y0 : Value, (∃ y1 : List Blk, ((Go.Rx.Found 1 (Value.bool false) ({ h := [((0 : Nat), rT ea na ca fa)], next := (1 : Nat) }) (y0) (y1)) ∧ (K y0 y1)))))))))
theorem conSame_rnE (ea na ca : Nat) (fa : RF) (K : Value → List Blk → Prop) : conSame_rnV ea na ca fa K = bodyX (mk []) (callN (mk []) 3) (conSame_rnA ea na ca fa) Try.f23 [rsl 0 0 na ca, .slice none 0 0] (stOf [.row true [.i64, .i64] ea na ca fa]) (Fd 1 K) := by kernel_rfl
set_option tactic.hygienic false in
theorem conSame_rnP (ea na ca : Nat) (fa : RF) (K : Value → List Blk → Prop)  (hna : na ≤ 100000) (h : ∀ b, (b = true ↔ na = 0 ∧ ∀ i, i < na → (fa i 0 = zF i 0 ∧ fa i 1 = zF i 1)) → K (.bool b) []) : conSame_rnV ea na ca fa K := by
  unfold conSame_rnV
  conv => zeta
  repeat' (first | (with_reducible first | exact rfl | exact trivial | refine And.intro ?_ ?_ | refine br_intro (fun hq => ?_) fun hq => ?_ | refine if_both (fun hz => ?_) fun hz => ?_) | (intro) | fail)
  all_goals first
    | omega
    | assumption
    | exact ⟨0, (by (refine And.intro (And.intro rfl (And.intro rfl (And.intro rfl rfl))) ?_; (repeat' (first | exact trivial | exact rfl | exact fun _ _ _ _ => rfl | refine And.intro ?_ ?_ | omega | fail)); done)), by omega, fun i hi => by omega⟩
    | (refine ⟨y0 + 1, (by (refine And.intro (And.intro rfl (And.intro rfl (And.intro rfl rfl))) ?_; (repeat' (first | exact trivial | exact rfl | exact fun _ _ _ _ => rfl | refine And.intro ?_ ?_ | omega | fail)); done)), ⟨by omega, fun i hi => ?_⟩, by omega⟩
       rcases Nat.lt_or_ge i y0 with q | q
       · exact ‹y0 ≤ na ∧ ∀ i : Nat, i < y0 → (fa i 0 = zF i 0 ∧ fa i 1 = zF i 1)›.2 i q
       · obtain rfl : i = y0 := by omega
         assumption)
    | exact fin0 (by kernel_rfl) (by kernel_rfl) (h true ⟨fun _ => ⟨by omega, fun i hi => ‹y0 ≤ na ∧ ∀ i : Nat, i < y0 → (fa i 0 = zF i 0 ∧ fa i 1 = zF i 1)›.2 i (by omega)⟩, fun _ => rfl⟩)
    | exact fin0 (by kernel_rfl) (by kernel_rfl) (h false ⟨fun e => (by cases e), fun e => (by have := e.2 y0 (by omega); omega)⟩)
    | exact fin0 (by kernel_rfl) (by kernel_rfl) (h false ⟨fun e => (by cases e), fun e => (by omega)⟩)
    | exact fin0 (by kernel_rfl) (by kernel_rfl) (h false ⟨fun e => (by cases e), fun e => absurd (e.2 y0 (by omega)) (show ¬ eqL [fa y0 0, fa y0 1] [zF y0 0, zF y0 1] by assumption)⟩)
def conSame_rrV (ea na ca : Nat) (fa : RF) (eb nb cb : Nat) (fb : RF) (K : Value → List Blk → Prop) : Prop := let q0 := (@Eq Nat ((2 : Nat)) ((2 : Nat))); let q1 := (0, rsl (0 : Nat) (0 : Nat) na ca); let q2 := (1, rsl (1 : Nat) (0 : Nat) nb cb); let q3 := TS; let q4 := ((0 : Nat), rsl (0 : Nat) (0 : Nat) na ca); let q5 := ((1 : Nat), rsl (1 : Nat) (0 : Nat) nb cb); let q6 := (0, rT ea na ca fa); let q7 := (1, rT eb nb cb fb); let q8 := ((@Eq Nat ((0 : Nat)) ((0 : Nat))) ∧ q0); let q9 := (q3 ∧ q0); (T0 ∧ (q3 ∧ (q3 ∧ (T0 ∧ (if (@Eq Int ((↑na : Int)) ((↑nb : Int))) then ((∃ y0 : Nat, ((Go.Rx.Sub 2 [] ⟨26, [(5, vi (0 : Int)), q1, q2]⟩ ⟨[q6, q7], 2⟩ ({ n := (26 : Nat), m := [q4, q5, ((5 : Nat), vi (↑y0 : Int))] }) ({ h := [((0 : Nat), rT ea na ca fa), ((1 : Nat), rT eb nb cb fb)], next := (2 : Nat) })) ∧ ((y0 ≤ na) ∧ (∀ y1 : Nat, ((y1 < y0) → ((@Eq Int (fa y1 (0 : Nat)) (fb y1 (0 : Nat))) ∧ (@Eq Int (fa y1 (1 : Nat)) (fb y1 (1 : Nat))))))))) ∧ (∀ y0 : Nat, let q10 := ((0 : Int) ≤ (↑y0 : Int)); (((y0 ≤ na) ∧ (∀ y1 : Nat, ((y1 < y0) → ((@Eq Int (fa y1 (0 : Nat)) (fb y1 (0 : Nat))) ∧ (@Eq Int (fa y1 (1 : Nat)) (fb y1 (1 : Nat))))))) → (q3 ∧ (T0 ∧ (if ((↑y0 : Int) < (↑na : Int)) then (t4 (q9 ∧ ((q10 ∧ ((↑y0 : Int) < (↑na : Int))) ∧ (T0 ∧ ((y0 < na) ∧ (q8 ∧ (t3 (q9 ∧ ((q10 ∧ ((↑y0 : Int) < (↑nb : Int))) ∧ (T0 ∧ ((y0 < nb) ∧ (q8 ∧ (T0 ∧ (if (eqL [fa y0 (0 : Nat), fa y0 (1 : Nat)] [fb y0 (0 : Nat), fb y0 (1 : Nat)]) then (T0 ∧ ((((-9223372036854775808 : Int) ≤ (↑y0 : Int) + (1 : Int)) ∧ ((↑y0 : Int) + (1 : Int) ≤ (9223372036854775807 : Int))) ∧ (∃ y1 : Nat, ((Go.Rx.Sub 2 [] ⟨26, [(5, vi ((↑y0 : Int) + (1 : Int))), q1, q2]⟩ ⟨[q6, q7], 2⟩ ({ n := (26 : Nat), m := [q4, q5, ((5 : Nat), vi (↑y1 : Int))] }) ({ h := [((0 : Nat), rT ea na ca fa), ((1 : Nat), rT eb nb cb fb)], next := (2 : Nat) })) ∧ (((y1 ≤ na) ∧ (∀ y2 : Nat, ((y2 < y1) → ((@Eq Int (fa y2 (0 : Nat)) (fb y2 (0 : Nat))) ∧ (@Eq Int (fa y2 (1 : Nat)) (fb y2 (1 : Nat))))))) ∧ (na - y1 < na - y0)))))) else (∃ y1 : Value, (∃ y2 : List Blk, ((Go.Rx.Found 2 (Value.bool false) ({ h := [((0 : Nat), rT ea na ca fa), ((1 : Nat), rT eb nb cb fb)], next := (2 : Nat) }) (y1) (y2)) ∧ (K y1 y2)))))))))))))))))) else (∃ y1 : Value, (∃ y2 : List Blk, ((Go.Rx.Found 2 (Value.bool true) ({ h := [((0 : Nat), rT ea na ca fa), ((1 : Nat), rT eb nb cb fb)], next := (2 : Nat) }) (y1) (y2)) ∧ (K y1 y2)))))))))) else (∃ y0 : Value, (∃ y1 : List Blk, ((Go.Rx.Found 2 (Value.bool false) ({ h := [((0 : Nat), rT ea na ca fa), ((1 : Nat), rT eb nb cb fb)], next := (2 : Nat) }) (y0) (y1)) ∧ (K y0 y1)))))))))
theorem conSame_rrE (ea na ca : Nat) (fa : RF) (eb nb cb : Nat) (fb : RF) (K : Value → List Blk → Prop) : conSame_rrV ea na ca fa eb nb cb fb K = bodyX (mk []) (callN (mk []) 3) (conSame_rrA ea na ca fa eb nb cb fb) Try.f23 [rsl 0 0 na ca, rsl 1 0 nb cb] (stOf [.row true [.i64, .i64] ea na ca fa, .row true [.i64, .i64] eb nb cb fb]) (Fd 2 K) := by kernel_rfl
set_option tactic.hygienic false in
theorem conSame_rrP (ea na ca : Nat) (fa : RF) (eb nb cb : Nat) (fb : RF) (K : Value → List Blk → Prop)  (hna : na ≤ 100000) (hnb : nb ≤ 100000) (h : ∀ b, (b = true ↔ na = nb ∧ ∀ i, i < na → (fa i 0 = fb i 0 ∧ fa i 1 = fb i 1)) → K (.bool b) []) : conSame_rrV ea na ca fa eb nb cb fb K := by
  unfold conSame_rrV
  conv => zeta
  repeat' (first | (with_reducible first | exact rfl | exact trivial | refine And.intro ?_ ?_ | refine br_intro (fun hq => ?_) fun hq => ?_ | refine if_both (fun hz => ?_) fun hz => ?_) | (intro) | fail)
  all_goals first
    | omega
    | assumption
    | exact ⟨0, (by (refine And.intro (And.intro rfl (And.intro rfl (And.intro rfl rfl))) ?_; (repeat' (first | exact trivial | exact rfl | exact fun _ _ _ _ => rfl | refine And.intro ?_ ?_ | omega | fail)); done)), by omega, fun i hi => by omega⟩
    | (refine ⟨y0 + 1, (by (refine And.intro (And.intro rfl (And.intro rfl (And.intro rfl rfl))) ?_; (repeat' (first | exact trivial | exact rfl | exact fun _ _ _ _ => rfl | refine And.intro ?_ ?_ | omega | fail)); done)), ⟨by omega, fun i hi => ?_⟩, by omega⟩
       rcases Nat.lt_or_ge i y0 with q | q
       · exact ‹y0 ≤ na ∧ ∀ i : Nat, i < y0 → (fa i 0 = fb i 0 ∧ fa i 1 = fb i 1)›.2 i q
       · obtain rfl : i = y0 := by omega
         assumption)
    | exact fin0 (by kernel_rfl) (by kernel_rfl) (h true ⟨fun _ => ⟨by omega, fun i hi => ‹y0 ≤ na ∧ ∀ i : Nat, i < y0 → (fa i 0 = fb i 0 ∧ fa i 1 = fb i 1)›.2 i (by omega)⟩, fun _ => rfl⟩)
    | exact fin0 (by kernel_rfl) (by kernel_rfl) (h false ⟨fun e => (by cases e), fun e => (by have := e.2 y0 (by omega); omega)⟩)
    | exact fin0 (by kernel_rfl) (by kernel_rfl) (h false ⟨fun e => (by cases e), fun e => (by omega)⟩)
    | exact fin0 (by kernel_rfl) (by kernel_rfl) (h false ⟨fun e => (by cases e), fun e => absurd (e.2 y0 (by omega)) (show ¬ eqL [fa y0 0, fa y0 1] [fb y0 0, fb y0 1] by assumption)⟩)
theorem conSame_ok : BodyOk (mk []) 3 Try.f23 conSame := by
  intro vs bs K hh hro
  clear hro
  unfold conSame at hh
  split at hh
  · rcases parse_inv hh with ⟨rfl, hh0⟩ | ⟨ea, na, ca, fa, bs0, rfl, hna, rfl, hh0⟩ <;> clear hh
    · rcases parse_inv hh0 with ⟨rfl, hh1⟩ | ⟨eb, nb, cb, fb, bs1, rfl, hnb, rfl, hh1⟩ <;> clear hh0
      · obtain ⟨rfl, hc⟩ := hh1
        exact ⟨_, _, cast (conSame_nnE  K) (conSame_nnP  K  hc)⟩
      · obtain ⟨rfl, hc⟩ := hh1
        exact ⟨_, _, cast (conSame_nrE eb nb cb fb K) (conSame_nrP eb nb cb fb K hnb hc)⟩
    · rcases parse_inv hh0 with ⟨rfl, hh1⟩ | ⟨eb, nb, cb, fb, bs1, rfl, hnb, rfl, hh1⟩ <;> clear hh0
      · obtain ⟨rfl, hc⟩ := hh1
        exact ⟨_, _, cast (conSame_rnE ea na ca fa K) (conSame_rnP ea na ca fa K hna hc)⟩
      · obtain ⟨rfl, hc⟩ := hh1
        exact ⟨_, _, cast (conSame_rrE ea na ca fa eb nb cb fb K) (conSame_rrP ea na ca fa eb nb cb fb K hna hnb hc)⟩
  · exact hh.elim
theorem conSame_told : Told 23 (specOf conSame) := told (X := []) (fun _ h => by cases h) (by kernel_rfl) (by kernel_rfl) (by kernel_rfl) conSame_ok
end Go.Proofs.Ytkflmglpniebfaa.Fr
namespace Go.Proofs.Ytkflmglpniebfaa.Fr
set_option maxRecDepth 100000
set_option maxHeartbeats 4000000
open Go.Rx
open Go.RowKit (Below)
set_option linter.unusedVariables false
/-- How many of the first k frames are popular. -/
def pc (f : RF) : Nat → Int
  | 0 => 0
  | k + 1 => if f k 0 = 2 then pc f k + 1 else pc f k
/-- The error from frame k on, l of them: which one has it, which it is. -/
def ck (a : Int) (f : RF) : Nat → Nat → Int × Int
  | 0, _ => (0, 0)
  | l + 1, k => if f k 0 < 0 ∨ 2 < f k 0 ∨ (f k 0 = 0 ∧ ¬ f k 1 = 0) then (k, 6) else if f k 1 < 0 ∨ a < f k 1 then (k, 7) else if f k 0 = 2 ∧ pc f k = 2 then (k, 5) else ck a f l (k + 1)
theorem ck_step (a : Int) (f : RF) {n k : Nat} (h : k < n) : ck a f (n - k) k = if f k 0 < 0 ∨ 2 < f k 0 ∨ (f k 0 = 0 ∧ ¬ f k 1 = 0) then ((k : Int), 6) else if f k 1 < 0 ∨ a < f k 1 then ((k : Int), 7) else if f k 0 = 2 ∧ pc f k = 2 then ((k : Int), 5) else ck a f (n - (k + 1)) (k + 1) := by
  rw [show n - k = (n - (k + 1)) + 1 by omega]
  rfl
def fok (a : Int) (f : RF) (k : Nat) : Prop := 0 ≤ f k 0 ∧ f k 0 ≤ 2 ∧ (f k 0 = 0 → f k 1 = 0) ∧ 0 ≤ f k 1 ∧ f k 1 ≤ a
theorem ck_ok (a : Int) (f : RF) : ∀ (l k : Nat), (ck a f l k).2 = 0 → ∀ i, k ≤ i → i < k + l → fok a f i
  | 0, k, _, i, h1, h2 => by omega
  | l + 1, k, h, i, h1, h2 => by
    unfold ck at h
    split at h
    · cases h
    · split at h
      · cases h
      · split at h
        · cases h
        · rcases Nat.lt_or_ge k i with q | q
          · exact ck_ok a f l (k + 1) h i (by omega) (by omega)
          · obtain rfl : i = k := by omega
            unfold fok
            omega
/-- What a check of frames returns. -/
def ckF (a b c d e : Int) (n : Nat) (f : RF) : Int × Int := if chk a b c d e = 0 then (if (n : Int) = b then ck a f n 0 else (-1, 3)) else (-1, chk a b c d e)
theorem ckF_bad {a b c d e : Int} {n : Nat} {f : RF} (h : ¬ chk a b c d e = 0) : ckF a b c d e n f = (-1, chk a b c d e) := if_neg h
theorem ckF_long {a b c d e : Int} {n : Nat} {f : RF} (h : chk a b c d e = 0) (h' : ¬ (n : Int) = b) : ckF a b c d e n f = (-1, 3) := by unfold ckF; rw [if_pos h, if_neg h']
theorem ckF_go {a b c d e : Int} {n : Nat} {f : RF} (h : chk a b c d e = 0) (h' : (n : Int) = b) : ckF a b c d e n f = ck a f n 0 := by unfold ckF; rw [if_pos h, if_pos h']
theorem chk_good {a b c d e : Int} (h : chk a b c d e = 0) : good a b c d e := by
  unfold chk at h
  split at h
  · assumption
  · cases h
theorem ckF_zero {a b c d e : Int} {n : Nat} {f : RF} (h : (ckF a b c d e n f).2 = 0) : good a b c d e ∧ (n : Int) = b ∧ ∀ i, i < n → fok a f i := by
  unfold ckF at h
  split at h
  · rename_i g
    split at h
    · rename_i g'
      exact ⟨chk_good g, g', fun i hi => ck_ok a f n 0 h i (by omega) (by omega)⟩
    · cases h
  · exact absurd h (by assumption)
def con67 : Con := fun vs bs K => match vs with
  | [u] => five u fun a b c d e => bs = [] ∧ K (.int .i64 (chk a b c d e)) []
  | _ => False

def con67_zA (a : Int) (b : Int) (c : Int) (d : Int) (e : Int) : Ann := fun _ _ _ => none
def con21 : Con := fun vs bs K => match vs with
  | [u, v] => five u fun a b c d e => parse [.i64, .i64] 0 v bs fun n f _ bs => bs = [] ∧ K (.tuple ⟨[.int .i64 (ckF a b c d e n f).1, .int .i64 (ckF a b c d e n f).2]⟩) []
  | _ => False

def con21_nA (a : Int) (b : Int) (c : Int) (d : Int) (e : Int) : Ann := fun k _ _ => bif Nat.beq k 8 then some [{ α := Nat, T := fun k => ⟨66, [(2, .pointer (some ⟨0, 0, none⟩)), (7, .int .i64 (pc zF k)), (20, .slice none 0 0), (21, .int .i64 (0 : Nat)), (22, .int .i64 (k : Int))]⟩, S := fun _ => ⟨[(0, .cells [.int .i64 a, .int .i64 b, .int .i64 c, .int .i64 d, .int .i64 e] 23)], 1⟩, I := fun k => k ≤ 0 ∧ 0 ≤ pc zF k ∧ pc zF k ≤ 2 ∧ ck a zF (0 - k) k = ck a zF 0 0, m := fun k => 0 - k, ρ0 := [(0, 0)], ρ1 := [[(0, 0)]] }] else none
def con21_rA (el nl cl : Nat) (fl : RF) (a : Int) (b : Int) (c : Int) (d : Int) (e : Int) : Ann := fun k _ _ => bif Nat.beq k 8 then some [{ α := Nat, T := fun k => ⟨66, [(2, .pointer (some ⟨1, 0, none⟩)), (7, .int .i64 (pc fl k)), (20, rsl 0 0 nl cl), (21, .int .i64 (nl : Nat)), (22, .int .i64 (k : Int))]⟩, S := fun _ => ⟨[(1, .cells [.int .i64 a, .int .i64 b, .int .i64 c, .int .i64 d, .int .i64 e] 23), (0, .row true [.i64, .i64] el nl cl fl)], 2⟩, I := fun k => k ≤ nl ∧ 0 ≤ pc fl k ∧ pc fl k ≤ 2 ∧ ck a fl (nl - k) k = ck a fl nl 0, m := fun k => nl - k, ρ0 := [(1, 1)], ρ1 := [[(1, 1)]] }] else none
def con22 : Con := fun vs bs K => match vs with
  | [u, v] => five u fun a b c d e => parse [.i64, .i64] 0 v bs fun n f _ bs => bs = [] ∧ K (.tuple ⟨[.int .i64 (ckF a b c d e n f).1, .int .i64 (ckF a b c d e n f).2]⟩) []
  | _ => False

def con22_nA (a : Int) (b : Int) (c : Int) (d : Int) (e : Int) : Ann := fun k _ _ => bif Nat.beq k 8 then some [{ α := Nat, T := fun k => ⟨88, [(2, .pointer (some ⟨0, 0, none⟩)), (1, .slice none 0 0), (7, .int .i64 (pc zF k)), (8, .int .i64 (k : Int))]⟩, S := fun _ => ⟨[(0, .cells [.int .i64 a, .int .i64 b, .int .i64 c, .int .i64 d, .int .i64 e] 23)], 1⟩, I := fun k => k ≤ 0 ∧ 0 ≤ pc zF k ∧ pc zF k ≤ 2 ∧ ck a zF (0 - k) k = ck a zF 0 0, m := fun k => 0 - k, ρ0 := [(0, 0)], ρ1 := [[(0, 0)]] }] else none
def con22_rA (el nl cl : Nat) (fl : RF) (a : Int) (b : Int) (c : Int) (d : Int) (e : Int) : Ann := fun k _ _ => bif Nat.beq k 8 then some [{ α := Nat, T := fun k => ⟨88, [(2, .pointer (some ⟨1, 0, none⟩)), (1, rsl 0 0 nl cl), (7, .int .i64 (pc fl k)), (8, .int .i64 (k : Int))]⟩, S := fun _ => ⟨[(1, .cells [.int .i64 a, .int .i64 b, .int .i64 c, .int .i64 d, .int .i64 e] 23), (0, .row true [.i64, .i64] el nl cl fl)], 2⟩, I := fun k => k ≤ nl ∧ 0 ≤ pc fl k ∧ pc fl k ≤ 2 ∧ ck a fl (nl - k) k = ck a fl nl 0, m := fun k => nl - k, ρ0 := [(1, 1)], ρ1 := [[(1, 1)]] }] else none
def con67_zV (a : Int) (b : Int) (c : Int) (d : Int) (e : Int) (K : Value → List Blk → Prop) : Prop := let q0 := (∃ y0 : Value, (∃ y1 : List Blk, ((Go.Rx.Found 0 (vi (7 : Int)) ({ h := [((0 : Nat), Blk.cells [vi a, vi b, vi c, vi d, vi e] (23 : Nat))], next := (1 : Nat) }) (y0) (y1)) ∧ (K y0 y1)))); (t4 (if ((8 : Int) ≤ a) then (T0 ∧ (if (a ≤ (64 : Int)) then (t3 (if ((7 : Int) ≤ b) then (T0 ∧ (if (b ≤ (24 : Int)) then (t3 (if ((4 : Int) ≤ c) then (T0 ∧ (if (c ≤ (64 : Int)) then (t3 (if ((1 : Int) ≤ d) then (T0 ∧ (if (d ≤ (8 : Int)) then (t3 (if ((2 : Int) ≤ e) then (T0 ∧ (if (e ≤ (16 : Int)) then (∃ y0 : Value, (∃ y1 : List Blk, ((Go.Rx.Found 0 (vi (0 : Int)) ({ h := [((0 : Nat), Blk.cells [vi a, vi b, vi c, vi d, vi e] (23 : Nat))], next := (1 : Nat) }) (y0) (y1)) ∧ (K y0 y1)))) else q0)) else q0)) else q0)) else q0)) else q0)) else q0)) else q0)) else q0)) else q0)) else q0))
theorem con67_zE (a : Int) (b : Int) (c : Int) (d : Int) (e : Int) (K : Value → List Blk → Prop) : con67_zV a b c d e K = bodyX (mk []) (callN (mk []) 3) (con67_zA a b c d e) Try.f67 [five' a b c d e] (stOf []) (Fd 0 K) := by kernel_rfl
set_option tactic.hygienic false in
theorem con67_zP (a : Int) (b : Int) (c : Int) (d : Int) (e : Int) (K : Value → List Blk → Prop)  (hI : InC a b c d e) (h : K (.int .i64 (chk a b c d e)) []) : con67_zV a b c d e K := by
  unfold con67_zV
  conv => zeta
  repeat' (first | (with_reducible first | exact rfl | exact trivial | refine And.intro ?_ ?_ | refine br_intro (fun hq => ?_) fun hq => ?_ | refine if_both (fun hz => ?_) fun hz => ?_) | (intro) | fail)
  all_goals first
    | exact fin0 (by kernel_rfl) (by kernel_rfl) (by
        have q : chk a b c d e = 7 := if_neg (by unfold good; omega)
        rw [q] at h; exact h)
    | exact fin0 (by kernel_rfl) (by kernel_rfl) (by
        have q : chk a b c d e = 0 := if_pos (by unfold good; omega)
        rw [q] at h; exact h)
theorem con67_ok : BodyOk (mk []) 3 Try.f67 con67 := by
  intro vs bs K hh hro
  clear hro
  unfold con67 at hh
  split at hh
  · obtain ⟨a, b, c, d, e, rfl, hI, hh0⟩ := five_inv hh
    obtain ⟨rfl, hc⟩ := hh0
    exact ⟨_, _, cast (con67_zE a b c d e K) (con67_zP a b c d e K hI hc)⟩
  · exact hh.elim
theorem con67_told : Told 67 (specOf con67) := told (X := []) (fun _ h => by cases h) (by kernel_rfl) (by kernel_rfl) (by kernel_rfl) con67_ok
def con21_nV (a : Int) (b : Int) (c : Int) (d : Int) (e : Int) (K : Value → List Blk → Prop) : Prop := let q0 := TS; (t2 ((InC a b c d e) ∧ (T0 ∧ (if (@Eq Int (chk a b c d e) ((0 : Int))) then (q0 ∧ (t2 (if (@Eq Int ((0 : Int)) (b)) then (q0 ∧ ((∃ y0 : Nat, ((Go.Rx.Sub 0 [((0 : Nat), (0 : Nat))] ⟨66, [(22, vi (0 : Int)), (21, vi (0 : Int)), (20, vn), (7, vi (0 : Int)), (2, Value.pointer (some { block := (0 : Nat), off := (0 : Nat) }))]⟩ ⟨[(0, Blk.cells [vi a, vi b, vi c, vi d, vi e] (23 : Nat))], 1⟩ ({ n := (66 : Nat), m := [((2 : Nat), Value.pointer (some { block := (0 : Nat), off := (0 : Nat) })), ((7 : Nat), vi (pc zF y0)), ((20 : Nat), vn), ((21 : Nat), vi (0 : Int)), ((22 : Nat), vi (↑y0 : Int))] }) ({ h := [((0 : Nat), Blk.cells [vi a, vi b, vi c, vi d, vi e] (23 : Nat))], next := (1 : Nat) })) ∧ ((y0 ≤ (0 : Nat)) ∧ (((0 : Int) ≤ pc zF y0) ∧ ((pc zF y0 ≤ (2 : Int)) ∧ (ck a zF ((0 : Nat) - y0) y0 = ck a zF (0 : Nat) (0 : Nat))))))) ∧ (∀ y0 : Nat, (((y0 ≤ (0 : Nat)) ∧ (((0 : Int) ≤ pc zF y0) ∧ ((pc zF y0 ≤ (2 : Int)) ∧ (ck a zF ((0 : Nat) - y0) y0 = ck a zF (0 : Nat) (0 : Nat))))) → (T0 ∧ (∃ y1 : Value, (∃ y2 : List Blk, ((Go.Rx.Found 0 (Value.tuple { toList := [vi (0 : Int), vi (0 : Int)] }) ({ h := [((0 : Nat), Blk.cells [vi a, vi b, vi c, vi d, vi e] (23 : Nat))], next := (1 : Nat) }) (y1) (y2)) ∧ (K y1 y2))))))))) else (∃ y0 : Value, (∃ y1 : List Blk, ((Go.Rx.Found 0 (Value.tuple { toList := [vi (-1 : Int), vi (3 : Int)] }) ({ h := [((0 : Nat), Blk.cells [vi a, vi b, vi c, vi d, vi e] (23 : Nat))], next := (1 : Nat) }) (y0) (y1)) ∧ (K y0 y1))))))) else (∃ y0 : Value, (∃ y1 : List Blk, ((Go.Rx.Found 0 (Value.tuple { toList := [vi (-1 : Int), vi (chk a b c d e)] }) ({ h := [((0 : Nat), Blk.cells [vi a, vi b, vi c, vi d, vi e] (23 : Nat))], next := (1 : Nat) }) (y0) (y1)) ∧ (K y0 y1))))))))
theorem con21_nE (a : Int) (b : Int) (c : Int) (d : Int) (e : Int) (K : Value → List Blk → Prop) : con21_nV a b c d e K = bodyX (mk [(66, sp66)]) (callN (mk [(66, sp66)]) 3) (con21_nA a b c d e) Try.f21 [five' a b c d e, .slice none 0 0] (stOf []) (Fd 0 K) := by kernel_rfl
set_option tactic.hygienic false in
theorem con21_nP (a : Int) (b : Int) (c : Int) (d : Int) (e : Int) (K : Value → List Blk → Prop)  (hI : InC a b c d e) (h : K (.tuple ⟨[.int .i64 (ckF a b c d e 0 zF).1, .int .i64 (ckF a b c d e 0 zF).2]⟩) []) : con21_nV a b c d e K := by
  unfold con21_nV
  conv => zeta
  repeat' (first | (with_reducible first | exact rfl | exact trivial | refine And.intro ?_ ?_ | refine br_intro (fun hq => ?_) fun hq => ?_ | refine if_both (fun hz => ?_) fun hz => ?_) | (intro) | fail)
  all_goals first
    | omega
    | assumption
    | exact ⟨0, (by (refine And.intro (And.intro rfl (And.intro rfl (And.intro rfl rfl))) ?_; (repeat' (first | exact trivial | exact rfl | exact fun _ _ _ _ => rfl | refine And.intro ?_ ?_ | omega | fail)); done)), by omega, by simp [pc], by simp [pc], rfl⟩
    | (refine ⟨y0 + 1, (by (refine And.intro (And.intro rfl (And.intro rfl (And.intro rfl rfl))) ?_; (repeat' (first | exact trivial | exact rfl | exact fun _ _ _ _ => rfl | refine And.intro ?_ ?_ | omega | (simp only [pc]; first | rw [if_pos (by omega)] | rw [if_neg (by omega)]) | fail)); done)), ⟨by omega, ?_, ?_, ?_⟩, by omega⟩
       · have q := ‹y0 ≤ 0 ∧ 0 ≤ pc zF y0 ∧ pc zF y0 ≤ 2 ∧ ck a zF (0 - y0) y0 = ck a zF 0 0›
         simp only [pc]; split <;> omega
       · have q := ‹y0 ≤ 0 ∧ 0 ≤ pc zF y0 ∧ pc zF y0 ≤ 2 ∧ ck a zF (0 - y0) y0 = ck a zF 0 0›
         simp only [pc]; split <;> omega
       · have q := ‹y0 ≤ 0 ∧ 0 ≤ pc zF y0 ∧ pc zF y0 ≤ 2 ∧ ck a zF (0 - y0) y0 = ck a zF 0 0›
         have q2 := ck_step a zF (n := 0) (k := y0) (by omega)
         rw [if_neg (by omega), if_neg (by omega), if_neg (by omega)] at q2
         rw [← q2]
         exact q.2.2.2)
    | exact fin0 (by kernel_rfl) (by kernel_rfl) (by
        rw [ckF_bad (by assumption)] at h; exact h)
    | exact fin0 (by kernel_rfl) (by kernel_rfl) (by
        rw [ckF_long (by assumption) (by assumption)] at h; exact h)
    | exact fin0 (by kernel_rfl) (by kernel_rfl) (by
        have q := ‹y0 ≤ 0 ∧ 0 ≤ pc zF y0 ∧ pc zF y0 ≤ 2 ∧ ck a zF (0 - y0) y0 = ck a zF 0 0›
        have q2 := ck_step a zF (n := 0) (k := y0) (by omega)
        rw [ckF_go (by assumption) (by assumption), ← q.2.2.2, q2] at h
        first
          | (rw [if_pos (by omega)] at h; exact h)
          | (rw [if_neg (by omega), if_pos (by omega)] at h; exact h)
          | (rw [if_neg (by omega), if_neg (by omega), if_pos (by omega)] at h; exact h))
    | exact fin0 (by kernel_rfl) (by kernel_rfl) (by
        have q := ‹y0 ≤ 0 ∧ 0 ≤ pc zF y0 ∧ pc zF y0 ≤ 2 ∧ ck a zF (0 - y0) y0 = ck a zF 0 0›
        rw [ckF_go (by assumption) (by assumption), ← q.2.2.2, show 0 - y0 = 0 by omega] at h
        exact h)
def con21_rV (el nl cl : Nat) (fl : RF) (a : Int) (b : Int) (c : Int) (d : Int) (e : Int) (K : Value → List Blk → Prop) : Prop := let q0 := ((1 : Nat), (1 : Nat)); let q1 := (9223372036854775807 : Int); let q2 := (-9223372036854775808 : Int); let q3 := (@Eq Nat ((2 : Nat)) ((2 : Nat))); let q4 := (20, rsl (0 : Nat) (0 : Nat) nl cl); let q5 := (21, vi (↑nl : Int)); let q6 := TS; let q7 := ((20 : Nat), rsl (0 : Nat) (0 : Nat) nl cl); let q8 := ((21 : Nat), vi (↑nl : Int)); let q9 := (0, rT el nl cl fl); let q10 := ((0 : Nat), rT el nl cl fl); let q11 := (2, Value.pointer (some { block := (1 : Nat), off := (0 : Nat) })); let q12 := ((2 : Nat), Value.pointer (some { block := (1 : Nat), off := (0 : Nat) })); let q13 := (1, Blk.cells [vi a, vi b, vi c, vi d, vi e] (23 : Nat)); let q14 := ((1 : Nat), Blk.cells [vi a, vi b, vi c, vi d, vi e] (23 : Nat)); (t2 ((InC a b c d e) ∧ (T0 ∧ (if (@Eq Int (chk a b c d e) ((0 : Int))) then (q6 ∧ (t2 (if (@Eq Int ((↑nl : Int)) (b)) then (q6 ∧ ((∃ y0 : Nat, ((Go.Rx.Sub 1 [q0] ⟨66, [(22, vi (0 : Int)), q5, q4, (7, vi (0 : Int)), q11]⟩ ⟨[q13, q9], 2⟩ ({ n := (66 : Nat), m := [q12, ((7 : Nat), vi (pc fl y0)), q7, q8, ((22 : Nat), vi (↑y0 : Int))] }) ({ h := [q14, q10], next := (2 : Nat) })) ∧ ((y0 ≤ nl) ∧ (((0 : Int) ≤ pc fl y0) ∧ ((pc fl y0 ≤ (2 : Int)) ∧ (ck a fl (nl - y0) y0 = ck a fl nl (0 : Nat))))))) ∧ (∀ y0 : Nat, let q15 := (22, vi ((↑y0 : Int) + (1 : Int))); let q16 := ((q2 ≤ (↑y0 : Int) + (1 : Int)) ∧ ((↑y0 : Int) + (1 : Int) ≤ q1)); let q17 := (∃ y1 : Value, (∃ y2 : List Blk, ((Go.Rx.Found 1 (Value.tuple { toList := [vi (↑y0 : Int), vi (6 : Int)] }) ({ h := [((2 : Nat), Blk.cells [vi (fl y0 (0 : Nat)), vi (fl y0 (1 : Nat))] (54 : Nat)), q14, q10], next := (3 : Nat) }) (y1) (y2)) ∧ (K y1 y2)))); let q18 := (∃ y1 : Value, (∃ y2 : List Blk, ((Go.Rx.Found 1 (Value.tuple { toList := [vi (↑y0 : Int), vi (7 : Int)] }) ({ h := [((2 : Nat), Blk.cells [vi (fl y0 (0 : Nat)), vi (fl y0 (1 : Nat))] (54 : Nat)), q14, q10], next := (3 : Nat) }) (y1) (y2)) ∧ (K y1 y2)))); let q19 := (t2 (if (fl y0 (1 : Nat) < (0 : Int)) then q18 else (t3 (if (a < fl y0 (1 : Nat)) then q18 else (t2 (if (@Eq Int (fl y0 (0 : Nat)) ((2 : Int))) then (T0 ∧ (if (@Eq Int (pc fl y0) ((2 : Int))) then (∃ y1 : Value, (∃ y2 : List Blk, ((Go.Rx.Found 1 (Value.tuple { toList := [vi (↑y0 : Int), vi (5 : Int)] }) ({ h := [((2 : Nat), Blk.cells [vi (fl y0 (0 : Nat)), vi (fl y0 (1 : Nat))] (54 : Nat)), q14, q10], next := (3 : Nat) }) (y1) (y2)) ∧ (K y1 y2)))) else (T0 ∧ (((q2 ≤ pc fl y0 + (1 : Int)) ∧ (pc fl y0 + (1 : Int) ≤ q1)) ∧ (T0 ∧ (q16 ∧ (∃ y1 : Nat, ((Go.Rx.Sub 1 [q0] ⟨66, [q15, (7, vi (pc fl y0 + (1 : Int))), q11, q4, q5]⟩ ⟨[q13, q9], 3⟩ ({ n := (66 : Nat), m := [q12, ((7 : Nat), vi (pc fl y1)), q7, q8, ((22 : Nat), vi (↑y1 : Int))] }) ({ h := [q14, q10], next := (2 : Nat) })) ∧ (((y1 ≤ nl) ∧ (((0 : Int) ≤ pc fl y1) ∧ ((pc fl y1 ≤ (2 : Int)) ∧ (ck a fl (nl - y1) y1 = ck a fl nl (0 : Nat))))) ∧ (nl - y1 < nl - y0)))))))))) else (T0 ∧ (q16 ∧ (∃ y1 : Nat, ((Go.Rx.Sub 1 [q0] ⟨66, [q15, q11, (7, vi (pc fl y0)), q4, q5]⟩ ⟨[q13, q9], 3⟩ ({ n := (66 : Nat), m := [q12, ((7 : Nat), vi (pc fl y1)), q7, q8, ((22 : Nat), vi (↑y1 : Int))] }) ({ h := [q14, q10], next := (2 : Nat) })) ∧ (((y1 ≤ nl) ∧ (((0 : Int) ≤ pc fl y1) ∧ ((pc fl y1 ≤ (2 : Int)) ∧ (ck a fl (nl - y1) y1 = ck a fl nl (0 : Nat))))) ∧ (nl - y1 < nl - y0)))))))))))); (((y0 ≤ nl) ∧ (((0 : Int) ≤ pc fl y0) ∧ ((pc fl y0 ≤ (2 : Int)) ∧ (ck a fl (nl - y0) y0 = ck a fl nl (0 : Nat))))) → (T0 ∧ (if ((↑y0 : Int) < (↑nl : Int)) then ((q6 ∧ q3) ∧ ((((0 : Int) ≤ (↑y0 : Int)) ∧ ((↑y0 : Int) < (↑nl : Int))) ∧ ((y0 < nl) ∧ (((@Eq Nat ((0 : Nat)) ((0 : Nat))) ∧ q3) ∧ (t4 (if (fl y0 (0 : Nat) < (0 : Int)) then q17 else (t2 (if ((2 : Int) < fl y0 (0 : Nat)) then q17 else (t2 (if (@Eq Int (fl y0 (0 : Nat)) ((0 : Int))) then (t2 (if (@Eq Int (fl y0 (1 : Nat)) ((0 : Int))) then q19 else q17)) else q19)))))))))) else (∃ y1 : Value, (∃ y2 : List Blk, ((Go.Rx.Found 1 (Value.tuple { toList := [vi (0 : Int), vi (0 : Int)] }) ({ h := [q14, q10], next := (2 : Nat) }) (y1) (y2)) ∧ (K y1 y2)))))))))) else (∃ y0 : Value, (∃ y1 : List Blk, ((Go.Rx.Found 1 (Value.tuple { toList := [vi (-1 : Int), vi (3 : Int)] }) ({ h := [q14, q10], next := (2 : Nat) }) (y0) (y1)) ∧ (K y0 y1))))))) else (∃ y0 : Value, (∃ y1 : List Blk, ((Go.Rx.Found 1 (Value.tuple { toList := [vi (-1 : Int), vi (chk a b c d e)] }) ({ h := [q14, q10], next := (2 : Nat) }) (y0) (y1)) ∧ (K y0 y1))))))))
theorem con21_rE (el nl cl : Nat) (fl : RF) (a : Int) (b : Int) (c : Int) (d : Int) (e : Int) (K : Value → List Blk → Prop) : con21_rV el nl cl fl a b c d e K = bodyX (mk [(66, sp66)]) (callN (mk [(66, sp66)]) 3) (con21_rA el nl cl fl a b c d e) Try.f21 [five' a b c d e, rsl 0 0 nl cl] (stOf [.row true [.i64, .i64] el nl cl fl]) (Fd 1 K) := by kernel_rfl
set_option tactic.hygienic false in
theorem con21_rP (el nl cl : Nat) (fl : RF) (a : Int) (b : Int) (c : Int) (d : Int) (e : Int) (K : Value → List Blk → Prop)  (hI : InC a b c d e) (hnl : nl ≤ 100000) (h : K (.tuple ⟨[.int .i64 (ckF a b c d e nl fl).1, .int .i64 (ckF a b c d e nl fl).2]⟩) []) : con21_rV el nl cl fl a b c d e K := by
  unfold con21_rV
  conv => zeta
  repeat' (first | (with_reducible first | exact rfl | exact trivial | refine And.intro ?_ ?_ | refine br_intro (fun hq => ?_) fun hq => ?_ | refine if_both (fun hz => ?_) fun hz => ?_) | (intro) | fail)
  all_goals first
    | omega
    | assumption
    | exact ⟨0, (by (refine And.intro (And.intro rfl (And.intro rfl (And.intro rfl rfl))) ?_; (repeat' (first | exact trivial | exact rfl | exact fun _ _ _ _ => rfl | refine And.intro ?_ ?_ | omega | fail)); done)), by omega, by simp [pc], by simp [pc], rfl⟩
    | (refine ⟨y0 + 1, (by (refine And.intro (And.intro rfl (And.intro rfl (And.intro rfl rfl))) ?_; (repeat' (first | exact trivial | exact rfl | exact fun _ _ _ _ => rfl | refine And.intro ?_ ?_ | omega | (simp only [pc]; first | rw [if_pos (by omega)] | rw [if_neg (by omega)]) | fail)); done)), ⟨by omega, ?_, ?_, ?_⟩, by omega⟩
       · have q := ‹y0 ≤ nl ∧ 0 ≤ pc fl y0 ∧ pc fl y0 ≤ 2 ∧ ck a fl (nl - y0) y0 = ck a fl nl 0›
         simp only [pc]; split <;> omega
       · have q := ‹y0 ≤ nl ∧ 0 ≤ pc fl y0 ∧ pc fl y0 ≤ 2 ∧ ck a fl (nl - y0) y0 = ck a fl nl 0›
         simp only [pc]; split <;> omega
       · have q := ‹y0 ≤ nl ∧ 0 ≤ pc fl y0 ∧ pc fl y0 ≤ 2 ∧ ck a fl (nl - y0) y0 = ck a fl nl 0›
         have q2 := ck_step a fl (n := nl) (k := y0) (by omega)
         rw [if_neg (by omega), if_neg (by omega), if_neg (by omega)] at q2
         rw [← q2]
         exact q.2.2.2)
    | exact fin0 (by kernel_rfl) (by kernel_rfl) (by
        rw [ckF_bad (by assumption)] at h; exact h)
    | exact fin0 (by kernel_rfl) (by kernel_rfl) (by
        rw [ckF_long (by assumption) (by assumption)] at h; exact h)
    | exact fin0 (by kernel_rfl) (by kernel_rfl) (by
        have q := ‹y0 ≤ nl ∧ 0 ≤ pc fl y0 ∧ pc fl y0 ≤ 2 ∧ ck a fl (nl - y0) y0 = ck a fl nl 0›
        have q2 := ck_step a fl (n := nl) (k := y0) (by omega)
        rw [ckF_go (by assumption) (by assumption), ← q.2.2.2, q2] at h
        first
          | (rw [if_pos (by omega)] at h; exact h)
          | (rw [if_neg (by omega), if_pos (by omega)] at h; exact h)
          | (rw [if_neg (by omega), if_neg (by omega), if_pos (by omega)] at h; exact h))
    | exact fin0 (by kernel_rfl) (by kernel_rfl) (by
        have q := ‹y0 ≤ nl ∧ 0 ≤ pc fl y0 ∧ pc fl y0 ≤ 2 ∧ ck a fl (nl - y0) y0 = ck a fl nl 0›
        rw [ckF_go (by assumption) (by assumption), ← q.2.2.2, show nl - y0 = 0 by omega] at h
        exact h)
theorem con21_ok : BodyOk (mk [(66, sp66)]) 3 Try.f21 con21 := by
  intro vs bs K hh hro
  clear hro
  unfold con21 at hh
  split at hh
  · obtain ⟨a, b, c, d, e, rfl, hI, hh0⟩ := five_inv hh
    rcases parse_inv hh0 with ⟨rfl, hh1⟩ | ⟨el, nl, cl, fl, bs1, rfl, hnl, rfl, hh1⟩ <;> clear hh0
    · obtain ⟨rfl, hc⟩ := hh1
      exact ⟨_, _, cast (con21_nE a b c d e K) (con21_nP a b c d e K hI hc)⟩
    · obtain ⟨rfl, hc⟩ := hh1
      exact ⟨_, _, cast (con21_rE el nl cl fl a b c d e K) (con21_rP el nl cl fl a b c d e K hI hnl hc)⟩
  · exact hh.elim
theorem con21_told : Told 21 (specOf con21) := told (X := [(66, sp66)]) (fun p hp => by
    simp only [List.mem_cons, List.not_mem_nil, or_false] at hp
    subst hp
    exact told66) (by kernel_rfl) (by kernel_rfl) (by kernel_rfl) con21_ok
def con22_nV (a : Int) (b : Int) (c : Int) (d : Int) (e : Int) (K : Value → List Blk → Prop) : Prop := let q0 := TS; let q1 := (T0 ∧ (if (@Eq Int (chk a b c d e) ((0 : Int))) then ((∃ y0 : Nat, ((Go.Rx.Sub 0 [((0 : Nat), (0 : Nat))] ⟨88, [(8, vi (0 : Int)), (7, vi (0 : Int)), (2, Value.pointer (some { block := (0 : Nat), off := (0 : Nat) })), (1, vn)]⟩ ⟨[(0, Blk.cells [vi a, vi b, vi c, vi d, vi e] (23 : Nat))], 1⟩ ({ n := (88 : Nat), m := [((2 : Nat), Value.pointer (some { block := (0 : Nat), off := (0 : Nat) })), ((1 : Nat), vn), ((7 : Nat), vi (pc zF y0)), ((8 : Nat), vi (↑y0 : Int))] }) ({ h := [((0 : Nat), Blk.cells [vi a, vi b, vi c, vi d, vi e] (23 : Nat))], next := (1 : Nat) })) ∧ ((y0 ≤ (0 : Nat)) ∧ (((0 : Int) ≤ pc zF y0) ∧ ((pc zF y0 ≤ (2 : Int)) ∧ (ck a zF ((0 : Nat) - y0) y0 = ck a zF (0 : Nat) (0 : Nat))))))) ∧ (∀ y0 : Nat, (((y0 ≤ (0 : Nat)) ∧ (((0 : Int) ≤ pc zF y0) ∧ ((pc zF y0 ≤ (2 : Int)) ∧ (ck a zF ((0 : Nat) - y0) y0 = ck a zF (0 : Nat) (0 : Nat))))) → (q0 ∧ (T0 ∧ (∃ y1 : Value, (∃ y2 : List Blk, ((Go.Rx.Found 0 (Value.tuple { toList := [vi (0 : Int), vi (0 : Int)] }) ({ h := [((0 : Nat), Blk.cells [vi a, vi b, vi c, vi d, vi e] (23 : Nat))], next := (1 : Nat) }) (y1) (y2)) ∧ (K y1 y2))))))))) else (∃ y0 : Value, (∃ y1 : List Blk, ((Go.Rx.Found 0 (Value.tuple { toList := [vi (-1 : Int), vi (chk a b c d e)] }) ({ h := [((0 : Nat), Blk.cells [vi a, vi b, vi c, vi d, vi e] (23 : Nat))], next := (1 : Nat) }) (y0) (y1)) ∧ (K y0 y1)))))); (t3 ((InC a b c d e) ∧ (eB ∧ (T0 ∧ (if (@Eq Int (chk a b c d e) ((0 : Int))) then (q0 ∧ (t2 (if (@Eq Int ((0 : Int)) (b)) then q1 else (T0 ∧ (∃ y0 : Value, (∃ y1 : List Blk, ((Go.Rx.Found 0 (Value.tuple { toList := [vi (-1 : Int), vi (3 : Int)] }) ({ h := [((0 : Nat), Blk.cells [vi a, vi b, vi c, vi d, vi e] (23 : Nat))], next := (1 : Nat) }) (y0) (y1)) ∧ (K y0 y1)))))))) else q1)))))
theorem con22_nE (a : Int) (b : Int) (c : Int) (d : Int) (e : Int) (K : Value → List Blk → Prop) : con22_nV a b c d e K = bodyX (mk [(67, specOf con67)]) (callN (mk [(67, specOf con67)]) 3) (con22_nA a b c d e) Try.f22 [five' a b c d e, .slice none 0 0] (stOf []) (Fd 0 K) := by kernel_rfl
set_option tactic.hygienic false in
theorem con22_nP (a : Int) (b : Int) (c : Int) (d : Int) (e : Int) (K : Value → List Blk → Prop)  (hI : InC a b c d e) (h : K (.tuple ⟨[.int .i64 (ckF a b c d e 0 zF).1, .int .i64 (ckF a b c d e 0 zF).2]⟩) []) : con22_nV a b c d e K := by
  unfold con22_nV
  conv => zeta
  repeat' (first | (with_reducible first | exact rfl | exact trivial | refine And.intro ?_ ?_ | refine br_intro (fun hq => ?_) fun hq => ?_ | refine if_both (fun hz => ?_) fun hz => ?_) | (intro) | fail)
  all_goals first
    | omega
    | assumption
    | exact ⟨0, (by (refine And.intro (And.intro rfl (And.intro rfl (And.intro rfl rfl))) ?_; (repeat' (first | exact trivial | exact rfl | exact fun _ _ _ _ => rfl | refine And.intro ?_ ?_ | omega | fail)); done)), by omega, by simp [pc], by simp [pc], rfl⟩
    | (refine ⟨y0 + 1, (by (refine And.intro (And.intro rfl (And.intro rfl (And.intro rfl rfl))) ?_; (repeat' (first | exact trivial | exact rfl | exact fun _ _ _ _ => rfl | refine And.intro ?_ ?_ | omega | (simp only [pc]; first | rw [if_pos (by omega)] | rw [if_neg (by omega)]) | fail)); done)), ⟨by omega, ?_, ?_, ?_⟩, by omega⟩
       · have q := ‹y0 ≤ 0 ∧ 0 ≤ pc zF y0 ∧ pc zF y0 ≤ 2 ∧ ck a zF (0 - y0) y0 = ck a zF 0 0›
         simp only [pc]; split <;> omega
       · have q := ‹y0 ≤ 0 ∧ 0 ≤ pc zF y0 ∧ pc zF y0 ≤ 2 ∧ ck a zF (0 - y0) y0 = ck a zF 0 0›
         simp only [pc]; split <;> omega
       · have q := ‹y0 ≤ 0 ∧ 0 ≤ pc zF y0 ∧ pc zF y0 ≤ 2 ∧ ck a zF (0 - y0) y0 = ck a zF 0 0›
         have q2 := ck_step a zF (n := 0) (k := y0) (by omega)
         rw [if_neg (by omega), if_neg (by omega), if_neg (by omega)] at q2
         rw [← q2]
         exact q.2.2.2)
    | exact fin0 (by kernel_rfl) (by kernel_rfl) (by
        rw [ckF_bad (by assumption)] at h; exact h)
    | exact fin0 (by kernel_rfl) (by kernel_rfl) (by
        rw [ckF_long (by assumption) (by assumption)] at h; exact h)
    | exact fin0 (by kernel_rfl) (by kernel_rfl) (by
        have q := ‹y0 ≤ 0 ∧ 0 ≤ pc zF y0 ∧ pc zF y0 ≤ 2 ∧ ck a zF (0 - y0) y0 = ck a zF 0 0›
        have q2 := ck_step a zF (n := 0) (k := y0) (by omega)
        rw [ckF_go (by assumption) (by assumption), ← q.2.2.2, q2] at h
        first
          | (rw [if_pos (by omega)] at h; exact h)
          | (rw [if_neg (by omega), if_pos (by omega)] at h; exact h)
          | (rw [if_neg (by omega), if_neg (by omega), if_pos (by omega)] at h; exact h))
    | exact fin0 (by kernel_rfl) (by kernel_rfl) (by
        have q := ‹y0 ≤ 0 ∧ 0 ≤ pc zF y0 ∧ pc zF y0 ≤ 2 ∧ ck a zF (0 - y0) y0 = ck a zF 0 0›
        rw [ckF_go (by assumption) (by assumption), ← q.2.2.2, show 0 - y0 = 0 by omega] at h
        exact h)
def con22_rV (el nl cl : Nat) (fl : RF) (a : Int) (b : Int) (c : Int) (d : Int) (e : Int) (K : Value → List Blk → Prop) : Prop := let q0 := ((1 : Nat), (1 : Nat)); let q1 := (9223372036854775807 : Int); let q2 := (-9223372036854775808 : Int); let q3 := (1, rsl (0 : Nat) (0 : Nat) nl cl); let q4 := TS; let q5 := ((1 : Nat), rsl (0 : Nat) (0 : Nat) nl cl); let q6 := (0, rT el nl cl fl); let q7 := (2, Value.pointer (some { block := (1 : Nat), off := (0 : Nat) })); let q8 := ((2 : Nat), Value.pointer (some { block := (1 : Nat), off := (0 : Nat) })); let q9 := (q4 ∧ (@Eq Nat ((2 : Nat)) ((2 : Nat)))); let q10 := (1, Blk.cells [vi a, vi b, vi c, vi d, vi e] (23 : Nat)); let q11 := (T0 ∧ (if (@Eq Int (chk a b c d e) ((0 : Int))) then ((∃ y0 : Nat, ((Go.Rx.Sub 1 [q0] ⟨88, [(8, vi (0 : Int)), (7, vi (0 : Int)), q7, q3]⟩ ⟨[q10, q6], 2⟩ ({ n := (88 : Nat), m := [q8, q5, ((7 : Nat), vi (pc fl y0)), ((8 : Nat), vi (↑y0 : Int))] }) ({ h := [((1 : Nat), Blk.cells [vi a, vi b, vi c, vi d, vi e] (23 : Nat)), ((0 : Nat), rT el nl cl fl)], next := (2 : Nat) })) ∧ ((y0 ≤ nl) ∧ (((0 : Int) ≤ pc fl y0) ∧ ((pc fl y0 ≤ (2 : Int)) ∧ (ck a fl (nl - y0) y0 = ck a fl nl (0 : Nat))))))) ∧ (∀ y0 : Nat, let q12 := (8, vi ((↑y0 : Int) + (1 : Int))); let q13 := (((0 : Int) ≤ (↑y0 : Int)) ∧ ((↑y0 : Int) < (↑nl : Int))); let q14 := ((q2 ≤ (↑y0 : Int) + (1 : Int)) ∧ ((↑y0 : Int) + (1 : Int) ≤ q1)); let q15 := (∃ y1 : Value, (∃ y2 : List Blk, ((Go.Rx.Found 1 (Value.tuple { toList := [vi (↑y0 : Int), vi (6 : Int)] }) ({ h := [((1 : Nat), Blk.cells [vi a, vi b, vi c, vi d, vi e] (23 : Nat)), ((0 : Nat), rT el nl cl fl)], next := (2 : Nat) }) (y1) (y2)) ∧ (K y1 y2)))); let q16 := (∃ y1 : Value, (∃ y2 : List Blk, ((Go.Rx.Found 1 (Value.tuple { toList := [vi (↑y0 : Int), vi (5 : Int)] }) ({ h := [((1 : Nat), Blk.cells [vi a, vi b, vi c, vi d, vi e] (23 : Nat)), ((0 : Nat), rT el nl cl fl)], next := (2 : Nat) }) (y1) (y2)) ∧ (K y1 y2)))); let q17 := (T0 ∧ (∃ y1 : Value, (∃ y2 : List Blk, ((Go.Rx.Found 1 (Value.tuple { toList := [vi (↑y0 : Int), vi (7 : Int)] }) ({ h := [((1 : Nat), Blk.cells [vi a, vi b, vi c, vi d, vi e] (23 : Nat)), ((0 : Nat), rT el nl cl fl)], next := (2 : Nat) }) (y1) (y2)) ∧ (K y1 y2))))); let q18 := (t4 (q9 ∧ (q13 ∧ (t3 ((y0 < nl) ∧ (t2 (if (fl y0 (1 : Nat) < (0 : Int)) then (T0 ∧ q17) else (t4 (q9 ∧ (q13 ∧ (t3 ((y0 < nl) ∧ (t5 (if (a < fl y0 (1 : Nat)) then q17 else (T0 ∧ (q9 ∧ (q13 ∧ (T0 ∧ ((y0 < nl) ∧ (T0 ∧ (if (@Eq Int (fl y0 (0 : Nat)) ((2 : Int))) then (T0 ∧ (((q2 ≤ pc fl y0 + (1 : Int)) ∧ (pc fl y0 + (1 : Int) ≤ q1)) ∧ (T0 ∧ (if ((2 : Int) < pc fl y0 + (1 : Int)) then q16 else (T0 ∧ (q14 ∧ (∃ y1 : Nat, ((Go.Rx.Sub 1 [q0] ⟨88, [q12, (7, vi (pc fl y0 + (1 : Int))), q7, q3]⟩ ⟨[q10, q6], 2⟩ ({ n := (88 : Nat), m := [q8, q5, ((7 : Nat), vi (pc fl y1)), ((8 : Nat), vi (↑y1 : Int))] }) ({ h := [((1 : Nat), Blk.cells [vi a, vi b, vi c, vi d, vi e] (23 : Nat)), ((0 : Nat), rT el nl cl fl)], next := (2 : Nat) })) ∧ (((y1 ≤ nl) ∧ (((0 : Int) ≤ pc fl y1) ∧ ((pc fl y1 ≤ (2 : Int)) ∧ (ck a fl (nl - y1) y1 = ck a fl nl (0 : Nat))))) ∧ (nl - y1 < nl - y0)))))))))) else (T0 ∧ (if ((2 : Int) < pc fl y0) then q16 else (T0 ∧ (q14 ∧ (∃ y1 : Nat, ((Go.Rx.Sub 1 [q0] ⟨88, [q12, q7, q3, (7, vi (pc fl y0))]⟩ ⟨[q10, q6], 2⟩ ({ n := (88 : Nat), m := [q8, q5, ((7 : Nat), vi (pc fl y1)), ((8 : Nat), vi (↑y1 : Int))] }) ({ h := [((1 : Nat), Blk.cells [vi a, vi b, vi c, vi d, vi e] (23 : Nat)), ((0 : Nat), rT el nl cl fl)], next := (2 : Nat) })) ∧ (((y1 ≤ nl) ∧ (((0 : Int) ≤ pc fl y1) ∧ ((pc fl y1 ≤ (2 : Int)) ∧ (ck a fl (nl - y1) y1 = ck a fl nl (0 : Nat))))) ∧ (nl - y1 < nl - y0))))))))))))))))))))))))))))); (((y0 ≤ nl) ∧ (((0 : Int) ≤ pc fl y0) ∧ ((pc fl y0 ≤ (2 : Int)) ∧ (ck a fl (nl - y0) y0 = ck a fl nl (0 : Nat))))) → (q4 ∧ (T0 ∧ (if ((↑y0 : Int) < (↑nl : Int)) then (q9 ∧ (q13 ∧ (T0 ∧ ((y0 < nl) ∧ (T0 ∧ (if (fl y0 (0 : Nat) < (0 : Int)) then q15 else (q9 ∧ (q13 ∧ (T0 ∧ ((y0 < nl) ∧ (T0 ∧ (if ((2 : Int) < fl y0 (0 : Nat)) then q15 else (q9 ∧ (q13 ∧ (T0 ∧ ((y0 < nl) ∧ (T0 ∧ (if (@Eq Int (fl y0 (0 : Nat)) ((0 : Int))) then (q9 ∧ (q13 ∧ (T0 ∧ ((y0 < nl) ∧ (T0 ∧ (if (@Eq Int (fl y0 (1 : Nat)) ((0 : Int))) then q18 else q15)))))) else q18)))))))))))))))))) else (∃ y1 : Value, (∃ y2 : List Blk, ((Go.Rx.Found 1 (Value.tuple { toList := [vi (0 : Int), vi (0 : Int)] }) ({ h := [((1 : Nat), Blk.cells [vi a, vi b, vi c, vi d, vi e] (23 : Nat)), ((0 : Nat), rT el nl cl fl)], next := (2 : Nat) }) (y1) (y2)) ∧ (K y1 y2)))))))))) else (∃ y0 : Value, (∃ y1 : List Blk, ((Go.Rx.Found 1 (Value.tuple { toList := [vi (-1 : Int), vi (chk a b c d e)] }) ({ h := [((1 : Nat), Blk.cells [vi a, vi b, vi c, vi d, vi e] (23 : Nat)), ((0 : Nat), rT el nl cl fl)], next := (2 : Nat) }) (y0) (y1)) ∧ (K y0 y1)))))); (t3 ((InC a b c d e) ∧ (eB ∧ (T0 ∧ (if (@Eq Int (chk a b c d e) ((0 : Int))) then (q4 ∧ (t2 (if (@Eq Int ((↑nl : Int)) (b)) then q11 else (T0 ∧ (∃ y0 : Value, (∃ y1 : List Blk, ((Go.Rx.Found 1 (Value.tuple { toList := [vi (-1 : Int), vi (3 : Int)] }) ({ h := [((1 : Nat), Blk.cells [vi a, vi b, vi c, vi d, vi e] (23 : Nat)), ((0 : Nat), rT el nl cl fl)], next := (2 : Nat) }) (y0) (y1)) ∧ (K y0 y1)))))))) else q11)))))
theorem con22_rE (el nl cl : Nat) (fl : RF) (a : Int) (b : Int) (c : Int) (d : Int) (e : Int) (K : Value → List Blk → Prop) : con22_rV el nl cl fl a b c d e K = bodyX (mk [(67, specOf con67)]) (callN (mk [(67, specOf con67)]) 3) (con22_rA el nl cl fl a b c d e) Try.f22 [five' a b c d e, rsl 0 0 nl cl] (stOf [.row true [.i64, .i64] el nl cl fl]) (Fd 1 K) := by kernel_rfl
set_option tactic.hygienic false in
theorem con22_rP (el nl cl : Nat) (fl : RF) (a : Int) (b : Int) (c : Int) (d : Int) (e : Int) (K : Value → List Blk → Prop)  (hI : InC a b c d e) (hnl : nl ≤ 100000) (h : K (.tuple ⟨[.int .i64 (ckF a b c d e nl fl).1, .int .i64 (ckF a b c d e nl fl).2]⟩) []) : con22_rV el nl cl fl a b c d e K := by
  unfold con22_rV
  conv => zeta
  repeat' (first | (with_reducible first | exact rfl | exact trivial | refine And.intro ?_ ?_ | refine br_intro (fun hq => ?_) fun hq => ?_ | refine if_both (fun hz => ?_) fun hz => ?_) | (intro) | fail)
  all_goals first
    | omega
    | assumption
    | exact ⟨0, (by (refine And.intro (And.intro rfl (And.intro rfl (And.intro rfl rfl))) ?_; (repeat' (first | exact trivial | exact rfl | exact fun _ _ _ _ => rfl | refine And.intro ?_ ?_ | omega | fail)); done)), by omega, by simp [pc], by simp [pc], rfl⟩
    | (refine ⟨y0 + 1, (by (refine And.intro (And.intro rfl (And.intro rfl (And.intro rfl rfl))) ?_; (repeat' (first | exact trivial | exact rfl | exact fun _ _ _ _ => rfl | refine And.intro ?_ ?_ | omega | (simp only [pc]; first | rw [if_pos (by omega)] | rw [if_neg (by omega)]) | fail)); done)), ⟨by omega, ?_, ?_, ?_⟩, by omega⟩
       · have q := ‹y0 ≤ nl ∧ 0 ≤ pc fl y0 ∧ pc fl y0 ≤ 2 ∧ ck a fl (nl - y0) y0 = ck a fl nl 0›
         simp only [pc]; split <;> omega
       · have q := ‹y0 ≤ nl ∧ 0 ≤ pc fl y0 ∧ pc fl y0 ≤ 2 ∧ ck a fl (nl - y0) y0 = ck a fl nl 0›
         simp only [pc]; split <;> omega
       · have q := ‹y0 ≤ nl ∧ 0 ≤ pc fl y0 ∧ pc fl y0 ≤ 2 ∧ ck a fl (nl - y0) y0 = ck a fl nl 0›
         have q2 := ck_step a fl (n := nl) (k := y0) (by omega)
         rw [if_neg (by omega), if_neg (by omega), if_neg (by omega)] at q2
         rw [← q2]
         exact q.2.2.2)
    | exact fin0 (by kernel_rfl) (by kernel_rfl) (by
        rw [ckF_bad (by assumption)] at h; exact h)
    | exact fin0 (by kernel_rfl) (by kernel_rfl) (by
        rw [ckF_long (by assumption) (by assumption)] at h; exact h)
    | exact fin0 (by kernel_rfl) (by kernel_rfl) (by
        have q := ‹y0 ≤ nl ∧ 0 ≤ pc fl y0 ∧ pc fl y0 ≤ 2 ∧ ck a fl (nl - y0) y0 = ck a fl nl 0›
        have q2 := ck_step a fl (n := nl) (k := y0) (by omega)
        rw [ckF_go (by assumption) (by assumption), ← q.2.2.2, q2] at h
        first
          | (rw [if_pos (by omega)] at h; exact h)
          | (rw [if_neg (by omega), if_pos (by omega)] at h; exact h)
          | (rw [if_neg (by omega), if_neg (by omega), if_pos (by omega)] at h; exact h))
    | exact fin0 (by kernel_rfl) (by kernel_rfl) (by
        have q := ‹y0 ≤ nl ∧ 0 ≤ pc fl y0 ∧ pc fl y0 ≤ 2 ∧ ck a fl (nl - y0) y0 = ck a fl nl 0›
        rw [ckF_go (by assumption) (by assumption), ← q.2.2.2, show nl - y0 = 0 by omega] at h
        exact h)
theorem con22_ok : BodyOk (mk [(67, specOf con67)]) 3 Try.f22 con22 := by
  intro vs bs K hh hro
  clear hro
  unfold con22 at hh
  split at hh
  · obtain ⟨a, b, c, d, e, rfl, hI, hh0⟩ := five_inv hh
    rcases parse_inv hh0 with ⟨rfl, hh1⟩ | ⟨el, nl, cl, fl, bs1, rfl, hnl, rfl, hh1⟩ <;> clear hh0
    · obtain ⟨rfl, hc⟩ := hh1
      exact ⟨_, _, cast (con22_nE a b c d e K) (con22_nP a b c d e K hI hc)⟩
    · obtain ⟨rfl, hc⟩ := hh1
      exact ⟨_, _, cast (con22_rE el nl cl fl a b c d e K) (con22_rP el nl cl fl a b c d e K hI hnl hc)⟩
  · exact hh.elim
theorem con22_told : Told 22 (specOf con22) := told (X := [(67, specOf con67)]) (fun p hp => by
    simp only [List.mem_cons, List.not_mem_nil, or_false] at hp
    subst hp
    exact con67_told) (by kernel_rfl) (by kernel_rfl) (by kernel_rfl) con22_ok
end Go.Proofs.Ytkflmglpniebfaa.Fr
namespace Go.Proofs.Ytkflmglpniebfaa.Fr
set_option maxRecDepth 100000
set_option maxHeartbeats 4000000
open Go.Rx
open Go.RowKit (Below)
set_option linter.unusedVariables false
@[reducible] def X7 : List (Nat × Rx.Spec) := [(22, specOf con22)]
theorem X7_told : ∀ p ∈ X7, Told p.1 p.2 := by
  intro p hp
  simp only [List.mem_cons, List.not_mem_nil, or_false] at hp
  subst hp
  exact con22_told
def selE (f : RF) (x : Int) (i : Nat) : Bool := decide (f i 0 = x)
theorem selE_yes {f : RF} {x : Int} {i : Nat} (h : f i 0 = x) : selE f x i = true := decide_eq_true h
theorem selE_no {f : RF} {x : Int} {i : Nat} (h : ¬ f i 0 = x) : ¬ selE f x i = true := by simpa [selE] using h
def con69 : Con := fun vs bs K => match vs with
  | [u, v, .int .i64 x] => five u fun a b c d e => parse [.i64, .i64] 0 v bs fun n f j bs => bs = [] ∧ (¬ (ckF a b c d e n f).2 = 0 → K (.tuple ⟨[.slice none 0 0, .int .i64 (ckF a b c d e n f).2]⟩) []) ∧ ((ckF a b c d e n f).2 = 0 → ((sel (selE f x) n) = [] → K (.tuple ⟨[.slice none 0 0, .int .i64 0]⟩) []) ∧ (¬ (sel (selE f x) n) = [] → ∀ cp, List.length (sel (selE f x) n) ≤ cp → K (.tuple ⟨[rsl j 0 (List.length (sel (selE f x) n)) cp, .int .i64 0]⟩) [.row false [.i64] 3 (List.length (sel (selE f x) n)) cp (lF (sel (selE f x) n))]))
  | _ => False

def con69_nA (a : Int) (b : Int) (c : Int) (d : Int) (e : Int) (x : Int) : Ann := fun k _ _ => bif Nat.beq k 6 then some [{ α := Nat, T := fun k => ⟨39, [(1, .slice none 0 0), (2, .int .i64 x), (11, .int .i64 ((k : Nat) : Int)), (10, .slice none 0 0)]⟩, S := fun _ => ⟨[], 0⟩, I := fun k => k ≤ 0 ∧ (sel (selE zF x) k) = [], m := fun k => 0 - k, ρ0 := [], ρ1 := [[]] }, { α := Nat × Nat, T := fun a => ⟨39, [(1, .slice none 0 0), (2, .int .i64 x), (11, .int .i64 ((a.1 : Nat) : Int)), (10, rsl 0 0 (List.length (sel (selE zF x) a.1)) (a.2 + 1))]⟩, S := fun a => ⟨[(0, .row false [.i64] 3 (List.length (sel (selE zF x) a.1)) (a.2 + 1) (lF (sel (selE zF x) a.1)))], 1⟩, I := fun a => a.1 ≤ 0 ∧ ¬ (sel (selE zF x) a.1) = [] ∧ List.length (sel (selE zF x) a.1) ≤ a.1 ∧ List.length (sel (selE zF x) a.1) ≤ a.2 + 1, m := fun a => 0 - a.1, ρ0 := [(0, 0)], ρ1 := [[(0, 0)], [(0, 1)], [(0, 2)]] }] else none
def con69_rA (el nl cl : Nat) (fl : RF) (a : Int) (b : Int) (c : Int) (d : Int) (e : Int) (x : Int) : Ann := fun k _ _ => bif Nat.beq k 6 then some [{ α := Nat, T := fun k => ⟨39, [(1, rsl 0 0 nl cl), (2, .int .i64 x), (11, .int .i64 ((k : Nat) : Int)), (10, .slice none 0 0)]⟩, S := fun _ => ⟨[(0, .row true [.i64, .i64] el nl cl fl)], 1⟩, I := fun k => k ≤ nl ∧ (sel (selE fl x) k) = [], m := fun k => nl - k, ρ0 := [], ρ1 := [[]] }, { α := Nat × Nat, T := fun a => ⟨39, [(1, rsl 0 0 nl cl), (2, .int .i64 x), (11, .int .i64 ((a.1 : Nat) : Int)), (10, rsl 1 0 (List.length (sel (selE fl x) a.1)) (a.2 + 1))]⟩, S := fun a => ⟨[(0, .row true [.i64, .i64] el nl cl fl), (1, .row false [.i64] 3 (List.length (sel (selE fl x) a.1)) (a.2 + 1) (lF (sel (selE fl x) a.1)))], 2⟩, I := fun a => a.1 ≤ nl ∧ ¬ (sel (selE fl x) a.1) = [] ∧ List.length (sel (selE fl x) a.1) ≤ a.1 ∧ List.length (sel (selE fl x) a.1) ≤ a.2 + 1, m := fun a => nl - a.1, ρ0 := [(1, 1)], ρ1 := [[(1, 1)], [(1, 2)], [(1, 3)]] }] else none
def con69_nV (a : Int) (b : Int) (c : Int) (d : Int) (e : Int) (x : Int) (K : Value → List Blk → Prop) : Prop := let q0 := (2, vi x); let q1 := ((2 : Nat), vi x); let q2 := (11, vi (0 : Int)); let q3 := (Prod.snd (ckF a b c d e (0 : Nat) zF)); let q4 := TS; let q5 := (1, vn); let q6 := (10, vn); let q7 := ((1 : Nat), vn); (t4 ((InC a b c d e) ∧ (eB ∧ (T0 ∧ (if (@Eq Int q3 ((0 : Int))) then (((∃ y0 : Nat, ((Go.Rx.Sub 0 [] ⟨39, [q2, q6, q5, q0]⟩ ⟨[], 1⟩ ({ n := (39 : Nat), m := [q7, q1, ((11 : Nat), vi (↑y0 : Int)), ((10 : Nat), vn)] }) ({ h := [], next := (0 : Nat) })) ∧ ((y0 ≤ (0 : Nat)) ∧ (sel (selE zF x) y0 = [])))) ∨ (∃ y0 : Nat × Nat, let q11 := (Prod.snd y0 + (1 : Nat)); let q12 := (sel (selE zF x) (Prod.fst y0)); let q13 := (List.length q12); ((Go.Rx.Sub 0 [((0 : Nat), (0 : Nat))] ⟨39, [q2, q6, q5, q0]⟩ ⟨[(0, Blk.cells [vi a, vi b, vi c, vi d, vi e] (23 : Nat))], 1⟩ ({ n := (39 : Nat), m := [q7, q1, ((11 : Nat), vi (↑(Prod.fst y0) : Int)), ((10 : Nat), rsl (0 : Nat) (0 : Nat) q13 q11)] }) ({ h := [((0 : Nat), Blk.row false [IntKind.i64] (3 : Nat) q13 q11 (lF q12))], next := (1 : Nat) })) ∧ ((Prod.fst y0 ≤ (0 : Nat)) ∧ ((¬sel (selE zF x) (Prod.fst y0) = []) ∧ ((List.length q12 ≤ Prod.fst y0) ∧ (List.length q12 ≤ Prod.snd y0 + (1 : Nat)))))))) ∧ ((∀ y0 : Nat, (((y0 ≤ (0 : Nat)) ∧ (sel (selE zF x) y0 = [])) → (q4 ∧ (T0 ∧ (∃ y1 : Value, (∃ y2 : List Blk, ((Go.Rx.Found 0 (Value.tuple { toList := [vn, vi (0 : Int)] }) ({ h := [], next := (0 : Nat) }) (y1) (y2)) ∧ (K y1 y2)))))))) ∧ (∀ y0 : Nat × Nat, let q8 := (Prod.snd y0 + (1 : Nat)); let q9 := (sel (selE zF x) (Prod.fst y0)); let q10 := (List.length q9); (((Prod.fst y0 ≤ (0 : Nat)) ∧ ((¬sel (selE zF x) (Prod.fst y0) = []) ∧ ((List.length q9 ≤ Prod.fst y0) ∧ (List.length q9 ≤ Prod.snd y0 + (1 : Nat))))) → (q4 ∧ (T0 ∧ (∃ y1 : Value, (∃ y2 : List Blk, ((Go.Rx.Found 0 (Value.tuple { toList := [rsl (0 : Nat) (0 : Nat) q10 q8, vi (0 : Int)] }) ({ h := [((0 : Nat), Blk.row false [IntKind.i64] (3 : Nat) q10 q8 (lF q9))], next := (1 : Nat) }) (y1) (y2)) ∧ (K y1 y2)))))))))) else (∃ y0 : Value, (∃ y1 : List Blk, ((Go.Rx.Found 0 (Value.tuple { toList := [vn, vi q3] }) ({ h := [((0 : Nat), Blk.cells [vi a, vi b, vi c, vi d, vi e] (23 : Nat))], next := (1 : Nat) }) (y0) (y1)) ∧ (K y0 y1)))))))))
theorem con69_nE (a : Int) (b : Int) (c : Int) (d : Int) (e : Int) (x : Int) (K : Value → List Blk → Prop) : con69_nV a b c d e x K = bodyX (mk X7) (callN (mk X7) 3) (con69_nA a b c d e x) Try.f69 [five' a b c d e, .slice none 0 0, .int .i64 x] (stOf []) (Fd 0 K) := by kernel_rfl
set_option tactic.hygienic false in
theorem con69_nP (a : Int) (b : Int) (c : Int) (d : Int) (e : Int) (x : Int) (K : Value → List Blk → Prop)  (hI : InC a b c d e) (h : (¬ (ckF a b c d e 0 zF).2 = 0 → K (.tuple ⟨[.slice none 0 0, .int .i64 (ckF a b c d e 0 zF).2]⟩) []) ∧ ((ckF a b c d e 0 zF).2 = 0 → ((sel (selE zF x) 0) = [] → K (.tuple ⟨[.slice none 0 0, .int .i64 0]⟩) []) ∧ (¬ (sel (selE zF x) 0) = [] → ∀ cp, List.length (sel (selE zF x) 0) ≤ cp → K (.tuple ⟨[rsl 0 0 (List.length (sel (selE zF x) 0)) cp, .int .i64 0]⟩) [.row false [.i64] 3 (List.length (sel (selE zF x) 0)) cp (lF (sel (selE zF x) 0))]))) : con69_nV a b c d e x K := by
  unfold con69_nV
  conv => zeta
  repeat' (first | (with_reducible first | exact rfl | exact trivial | refine And.intro ?_ ?_ | refine br_intro (fun hq => ?_) fun hq => ?_ | refine if_both (fun hz => ?_) fun hz => ?_) | (intro) | fail)
  all_goals first
    | omega
    | assumption
    | exact .inl ⟨0, (by (refine And.intro (And.intro rfl (And.intro rfl (And.intro rfl rfl))) ?_; (repeat' (first | exact trivial | exact rfl | exact fun _ _ _ _ => rfl | refine And.intro ?_ ?_ | omega | fail)); done)), by omega, rfl⟩
    | (have hq0 : ¬ zF y0 0 = x := by assumption
       have e1 : sel (selE zF x) (y0 + 1) = sel (selE zF x) y0 := sel_no (selE_no hq0)
       exact .inl ⟨y0 + 1, (by (refine And.intro (And.intro rfl (And.intro rfl (And.intro rfl rfl))) ?_; repeat' (first | exact trivial | exact rfl | exact fun _ _ _ _ => rfl | refine And.intro ?_ ?_ | omega | (show List.length (sel (selE zF x) (y0 + 1)) = _; first | (rw [e1]; done) | (rw [e1]; rfl) | (rw [e1]; simp; done)) | (show (_ : Nat) - 1 + 1 = _; omega) | (intro i j hi hj; have hi2 : i < List.length (sel (selE zF x) (y0 + 1)) := hi; rw [e1] at hi2; show lF (sel (selE zF x) (y0 + 1)) i j = _; first | (rw [e1]; done) | (rw [e1]; refine lF_one ?_ i j (by simpa using hi2) hj; rfl) | (rw [e1]; refine lF_app ?_ i j (by simpa using hi2) hj; rfl) | (rw [e1]; rfl)) | fail))), ⟨by omega, e1.trans (show y0 ≤ 0 ∧ sel (selE zF x) y0 = [] by assumption).2⟩, by omega⟩)
    | (have hq1 : zF y0 0 = x := by assumption
       have e1 : sel (selE zF x) (y0 + 1) = [] ++ [(y0 : Int)] := by
         rw [sel_yes (selE_yes hq1), (show y0 ≤ 0 ∧ sel (selE zF x) y0 = [] by assumption).2]
       exact .inr (.inr (.inl ⟨(y0 + 1, y1 - 1), (by (refine And.intro (And.intro rfl (And.intro rfl (And.intro rfl rfl))) ?_; repeat' (first | exact trivial | exact rfl | exact fun _ _ _ _ => rfl | refine And.intro ?_ ?_ | omega | (show List.length (sel (selE zF x) (y0 + 1)) = _; first | (rw [e1]; done) | (rw [e1]; rfl) | (rw [e1]; simp; done)) | (show (_ : Nat) - 1 + 1 = _; omega) | (intro i j hi hj; have hi2 : i < List.length (sel (selE zF x) (y0 + 1)) := hi; rw [e1] at hi2; show lF (sel (selE zF x) (y0 + 1)) i j = _; first | (rw [e1]; done) | (rw [e1]; refine lF_one ?_ i j (by simpa using hi2) hj; rfl) | (rw [e1]; refine lF_app ?_ i j (by simpa using hi2) hj; rfl) | (rw [e1]; rfl)) | fail))), ⟨by show y0 + 1 ≤ 0; omega, by rw [e1]; simp, by rw [e1]; simp, (by rw [e1]; show 1 ≤ y1 - 1 + 1; omega)⟩, by show 0 - (y0 + 1) < 0 - y0; omega⟩)))
    | (have I := (show y0.1 ≤ 0 ∧ ¬ sel (selE zF x) y0.1 = [] ∧ List.length (sel (selE zF x) y0.1) ≤ y0.1 ∧ List.length (sel (selE zF x) y0.1) ≤ y0.2 + 1 by assumption)
       have hq0 : ¬ zF y0.1 0 = x := by assumption
       have e1 : sel (selE zF x) (y0.1 + 1) = sel (selE zF x) y0.1 := sel_no (selE_no hq0)
       exact .inr (.inl ⟨(y0.1 + 1, y0.2), (by (refine And.intro (And.intro rfl (And.intro rfl (And.intro rfl rfl))) ?_; repeat' (first | exact trivial | exact rfl | exact fun _ _ _ _ => rfl | refine And.intro ?_ ?_ | omega | (show List.length (sel (selE zF x) (y0.1 + 1)) = _; first | (rw [e1]; done) | (rw [e1]; rfl) | (rw [e1]; simp; done)) | (show (_ : Nat) - 1 + 1 = _; omega) | (intro i j hi hj; have hi2 : i < List.length (sel (selE zF x) (y0.1 + 1)) := hi; rw [e1] at hi2; show lF (sel (selE zF x) (y0.1 + 1)) i j = _; first | (rw [e1]; done) | (rw [e1]; refine lF_one ?_ i j (by simpa using hi2) hj; rfl) | (rw [e1]; refine lF_app ?_ i j (by simpa using hi2) hj; rfl) | (rw [e1]; rfl)) | fail))), ⟨by show y0.1 + 1 ≤ 0; omega, by rw [e1]; exact I.2.1, by rw [e1]; show _ ≤ y0.1 + 1; omega, by rw [e1]; exact I.2.2.2⟩, by show 0 - (y0.1 + 1) < 0 - y0.1; omega⟩))
    | (have I := (show y0.1 ≤ 0 ∧ ¬ sel (selE zF x) y0.1 = [] ∧ List.length (sel (selE zF x) y0.1) ≤ y0.1 ∧ List.length (sel (selE zF x) y0.1) ≤ y0.2 + 1 by assumption)
       have hq1 : zF y0.1 0 = x := by assumption
       have e1 : sel (selE zF x) (y0.1 + 1) = sel (selE zF x) y0.1 ++ [(y0.1 : Int)] := sel_yes (selE_yes hq1)
       exact .inr (.inr (.inr ⟨(y0.1 + 1, y1 - 1), (by (refine And.intro (And.intro rfl (And.intro rfl (And.intro rfl rfl))) ?_; repeat' (first | exact trivial | exact rfl | exact fun _ _ _ _ => rfl | refine And.intro ?_ ?_ | omega | (show List.length (sel (selE zF x) (y0.1 + 1)) = _; first | (rw [e1]; done) | (rw [e1]; rfl) | (rw [e1]; simp; done)) | (show (_ : Nat) - 1 + 1 = _; omega) | (intro i j hi hj; have hi2 : i < List.length (sel (selE zF x) (y0.1 + 1)) := hi; rw [e1] at hi2; show lF (sel (selE zF x) (y0.1 + 1)) i j = _; first | (rw [e1]; done) | (rw [e1]; refine lF_one ?_ i j (by simpa using hi2) hj; rfl) | (rw [e1]; refine lF_app ?_ i j (by simpa using hi2) hj; rfl) | (rw [e1]; rfl)) | fail))), ⟨by show y0.1 + 1 ≤ 0; omega, by rw [e1]; simp, by rw [e1]; simp; omega, by rw [e1]; simp; omega⟩, by show 0 - (y0.1 + 1) < 0 - y0.1; omega⟩)))
    | exact fin0 (by kernel_rfl) (by kernel_rfl) (h.1 (by assumption))
    | (have I := (show y0 ≤ 0 ∧ sel (selE zF x) y0 = [] by assumption)
       exact fin0 (by kernel_rfl) (by kernel_rfl) ((h.2 (by assumption)).1 (by rw [← I.2]; congr 1; omega)))
    | (have I := (show y0.1 ≤ 0 ∧ ¬ sel (selE zF x) y0.1 = [] ∧ List.length (sel (selE zF x) y0.1) ≤ y0.1 ∧ List.length (sel (selE zF x) y0.1) ≤ y0.2 + 1 by assumption)
       have e1 : y0.1 = 0 := by omega
       rw [e1] at I ⊢
       exact fin1t (by kernel_rfl) (fun _ _ _ _ => rfl) (by kernel_rfl) (by kernel_rfl) ((h.2 (by assumption)).2 I.2.1 _ I.2.2.2))
def con69_rV (el nl cl : Nat) (fl : RF) (a : Int) (b : Int) (c : Int) (d : Int) (e : Int) (x : Int) (K : Value → List Blk → Prop) : Prop := let q0 := ((1 : Nat), (3 : Nat)); let q1 := ((1 : Nat), (2 : Nat)); let q2 := ((1 : Nat), (1 : Nat)); let q3 := ((1 : Nat) ≤ (1 : Nat)); let q4 := (9223372036854775807 : Int); let q5 := (List.length [IntKind.i64]); let q6 := (2, vi x); let q7 := (-9223372036854775808 : Int); let q8 := ((1 : Nat) ≤ (100000 : Nat)); let q9 := (Prod.snd (ckF a b c d e nl fl)); let q10 := (@Eq Nat ((0 : Nat)) ((0 : Nat))); let q11 := (1, rsl (0 : Nat) (0 : Nat) nl cl); let q12 := ((2 : Nat), vi x); let q13 := (11, vi (0 : Int)); let q14 := TS; let q15 := ((1 : Nat), rsl (0 : Nat) (0 : Nat) nl cl); let q16 := (10, vn); let q17 := ((10 : Nat), vn); let q18 := (0, rT el nl cl fl); let q19 := ((0 : Nat), rT el nl cl fl); let q20 := (q14 ∧ (@Eq Nat ((2 : Nat)) ((2 : Nat)))); (t3 (((0 : Nat) + nl ≤ nl) ∧ ((InC a b c d e) ∧ (q10 ∧ ((nl ≤ (100000 : Nat)) ∧ ((eK ∧ ((@Eq Nat (nl) (nl)) ∧ (@Eq Nat (cl) (cl)))) ∧ (eB ∧ (T0 ∧ (if (@Eq Int q9 ((0 : Int))) then (((∃ y0 : Nat, ((Go.Rx.Sub 1 [] ⟨39, [q13, q16, q11, q6]⟩ ⟨[q18], 2⟩ ({ n := (39 : Nat), m := [q15, q12, ((11 : Nat), vi (↑y0 : Int)), q17] }) ({ h := [q19], next := (1 : Nat) })) ∧ ((y0 ≤ nl) ∧ (sel (selE fl x) y0 = [])))) ∨ (∃ y0 : Nat × Nat, let q74 := (Prod.snd y0 + (1 : Nat)); let q75 := (sel (selE fl x) (Prod.fst y0)); let q76 := (List.length q75); ((Go.Rx.Sub 1 [q2] ⟨39, [q13, q16, q11, q6]⟩ ⟨[(1, Blk.cells [vi a, vi b, vi c, vi d, vi e] (23 : Nat)), q18], 2⟩ ({ n := (39 : Nat), m := [q15, q12, ((11 : Nat), vi (↑(Prod.fst y0) : Int)), ((10 : Nat), rsl (1 : Nat) (0 : Nat) q76 q74)] }) ({ h := [q19, ((1 : Nat), Blk.row false [IntKind.i64] (3 : Nat) q76 q74 (lF q75))], next := (2 : Nat) })) ∧ ((Prod.fst y0 ≤ nl) ∧ ((¬sel (selE fl x) (Prod.fst y0) = []) ∧ ((List.length q75 ≤ Prod.fst y0) ∧ (List.length q75 ≤ Prod.snd y0 + (1 : Nat)))))))) ∧ ((∀ y0 : Nat, let q51 := (11, vi ((↑y0 : Int) + (1 : Int))); let q52 := (litF q5 ([(↑y0 : Int)] ++ [])); let q53 := ((q7 ≤ (↑y0 : Int) + (1 : Int)) ∧ ((↑y0 : Int) + (1 : Int) ≤ q4)); (((y0 ≤ nl) ∧ (sel (selE fl x) y0 = [])) → (q14 ∧ (T0 ∧ (if ((↑y0 : Int) < (↑nl : Int)) then (q20 ∧ ((((0 : Int) ≤ (↑y0 : Int)) ∧ ((↑y0 : Int) < (↑nl : Int))) ∧ (T0 ∧ ((y0 < nl) ∧ (T0 ∧ (if (@Eq Int (fl y0 (0 : Nat)) (x)) then (q14 ∧ (t4 (q14 ∧ (q14 ∧ (t4 (q3 ∧ (q8 ∧ (∀ y1 : Nat, let q66 := (y1 - (1 : Nat) + (1 : Nat)); let q67 := (10, rsl (2 : Nat) (0 : Nat) (1 : Nat) q66); (((1 : Nat) ≤ y1) → (T0 ∧ (q53 ∧ ((∃ y2 : Nat, ((Go.Rx.Sub 1 [] ⟨39, [q51, q67, q11, q6]⟩ ⟨[q18], 3⟩ ({ n := (39 : Nat), m := [q15, q12, ((11 : Nat), vi (↑y2 : Int)), q17] }) ({ h := [q19], next := (1 : Nat) })) ∧ (((y2 ≤ nl) ∧ (sel (selE fl x) y2 = [])) ∧ (nl - y2 < nl - y0)))) ∨ ((∃ y2 : Nat × Nat, let q71 := (Prod.snd y2 + (1 : Nat)); let q72 := (sel (selE fl x) (Prod.fst y2)); let q73 := (List.length q72); ((Go.Rx.Sub 1 [q2] ⟨39, [q51, q67, q11, q6]⟩ ⟨[(1, Blk.row false [IntKind.i64] (3 : Nat) (1 : Nat) (1 : Nat) q52), q18], 3⟩ ({ n := (39 : Nat), m := [q15, q12, ((11 : Nat), vi (↑(Prod.fst y2) : Int)), ((10 : Nat), rsl (1 : Nat) (0 : Nat) q73 q71)] }) ({ h := [q19, ((1 : Nat), Blk.row false [IntKind.i64] (3 : Nat) q73 q71 (lF q72))], next := (2 : Nat) })) ∧ (((Prod.fst y2 ≤ nl) ∧ ((¬sel (selE fl x) (Prod.fst y2) = []) ∧ ((List.length q72 ≤ Prod.fst y2) ∧ (List.length q72 ≤ Prod.snd y2 + (1 : Nat))))) ∧ (nl - Prod.fst y2 < nl - y0)))) ∨ ((∃ y2 : Nat × Nat, let q68 := (Prod.snd y2 + (1 : Nat)); let q69 := (sel (selE fl x) (Prod.fst y2)); let q70 := (List.length q69); ((Go.Rx.Sub 1 [q1] ⟨39, [q51, q67, q11, q6]⟩ ⟨[(2, Blk.row false [IntKind.i64] (3 : Nat) (1 : Nat) q66 (appF (fun x x_1 ↦ (0 : Int)) (0 : Nat) q52 (0 : Nat))), q18], 3⟩ ({ n := (39 : Nat), m := [q15, q12, ((11 : Nat), vi (↑(Prod.fst y2) : Int)), ((10 : Nat), rsl (1 : Nat) (0 : Nat) q70 q68)] }) ({ h := [q19, ((1 : Nat), Blk.row false [IntKind.i64] (3 : Nat) q70 q68 (lF q69))], next := (2 : Nat) })) ∧ (((Prod.fst y2 ≤ nl) ∧ ((¬sel (selE fl x) (Prod.fst y2) = []) ∧ ((List.length q69 ≤ Prod.fst y2) ∧ (List.length q69 ≤ Prod.snd y2 + (1 : Nat))))) ∧ (nl - Prod.fst y2 < nl - y0)))) ∨ (∃ y2 : Nat × Nat, let q63 := (Prod.snd y2 + (1 : Nat)); let q64 := (sel (selE fl x) (Prod.fst y2)); let q65 := (List.length q64); ((Go.Rx.Sub 1 [q0] ⟨39, [q51, q67, q11, q6]⟩ ⟨[q18], 3⟩ ({ n := (39 : Nat), m := [q15, q12, ((11 : Nat), vi (↑(Prod.fst y2) : Int)), ((10 : Nat), rsl (1 : Nat) (0 : Nat) q65 q63)] }) ({ h := [q19, ((1 : Nat), Blk.row false [IntKind.i64] (3 : Nat) q65 q63 (lF q64))], next := (2 : Nat) })) ∧ (((Prod.fst y2 ≤ nl) ∧ ((¬sel (selE fl x) (Prod.fst y2) = []) ∧ ((List.length q64 ≤ Prod.fst y2) ∧ (List.length q64 ≤ Prod.snd y2 + (1 : Nat))))) ∧ (nl - Prod.fst y2 < nl - y0)))))))))))))))))) else (T0 ∧ (q53 ∧ ((∃ y1 : Nat, ((Go.Rx.Sub 1 [] ⟨39, [q51, q11, q6, q16]⟩ ⟨[q18], 1⟩ ({ n := (39 : Nat), m := [q15, q12, ((11 : Nat), vi (↑y1 : Int)), q17] }) ({ h := [q19], next := (1 : Nat) })) ∧ (((y1 ≤ nl) ∧ (sel (selE fl x) y1 = [])) ∧ (nl - y1 < nl - y0)))) ∨ ((∃ y1 : Nat × Nat, let q60 := (Prod.snd y1 + (1 : Nat)); let q61 := (sel (selE fl x) (Prod.fst y1)); let q62 := (List.length q61); ((Go.Rx.Sub 1 [q2] ⟨39, [q51, q11, q6, q16]⟩ ⟨[q18], 1⟩ ({ n := (39 : Nat), m := [q15, q12, ((11 : Nat), vi (↑(Prod.fst y1) : Int)), ((10 : Nat), rsl (1 : Nat) (0 : Nat) q62 q60)] }) ({ h := [q19, ((1 : Nat), Blk.row false [IntKind.i64] (3 : Nat) q62 q60 (lF q61))], next := (2 : Nat) })) ∧ (((Prod.fst y1 ≤ nl) ∧ ((¬sel (selE fl x) (Prod.fst y1) = []) ∧ ((List.length q61 ≤ Prod.fst y1) ∧ (List.length q61 ≤ Prod.snd y1 + (1 : Nat))))) ∧ (nl - Prod.fst y1 < nl - y0)))) ∨ ((∃ y1 : Nat × Nat, let q57 := (Prod.snd y1 + (1 : Nat)); let q58 := (sel (selE fl x) (Prod.fst y1)); let q59 := (List.length q58); ((Go.Rx.Sub 1 [q1] ⟨39, [q51, q11, q6, q16]⟩ ⟨[q18], 1⟩ ({ n := (39 : Nat), m := [q15, q12, ((11 : Nat), vi (↑(Prod.fst y1) : Int)), ((10 : Nat), rsl (1 : Nat) (0 : Nat) q59 q57)] }) ({ h := [q19, ((1 : Nat), Blk.row false [IntKind.i64] (3 : Nat) q59 q57 (lF q58))], next := (2 : Nat) })) ∧ (((Prod.fst y1 ≤ nl) ∧ ((¬sel (selE fl x) (Prod.fst y1) = []) ∧ ((List.length q58 ≤ Prod.fst y1) ∧ (List.length q58 ≤ Prod.snd y1 + (1 : Nat))))) ∧ (nl - Prod.fst y1 < nl - y0)))) ∨ (∃ y1 : Nat × Nat, let q54 := (Prod.snd y1 + (1 : Nat)); let q55 := (sel (selE fl x) (Prod.fst y1)); let q56 := (List.length q55); ((Go.Rx.Sub 1 [q0] ⟨39, [q51, q11, q6, q16]⟩ ⟨[q18], 1⟩ ({ n := (39 : Nat), m := [q15, q12, ((11 : Nat), vi (↑(Prod.fst y1) : Int)), ((10 : Nat), rsl (1 : Nat) (0 : Nat) q56 q54)] }) ({ h := [q19, ((1 : Nat), Blk.row false [IntKind.i64] (3 : Nat) q56 q54 (lF q55))], next := (2 : Nat) })) ∧ (((Prod.fst y1 ≤ nl) ∧ ((¬sel (selE fl x) (Prod.fst y1) = []) ∧ ((List.length q55 ≤ Prod.fst y1) ∧ (List.length q55 ≤ Prod.snd y1 + (1 : Nat))))) ∧ (nl - Prod.fst y1 < nl - y0))))))))))))))) else (∃ y1 : Value, (∃ y2 : List Blk, ((Go.Rx.Found 1 (Value.tuple { toList := [vn, vi (0 : Int)] }) ({ h := [q19], next := (1 : Nat) }) (y1) (y2)) ∧ (K y1 y2))))))))) ∧ (∀ y0 : Nat × Nat, let q21 := (↑(Prod.fst y0) : Int); let q22 := (Prod.snd y0 + (1 : Nat)); let q23 := (sel (selE fl x) (Prod.fst y0)); let q24 := (lF q23); let q25 := (List.length q23); let q26 := (List.length q23 + (1 : Nat)); let q27 := (11, vi (q21 + (1 : Int))); let q28 := (litF q5 ([q21] ++ [])); let q29 := (10, rsl (1 : Nat) (0 : Nat) q25 q22); let q30 := ((q7 ≤ q21 + (1 : Int)) ∧ (q21 + (1 : Int) ≤ q4)); (((Prod.fst y0 ≤ nl) ∧ ((¬sel (selE fl x) (Prod.fst y0) = []) ∧ ((List.length q23 ≤ Prod.fst y0) ∧ (List.length q23 ≤ Prod.snd y0 + (1 : Nat))))) → (q14 ∧ (T0 ∧ (if (q21 < (↑nl : Int)) then (q20 ∧ ((((0 : Int) ≤ q21) ∧ (q21 < (↑nl : Int))) ∧ (T0 ∧ ((Prod.fst y0 < nl) ∧ (T0 ∧ (if (@Eq Int (fl (Prod.fst y0) (0 : Nat)) (x)) then (q14 ∧ (t4 (q14 ∧ (q14 ∧ (t4 (q3 ∧ (q8 ∧ (T0 ∧ ((T0 ∧ ((false = false) ∧ (q10 ∧ ((@Eq Nat q25 q25) ∧ ((@Eq Nat q22 q22) ∧ (List.length q23 + (1 : Nat) ≤ (100000 : Nat))))))) ∧ (∀ y1 : Nat, let q43 := (y1 - (1 : Nat) + (1 : Nat)); let q44 := (10, rsl (3 : Nat) (0 : Nat) q26 q43); ((List.length q23 + (1 : Nat) ≤ y1) → (T0 ∧ (q30 ∧ ((∃ y2 : Nat, ((Go.Rx.Sub 1 [] ⟨39, [q27, q44, q11, q6]⟩ ⟨[q18], 4⟩ ({ n := (39 : Nat), m := [q15, q12, ((11 : Nat), vi (↑y2 : Int)), q17] }) ({ h := [q19], next := (1 : Nat) })) ∧ (((y2 ≤ nl) ∧ (sel (selE fl x) y2 = [])) ∧ (nl - y2 < nl - Prod.fst y0)))) ∨ ((∃ y2 : Nat × Nat, let q48 := (Prod.snd y2 + (1 : Nat)); let q49 := (sel (selE fl x) (Prod.fst y2)); let q50 := (List.length q49); ((Go.Rx.Sub 1 [q2] ⟨39, [q27, q44, q11, q6]⟩ ⟨[q18], 4⟩ ({ n := (39 : Nat), m := [q15, q12, ((11 : Nat), vi (↑(Prod.fst y2) : Int)), ((10 : Nat), rsl (1 : Nat) (0 : Nat) q50 q48)] }) ({ h := [q19, ((1 : Nat), Blk.row false [IntKind.i64] (3 : Nat) q50 q48 (lF q49))], next := (2 : Nat) })) ∧ (((Prod.fst y2 ≤ nl) ∧ ((¬sel (selE fl x) (Prod.fst y2) = []) ∧ ((List.length q49 ≤ Prod.fst y2) ∧ (List.length q49 ≤ Prod.snd y2 + (1 : Nat))))) ∧ (nl - Prod.fst y2 < nl - Prod.fst y0)))) ∨ ((∃ y2 : Nat × Nat, let q45 := (Prod.snd y2 + (1 : Nat)); let q46 := (sel (selE fl x) (Prod.fst y2)); let q47 := (List.length q46); ((Go.Rx.Sub 1 [q1] ⟨39, [q27, q44, q11, q6]⟩ ⟨[(2, Blk.row false [IntKind.i64] (3 : Nat) (1 : Nat) (1 : Nat) q28), q18], 4⟩ ({ n := (39 : Nat), m := [q15, q12, ((11 : Nat), vi (↑(Prod.fst y2) : Int)), ((10 : Nat), rsl (1 : Nat) (0 : Nat) q47 q45)] }) ({ h := [q19, ((1 : Nat), Blk.row false [IntKind.i64] (3 : Nat) q47 q45 (lF q46))], next := (2 : Nat) })) ∧ (((Prod.fst y2 ≤ nl) ∧ ((¬sel (selE fl x) (Prod.fst y2) = []) ∧ ((List.length q46 ≤ Prod.fst y2) ∧ (List.length q46 ≤ Prod.snd y2 + (1 : Nat))))) ∧ (nl - Prod.fst y2 < nl - Prod.fst y0)))) ∨ (∃ y2 : Nat × Nat, let q40 := (Prod.snd y2 + (1 : Nat)); let q41 := (sel (selE fl x) (Prod.fst y2)); let q42 := (List.length q41); ((Go.Rx.Sub 1 [q0] ⟨39, [q27, q44, q11, q6]⟩ ⟨[(3, Blk.row false [IntKind.i64] (3 : Nat) q26 q43 (appF q24 q25 q28 (0 : Nat))), q18], 4⟩ ({ n := (39 : Nat), m := [q15, q12, ((11 : Nat), vi (↑(Prod.fst y2) : Int)), ((10 : Nat), rsl (1 : Nat) (0 : Nat) q42 q40)] }) ({ h := [q19, ((1 : Nat), Blk.row false [IntKind.i64] (3 : Nat) q42 q40 (lF q41))], next := (2 : Nat) })) ∧ (((Prod.fst y2 ≤ nl) ∧ ((¬sel (selE fl x) (Prod.fst y2) = []) ∧ ((List.length q41 ≤ Prod.fst y2) ∧ (List.length q41 ≤ Prod.snd y2 + (1 : Nat))))) ∧ (nl - Prod.fst y2 < nl - Prod.fst y0)))))))))))))))))))) else (T0 ∧ (q30 ∧ ((∃ y1 : Nat, ((Go.Rx.Sub 1 [] ⟨39, [q27, q11, q6, q29]⟩ ⟨[q18], 2⟩ ({ n := (39 : Nat), m := [q15, q12, ((11 : Nat), vi (↑y1 : Int)), q17] }) ({ h := [q19], next := (1 : Nat) })) ∧ (((y1 ≤ nl) ∧ (sel (selE fl x) y1 = [])) ∧ (nl - y1 < nl - Prod.fst y0)))) ∨ ((∃ y1 : Nat × Nat, let q37 := (Prod.snd y1 + (1 : Nat)); let q38 := (sel (selE fl x) (Prod.fst y1)); let q39 := (List.length q38); ((Go.Rx.Sub 1 [q2] ⟨39, [q27, q11, q6, q29]⟩ ⟨[q18, (1, Blk.row false [IntKind.i64] (3 : Nat) q25 q22 q24)], 2⟩ ({ n := (39 : Nat), m := [q15, q12, ((11 : Nat), vi (↑(Prod.fst y1) : Int)), ((10 : Nat), rsl (1 : Nat) (0 : Nat) q39 q37)] }) ({ h := [q19, ((1 : Nat), Blk.row false [IntKind.i64] (3 : Nat) q39 q37 (lF q38))], next := (2 : Nat) })) ∧ (((Prod.fst y1 ≤ nl) ∧ ((¬sel (selE fl x) (Prod.fst y1) = []) ∧ ((List.length q38 ≤ Prod.fst y1) ∧ (List.length q38 ≤ Prod.snd y1 + (1 : Nat))))) ∧ (nl - Prod.fst y1 < nl - Prod.fst y0)))) ∨ ((∃ y1 : Nat × Nat, let q34 := (Prod.snd y1 + (1 : Nat)); let q35 := (sel (selE fl x) (Prod.fst y1)); let q36 := (List.length q35); ((Go.Rx.Sub 1 [q1] ⟨39, [q27, q11, q6, q29]⟩ ⟨[q18], 2⟩ ({ n := (39 : Nat), m := [q15, q12, ((11 : Nat), vi (↑(Prod.fst y1) : Int)), ((10 : Nat), rsl (1 : Nat) (0 : Nat) q36 q34)] }) ({ h := [q19, ((1 : Nat), Blk.row false [IntKind.i64] (3 : Nat) q36 q34 (lF q35))], next := (2 : Nat) })) ∧ (((Prod.fst y1 ≤ nl) ∧ ((¬sel (selE fl x) (Prod.fst y1) = []) ∧ ((List.length q35 ≤ Prod.fst y1) ∧ (List.length q35 ≤ Prod.snd y1 + (1 : Nat))))) ∧ (nl - Prod.fst y1 < nl - Prod.fst y0)))) ∨ (∃ y1 : Nat × Nat, let q31 := (Prod.snd y1 + (1 : Nat)); let q32 := (sel (selE fl x) (Prod.fst y1)); let q33 := (List.length q32); ((Go.Rx.Sub 1 [q0] ⟨39, [q27, q11, q6, q29]⟩ ⟨[q18], 2⟩ ({ n := (39 : Nat), m := [q15, q12, ((11 : Nat), vi (↑(Prod.fst y1) : Int)), ((10 : Nat), rsl (1 : Nat) (0 : Nat) q33 q31)] }) ({ h := [q19, ((1 : Nat), Blk.row false [IntKind.i64] (3 : Nat) q33 q31 (lF q32))], next := (2 : Nat) })) ∧ (((Prod.fst y1 ≤ nl) ∧ ((¬sel (selE fl x) (Prod.fst y1) = []) ∧ ((List.length q32 ≤ Prod.fst y1) ∧ (List.length q32 ≤ Prod.snd y1 + (1 : Nat))))) ∧ (nl - Prod.fst y1 < nl - Prod.fst y0))))))))))))))) else (∃ y1 : Value, (∃ y2 : List Blk, ((Go.Rx.Found 1 (Value.tuple { toList := [rsl (1 : Nat) (0 : Nat) q25 q22, vi (0 : Int)] }) ({ h := [q19, ((1 : Nat), Blk.row false [IntKind.i64] (3 : Nat) q25 q22 q24)], next := (2 : Nat) }) (y1) (y2)) ∧ (K y1 y2))))))))))) else (∃ y0 : Value, (∃ y1 : List Blk, ((Go.Rx.Found 1 (Value.tuple { toList := [vn, vi q9] }) ({ h := [((1 : Nat), Blk.cells [vi a, vi b, vi c, vi d, vi e] (23 : Nat)), q19], next := (2 : Nat) }) (y0) (y1)) ∧ (K y0 y1)))))))))))))
theorem con69_rE (el nl cl : Nat) (fl : RF) (a : Int) (b : Int) (c : Int) (d : Int) (e : Int) (x : Int) (K : Value → List Blk → Prop) : con69_rV el nl cl fl a b c d e x K = bodyX (mk X7) (callN (mk X7) 3) (con69_rA el nl cl fl a b c d e x) Try.f69 [five' a b c d e, rsl 0 0 nl cl, .int .i64 x] (stOf [.row true [.i64, .i64] el nl cl fl]) (Fd 1 K) := by kernel_rfl
set_option tactic.hygienic false in
theorem con69_rP (el nl cl : Nat) (fl : RF) (a : Int) (b : Int) (c : Int) (d : Int) (e : Int) (x : Int) (K : Value → List Blk → Prop)  (hI : InC a b c d e) (hnl : nl ≤ 100000) (h : (¬ (ckF a b c d e nl fl).2 = 0 → K (.tuple ⟨[.slice none 0 0, .int .i64 (ckF a b c d e nl fl).2]⟩) []) ∧ ((ckF a b c d e nl fl).2 = 0 → ((sel (selE fl x) nl) = [] → K (.tuple ⟨[.slice none 0 0, .int .i64 0]⟩) []) ∧ (¬ (sel (selE fl x) nl) = [] → ∀ cp, List.length (sel (selE fl x) nl) ≤ cp → K (.tuple ⟨[rsl 1 0 (List.length (sel (selE fl x) nl)) cp, .int .i64 0]⟩) [.row false [.i64] 3 (List.length (sel (selE fl x) nl)) cp (lF (sel (selE fl x) nl))]))) : con69_rV el nl cl fl a b c d e x K := by
  unfold con69_rV
  conv => zeta
  repeat' (first | (with_reducible first | exact rfl | exact trivial | refine And.intro ?_ ?_ | refine br_intro (fun hq => ?_) fun hq => ?_ | refine if_both (fun hz => ?_) fun hz => ?_) | (intro) | fail)
  all_goals first
    | omega
    | assumption
    | exact .inl ⟨0, (by (refine And.intro (And.intro rfl (And.intro rfl (And.intro rfl rfl))) ?_; (repeat' (first | exact trivial | exact rfl | exact fun _ _ _ _ => rfl | refine And.intro ?_ ?_ | omega | fail)); done)), by omega, rfl⟩
    | (have hq0 : ¬ fl y0 0 = x := by assumption
       have e1 : sel (selE fl x) (y0 + 1) = sel (selE fl x) y0 := sel_no (selE_no hq0)
       exact .inl ⟨y0 + 1, (by (refine And.intro (And.intro rfl (And.intro rfl (And.intro rfl rfl))) ?_; repeat' (first | exact trivial | exact rfl | exact fun _ _ _ _ => rfl | refine And.intro ?_ ?_ | omega | (show List.length (sel (selE fl x) (y0 + 1)) = _; first | (rw [e1]; done) | (rw [e1]; rfl) | (rw [e1]; simp; done)) | (show (_ : Nat) - 1 + 1 = _; omega) | (intro i j hi hj; have hi2 : i < List.length (sel (selE fl x) (y0 + 1)) := hi; rw [e1] at hi2; show lF (sel (selE fl x) (y0 + 1)) i j = _; first | (rw [e1]; done) | (rw [e1]; refine lF_one ?_ i j (by simpa using hi2) hj; rfl) | (rw [e1]; refine lF_app ?_ i j (by simpa using hi2) hj; rfl) | (rw [e1]; rfl)) | fail))), ⟨by omega, e1.trans (show y0 ≤ nl ∧ sel (selE fl x) y0 = [] by assumption).2⟩, by omega⟩)
    | (have hq1 : fl y0 0 = x := by assumption
       have e1 : sel (selE fl x) (y0 + 1) = [] ++ [(y0 : Int)] := by
         rw [sel_yes (selE_yes hq1), (show y0 ≤ nl ∧ sel (selE fl x) y0 = [] by assumption).2]
       exact .inr (.inr (.inl ⟨(y0 + 1, y1 - 1), (by (refine And.intro (And.intro rfl (And.intro rfl (And.intro rfl rfl))) ?_; repeat' (first | exact trivial | exact rfl | exact fun _ _ _ _ => rfl | refine And.intro ?_ ?_ | omega | (show List.length (sel (selE fl x) (y0 + 1)) = _; first | (rw [e1]; done) | (rw [e1]; rfl) | (rw [e1]; simp; done)) | (show (_ : Nat) - 1 + 1 = _; omega) | (intro i j hi hj; have hi2 : i < List.length (sel (selE fl x) (y0 + 1)) := hi; rw [e1] at hi2; show lF (sel (selE fl x) (y0 + 1)) i j = _; first | (rw [e1]; done) | (rw [e1]; refine lF_one ?_ i j (by simpa using hi2) hj; rfl) | (rw [e1]; refine lF_app ?_ i j (by simpa using hi2) hj; rfl) | (rw [e1]; rfl)) | fail))), ⟨by show y0 + 1 ≤ nl; omega, by rw [e1]; simp, by rw [e1]; simp, (by rw [e1]; show 1 ≤ y1 - 1 + 1; omega)⟩, by show nl - (y0 + 1) < nl - y0; omega⟩)))
    | (have I := (show y0.1 ≤ nl ∧ ¬ sel (selE fl x) y0.1 = [] ∧ List.length (sel (selE fl x) y0.1) ≤ y0.1 ∧ List.length (sel (selE fl x) y0.1) ≤ y0.2 + 1 by assumption)
       have hq0 : ¬ fl y0.1 0 = x := by assumption
       have e1 : sel (selE fl x) (y0.1 + 1) = sel (selE fl x) y0.1 := sel_no (selE_no hq0)
       exact .inr (.inl ⟨(y0.1 + 1, y0.2), (by (refine And.intro (And.intro rfl (And.intro rfl (And.intro rfl rfl))) ?_; repeat' (first | exact trivial | exact rfl | exact fun _ _ _ _ => rfl | refine And.intro ?_ ?_ | omega | (show List.length (sel (selE fl x) (y0.1 + 1)) = _; first | (rw [e1]; done) | (rw [e1]; rfl) | (rw [e1]; simp; done)) | (show (_ : Nat) - 1 + 1 = _; omega) | (intro i j hi hj; have hi2 : i < List.length (sel (selE fl x) (y0.1 + 1)) := hi; rw [e1] at hi2; show lF (sel (selE fl x) (y0.1 + 1)) i j = _; first | (rw [e1]; done) | (rw [e1]; refine lF_one ?_ i j (by simpa using hi2) hj; rfl) | (rw [e1]; refine lF_app ?_ i j (by simpa using hi2) hj; rfl) | (rw [e1]; rfl)) | fail))), ⟨by show y0.1 + 1 ≤ nl; omega, by rw [e1]; exact I.2.1, by rw [e1]; show _ ≤ y0.1 + 1; omega, by rw [e1]; exact I.2.2.2⟩, by show nl - (y0.1 + 1) < nl - y0.1; omega⟩))
    | (have I := (show y0.1 ≤ nl ∧ ¬ sel (selE fl x) y0.1 = [] ∧ List.length (sel (selE fl x) y0.1) ≤ y0.1 ∧ List.length (sel (selE fl x) y0.1) ≤ y0.2 + 1 by assumption)
       have hq1 : fl y0.1 0 = x := by assumption
       have e1 : sel (selE fl x) (y0.1 + 1) = sel (selE fl x) y0.1 ++ [(y0.1 : Int)] := sel_yes (selE_yes hq1)
       exact .inr (.inr (.inr ⟨(y0.1 + 1, y1 - 1), (by (refine And.intro (And.intro rfl (And.intro rfl (And.intro rfl rfl))) ?_; repeat' (first | exact trivial | exact rfl | exact fun _ _ _ _ => rfl | refine And.intro ?_ ?_ | omega | (show List.length (sel (selE fl x) (y0.1 + 1)) = _; first | (rw [e1]; done) | (rw [e1]; rfl) | (rw [e1]; simp; done)) | (show (_ : Nat) - 1 + 1 = _; omega) | (intro i j hi hj; have hi2 : i < List.length (sel (selE fl x) (y0.1 + 1)) := hi; rw [e1] at hi2; show lF (sel (selE fl x) (y0.1 + 1)) i j = _; first | (rw [e1]; done) | (rw [e1]; refine lF_one ?_ i j (by simpa using hi2) hj; rfl) | (rw [e1]; refine lF_app ?_ i j (by simpa using hi2) hj; rfl) | (rw [e1]; rfl)) | fail))), ⟨by show y0.1 + 1 ≤ nl; omega, by rw [e1]; simp, by rw [e1]; simp; omega, by rw [e1]; simp; omega⟩, by show nl - (y0.1 + 1) < nl - y0.1; omega⟩)))
    | exact fin0 (by kernel_rfl) (by kernel_rfl) (h.1 (by assumption))
    | (have I := (show y0 ≤ nl ∧ sel (selE fl x) y0 = [] by assumption)
       exact fin0 (by kernel_rfl) (by kernel_rfl) ((h.2 (by assumption)).1 (by rw [← I.2]; congr 1; omega)))
    | (have I := (show y0.1 ≤ nl ∧ ¬ sel (selE fl x) y0.1 = [] ∧ List.length (sel (selE fl x) y0.1) ≤ y0.1 ∧ List.length (sel (selE fl x) y0.1) ≤ y0.2 + 1 by assumption)
       have e1 : y0.1 = nl := by omega
       rw [e1] at I ⊢
       exact fin1t (by kernel_rfl) (fun _ _ _ _ => rfl) (by kernel_rfl) (by kernel_rfl) ((h.2 (by assumption)).2 I.2.1 _ I.2.2.2))
theorem con69_ok : BodyOk (mk X7) 3 Try.f69 con69 := by
  intro vs bs K hh hro
  clear hro
  unfold con69 at hh
  split at hh
  · rename_i u v x
    obtain ⟨a, b, c, d, e, rfl, hI, hh0⟩ := five_inv hh
    rcases parse_inv hh0 with ⟨rfl, hh1⟩ | ⟨el, nl, cl, fl, bs1, rfl, hnl, rfl, hh1⟩ <;> clear hh0
    · obtain ⟨rfl, hc⟩ := hh1
      exact ⟨_, _, cast (con69_nE a b c d e x K) (con69_nP a b c d e x K hI hc)⟩
    · obtain ⟨rfl, hc⟩ := hh1
      exact ⟨_, _, cast (con69_rE el nl cl fl a b c d e x K) (con69_rP el nl cl fl a b c d e x K hI hnl hc)⟩
  · exact hh.elim
theorem con69_told : Told 69 (specOf con69) := told (X := X7) (X7_told) (by kernel_rfl) (by kernel_rfl) (by kernel_rfl) con69_ok
end Go.Proofs.Ytkflmglpniebfaa.Fr
namespace Go.Proofs.Ytkflmglpniebfaa.Fr
set_option maxRecDepth 100000
set_option maxHeartbeats 4000000
open Go.Rx
open Go.RowKit (Below)
set_option linter.unusedVariables false
@[reducible] def X8 : List (Nat × Rx.Spec) := [(21, specOf con21), (68, specOf con68), (69, specOf con69)]
theorem X8_told : ∀ p ∈ X8, Told p.1 p.2 := by
  intro p hp
  simp only [List.mem_cons, List.not_mem_nil, or_false] at hp
  rcases hp with rfl | rfl | rfl
  · exact con21_told
  · exact con68_told
  · exact con69_told
theorem selB_one {g f : RF} {x : Int} (h : g 0 0 = x) : selB 1 g f = selE f x := by
  funext i
  simp [selB, selE, h, eq_comm]
def con25 : Con := fun vs bs K => match vs with
  | [u, v] => five u fun a b c d e => parse [.i64, .i64] 0 v bs fun n f j bs => bs = [] ∧ (¬ (ckF a b c d e n f).2 = 0 → K (.tuple ⟨[.slice none 0 0, .int .i64 (ckF a b c d e n f).2]⟩) []) ∧ ((ckF a b c d e n f).2 = 0 → ((sel (selE f 0) n) = [] → K (.tuple ⟨[.slice none 0 0, .int .i64 0]⟩) []) ∧ (¬ (sel (selE f 0) n) = [] → ∀ cp, List.length (sel (selE f 0) n) ≤ cp → K (.tuple ⟨[rsl j 0 (List.length (sel (selE f 0) n)) cp, .int .i64 0]⟩) [.row false [.i64] 3 (List.length (sel (selE f 0) n)) cp (lF (sel (selE f 0) n))]))
  | _ => False

def con25_nA (a : Int) (b : Int) (c : Int) (d : Int) (e : Int) : Ann := fun _ _ _ => none
def con25_rA (el nl cl : Nat) (fl : RF) (a : Int) (b : Int) (c : Int) (d : Int) (e : Int) : Ann := fun _ _ _ => none
def con27 : Con := fun vs bs K => match vs with
  | [u, v] => five u fun a b c d e => parse [.i64, .i64] 0 v bs fun n f j bs => bs = [] ∧ (¬ (ckF a b c d e n f).2 = 0 → K (.tuple ⟨[.slice none 0 0, .int .i64 (ckF a b c d e n f).2]⟩) []) ∧ ((ckF a b c d e n f).2 = 0 → ((sel (selE f 2) n) = [] → K (.tuple ⟨[.slice none 0 0, .int .i64 0]⟩) []) ∧ (¬ (sel (selE f 2) n) = [] → ∀ cp, List.length (sel (selE f 2) n) ≤ cp → K (.tuple ⟨[rsl j 0 (List.length (sel (selE f 2) n)) cp, .int .i64 0]⟩) [.row false [.i64] 3 (List.length (sel (selE f 2) n)) cp (lF (sel (selE f 2) n))]))
  | _ => False

def con27_nA (a : Int) (b : Int) (c : Int) (d : Int) (e : Int) : Ann := fun _ _ _ => none
def con27_rA (el nl cl : Nat) (fl : RF) (a : Int) (b : Int) (c : Int) (d : Int) (e : Int) : Ann := fun _ _ _ => none
def con25_nV (a : Int) (b : Int) (c : Int) (d : Int) (e : Int) (K : Value → List Blk → Prop) : Prop := let q0 := (ckF a b c d e (0 : Nat) zF); let q1 := (sel (selE zF (0 : Int)) (0 : Nat)); let q2 := (Prod.snd q0); let q3 := ((0 : Nat), Blk.cells [vi a, vi b, vi c, vi d, vi e] (23 : Nat)); (t5 ((InC a b c d e) ∧ (eB ∧ (((¬Prod.snd q0 = (0 : Int)) → (∃ y0 : Value, (∃ y1 : List Blk, ((Go.Rx.Found 0 (Value.tuple { toList := [vn, vi q2] }) ({ h := [q3], next := (1 : Nat) }) (y0) (y1)) ∧ (K y0 y1))))) ∧ ((@Eq Int q2 ((0 : Int))) → (((sel (selE zF (0 : Int)) (0 : Nat) = []) → (∃ y0 : Value, (∃ y1 : List Blk, ((Go.Rx.Found 0 (Value.tuple { toList := [vn, vi (0 : Int)] }) ({ h := [q3], next := (1 : Nat) }) (y0) (y1)) ∧ (K y0 y1))))) ∧ ((¬sel (selE zF (0 : Int)) (0 : Nat) = []) → (∀ y0 : Nat, ((List.length q1 ≤ y0) → (∃ y1 : Value, (∃ y2 : List Blk, ((Go.Rx.Found 0 (Value.tuple { toList := [rsl (1 : Nat) (0 : Nat) (0 : Nat) y0, vi (0 : Int)] }) ({ h := [((1 : Nat), Blk.row false [IntKind.i64] (3 : Nat) (0 : Nat) y0 (lF q1)), q3], next := (2 : Nat) }) (y1) (y2)) ∧ (K y1 y2)))))))))))))
theorem con25_nE (a : Int) (b : Int) (c : Int) (d : Int) (e : Int) (K : Value → List Blk → Prop) : con25_nV a b c d e K = bodyX (mk X8) (callN (mk X8) 3) (con25_nA a b c d e) Try.f25 [five' a b c d e, .slice none 0 0] (stOf []) (Fd 0 K) := by kernel_rfl
set_option tactic.hygienic false in
theorem con25_nP (a : Int) (b : Int) (c : Int) (d : Int) (e : Int) (K : Value → List Blk → Prop)  (hI : InC a b c d e) (h : (¬ (ckF a b c d e 0 zF).2 = 0 → K (.tuple ⟨[.slice none 0 0, .int .i64 (ckF a b c d e 0 zF).2]⟩) []) ∧ ((ckF a b c d e 0 zF).2 = 0 → ((sel (selE zF 0) 0) = [] → K (.tuple ⟨[.slice none 0 0, .int .i64 0]⟩) []) ∧ (¬ (sel (selE zF 0) 0) = [] → ∀ cp, List.length (sel (selE zF 0) 0) ≤ cp → K (.tuple ⟨[rsl 0 0 (List.length (sel (selE zF 0) 0)) cp, .int .i64 0]⟩) [.row false [.i64] 3 (List.length (sel (selE zF 0) 0)) cp (lF (sel (selE zF 0) 0))]))) : con25_nV a b c d e K := by
  unfold con25_nV
  conv => zeta
  have E1 : ∀ g : RF, g 0 0 = 0 → sel (selB 1 g zF) 0 = sel (selE zF 0) 0 := fun g h => by rw [selB_one h]
  repeat' (first | (with_reducible first | exact rfl | exact trivial | refine And.intro ?_ ?_ | refine br_intro (fun hq => ?_) fun hq => ?_ | refine if_both (fun hz => ?_) fun hz => ?_) | (intro) | fail)
  all_goals first
    | omega
    | assumption
    | exact fin0 (by kernel_rfl) (by kernel_rfl) (h.1 (by assumption))
    | exact fin0 (by kernel_rfl) (by kernel_rfl) ((h.2 (by assumption)).1 (by assumption))
    | exact fin0 (by kernel_rfl) (by kernel_rfl) ((h.2 (by assumption)).1 ((E1 _ rfl).symm.trans (by assumption)))
    | (rw [E1 _ rfl] at *
       exact fin1t (by kernel_rfl) (fun _ _ _ _ => rfl) (by kernel_rfl) (by kernel_rfl) ((h.2 (by assumption)).2 (by assumption) _ (by assumption)))
    | exact fin1t (by kernel_rfl) (fun _ _ _ _ => rfl) (by kernel_rfl) (by kernel_rfl) ((h.2 (by assumption)).2 (by assumption) _ (by assumption))
def con25_rV (el nl cl : Nat) (fl : RF) (a : Int) (b : Int) (c : Int) (d : Int) (e : Int) (K : Value → List Blk → Prop) : Prop := let q0 := (sel (selE fl (0 : Int)) nl); let q1 := (Prod.snd (ckF a b c d e nl fl)); let q2 := (List.length q0); let q3 := ((0 : Nat), rT el nl cl fl); let q4 := ((1 : Nat), Blk.cells [vi a, vi b, vi c, vi d, vi e] (23 : Nat)); (t3 (((0 : Nat) + nl ≤ nl) ∧ (T0 ∧ ((InC a b c d e) ∧ ((@Eq Nat ((0 : Nat)) ((0 : Nat))) ∧ ((nl ≤ (100000 : Nat)) ∧ ((eK ∧ ((@Eq Nat (nl) (nl)) ∧ (@Eq Nat (cl) (cl)))) ∧ (eB ∧ (((¬Prod.snd (ckF a b c d e nl fl) = (0 : Int)) → (∃ y0 : Value, (∃ y1 : List Blk, ((Go.Rx.Found 1 (Value.tuple { toList := [vn, vi q1] }) ({ h := [q4, q3], next := (2 : Nat) }) (y0) (y1)) ∧ (K y0 y1))))) ∧ ((@Eq Int q1 ((0 : Int))) → (((sel (selE fl (0 : Int)) nl = []) → (∃ y0 : Value, (∃ y1 : List Blk, ((Go.Rx.Found 1 (Value.tuple { toList := [vn, vi (0 : Int)] }) ({ h := [q4, q3], next := (2 : Nat) }) (y0) (y1)) ∧ (K y0 y1))))) ∧ ((¬sel (selE fl (0 : Int)) nl = []) → (∀ y0 : Nat, ((List.length q0 ≤ y0) → (∃ y1 : Value, (∃ y2 : List Blk, ((Go.Rx.Found 1 (Value.tuple { toList := [rsl (2 : Nat) (0 : Nat) q2 y0, vi (0 : Int)] }) ({ h := [((2 : Nat), Blk.row false [IntKind.i64] (3 : Nat) q2 y0 (lF q0)), q4, q3], next := (3 : Nat) }) (y1) (y2)) ∧ (K y1 y2))))))))))))))))))
theorem con25_rE (el nl cl : Nat) (fl : RF) (a : Int) (b : Int) (c : Int) (d : Int) (e : Int) (K : Value → List Blk → Prop) : con25_rV el nl cl fl a b c d e K = bodyX (mk X8) (callN (mk X8) 3) (con25_rA el nl cl fl a b c d e) Try.f25 [five' a b c d e, rsl 0 0 nl cl] (stOf [.row true [.i64, .i64] el nl cl fl]) (Fd 1 K) := by kernel_rfl
set_option tactic.hygienic false in
theorem con25_rP (el nl cl : Nat) (fl : RF) (a : Int) (b : Int) (c : Int) (d : Int) (e : Int) (K : Value → List Blk → Prop)  (hI : InC a b c d e) (hnl : nl ≤ 100000) (h : (¬ (ckF a b c d e nl fl).2 = 0 → K (.tuple ⟨[.slice none 0 0, .int .i64 (ckF a b c d e nl fl).2]⟩) []) ∧ ((ckF a b c d e nl fl).2 = 0 → ((sel (selE fl 0) nl) = [] → K (.tuple ⟨[.slice none 0 0, .int .i64 0]⟩) []) ∧ (¬ (sel (selE fl 0) nl) = [] → ∀ cp, List.length (sel (selE fl 0) nl) ≤ cp → K (.tuple ⟨[rsl 1 0 (List.length (sel (selE fl 0) nl)) cp, .int .i64 0]⟩) [.row false [.i64] 3 (List.length (sel (selE fl 0) nl)) cp (lF (sel (selE fl 0) nl))]))) : con25_rV el nl cl fl a b c d e K := by
  unfold con25_rV
  conv => zeta
  have E1 : ∀ g : RF, g 0 0 = 0 → sel (selB 1 g fl) nl = sel (selE fl 0) nl := fun g h => by rw [selB_one h]
  repeat' (first | (with_reducible first | exact rfl | exact trivial | refine And.intro ?_ ?_ | refine br_intro (fun hq => ?_) fun hq => ?_ | refine if_both (fun hz => ?_) fun hz => ?_) | (intro) | fail)
  all_goals first
    | omega
    | assumption
    | exact fin0 (by kernel_rfl) (by kernel_rfl) (h.1 (by assumption))
    | exact fin0 (by kernel_rfl) (by kernel_rfl) ((h.2 (by assumption)).1 (by assumption))
    | exact fin0 (by kernel_rfl) (by kernel_rfl) ((h.2 (by assumption)).1 ((E1 _ rfl).symm.trans (by assumption)))
    | (rw [E1 _ rfl] at *
       exact fin1t (by kernel_rfl) (fun _ _ _ _ => rfl) (by kernel_rfl) (by kernel_rfl) ((h.2 (by assumption)).2 (by assumption) _ (by assumption)))
    | exact fin1t (by kernel_rfl) (fun _ _ _ _ => rfl) (by kernel_rfl) (by kernel_rfl) ((h.2 (by assumption)).2 (by assumption) _ (by assumption))
theorem con25_ok : BodyOk (mk X8) 3 Try.f25 con25 := by
  intro vs bs K hh hro
  clear hro
  unfold con25 at hh
  split at hh
  · obtain ⟨a, b, c, d, e, rfl, hI, hh0⟩ := five_inv hh
    rcases parse_inv hh0 with ⟨rfl, hh1⟩ | ⟨el, nl, cl, fl, bs1, rfl, hnl, rfl, hh1⟩ <;> clear hh0
    · obtain ⟨rfl, hc⟩ := hh1
      exact ⟨_, _, cast (con25_nE a b c d e K) (con25_nP a b c d e K hI hc)⟩
    · obtain ⟨rfl, hc⟩ := hh1
      exact ⟨_, _, cast (con25_rE el nl cl fl a b c d e K) (con25_rP el nl cl fl a b c d e K hI hnl hc)⟩
  · exact hh.elim
theorem con25_told : Told 25 (specOf con25) := told (X := X8) (X8_told) (by kernel_rfl) (by kernel_rfl) (by kernel_rfl) con25_ok
def con27_nV (a : Int) (b : Int) (c : Int) (d : Int) (e : Int) (K : Value → List Blk → Prop) : Prop := let q0 := (ckF a b c d e (0 : Nat) zF); let q1 := (sel (selE zF (2 : Int)) (0 : Nat)); let q2 := (Prod.snd q0); let q3 := ((0 : Nat), Blk.cells [vi a, vi b, vi c, vi d, vi e] (23 : Nat)); (t5 ((InC a b c d e) ∧ (eB ∧ (((¬Prod.snd q0 = (0 : Int)) → (∃ y0 : Value, (∃ y1 : List Blk, ((Go.Rx.Found 0 (Value.tuple { toList := [vn, vi q2] }) ({ h := [q3], next := (1 : Nat) }) (y0) (y1)) ∧ (K y0 y1))))) ∧ ((@Eq Int q2 ((0 : Int))) → (((sel (selE zF (2 : Int)) (0 : Nat) = []) → (∃ y0 : Value, (∃ y1 : List Blk, ((Go.Rx.Found 0 (Value.tuple { toList := [vn, vi (0 : Int)] }) ({ h := [q3], next := (1 : Nat) }) (y0) (y1)) ∧ (K y0 y1))))) ∧ ((¬sel (selE zF (2 : Int)) (0 : Nat) = []) → (∀ y0 : Nat, ((List.length q1 ≤ y0) → (∃ y1 : Value, (∃ y2 : List Blk, ((Go.Rx.Found 0 (Value.tuple { toList := [rsl (1 : Nat) (0 : Nat) (0 : Nat) y0, vi (0 : Int)] }) ({ h := [((1 : Nat), Blk.row false [IntKind.i64] (3 : Nat) (0 : Nat) y0 (lF q1)), q3], next := (2 : Nat) }) (y1) (y2)) ∧ (K y1 y2)))))))))))))
theorem con27_nE (a : Int) (b : Int) (c : Int) (d : Int) (e : Int) (K : Value → List Blk → Prop) : con27_nV a b c d e K = bodyX (mk X8) (callN (mk X8) 3) (con27_nA a b c d e) Try.f27 [five' a b c d e, .slice none 0 0] (stOf []) (Fd 0 K) := by kernel_rfl
set_option tactic.hygienic false in
theorem con27_nP (a : Int) (b : Int) (c : Int) (d : Int) (e : Int) (K : Value → List Blk → Prop)  (hI : InC a b c d e) (h : (¬ (ckF a b c d e 0 zF).2 = 0 → K (.tuple ⟨[.slice none 0 0, .int .i64 (ckF a b c d e 0 zF).2]⟩) []) ∧ ((ckF a b c d e 0 zF).2 = 0 → ((sel (selE zF 2) 0) = [] → K (.tuple ⟨[.slice none 0 0, .int .i64 0]⟩) []) ∧ (¬ (sel (selE zF 2) 0) = [] → ∀ cp, List.length (sel (selE zF 2) 0) ≤ cp → K (.tuple ⟨[rsl 0 0 (List.length (sel (selE zF 2) 0)) cp, .int .i64 0]⟩) [.row false [.i64] 3 (List.length (sel (selE zF 2) 0)) cp (lF (sel (selE zF 2) 0))]))) : con27_nV a b c d e K := by
  unfold con27_nV
  conv => zeta
  have E1 : ∀ g : RF, g 0 0 = 2 → sel (selB 1 g zF) 0 = sel (selE zF 2) 0 := fun g h => by rw [selB_one h]
  repeat' (first | (with_reducible first | exact rfl | exact trivial | refine And.intro ?_ ?_ | refine br_intro (fun hq => ?_) fun hq => ?_ | refine if_both (fun hz => ?_) fun hz => ?_) | (intro) | fail)
  all_goals first
    | omega
    | assumption
    | exact fin0 (by kernel_rfl) (by kernel_rfl) (h.1 (by assumption))
    | exact fin0 (by kernel_rfl) (by kernel_rfl) ((h.2 (by assumption)).1 (by assumption))
    | exact fin0 (by kernel_rfl) (by kernel_rfl) ((h.2 (by assumption)).1 ((E1 _ rfl).symm.trans (by assumption)))
    | (rw [E1 _ rfl] at *
       exact fin1t (by kernel_rfl) (fun _ _ _ _ => rfl) (by kernel_rfl) (by kernel_rfl) ((h.2 (by assumption)).2 (by assumption) _ (by assumption)))
    | exact fin1t (by kernel_rfl) (fun _ _ _ _ => rfl) (by kernel_rfl) (by kernel_rfl) ((h.2 (by assumption)).2 (by assumption) _ (by assumption))
def con27_rV (el nl cl : Nat) (fl : RF) (a : Int) (b : Int) (c : Int) (d : Int) (e : Int) (K : Value → List Blk → Prop) : Prop := let q0 := (sel (selE fl (2 : Int)) nl); let q1 := (Prod.snd (ckF a b c d e nl fl)); let q2 := (List.length q0); let q3 := ((0 : Nat), rT el nl cl fl); let q4 := ((1 : Nat), Blk.cells [vi a, vi b, vi c, vi d, vi e] (23 : Nat)); (t3 (((0 : Nat) + nl ≤ nl) ∧ (T0 ∧ ((InC a b c d e) ∧ ((@Eq Nat ((0 : Nat)) ((0 : Nat))) ∧ ((nl ≤ (100000 : Nat)) ∧ ((eK ∧ ((@Eq Nat (nl) (nl)) ∧ (@Eq Nat (cl) (cl)))) ∧ (eB ∧ (((¬Prod.snd (ckF a b c d e nl fl) = (0 : Int)) → (∃ y0 : Value, (∃ y1 : List Blk, ((Go.Rx.Found 1 (Value.tuple { toList := [vn, vi q1] }) ({ h := [q4, q3], next := (2 : Nat) }) (y0) (y1)) ∧ (K y0 y1))))) ∧ ((@Eq Int q1 ((0 : Int))) → (((sel (selE fl (2 : Int)) nl = []) → (∃ y0 : Value, (∃ y1 : List Blk, ((Go.Rx.Found 1 (Value.tuple { toList := [vn, vi (0 : Int)] }) ({ h := [q4, q3], next := (2 : Nat) }) (y0) (y1)) ∧ (K y0 y1))))) ∧ ((¬sel (selE fl (2 : Int)) nl = []) → (∀ y0 : Nat, ((List.length q0 ≤ y0) → (∃ y1 : Value, (∃ y2 : List Blk, ((Go.Rx.Found 1 (Value.tuple { toList := [rsl (2 : Nat) (0 : Nat) q2 y0, vi (0 : Int)] }) ({ h := [((2 : Nat), Blk.row false [IntKind.i64] (3 : Nat) q2 y0 (lF q0)), q4, q3], next := (3 : Nat) }) (y1) (y2)) ∧ (K y1 y2))))))))))))))))))
theorem con27_rE (el nl cl : Nat) (fl : RF) (a : Int) (b : Int) (c : Int) (d : Int) (e : Int) (K : Value → List Blk → Prop) : con27_rV el nl cl fl a b c d e K = bodyX (mk X8) (callN (mk X8) 3) (con27_rA el nl cl fl a b c d e) Try.f27 [five' a b c d e, rsl 0 0 nl cl] (stOf [.row true [.i64, .i64] el nl cl fl]) (Fd 1 K) := by kernel_rfl
set_option tactic.hygienic false in
theorem con27_rP (el nl cl : Nat) (fl : RF) (a : Int) (b : Int) (c : Int) (d : Int) (e : Int) (K : Value → List Blk → Prop)  (hI : InC a b c d e) (hnl : nl ≤ 100000) (h : (¬ (ckF a b c d e nl fl).2 = 0 → K (.tuple ⟨[.slice none 0 0, .int .i64 (ckF a b c d e nl fl).2]⟩) []) ∧ ((ckF a b c d e nl fl).2 = 0 → ((sel (selE fl 2) nl) = [] → K (.tuple ⟨[.slice none 0 0, .int .i64 0]⟩) []) ∧ (¬ (sel (selE fl 2) nl) = [] → ∀ cp, List.length (sel (selE fl 2) nl) ≤ cp → K (.tuple ⟨[rsl 1 0 (List.length (sel (selE fl 2) nl)) cp, .int .i64 0]⟩) [.row false [.i64] 3 (List.length (sel (selE fl 2) nl)) cp (lF (sel (selE fl 2) nl))]))) : con27_rV el nl cl fl a b c d e K := by
  unfold con27_rV
  conv => zeta
  have E1 : ∀ g : RF, g 0 0 = 2 → sel (selB 1 g fl) nl = sel (selE fl 2) nl := fun g h => by rw [selB_one h]
  repeat' (first | (with_reducible first | exact rfl | exact trivial | refine And.intro ?_ ?_ | refine br_intro (fun hq => ?_) fun hq => ?_ | refine if_both (fun hz => ?_) fun hz => ?_) | (intro) | fail)
  all_goals first
    | omega
    | assumption
    | exact fin0 (by kernel_rfl) (by kernel_rfl) (h.1 (by assumption))
    | exact fin0 (by kernel_rfl) (by kernel_rfl) ((h.2 (by assumption)).1 (by assumption))
    | exact fin0 (by kernel_rfl) (by kernel_rfl) ((h.2 (by assumption)).1 ((E1 _ rfl).symm.trans (by assumption)))
    | (rw [E1 _ rfl] at *
       exact fin1t (by kernel_rfl) (fun _ _ _ _ => rfl) (by kernel_rfl) (by kernel_rfl) ((h.2 (by assumption)).2 (by assumption) _ (by assumption)))
    | exact fin1t (by kernel_rfl) (fun _ _ _ _ => rfl) (by kernel_rfl) (by kernel_rfl) ((h.2 (by assumption)).2 (by assumption) _ (by assumption))
theorem con27_ok : BodyOk (mk X8) 3 Try.f27 con27 := by
  intro vs bs K hh hro
  clear hro
  unfold con27 at hh
  split at hh
  · obtain ⟨a, b, c, d, e, rfl, hI, hh0⟩ := five_inv hh
    rcases parse_inv hh0 with ⟨rfl, hh1⟩ | ⟨el, nl, cl, fl, bs1, rfl, hnl, rfl, hh1⟩ <;> clear hh0
    · obtain ⟨rfl, hc⟩ := hh1
      exact ⟨_, _, cast (con27_nE a b c d e K) (con27_nP a b c d e K hI hc)⟩
    · obtain ⟨rfl, hc⟩ := hh1
      exact ⟨_, _, cast (con27_rE el nl cl fl a b c d e K) (con27_rP el nl cl fl a b c d e K hI hnl hc)⟩
  · exact hh.elim
theorem con27_told : Told 27 (specOf con27) := told (X := X8) (X8_told) (by kernel_rfl) (by kernel_rfl) (by kernel_rfl) con27_ok
end Go.Proofs.Ytkflmglpniebfaa.Fr
namespace Go.Proofs.Ytkflmglpniebfaa.Fr
set_option maxRecDepth 100000
set_option maxHeartbeats 4000000
open Go.Rx
open Go.RowKit (Below)
set_option linter.unusedVariables false
theorem lF_left {l : List Int} {x : Int} {k : Nat} (h : k < l.length) : lF (l ++ [x]) k 0 = lF l k 0 := by
  unfold lF
  simp [List.getD, List.getElem?_append_left h]
theorem lF_last {l : List Int} {x : Int} : lF (l ++ [x]) l.length 0 = x := by
  unfold lF
  simp
theorem sel_mem {p : Nat → Bool} : ∀ {n k : Nat}, k < (sel p n).length → ∃ i, i < n ∧ lF (sel p n) k 0 = (i : Int) ∧ p i = true
  | 0, k, h => by simp [sel] at h
  | n + 1, k, h => by
    by_cases hp : p n = true
    · rw [sel_yes hp] at h ⊢
      by_cases hk : k < (sel p n).length
      · obtain ⟨i, h1, h2, h3⟩ := sel_mem hk
        exact ⟨i, by omega, by rw [lF_left hk]; exact h2, h3⟩
      · have e : k = (sel p n).length := by simp at h; omega
        subst e
        exact ⟨n, by omega, lF_last, hp⟩
    · rw [sel_no hp] at h ⊢
      obtain ⟨i, h1, h2, h3⟩ := sel_mem h
      exact ⟨i, by omega, h2, h3⟩
/-- Used, or popular. -/
def P12 (f : RF) : Nat → Bool := selB 2 (litF 1 [1, 2]) f
theorem sel_len {p : Nat → Bool} : ∀ {n : Nat}, (sel p n).length ≤ n
  | 0 => by simp [sel]
  | n + 1 => by
    have := sel_len (p := p) (n := n)
    by_cases hp : p n = true
    · rw [sel_yes hp]; simp; omega
    · rw [sel_no hp]; omega
end Go.Proofs.Ytkflmglpniebfaa.Fr
namespace Go.Proofs.Ytkflmglpniebfaa.Fr
set_option maxRecDepth 100000
set_option maxHeartbeats 4000000
open Go.Rx
open Go.RowKit (Below)
set_option linter.unusedVariables false
theorem locA_mono {s : Rx.St} {c c' : List Value → List Blk → Prop} (h : ∀ us bs, c' us bs → c us bs) : ∀ (args : List Value) (k : Nat), locA s k args c' → locA s k args c := by
  intro args
  induction args generalizing c c' with
  | nil => exact fun k hc => h _ _ hc
  | cons v vs ih =>
    intro k hc
    unfold locA at hc ⊢
    split at hc
    · obtain ⟨o, ho, hc⟩ := kO_some hc
      show kO (Rx.look s.h _) _
      rw [ho]
      cases o with
      | cells cs e => exact hc.elim
      | row ro ks e n q f => exact ⟨hc.1, ih (fun us bs => h _ _) _ hc.2⟩
    · rename_i hne
      exact ⟨hc.1, ih (fun us bs => h _ _) _ hc.2⟩
/-- A narrower contract. -/
theorem Told.mono {f : Nat} {c c' : Con} (h : Told f (specOf c)) (hc : ∀ vs bs K, c' vs bs K → c vs bs K) : Told f (specOf c') :=
  ⟨h.1, fun args s K hk => h.2 args s K (locA_mono (fun us bs => hc us bs _) args 0 hk)⟩
abbrev KK := Value → List Blk → Prop
def onCF (O : Int → Int → Int → Int → Int → Nat → RF → Nat → KK → Prop) : Con := fun vs bs K => match vs with
  | [u, v] => five u fun a b c d e => parse [.i64, .i64] 0 v bs fun n f j bs => bs = [] ∧ O a b c d e n f j K
  | _ => False
theorem five_mono {v : Value} {k k' : Int → Int → Int → Int → Int → Prop} (h : ∀ a b c d e, k' a b c d e → k a b c d e) (x : five v k') : five v k := by
  unfold five at x ⊢
  split at x
  · exact ⟨x.1, h _ _ _ _ _ x.2⟩
  · exact x.elim
theorem parse_mono {ks : List IntKind} {j : Nat} {v : Value} {bs : List Blk} {k k' : Nat → RF → Nat → List Blk → Prop} (h : ∀ n f j bs, k' n f j bs → k n f j bs) (x : parse ks j v bs k') : parse ks j v bs k := by
  unfold parse at x ⊢
  split at x
  · exact h _ _ _ _ x
  · refine ⟨x.1, x.2.1, ?_⟩
    have y := x.2.2
    clear x
    split at y
    · exact ⟨y.1, h _ _ _ _ y.2⟩
    · exact y.elim
  · exact x.elim
theorem onCF_mono {O O' : Int → Int → Int → Int → Int → Nat → RF → Nat → KK → Prop} (h : ∀ a b c d e n f j K, O' a b c d e n f j K → O a b c d e n f j K) : ∀ vs bs K, onCF O' vs bs K → onCF O vs bs K := by
  intro vs bs K x
  unfold onCF at x ⊢
  split at x
  · exact five_mono (fun a b c d e => parse_mono fun n f j bs y => ⟨y.1, h _ _ _ _ _ _ _ _ _ y.2⟩) x
  · exact x.elim
def con25N : Con := onCF fun a b c d e n f j K => ((ckF a b c d e n f).2 = 0 ∧ (sel (selE f 0) n) = []) ∧ K (.tuple ⟨[.slice none 0 0, .int .i64 0]⟩) []
theorem con25N_told : Told 25 (specOf con25N) := con25_told.mono (onCF_mono fun a b c d e n f j K h => ⟨fun q => absurd h.1.1 q, fun _ => ⟨fun _ => h.2, fun q => absurd h.1.2 q⟩⟩)
def con25R : Con := onCF fun a b c d e n f j K => ((ckF a b c d e n f).2 = 0 ∧ ¬ (sel (selE f 0) n) = []) ∧ ∀ cp, List.length (sel (selE f 0) n) ≤ cp → K (.tuple ⟨[rsl j 0 (List.length (sel (selE f 0) n)) cp, .int .i64 0]⟩) [.row false [.i64] 3 (List.length (sel (selE f 0) n)) cp (lF (sel (selE f 0) n))]
theorem con25R_told : Told 25 (specOf con25R) := con25_told.mono (onCF_mono fun a b c d e n f j K h => ⟨fun q => absurd h.1.1 q, fun _ => ⟨fun q => absurd q h.1.2, fun _ => h.2⟩⟩)
def con27N : Con := onCF fun a b c d e n f j K => ((ckF a b c d e n f).2 = 0 ∧ (sel (selE f 2) n) = []) ∧ K (.tuple ⟨[.slice none 0 0, .int .i64 0]⟩) []
theorem con27N_told : Told 27 (specOf con27N) := con27_told.mono (onCF_mono fun a b c d e n f j K h => ⟨fun q => absurd h.1.1 q, fun _ => ⟨fun _ => h.2, fun q => absurd h.1.2 q⟩⟩)
def con27R : Con := onCF fun a b c d e n f j K => ((ckF a b c d e n f).2 = 0 ∧ ¬ (sel (selE f 2) n) = []) ∧ ∀ cp, List.length (sel (selE f 2) n) ≤ cp → K (.tuple ⟨[rsl j 0 (List.length (sel (selE f 2) n)) cp, .int .i64 0]⟩) [.row false [.i64] 3 (List.length (sel (selE f 2) n)) cp (lF (sel (selE f 2) n))]
theorem con27R_told : Told 27 (specOf con27R) := con27_told.mono (onCF_mono fun a b c d e n f j K h => ⟨fun q => absurd h.1.1 q, fun _ => ⟨fun q => absurd q h.1.2, fun _ => h.2⟩⟩)
def conIntsT : Con := fun vs bs K => match vs with
  | [u, v] => parse [.i64] 0 u bs fun n f j bs => parse [.i64] j v bs fun m g _ bs => bs = [] ∧ (n = m ∧ ∀ i, i < n → f i 0 = g i 0) ∧ K (.bool true) []
  | _ => False
theorem conIntsT_told : Told 28 (specOf conIntsT) := conInts_told.mono fun vs bs K x => by
  unfold conIntsT at x
  unfold conInts
  split at x
  · exact parse_mono (fun n f j bs => parse_mono fun m g j bs y => ⟨y.1, fun b hb => (by
      obtain rfl : b = true := hb.2 y.2.1
      exact y.2.2)⟩) x
  · exact x.elim
def conSameT : Con := fun vs bs K => match vs with
  | [u, v] => parse [.i64, .i64] 0 u bs fun n f j bs => parse [.i64, .i64] j v bs fun m g _ bs => bs = [] ∧ (n = m ∧ ∀ i, i < n → f i 0 = g i 0 ∧ f i 1 = g i 1) ∧ K (.bool true) []
  | _ => False
theorem conSameT_told : Told 23 (specOf conSameT) := conSame_told.mono fun vs bs K x => by
  unfold conSameT at x
  unfold conSame
  split at x
  · exact parse_mono (fun n f j bs => parse_mono fun m g j bs y => ⟨y.1, fun b hb => (by
      obtain rfl : b = true := hb.2 y.2.1
      exact y.2.2)⟩) x
  · exact x.elim
end Go.Proofs.Ytkflmglpniebfaa.Fr
namespace Go.Proofs.Ytkflmglpniebfaa.Fr
set_option maxRecDepth 100000
set_option maxHeartbeats 4000000
open Go.Rx
open Go.RowKit (Below)
set_option linter.unusedVariables false
@[reducible] def X3 : List (Nat × Rx.Spec) := [(66, sp66), (67, specOf con67), (21, specOf con21), (22, specOf con22)]
theorem X3_told : ∀ p ∈ X3, Told p.1 p.2 := by
  intro p hp
  simp only [List.mem_cons, List.not_mem_nil, or_false] at hp
  rcases hp with rfl | rfl | rfl | rfl
  · exact told66
  · exact con67_told
  · exact con21_told
  · exact con22_told
def askF (a b c d e : Int) (n : Nat) (f : RF) (x : Int) : Int := if (ckF a b c d e n f).2 = 0 then (if x < 0 ∨ b ≤ x then 7 else 0) else (ckF a b c d e n f).2
def roomF (a b c d e : Int) (n : Nat) (f : RF) (x : Int) : Int × Int := if askF a b c d e n f x = 0 then (if f x.toNat 0 = 0 then (0, 9) else (a - f x.toNat 1, 0)) else (0, askF a b c d e n f x)
def topF (a b c d e : Int) (n : Nat) (f : RF) (x : Int) : Int × Int := if askF a b c d e n f x = 0 then (1 + c + x * a + f x.toNat 1, 0) else (0, askF a b c d e n f x)
def halfF (a b c d e : Int) (n : Nat) (f : RF) (x : Int) : Bool × Int := if askF a b c d e n f x = 0 then (if f x.toNat 0 = 0 then (false, 0) else if a < 2 * f x.toNat 1 then (true, 0) else (false, 0)) else (false, askF a b c d e n f x)
theorem mul_bd {a b x : Int} (h : 8 ≤ a ∧ a ≤ 64) (h1 : 0 ≤ x) (h2 : x < b) (h3 : b ≤ 24) : 0 ≤ x * a ∧ x * a ≤ 1536 := by
  refine ⟨Int.mul_nonneg h1 (by omega), ?_⟩
  have := Int.mul_le_mul (show x ≤ 24 by omega) (show a ≤ 64 by omega) (by omega) (by omega)
  omega
end Go.Proofs.Ytkflmglpniebfaa.Fr
namespace Go.Proofs.Ytkflmglpniebfaa.Fr
set_option maxRecDepth 100000
set_option maxHeartbeats 4000000
open Go.Rx
open Go.RowKit (Below)
set_option linter.unusedVariables false
def con31 : Con := fun vs bs K => match vs with
  | [u, v, .int .i64 x] => five u fun a b c d e => parse [.i64, .i64] 0 v bs fun n f _ bs => bs = [] ∧ K (.tuple ⟨[.int .i64 (roomF a b c d e n f x).1, .int .i64 (roomF a b c d e n f x).2]⟩) []
  | _ => False

def con31_nA (a : Int) (b : Int) (c : Int) (d : Int) (e : Int) (x : Int) : Ann := fun _ _ _ => none
def con31_rA (el nl cl : Nat) (fl : RF) (a : Int) (b : Int) (c : Int) (d : Int) (e : Int) (x : Int) : Ann := fun _ _ _ => none
def con31_nV (a : Int) (b : Int) (c : Int) (d : Int) (e : Int) (x : Int) (K : Value → List Blk → Prop) : Prop := let q0 := (Prod.snd (ckF a b c d e (0 : Nat) zF)); let q1 := (T0 ∧ (∃ y0 : Value, (∃ y1 : List Blk, ((Go.Rx.Found 0 (Value.tuple { toList := [vi (0 : Int), vi (7 : Int)] }) ({ h := [((1 : Nat), Blk.cells [vi a, vi b, vi c, vi d, vi e] (23 : Nat)), ((0 : Nat), Blk.cells [vi a, vi b, vi c, vi d, vi e] (23 : Nat))], next := (2 : Nat) }) (y0) (y1)) ∧ (K y0 y1))))); (t6 ((InC a b c d e) ∧ (eB ∧ (T0 ∧ (if (@Eq Int q0 ((0 : Int))) then (T0 ∧ (if (x < (0 : Int)) then q1 else (t2 (if (b ≤ x) then q1 else (T0 ∧ (False)))))) else (T0 ∧ (if (@Eq Int q0 ((0 : Int))) then (False) else (∃ y0 : Value, (∃ y1 : List Blk, ((Go.Rx.Found 0 (Value.tuple { toList := [vi (0 : Int), vi q0] }) ({ h := [((1 : Nat), Blk.cells [vi a, vi b, vi c, vi d, vi e] (23 : Nat)), ((0 : Nat), Blk.cells [vi a, vi b, vi c, vi d, vi e] (23 : Nat))], next := (2 : Nat) }) (y0) (y1)) ∧ (K y0 y1)))))))))))
theorem con31_nE (a : Int) (b : Int) (c : Int) (d : Int) (e : Int) (x : Int) (K : Value → List Blk → Prop) : con31_nV a b c d e x K = bodyX (mk X3) (callN (mk X3) 4) (con31_nA a b c d e x) Try.f31 [five' a b c d e, .slice none 0 0, .int .i64 x] (stOf []) (Fd 0 K) := by kernel_rfl
set_option tactic.hygienic false in
theorem con31_nP (a : Int) (b : Int) (c : Int) (d : Int) (e : Int) (x : Int) (K : Value → List Blk → Prop)  (hI : InC a b c d e) (h : K (.tuple ⟨[.int .i64 (roomF a b c d e 0 zF x).1, .int .i64 (roomF a b c d e 0 zF x).2]⟩) []) : con31_nV a b c d e x K := by
  unfold con31_nV
  conv => zeta
  have G : (ckF a b c d e 0 zF).2 = 0 → good a b c d e ∧ ((0 : Nat) : Int) = b ∧ ∀ i, i < 0 → fok a zF i := ckF_zero
  unfold roomF askF at h
  repeat' (first | (with_reducible first | exact rfl | exact trivial | refine And.intro ?_ ?_ | refine br_intro (fun hq => ?_) fun hq => ?_ | refine if_both (fun hz => ?_) fun hz => ?_) | (intro) | fail)
  all_goals first
    | omega
    | assumption
    | (have g := G (by assumption)
       have g2 := g.2.2 x.toNat (by omega)
       unfold fok at g2
       have g3 := mul_bd ⟨g.1.1, g.1.2.1⟩ (x := x) (b := b) (by omega) (by omega) (by omega)
       omega)
    | (have g := G (by assumption); omega)
    | (have g := chk_good (by assumption); omega)
    | (refine fin0 (by kernel_rfl) (by kernel_rfl) ?_
       repeat' (split at h)
       all_goals first | exact h | omega | (rw [show (ckF a b c d e 0 zF).2 = 0 by assumption]; exact h))
    | (refine fin0 (by kernel_rfl) (by kernel_rfl) ?_
       have g := G (by assumption)
       repeat' (split at h)
       all_goals first | exact h | omega | (rw [show (ckF a b c d e 0 zF).2 = 0 by assumption]; exact h))
    | (have g := G (by assumption)
       have g4 : chk a b c d e = 0 := if_pos g.1
       omega)
def con31_rV (el nl cl : Nat) (fl : RF) (a : Int) (b : Int) (c : Int) (d : Int) (e : Int) (x : Int) (K : Value → List Blk → Prop) : Prop := let q0 := (Prod.snd (ckF a b c d e nl fl)); let q1 := (((0 : Int) ≤ x) ∧ (x < (↑nl : Int))); let q2 := (TS ∧ (@Eq Nat ((2 : Nat)) ((2 : Nat)))); let q3 := (T0 ∧ (∃ y0 : Value, (∃ y1 : List Blk, ((Go.Rx.Found 1 (Value.tuple { toList := [vi (0 : Int), vi (7 : Int)] }) ({ h := [((2 : Nat), Blk.cells [vi a, vi b, vi c, vi d, vi e] (23 : Nat)), ((1 : Nat), Blk.cells [vi a, vi b, vi c, vi d, vi e] (23 : Nat)), ((0 : Nat), rT el nl cl fl)], next := (3 : Nat) }) (y0) (y1)) ∧ (K y0 y1))))); let q4 := (q2 ∧ (q1 ∧ (T0 ∧ ((Int.toNat x < nl) ∧ (T0 ∧ (if (@Eq Int (fl (Int.toNat x) (0 : Nat)) ((0 : Int))) then (∃ y0 : Value, (∃ y1 : List Blk, ((Go.Rx.Found 1 (Value.tuple { toList := [vi (0 : Int), vi (9 : Int)] }) ({ h := [((2 : Nat), Blk.cells [vi a, vi b, vi c, vi d, vi e] (23 : Nat)), ((1 : Nat), Blk.cells [vi a, vi b, vi c, vi d, vi e] (23 : Nat)), ((0 : Nat), rT el nl cl fl)], next := (3 : Nat) }) (y0) (y1)) ∧ (K y0 y1)))) else (t7 (q2 ∧ (q1 ∧ (t3 ((Int.toNat x < nl) ∧ (t2 ((((-9223372036854775808 : Int) ≤ a - fl (Int.toNat x) (1 : Nat)) ∧ (a - fl (Int.toNat x) (1 : Nat) ≤ (9223372036854775807 : Int))) ∧ (t2 (∃ y0 : Value, (∃ y1 : List Blk, ((Go.Rx.Found 1 (Value.tuple { toList := [vi (a - fl (Int.toNat x) (1 : Nat)), vi (0 : Int)] }) ({ h := [((2 : Nat), Blk.cells [vi a, vi b, vi c, vi d, vi e] (23 : Nat)), ((1 : Nat), Blk.cells [vi a, vi b, vi c, vi d, vi e] (23 : Nat)), ((0 : Nat), rT el nl cl fl)], next := (3 : Nat) }) (y0) (y1)) ∧ (K y0 y1)))))))))))))))))); (t5 (((0 : Nat) + nl ≤ nl) ∧ ((InC a b c d e) ∧ ((@Eq Nat ((0 : Nat)) ((0 : Nat))) ∧ ((nl ≤ (100000 : Nat)) ∧ ((eK ∧ ((@Eq Nat (nl) (nl)) ∧ (@Eq Nat (cl) (cl)))) ∧ (eB ∧ (T0 ∧ (if (@Eq Int q0 ((0 : Int))) then (T0 ∧ (if (x < (0 : Int)) then q3 else (t2 (if (b ≤ x) then q3 else (T0 ∧ q4))))) else (T0 ∧ (if (@Eq Int q0 ((0 : Int))) then q4 else (∃ y0 : Value, (∃ y1 : List Blk, ((Go.Rx.Found 1 (Value.tuple { toList := [vi (0 : Int), vi q0] }) ({ h := [((2 : Nat), Blk.cells [vi a, vi b, vi c, vi d, vi e] (23 : Nat)), ((1 : Nat), Blk.cells [vi a, vi b, vi c, vi d, vi e] (23 : Nat)), ((0 : Nat), rT el nl cl fl)], next := (3 : Nat) }) (y0) (y1)) ∧ (K y0 y1)))))))))))))))
theorem con31_rE (el nl cl : Nat) (fl : RF) (a : Int) (b : Int) (c : Int) (d : Int) (e : Int) (x : Int) (K : Value → List Blk → Prop) : con31_rV el nl cl fl a b c d e x K = bodyX (mk X3) (callN (mk X3) 4) (con31_rA el nl cl fl a b c d e x) Try.f31 [five' a b c d e, rsl 0 0 nl cl, .int .i64 x] (stOf [.row true [.i64, .i64] el nl cl fl]) (Fd 1 K) := by kernel_rfl
set_option tactic.hygienic false in
theorem con31_rP (el nl cl : Nat) (fl : RF) (a : Int) (b : Int) (c : Int) (d : Int) (e : Int) (x : Int) (K : Value → List Blk → Prop)  (hI : InC a b c d e) (hnl : nl ≤ 100000) (h : K (.tuple ⟨[.int .i64 (roomF a b c d e nl fl x).1, .int .i64 (roomF a b c d e nl fl x).2]⟩) []) : con31_rV el nl cl fl a b c d e x K := by
  unfold con31_rV
  conv => zeta
  have G : (ckF a b c d e nl fl).2 = 0 → good a b c d e ∧ ((nl : Nat) : Int) = b ∧ ∀ i, i < nl → fok a fl i := ckF_zero
  unfold roomF askF at h
  repeat' (first | (with_reducible first | exact rfl | exact trivial | refine And.intro ?_ ?_ | refine br_intro (fun hq => ?_) fun hq => ?_ | refine if_both (fun hz => ?_) fun hz => ?_) | (intro) | fail)
  all_goals first
    | omega
    | assumption
    | (have g := G (by assumption)
       have g2 := g.2.2 x.toNat (by omega)
       unfold fok at g2
       have g3 := mul_bd ⟨g.1.1, g.1.2.1⟩ (x := x) (b := b) (by omega) (by omega) (by omega)
       omega)
    | (have g := G (by assumption); omega)
    | (have g := chk_good (by assumption); omega)
    | (refine fin0 (by kernel_rfl) (by kernel_rfl) ?_
       repeat' (split at h)
       all_goals first | exact h | omega | (rw [show (ckF a b c d e nl fl).2 = 0 by assumption]; exact h))
    | (refine fin0 (by kernel_rfl) (by kernel_rfl) ?_
       have g := G (by assumption)
       repeat' (split at h)
       all_goals first | exact h | omega | (rw [show (ckF a b c d e nl fl).2 = 0 by assumption]; exact h))
    | (have g := G (by assumption)
       have g4 : chk a b c d e = 0 := if_pos g.1
       omega)
theorem con31_ok : BodyOk (mk X3) 4 Try.f31 con31 := by
  intro vs bs K hh hro
  clear hro
  unfold con31 at hh
  split at hh
  · rename_i u v x
    obtain ⟨a, b, c, d, e, rfl, hI, hh0⟩ := five_inv hh
    rcases parse_inv hh0 with ⟨rfl, hh1⟩ | ⟨el, nl, cl, fl, bs1, rfl, hnl, rfl, hh1⟩ <;> clear hh0
    · obtain ⟨rfl, hc⟩ := hh1
      exact ⟨_, _, cast (con31_nE a b c d e x K) (con31_nP a b c d e x K hI hc)⟩
    · obtain ⟨rfl, hc⟩ := hh1
      exact ⟨_, _, cast (con31_rE el nl cl fl a b c d e x K) (con31_rP el nl cl fl a b c d e x K hI hnl hc)⟩
  · exact hh.elim
theorem con31_told : Told 31 (specOf con31) := told (X := X3) (X3_told) (by kernel_rfl) (by kernel_rfl) (by kernel_rfl) con31_ok
end Go.Proofs.Ytkflmglpniebfaa.Fr
namespace Go.Proofs.Ytkflmglpniebfaa.Fr
set_option maxRecDepth 100000
set_option maxHeartbeats 4000000
open Go.Rx
open Go.RowKit (Below)
set_option linter.unusedVariables false
def con32 : Con := fun vs bs K => match vs with
  | [u, v, .int .i64 x] => five u fun a b c d e => parse [.i64, .i64] 0 v bs fun n f _ bs => bs = [] ∧ K (.tuple ⟨[.int .i64 (roomF a b c d e n f x).1, .int .i64 (roomF a b c d e n f x).2]⟩) []
  | _ => False

def con32_nA (a : Int) (b : Int) (c : Int) (d : Int) (e : Int) (x : Int) : Ann := fun _ _ _ => none
def con32_rA (el nl cl : Nat) (fl : RF) (a : Int) (b : Int) (c : Int) (d : Int) (e : Int) (x : Int) : Ann := fun _ _ _ => none
def con32_nV (a : Int) (b : Int) (c : Int) (d : Int) (e : Int) (x : Int) (K : Value → List Blk → Prop) : Prop := let q0 := (Prod.snd (ckF a b c d e (0 : Nat) zF)); let q1 := (t2 (∃ y0 : Value, (∃ y1 : List Blk, ((Go.Rx.Found 0 (Value.tuple { toList := [vi (0 : Int), vi (7 : Int)] }) ({ h := [((1 : Nat), Blk.cells [vi a, vi b, vi c, vi d, vi e] (23 : Nat)), ((0 : Nat), Blk.cells [vi a, vi b, vi c, vi d, vi e] (23 : Nat))], next := (2 : Nat) }) (y0) (y1)) ∧ (K y0 y1))))); let q2 := (T0 ∧ (if (@Eq Int q0 ((0 : Int))) then (False) else (T0 ∧ (if (@Eq Int q0 ((0 : Int))) then (t7 (False)) else (∃ y0 : Value, (∃ y1 : List Blk, ((Go.Rx.Found 0 (Value.tuple { toList := [vi (0 : Int), vi q0] }) ({ h := [((1 : Nat), Blk.cells [vi a, vi b, vi c, vi d, vi e] (23 : Nat)), ((0 : Nat), Blk.cells [vi a, vi b, vi c, vi d, vi e] (23 : Nat))], next := (2 : Nat) }) (y0) (y1)) ∧ (K y0 y1)))))))); (t6 ((InC a b c d e) ∧ (eB ∧ (T0 ∧ (if (@Eq Int q0 ((0 : Int))) then (T0 ∧ (if (x < (0 : Int)) then q1 else (TS ∧ (T0 ∧ (if ((↑(0 : Nat) : Int) ≤ x) then q1 else q2))))) else q2)))))
theorem con32_nE (a : Int) (b : Int) (c : Int) (d : Int) (e : Int) (x : Int) (K : Value → List Blk → Prop) : con32_nV a b c d e x K = bodyX (mk X3) (callN (mk X3) 4) (con32_nA a b c d e x) Try.f32 [five' a b c d e, .slice none 0 0, .int .i64 x] (stOf []) (Fd 0 K) := by kernel_rfl
set_option tactic.hygienic false in
theorem con32_nP (a : Int) (b : Int) (c : Int) (d : Int) (e : Int) (x : Int) (K : Value → List Blk → Prop)  (hI : InC a b c d e) (h : K (.tuple ⟨[.int .i64 (roomF a b c d e 0 zF x).1, .int .i64 (roomF a b c d e 0 zF x).2]⟩) []) : con32_nV a b c d e x K := by
  unfold con32_nV
  conv => zeta
  have G : (ckF a b c d e 0 zF).2 = 0 → good a b c d e ∧ ((0 : Nat) : Int) = b ∧ ∀ i, i < 0 → fok a zF i := ckF_zero
  unfold roomF askF at h
  repeat' (first | (with_reducible first | exact rfl | exact trivial | refine And.intro ?_ ?_ | refine br_intro (fun hq => ?_) fun hq => ?_ | refine if_both (fun hz => ?_) fun hz => ?_) | (intro) | fail)
  all_goals first
    | omega
    | assumption
    | (have g := G (by assumption)
       have g2 := g.2.2 x.toNat (by omega)
       unfold fok at g2
       have g3 := mul_bd ⟨g.1.1, g.1.2.1⟩ (x := x) (b := b) (by omega) (by omega) (by omega)
       omega)
    | (have g := G (by assumption); omega)
    | (have g := chk_good (by assumption); omega)
    | (refine fin0 (by kernel_rfl) (by kernel_rfl) ?_
       repeat' (split at h)
       all_goals first | exact h | omega | (rw [show (ckF a b c d e 0 zF).2 = 0 by assumption]; exact h))
    | (refine fin0 (by kernel_rfl) (by kernel_rfl) ?_
       have g := G (by assumption)
       repeat' (split at h)
       all_goals first | exact h | omega | (rw [show (ckF a b c d e 0 zF).2 = 0 by assumption]; exact h))
    | (have g := G (by assumption)
       have g4 : chk a b c d e = 0 := if_pos g.1
       omega)
def con32_rV (el nl cl : Nat) (fl : RF) (a : Int) (b : Int) (c : Int) (d : Int) (e : Int) (x : Int) (K : Value → List Blk → Prop) : Prop := let q0 := (Prod.snd (ckF a b c d e nl fl)); let q1 := (((0 : Int) ≤ x) ∧ (x < (↑nl : Int))); let q2 := TS; let q3 := (q2 ∧ (@Eq Nat ((2 : Nat)) ((2 : Nat)))); let q4 := (t2 (∃ y0 : Value, (∃ y1 : List Blk, ((Go.Rx.Found 1 (Value.tuple { toList := [vi (0 : Int), vi (7 : Int)] }) ({ h := [((2 : Nat), Blk.cells [vi a, vi b, vi c, vi d, vi e] (23 : Nat)), ((1 : Nat), Blk.cells [vi a, vi b, vi c, vi d, vi e] (23 : Nat)), ((0 : Nat), rT el nl cl fl)], next := (3 : Nat) }) (y0) (y1)) ∧ (K y0 y1))))); let q5 := (T0 ∧ (if (@Eq Int q0 ((0 : Int))) then (t7 (q3 ∧ (q1 ∧ (t3 ((Int.toNat x < nl) ∧ (t2 ((((-9223372036854775808 : Int) ≤ a - fl (Int.toNat x) (1 : Nat)) ∧ (a - fl (Int.toNat x) (1 : Nat) ≤ (9223372036854775807 : Int))) ∧ (t2 (∃ y0 : Value, (∃ y1 : List Blk, ((Go.Rx.Found 1 (Value.tuple { toList := [vi (a - fl (Int.toNat x) (1 : Nat)), vi (0 : Int)] }) ({ h := [((2 : Nat), Blk.cells [vi a, vi b, vi c, vi d, vi e] (23 : Nat)), ((1 : Nat), Blk.cells [vi a, vi b, vi c, vi d, vi e] (23 : Nat)), ((0 : Nat), rT el nl cl fl)], next := (3 : Nat) }) (y0) (y1)) ∧ (K y0 y1)))))))))))) else (∃ y0 : Value, (∃ y1 : List Blk, ((Go.Rx.Found 1 (Value.tuple { toList := [vi (0 : Int), vi q0] }) ({ h := [((2 : Nat), Blk.cells [vi a, vi b, vi c, vi d, vi e] (23 : Nat)), ((1 : Nat), Blk.cells [vi a, vi b, vi c, vi d, vi e] (23 : Nat)), ((0 : Nat), rT el nl cl fl)], next := (3 : Nat) }) (y0) (y1)) ∧ (K y0 y1)))))); let q6 := (T0 ∧ (if (@Eq Int q0 ((0 : Int))) then (q3 ∧ (q1 ∧ (T0 ∧ ((Int.toNat x < nl) ∧ (T0 ∧ (if (@Eq Int (fl (Int.toNat x) (0 : Nat)) ((0 : Int))) then (T0 ∧ (∃ y0 : Value, (∃ y1 : List Blk, ((Go.Rx.Found 1 (Value.tuple { toList := [vi (0 : Int), vi (9 : Int)] }) ({ h := [((2 : Nat), Blk.cells [vi a, vi b, vi c, vi d, vi e] (23 : Nat)), ((1 : Nat), Blk.cells [vi a, vi b, vi c, vi d, vi e] (23 : Nat)), ((0 : Nat), rT el nl cl fl)], next := (3 : Nat) }) (y0) (y1)) ∧ (K y0 y1))))) else q5)))))) else q5)); (t5 (((0 : Nat) + nl ≤ nl) ∧ ((InC a b c d e) ∧ ((@Eq Nat ((0 : Nat)) ((0 : Nat))) ∧ ((nl ≤ (100000 : Nat)) ∧ ((eK ∧ ((@Eq Nat (nl) (nl)) ∧ (@Eq Nat (cl) (cl)))) ∧ (eB ∧ (T0 ∧ (if (@Eq Int q0 ((0 : Int))) then (T0 ∧ (if (x < (0 : Int)) then q4 else (q2 ∧ (T0 ∧ (if ((↑nl : Int) ≤ x) then q4 else q6))))) else q6)))))))))
theorem con32_rE (el nl cl : Nat) (fl : RF) (a : Int) (b : Int) (c : Int) (d : Int) (e : Int) (x : Int) (K : Value → List Blk → Prop) : con32_rV el nl cl fl a b c d e x K = bodyX (mk X3) (callN (mk X3) 4) (con32_rA el nl cl fl a b c d e x) Try.f32 [five' a b c d e, rsl 0 0 nl cl, .int .i64 x] (stOf [.row true [.i64, .i64] el nl cl fl]) (Fd 1 K) := by kernel_rfl
set_option tactic.hygienic false in
theorem con32_rP (el nl cl : Nat) (fl : RF) (a : Int) (b : Int) (c : Int) (d : Int) (e : Int) (x : Int) (K : Value → List Blk → Prop)  (hI : InC a b c d e) (hnl : nl ≤ 100000) (h : K (.tuple ⟨[.int .i64 (roomF a b c d e nl fl x).1, .int .i64 (roomF a b c d e nl fl x).2]⟩) []) : con32_rV el nl cl fl a b c d e x K := by
  unfold con32_rV
  conv => zeta
  have G : (ckF a b c d e nl fl).2 = 0 → good a b c d e ∧ ((nl : Nat) : Int) = b ∧ ∀ i, i < nl → fok a fl i := ckF_zero
  unfold roomF askF at h
  repeat' (first | (with_reducible first | exact rfl | exact trivial | refine And.intro ?_ ?_ | refine br_intro (fun hq => ?_) fun hq => ?_ | refine if_both (fun hz => ?_) fun hz => ?_) | (intro) | fail)
  all_goals first
    | omega
    | assumption
    | (have g := G (by assumption)
       have g2 := g.2.2 x.toNat (by omega)
       unfold fok at g2
       have g3 := mul_bd ⟨g.1.1, g.1.2.1⟩ (x := x) (b := b) (by omega) (by omega) (by omega)
       omega)
    | (have g := G (by assumption); omega)
    | (have g := chk_good (by assumption); omega)
    | (refine fin0 (by kernel_rfl) (by kernel_rfl) ?_
       repeat' (split at h)
       all_goals first | exact h | omega | (rw [show (ckF a b c d e nl fl).2 = 0 by assumption]; exact h))
    | (refine fin0 (by kernel_rfl) (by kernel_rfl) ?_
       have g := G (by assumption)
       repeat' (split at h)
       all_goals first | exact h | omega | (rw [show (ckF a b c d e nl fl).2 = 0 by assumption]; exact h))
    | (have g := G (by assumption)
       have g4 : chk a b c d e = 0 := if_pos g.1
       omega)
theorem con32_ok : BodyOk (mk X3) 4 Try.f32 con32 := by
  intro vs bs K hh hro
  clear hro
  unfold con32 at hh
  split at hh
  · rename_i u v x
    obtain ⟨a, b, c, d, e, rfl, hI, hh0⟩ := five_inv hh
    rcases parse_inv hh0 with ⟨rfl, hh1⟩ | ⟨el, nl, cl, fl, bs1, rfl, hnl, rfl, hh1⟩ <;> clear hh0
    · obtain ⟨rfl, hc⟩ := hh1
      exact ⟨_, _, cast (con32_nE a b c d e x K) (con32_nP a b c d e x K hI hc)⟩
    · obtain ⟨rfl, hc⟩ := hh1
      exact ⟨_, _, cast (con32_rE el nl cl fl a b c d e x K) (con32_rP el nl cl fl a b c d e x K hI hnl hc)⟩
  · exact hh.elim
theorem con32_told : Told 32 (specOf con32) := told (X := X3) (X3_told) (by kernel_rfl) (by kernel_rfl) (by kernel_rfl) con32_ok
end Go.Proofs.Ytkflmglpniebfaa.Fr
namespace Go.Proofs.Ytkflmglpniebfaa.Fr
set_option maxRecDepth 100000
set_option maxHeartbeats 4000000
open Go.Rx
open Go.RowKit (Below)
set_option linter.unusedVariables false
def con33 : Con := fun vs bs K => match vs with
  | [u, v, .int .i64 x] => five u fun a b c d e => parse [.i64, .i64] 0 v bs fun n f _ bs => bs = [] ∧ K (.tuple ⟨[.int .i64 (topF a b c d e n f x).1, .int .i64 (topF a b c d e n f x).2]⟩) []
  | _ => False

def con33_nA (a : Int) (b : Int) (c : Int) (d : Int) (e : Int) (x : Int) : Ann := fun _ _ _ => none
def con33_rA (el nl cl : Nat) (fl : RF) (a : Int) (b : Int) (c : Int) (d : Int) (e : Int) (x : Int) : Ann := fun _ _ _ => none
def con33_nV (a : Int) (b : Int) (c : Int) (d : Int) (e : Int) (x : Int) (K : Value → List Blk → Prop) : Prop := let q0 := (9223372036854775807 : Int); let q1 := (-9223372036854775808 : Int); let q2 := (Prod.snd (ckF a b c d e (0 : Nat) zF)); let q3 := (t3 (False)); let q4 := ((q1 ≤ (1 : Int) + c) ∧ ((1 : Int) + c ≤ q0)); let q5 := (T0 ∧ (∃ y0 : Value, (∃ y1 : List Blk, ((Go.Rx.Found 0 (Value.tuple { toList := [vi (0 : Int), vi (7 : Int)] }) ({ h := [((1 : Nat), Blk.cells [vi a, vi b, vi c, vi d, vi e] (23 : Nat)), ((0 : Nat), Blk.cells [vi a, vi b, vi c, vi d, vi e] (23 : Nat))], next := (2 : Nat) }) (y0) (y1)) ∧ (K y0 y1))))); let q6 := (t3 ((InC a b c d e) ∧ (T0 ∧ (if (@Eq Int (chk a b c d e) ((0 : Int))) then (T0 ∧ (if (x < (-1 : Int)) then (False) else (t2 (if (b ≤ x) then (False) else (T0 ∧ (if (@Eq Int (x) ((-1 : Int))) then (t6 (q4 ∧ q3)) else (t2 (q4 ∧ (t2 (((q1 ≤ x * a) ∧ (x * a ≤ q0)) ∧ (T0 ∧ (((q1 ≤ (1 : Int) + c + x * a) ∧ ((1 : Int) + c + x * a ≤ q0)) ∧ (t8 (((q1 ≤ (1 : Int) + c + x * a + a) ∧ ((1 : Int) + c + x * a + a ≤ q0)) ∧ q3)))))))))))))) else (False))))); (t6 ((InC a b c d e) ∧ (eB ∧ (T0 ∧ (if (@Eq Int q2 ((0 : Int))) then (T0 ∧ (if (x < (0 : Int)) then q5 else (t2 (if (b ≤ x) then q5 else (T0 ∧ q6))))) else (T0 ∧ (if (@Eq Int q2 ((0 : Int))) then q6 else (∃ y0 : Value, (∃ y1 : List Blk, ((Go.Rx.Found 0 (Value.tuple { toList := [vi (0 : Int), vi q2] }) ({ h := [((1 : Nat), Blk.cells [vi a, vi b, vi c, vi d, vi e] (23 : Nat)), ((0 : Nat), Blk.cells [vi a, vi b, vi c, vi d, vi e] (23 : Nat))], next := (2 : Nat) }) (y0) (y1)) ∧ (K y0 y1)))))))))))
theorem con33_nE (a : Int) (b : Int) (c : Int) (d : Int) (e : Int) (x : Int) (K : Value → List Blk → Prop) : con33_nV a b c d e x K = bodyX (mk X3) (callN (mk X3) 4) (con33_nA a b c d e x) Try.f33 [five' a b c d e, .slice none 0 0, .int .i64 x] (stOf []) (Fd 0 K) := by kernel_rfl
set_option tactic.hygienic false in
theorem con33_nP (a : Int) (b : Int) (c : Int) (d : Int) (e : Int) (x : Int) (K : Value → List Blk → Prop)  (hI : InC a b c d e) (h : K (.tuple ⟨[.int .i64 (topF a b c d e 0 zF x).1, .int .i64 (topF a b c d e 0 zF x).2]⟩) []) : con33_nV a b c d e x K := by
  unfold con33_nV
  conv => zeta
  have G : (ckF a b c d e 0 zF).2 = 0 → good a b c d e ∧ ((0 : Nat) : Int) = b ∧ ∀ i, i < 0 → fok a zF i := ckF_zero
  unfold topF askF at h
  repeat' (first | (with_reducible first | exact rfl | exact trivial | refine And.intro ?_ ?_ | refine br_intro (fun hq => ?_) fun hq => ?_ | refine if_both (fun hz => ?_) fun hz => ?_) | (intro) | fail)
  all_goals first
    | omega
    | assumption
    | (have g := G (by assumption)
       have g2 := g.2.2 x.toNat (by omega)
       unfold fok at g2
       have g3 := mul_bd ⟨g.1.1, g.1.2.1⟩ (x := x) (b := b) (by omega) (by omega) (by omega)
       omega)
    | (have g := G (by assumption); omega)
    | (have g := chk_good (by assumption); omega)
    | (refine fin0 (by kernel_rfl) (by kernel_rfl) ?_
       repeat' (split at h)
       all_goals first | exact h | omega | (rw [show (ckF a b c d e 0 zF).2 = 0 by assumption]; exact h))
    | (refine fin0 (by kernel_rfl) (by kernel_rfl) ?_
       have g := G (by assumption)
       repeat' (split at h)
       all_goals first | exact h | omega | (rw [show (ckF a b c d e 0 zF).2 = 0 by assumption]; exact h))
    | (have g := G (by assumption)
       have g4 : chk a b c d e = 0 := if_pos g.1
       omega)
def con33_rV (el nl cl : Nat) (fl : RF) (a : Int) (b : Int) (c : Int) (d : Int) (e : Int) (x : Int) (K : Value → List Blk → Prop) : Prop := let q0 := (9223372036854775807 : Int); let q1 := (-9223372036854775808 : Int); let q2 := (Prod.snd (ckF a b c d e nl fl)); let q3 := (((0 : Int) ≤ x) ∧ (x < (↑nl : Int))); let q4 := ((0 : Int) + fl (Int.toNat x) (1 : Nat)); let q5 := ((0 : Nat), rT el nl cl fl); let q6 := (TS ∧ (@Eq Nat ((2 : Nat)) ((2 : Nat)))); let q7 := ((q1 ≤ (1 : Int) + c) ∧ ((1 : Int) + c ≤ q0)); let q8 := ((q1 ≤ (0 : Int) + fl (Int.toNat x) (1 : Nat)) ∧ ((0 : Int) + fl (Int.toNat x) (1 : Nat) ≤ q0)); let q9 := ((2 : Nat), Blk.cells [vi a, vi b, vi c, vi d, vi e] (23 : Nat)); let q10 := ((1 : Nat), Blk.cells [vi a, vi b, vi c, vi d, vi e] (23 : Nat)); let q11 := (T0 ∧ (∃ y0 : Value, (∃ y1 : List Blk, ((Go.Rx.Found 1 (Value.tuple { toList := [vi (0 : Int), vi (7 : Int)] }) ({ h := [q9, q10, q5], next := (3 : Nat) }) (y0) (y1)) ∧ (K y0 y1))))); let q12 := (q6 ∧ (q3 ∧ (T0 ∧ ((Int.toNat x < nl) ∧ (T0 ∧ (q8 ∧ (∃ y0 : Value, (∃ y1 : List Blk, ((Go.Rx.Found 1 (Value.tuple { toList := [vi q4, vi (7 : Int)] }) ({ h := [((3 : Nat), Blk.cells [vi a, vi b, vi c, vi d, vi e] (23 : Nat)), q9, q10, q5], next := (4 : Nat) }) (y0) (y1)) ∧ (K y0 y1)))))))))); let q13 := (t3 ((InC a b c d e) ∧ (T0 ∧ (if (@Eq Int (chk a b c d e) ((0 : Int))) then (T0 ∧ (if (x < (-1 : Int)) then q12 else (t2 (if (b ≤ x) then q12 else (T0 ∧ (if (@Eq Int (x) ((-1 : Int))) then (t6 (q7 ∧ (t3 (q6 ∧ (q3 ∧ (T0 ∧ ((Int.toNat x < nl) ∧ (T0 ∧ (((q1 ≤ (1 : Int) + fl (Int.toNat x) (1 : Nat)) ∧ ((1 : Int) + fl (Int.toNat x) (1 : Nat) ≤ q0)) ∧ (∃ y0 : Value, (∃ y1 : List Blk, ((Go.Rx.Found 1 (Value.tuple { toList := [vi ((1 : Int) + fl (Int.toNat x) (1 : Nat)), vi (0 : Int)] }) ({ h := [((3 : Nat), Blk.cells [vi a, vi b, vi c, vi d, vi e] (23 : Nat)), q9, q10, q5], next := (4 : Nat) }) (y0) (y1)) ∧ (K y0 y1))))))))))))) else (t2 (q7 ∧ (t2 (((q1 ≤ x * a) ∧ (x * a ≤ q0)) ∧ (T0 ∧ (((q1 ≤ (1 : Int) + c + x * a) ∧ ((1 : Int) + c + x * a ≤ q0)) ∧ (t8 (((q1 ≤ (1 : Int) + c + x * a + a) ∧ ((1 : Int) + c + x * a + a ≤ q0)) ∧ (t3 (q6 ∧ (q3 ∧ (T0 ∧ ((Int.toNat x < nl) ∧ (T0 ∧ (((q1 ≤ (1 : Int) + c + x * a + fl (Int.toNat x) (1 : Nat)) ∧ ((1 : Int) + c + x * a + fl (Int.toNat x) (1 : Nat) ≤ q0)) ∧ (∃ y0 : Value, (∃ y1 : List Blk, ((Go.Rx.Found 1 (Value.tuple { toList := [vi ((1 : Int) + c + x * a + fl (Int.toNat x) (1 : Nat)), vi (0 : Int)] }) ({ h := [((3 : Nat), Blk.cells [vi a, vi b, vi c, vi d, vi e] (23 : Nat)), q9, q10, q5], next := (4 : Nat) }) (y0) (y1)) ∧ (K y0 y1))))))))))))))))))))))))) else (q6 ∧ (q3 ∧ (T0 ∧ ((Int.toNat x < nl) ∧ (T0 ∧ (q8 ∧ (∃ y0 : Value, (∃ y1 : List Blk, ((Go.Rx.Found 1 (Value.tuple { toList := [vi q4, vi (chk a b c d e)] }) ({ h := [((3 : Nat), Blk.cells [vi a, vi b, vi c, vi d, vi e] (23 : Nat)), q9, q10, q5], next := (4 : Nat) }) (y0) (y1)) ∧ (K y0 y1)))))))))))))); (t5 (((0 : Nat) + nl ≤ nl) ∧ ((InC a b c d e) ∧ ((@Eq Nat ((0 : Nat)) ((0 : Nat))) ∧ ((nl ≤ (100000 : Nat)) ∧ ((eK ∧ ((@Eq Nat (nl) (nl)) ∧ (@Eq Nat (cl) (cl)))) ∧ (eB ∧ (T0 ∧ (if (@Eq Int q2 ((0 : Int))) then (T0 ∧ (if (x < (0 : Int)) then q11 else (t2 (if (b ≤ x) then q11 else (T0 ∧ q13))))) else (T0 ∧ (if (@Eq Int q2 ((0 : Int))) then q13 else (∃ y0 : Value, (∃ y1 : List Blk, ((Go.Rx.Found 1 (Value.tuple { toList := [vi (0 : Int), vi q2] }) ({ h := [q9, q10, q5], next := (3 : Nat) }) (y0) (y1)) ∧ (K y0 y1)))))))))))))))
theorem con33_rE (el nl cl : Nat) (fl : RF) (a : Int) (b : Int) (c : Int) (d : Int) (e : Int) (x : Int) (K : Value → List Blk → Prop) : con33_rV el nl cl fl a b c d e x K = bodyX (mk X3) (callN (mk X3) 4) (con33_rA el nl cl fl a b c d e x) Try.f33 [five' a b c d e, rsl 0 0 nl cl, .int .i64 x] (stOf [.row true [.i64, .i64] el nl cl fl]) (Fd 1 K) := by kernel_rfl
set_option tactic.hygienic false in
theorem con33_rP (el nl cl : Nat) (fl : RF) (a : Int) (b : Int) (c : Int) (d : Int) (e : Int) (x : Int) (K : Value → List Blk → Prop)  (hI : InC a b c d e) (hnl : nl ≤ 100000) (h : K (.tuple ⟨[.int .i64 (topF a b c d e nl fl x).1, .int .i64 (topF a b c d e nl fl x).2]⟩) []) : con33_rV el nl cl fl a b c d e x K := by
  unfold con33_rV
  conv => zeta
  have G : (ckF a b c d e nl fl).2 = 0 → good a b c d e ∧ ((nl : Nat) : Int) = b ∧ ∀ i, i < nl → fok a fl i := ckF_zero
  unfold topF askF at h
  repeat' (first | (with_reducible first | exact rfl | exact trivial | refine And.intro ?_ ?_ | refine br_intro (fun hq => ?_) fun hq => ?_ | refine if_both (fun hz => ?_) fun hz => ?_) | (intro) | fail)
  all_goals first
    | omega
    | assumption
    | (have g := G (by assumption)
       have g2 := g.2.2 x.toNat (by omega)
       unfold fok at g2
       have g3 := mul_bd ⟨g.1.1, g.1.2.1⟩ (x := x) (b := b) (by omega) (by omega) (by omega)
       omega)
    | (have g := G (by assumption); omega)
    | (have g := chk_good (by assumption); omega)
    | (refine fin0 (by kernel_rfl) (by kernel_rfl) ?_
       repeat' (split at h)
       all_goals first | exact h | omega | (rw [show (ckF a b c d e nl fl).2 = 0 by assumption]; exact h))
    | (refine fin0 (by kernel_rfl) (by kernel_rfl) ?_
       have g := G (by assumption)
       repeat' (split at h)
       all_goals first | exact h | omega | (rw [show (ckF a b c d e nl fl).2 = 0 by assumption]; exact h))
    | (have g := G (by assumption)
       have g4 : chk a b c d e = 0 := if_pos g.1
       omega)
theorem con33_ok : BodyOk (mk X3) 4 Try.f33 con33 := by
  intro vs bs K hh hro
  clear hro
  unfold con33 at hh
  split at hh
  · rename_i u v x
    obtain ⟨a, b, c, d, e, rfl, hI, hh0⟩ := five_inv hh
    rcases parse_inv hh0 with ⟨rfl, hh1⟩ | ⟨el, nl, cl, fl, bs1, rfl, hnl, rfl, hh1⟩ <;> clear hh0
    · obtain ⟨rfl, hc⟩ := hh1
      exact ⟨_, _, cast (con33_nE a b c d e x K) (con33_nP a b c d e x K hI hc)⟩
    · obtain ⟨rfl, hc⟩ := hh1
      exact ⟨_, _, cast (con33_rE el nl cl fl a b c d e x K) (con33_rP el nl cl fl a b c d e x K hI hnl hc)⟩
  · exact hh.elim
theorem con33_told : Told 33 (specOf con33) := told (X := X3) (X3_told) (by kernel_rfl) (by kernel_rfl) (by kernel_rfl) con33_ok
end Go.Proofs.Ytkflmglpniebfaa.Fr
