/-
  Roots: the program's tables, as the calculus takes them. No project text.
-/
import Derived.Test.YtmnhjnfjgfjafaaRx2
import Derived.Test.YtmnhjnfjgfjafaaSy
import Derived.Test.YtmnhjnfjgfjafaaChecked
namespace Go.Proofs.Ytmnhjnfjgfjafaa.Fr
open Go.Rx
open Go.RowKit (Below)
set_option linter.unusedVariables false
abbrev T0 : Prop := true = true
abbrev TS : Prop := @Eq Ev.TK Ev.TK.slice Ev.TK.slice
abbrev vi (z : Int) : Value := .int .i64 z
abbrev vn : Value := .slice none 0 0
abbrev eN (n : Nat) : Prop := n = n
abbrev k2 : List IntKind := [.i64, .i64]
abbrev eK : Prop := k2 = k2
abbrev eB : Prop := @Eq (List Blk) [] []
abbrev rF (e n c : Nat) (f : Nat → Nat → Int) : Blk := .row false [.i64, .i64] e n c f
abbrev rT (e n c : Nat) (f : Nat → Nat → Int) : Blk := .row true [.i64, .i64] e n c f
abbrev CB (a b c d e : Int) : Blk := .cells [vi a, vi b, vi c, vi d, vi e] 23
abbrev pt (b o : Nat) : Value := .pointer (some ⟨b, o, none⟩)
abbrev vt (l : List Value) : Value := .tuple ⟨l⟩
abbrev z64 : Value := .int .i64 (Int.ofNat 0)
def T : List (Nat × Ev.TI) := [
  (3, ⟨1, 8, false, some [z64], some z64, .int .i64, [], 0, 0, false, 1, .other⟩),
  (4, ⟨1, 1, false, some [.bool false], some (.bool false), .other, [], 0, 0, false, 1, .other⟩),
  (22, ⟨1, 24, false, some [.slice none 0 0], some (.slice none 0 0), .slice, [], 0, 3, false, 1, .other⟩),
  (24, ⟨3, 24, true, some [z64, z64, z64], some (.agg ⟨[z64, z64, z64]⟩), .struct, [(0, false, 1), (1, false, 1), (2, false, 1)], 0, 0, false, 1, .other⟩),
  (27, ⟨1, 8, false, some [z64], some z64, .int .i64, [], 0, 0, false, 1, .other⟩),
  (38, ⟨1, 24, false, some [.slice none 0 0], some (.slice none 0 0), .slice, [], 0, 45, true, 2, .other⟩)]
noncomputable def F : List (Nat × Func) := [(3, Try.f3), (4, Try.f4), (5, Try.f5), (6, Try.f6), (7, Try.f7), (8, Try.f8), (9, Try.f9), (10, Try.f10), (11, Try.f11), (12, Try.f12), (13, Try.f13), (14, Try.f14), (15, Try.f15), (16, Try.f16), (17, Try.f17), (18, Try.f18), (19, Try.f19), (24, Try.f24), (25, Try.f25), (26, Try.f26), (27, Try.f27), (32, Try.f32), (33, Try.f33)]
def Q : List (Nat × List IntKind) := []
noncomputable abbrev mk (X : List (Nat × Rx.Spec)) : Env := ⟨Try.prog, T, F, Rx.look X, Q, [4]⟩
theorem mixed : Try.prog.follows .mixedOrders = true := by kernel_rfl
/-- A function's contract may be used. -/
def Told (f : Nat) (sp : Rx.Spec) : Prop := (∃ fn, Try.prog.funcs[f]? = some fn ∧ fn.body.isSome = true ∧ (fn.name == "runtime.NumGoroutine") = false) ∧ SpecOk Try.prog f sp
theorem mkOk {X : List (Nat × Rx.Spec)} (h : ∀ p ∈ X, Told p.1 p.2) : EnvOk (mk X) where
  types := look_all (q := fun ty i => Ev.mkTI Try.prog ty = some i) (by
    intro p hp
    simp only [T, List.mem_cons, List.not_mem_nil, or_false] at hp
    rcases hp with rfl | rfl | rfl | rfl | rfl | rfl <;> kernel_rfl)
  funcs := look_all (q := fun f fn => Try.prog.funcs[f]? = some fn ∧ (fn.name == "runtime.NumGoroutine") = false) (by
    intro p hp
    simp only [F, List.mem_cons, List.not_mem_nil, or_false] at hp
    rcases hp with rfl | rfl | rfl | rfl | rfl | rfl | rfl | rfl | rfl | rfl | rfl | rfl | rfl | rfl | rfl | rfl | rfl | rfl | rfl | rfl | rfl | rfl | rfl <;> exact ⟨by kernel_rfl, by kernel_rfl⟩)
  specs := look_all (q := Told) h
  mixed := mixed
  qs := look_all (q := fun ty ks => Ev.QOk Try.prog ty ks) (by
    intro p hp
    simp only [Q, List.not_mem_nil] at hp)
  bo := by
    intro ty hty
    simp only [List.mem_cons, List.not_mem_nil, or_false] at hty
    subst hty
    kernel_rfl
/-- From a function's body to its contract. -/
theorem told {X : List (Nat × Rx.Spec)} (hX : ∀ p ∈ X, Told p.1 p.2) {f n : Nat} {fn : Func} (hf : Try.prog.funcs[f]? = some fn) (h1 : fn.body.isSome = true) (h2 : (fn.name == "runtime.NumGoroutine") = false) {c : Con} (hb : BodyOk (mk X) n fn c) : Told f (specOf c) :=
  ⟨⟨fn, hf, h1, h2⟩, specOf_ok (mkOk hX) hf hb⟩
def sp6 : Rx.Spec := fun args s K => args = [] ∧ K (.bool true) s
set_option maxRecDepth 1000000 in
theorem closed6 : Ev.run ⟨Try.prog, Ev.mkTT Try.prog, Ev.mkFT Try.prog, [], [], [], none⟩ 1000000 6 [] = some true := by kernel_rfl
theorem told6 : Told 6 sp6 := ⟨⟨Try.f6, by kernel_rfl, by kernel_rfl, by kernel_rfl⟩, specTrue_ok (Ev.run_closed mixed closed6)⟩
end Go.Proofs.Ytmnhjnfjgfjafaa.Fr
