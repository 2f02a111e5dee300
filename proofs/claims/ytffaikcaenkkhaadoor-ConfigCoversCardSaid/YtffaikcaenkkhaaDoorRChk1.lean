/-
  'shunterlaw02.RChk': its numbers: what the evaluator calls them, what they are. No project text.
-/
import Derived.Test.YtffaikcaenkkhaaDoorRows
import Derived.Test.YtffaikcaenkkhaaDoorSy
import Derived.Test.YtffaikcaenkkhaaDoorFrm

namespace Go.Proofs.YtffaikcaenkkhaaDoor.rChk
open Go.ChangeShapes Go.WideShapes Go.ChangeAt Go.RowKit

def n0 : Value := .int .i64 (Int.ofNat 8)
def n1 : Value := Ev.inp .i64 0
def n2 : Value := .int .i64 (Int.ofNat 64)
def n3 : Value := .int .i64 (Int.ofNat 7)
def n4 : Value := Ev.inp .i64 1
def n5 : Value := .int .i64 (Int.ofNat 24)
def n6 : Value := .int .i64 (Int.ofNat 4)
def n7 : Value := Ev.inp .i64 2
def n8 : Value := .int .i64 (Int.ofNat 1)
def n9 : Value := Ev.inp .i64 3
def n10 : Value := .int .i64 (Int.ofNat 2)
def n11 : Value := Ev.inp .i64 4
def n12 : Value := .int .i64 (Int.ofNat 16)
def n13 : Value := .int .i64 (Int.ofNat 0)
def z0 (_x0 _x1 _x2 _x3 _x4 : Int) : Int := (8 : Int)
def z1 (x0 _x1 _x2 _x3 _x4 : Int) : Int := x0
def z2 (_x0 _x1 _x2 _x3 _x4 : Int) : Int := (64 : Int)
def z3 (_x0 _x1 _x2 _x3 _x4 : Int) : Int := (7 : Int)
def z4 (_x0 x1 _x2 _x3 _x4 : Int) : Int := x1
def z5 (_x0 _x1 _x2 _x3 _x4 : Int) : Int := (24 : Int)
def z6 (_x0 _x1 _x2 _x3 _x4 : Int) : Int := (4 : Int)
def z7 (_x0 _x1 x2 _x3 _x4 : Int) : Int := x2
def z8 (_x0 _x1 _x2 _x3 _x4 : Int) : Int := (1 : Int)
def z9 (_x0 _x1 _x2 x3 _x4 : Int) : Int := x3
def z10 (_x0 _x1 _x2 _x3 _x4 : Int) : Int := (2 : Int)
def z11 (_x0 _x1 _x2 _x3 x4 : Int) : Int := x4
def z12 (_x0 _x1 _x2 _x3 _x4 : Int) : Int := (16 : Int)
def z13 (_x0 _x1 _x2 _x3 _x4 : Int) : Int := (0 : Int)
structure In [Inhabited Ev.Val] (x0 x1 x2 x3 x4 : Int) : Prop where
  i0 : Ev.Is (Ev.inp .i64 0) .i64 x0
  i1 : Ev.Is (Ev.inp .i64 1) .i64 x1
  i2 : Ev.Is (Ev.inp .i64 2) .i64 x2
  i3 : Ev.Is (Ev.inp .i64 3) .i64 x3
  i4 : Ev.Is (Ev.inp .i64 4) .i64 x4
structure Bd (x0 x1 x2 x3 x4 : Int) : Prop where
  l0 : -9223372036854775808 ≤ x0
  u0 : x0 ≤ 9223372036854775807
  l1 : -9223372036854775808 ≤ x1
  u1 : x1 ≤ 9223372036854775807
  l2 : -9223372036854775808 ≤ x2
  u2 : x2 ≤ 9223372036854775807
  l3 : -9223372036854775808 ≤ x3
  u3 : x3 ≤ 9223372036854775807
  l4 : -9223372036854775808 ≤ x4
  u4 : x4 ≤ 9223372036854775807
section
variable [Inhabited Ev.Val] {x0 x1 x2 x3 x4 : Int}
theorem is0 (_ : In x0 x1 x2 x3 x4) : Ev.Is n0 .i64 (z0 x0 x1 x2 x3 x4) := Ev.Is.lit _ _
theorem is1 (I : In x0 x1 x2 x3 x4) : Ev.Is n1 .i64 (z1 x0 x1 x2 x3 x4) := I.i0
theorem is2 (_ : In x0 x1 x2 x3 x4) : Ev.Is n2 .i64 (z2 x0 x1 x2 x3 x4) := Ev.Is.lit _ _
theorem is3 (_ : In x0 x1 x2 x3 x4) : Ev.Is n3 .i64 (z3 x0 x1 x2 x3 x4) := Ev.Is.lit _ _
theorem is4 (I : In x0 x1 x2 x3 x4) : Ev.Is n4 .i64 (z4 x0 x1 x2 x3 x4) := I.i1
theorem is5 (_ : In x0 x1 x2 x3 x4) : Ev.Is n5 .i64 (z5 x0 x1 x2 x3 x4) := Ev.Is.lit _ _
theorem is6 (_ : In x0 x1 x2 x3 x4) : Ev.Is n6 .i64 (z6 x0 x1 x2 x3 x4) := Ev.Is.lit _ _
theorem is7 (I : In x0 x1 x2 x3 x4) : Ev.Is n7 .i64 (z7 x0 x1 x2 x3 x4) := I.i2
theorem is8 (_ : In x0 x1 x2 x3 x4) : Ev.Is n8 .i64 (z8 x0 x1 x2 x3 x4) := Ev.Is.lit _ _
theorem is9 (I : In x0 x1 x2 x3 x4) : Ev.Is n9 .i64 (z9 x0 x1 x2 x3 x4) := I.i3
theorem is10 (_ : In x0 x1 x2 x3 x4) : Ev.Is n10 .i64 (z10 x0 x1 x2 x3 x4) := Ev.Is.lit _ _
theorem is11 (I : In x0 x1 x2 x3 x4) : Ev.Is n11 .i64 (z11 x0 x1 x2 x3 x4) := I.i4
theorem is12 (_ : In x0 x1 x2 x3 x4) : Ev.Is n12 .i64 (z12 x0 x1 x2 x3 x4) := Ev.Is.lit _ _
theorem is13 (_ : In x0 x1 x2 x3 x4) : Ev.Is n13 .i64 (z13 x0 x1 x2 x3 x4) := Ev.Is.lit _ _
end
theorem mixed : Tryd.prog.follows .mixedOrders = true := by kernel_rfl
abbrev Cs : List (FuncId × List Value × Value) := []
abbrev Qs : List (TypeId × List IntKind) := [(23, [.i64, .i64, .i64, .i64, .i64])]
theorem cs [Inhabited Ev.Val] : Ev.CsOk Tryd.prog Cs := Ev.csOk_nil _
theorem qs23 : Ev.QOk Tryd.prog 23 [.i64, .i64, .i64, .i64, .i64] := by
  intro l m hl hm op x y w ho
  obtain ⟨aa0, aa1, aa2, aa3, aa4, rfl⟩ : ∃ aa0 aa1 aa2 aa3 aa4, l = [aa0, aa1, aa2, aa3, aa4] := by
    match l, hl with
    | [aa0, aa1, aa2, aa3, aa4], _ => exact ⟨aa0, aa1, aa2, aa3, aa4, rfl⟩
  obtain ⟨cc0, cc1, cc2, cc3, cc4, rfl⟩ : ∃ cc0 cc1 cc2 cc3 cc4, m = [cc0, cc1, cc2, cc3, cc4] := by
    match m, hm with
    | [cc0, cc1, cc2, cc3, cc4], _ => exact ⟨cc0, cc1, cc2, cc3, cc4, rfl⟩
  have u3 := Tryd.underlying3
  have a3 := Tryd.isAgg3
  have z3 := Tryd.sizeOf3
  have hS : Tryd.prog.underlying 23 = some (.struct (Tryd.prog.fieldsOf 23)) := by kernel_rfl
  have hp : Tryd.prog.stoodInHeld 23 = false := by kernel_rfl
  have hg : Tryd.prog.eqGuardType Tryd.prog.depth 23 = false := by kernel_rfl
  simp only [Ev.ints]
  rw [Sem.run_bind, run_eqGuard_agg w op 23 x y _ _ hg]
  rcases ho with rfl | rfl
  · simp only [Result.andThen_ok]
    rw [run_eql_struct, show (10000 : Nat) = 9999 + 1 from rfl, run_equalIn_agg w 9999 23 _ _ hS hp]
    simp only [Program.fieldsOf, Tryd.underlying23]
    go_simp
    by_cases h0 : aa0 = cc0 <;> by_cases h1 : aa1 = cc1 <;> by_cases h2 : aa2 = cc2 <;> by_cases h3 : aa3 = cc3 <;> by_cases h4 : aa4 = cc4 <;> simp [h0, h1, h2, h3, h4]
  · simp only [Result.andThen_ok]
    rw [run_neq_struct, show (10000 : Nat) = 9999 + 1 from rfl, run_equalIn_agg w 9999 23 _ _ hS hp]
    simp only [Program.fieldsOf, Tryd.underlying23]
    go_simp
    by_cases h0 : aa0 = cc0 <;> by_cases h1 : aa1 = cc1 <;> by_cases h2 : aa2 = cc2 <;> by_cases h3 : aa3 = cc3 <;> by_cases h4 : aa4 = cc4 <;> simp [h0, h1, h2, h3, h4]
theorem qs : ∀ t ks, Ev.lookQ t Qs = some ks → Ev.QOk Tryd.prog t ks := by
  intro t ks h
  by_cases h23 : t = 23
  · subst h23
    obtain rfl : _ = ks := Option.some.inj h
    exact qs23
  exfalso
  revert h
  simp only [Ev.lookQ]
  have e23 : Nat.beq t 23 = false := by
    cases hq : Nat.beq t 23 with
    | true => exact absurd (Nat.eq_of_beq_eq_true hq) h23
    | false => rfl
  rw [e23]
  simp
def r0 (x0 x1 x2 x3 x4 : Int) : Int := if z0 x0 x1 x2 x3 x4 ≤ z1 x0 x1 x2 x3 x4 then if z1 x0 x1 x2 x3 x4 ≤ z2 x0 x1 x2 x3 x4 then if z3 x0 x1 x2 x3 x4 ≤ z4 x0 x1 x2 x3 x4 then if z4 x0 x1 x2 x3 x4 ≤ z5 x0 x1 x2 x3 x4 then if z6 x0 x1 x2 x3 x4 ≤ z7 x0 x1 x2 x3 x4 then if z7 x0 x1 x2 x3 x4 ≤ z2 x0 x1 x2 x3 x4 then if z8 x0 x1 x2 x3 x4 ≤ z9 x0 x1 x2 x3 x4 then if z9 x0 x1 x2 x3 x4 ≤ z0 x0 x1 x2 x3 x4 then if z10 x0 x1 x2 x3 x4 ≤ z11 x0 x1 x2 x3 x4 then if z11 x0 x1 x2 x3 x4 ≤ z12 x0 x1 x2 x3 x4 then z13 x0 x1 x2 x3 x4 else z3 x0 x1 x2 x3 x4 else z3 x0 x1 x2 x3 x4 else z3 x0 x1 x2 x3 x4 else z3 x0 x1 x2 x3 x4 else z3 x0 x1 x2 x3 x4 else z3 x0 x1 x2 x3 x4 else z3 x0 x1 x2 x3 x4 else z3 x0 x1 x2 x3 x4 else z3 x0 x1 x2 x3 x4 else z3 x0 x1 x2 x3 x4
end Go.Proofs.YtffaikcaenkkhaaDoor.rChk
