/-
  'shunterlaw26.CAft': its numbers: what the evaluator calls them, what they are. No project text.
-/
import Derived.Test.YtffaikcaenkkhabRows
import Derived.Test.YtffaikcaenkkhabSy
import Derived.Test.YtffaikcaenkkhabFrm

namespace Go.Proofs.Ytffaikcaenkkhab.cAft
open Go.ChangeShapes Go.WideShapes Go.ChangeAt Go.RowKit

def n0 : Value := Ev.inp .i64 8
def n1 : Value := .int .i64 (Int.ofNat 0)
def n2 : Value := Ev.inp .i64 5
def n3 : Value := Ev.inp .i64 1
def n4 : Value := Ev.inp .i64 0
def n5 : Value := Ev.nodeB .mul n3 n4 .i64
def n6 : Value := Ev.inp .i64 2
def n7 : Value := Ev.nodeB .add n5 n6 .i64
def n8 : Value := Ev.inp .i64 6
def n9 : Value := Ev.nodeB .add n2 n8 .i64
def n10 : Value := .int .i64 (Int.ofNat 1)
def n11 : Value := Ev.inp .i64 7
def n12 : Value := .int .i64 (Int.ofNat 2)
def n13 : Value := Ev.nodeB .quo n4 n12 .i64
def n14 : Value := Ev.nodeI n13 n6 n13 n6 .i64
def n15 : Value := Ev.nodeB .add n2 n11 .i64
def n16 : Value := Ev.nodeB .mul n12 n15 .i64
def n17 : Value := .int .i64 (Int.ofNat 6)
def n18 : Value := Ev.nodeB .sub n3 n17 .i64
def n19 : Value := Ev.nodeB .mul n4 n18 .i64
def n20 : Value := .int .i64 (Int.ofNat 5)
def n21 : Value := .int .i64 (Int.ofNat 11)
def n22 : Value := .int .i64 (Int.ofNat 7)
def z0 (_x0 _x1 _x2 _x3 _x4 _x5 _x6 _x7 x8 : Int) : Int := x8
def z1 (_x0 _x1 _x2 _x3 _x4 _x5 _x6 _x7 _x8 : Int) : Int := (0 : Int)
def z2 (_x0 _x1 _x2 _x3 _x4 x5 _x6 _x7 _x8 : Int) : Int := x5
def z3 (_x0 x1 _x2 _x3 _x4 _x5 _x6 _x7 _x8 : Int) : Int := x1
def z4 (x0 _x1 _x2 _x3 _x4 _x5 _x6 _x7 _x8 : Int) : Int := x0
def z5 (x0 x1 x2 x3 x4 x5 x6 x7 x8 : Int) : Int := (z3 x0 x1 x2 x3 x4 x5 x6 x7 x8 * z4 x0 x1 x2 x3 x4 x5 x6 x7 x8 + 9223372036854775808) % 18446744073709551616 - 9223372036854775808
def z6 (_x0 _x1 x2 _x3 _x4 _x5 _x6 _x7 _x8 : Int) : Int := x2
def z7 (x0 x1 x2 x3 x4 x5 x6 x7 x8 : Int) : Int := (z5 x0 x1 x2 x3 x4 x5 x6 x7 x8 + z6 x0 x1 x2 x3 x4 x5 x6 x7 x8 + 9223372036854775808) % 18446744073709551616 - 9223372036854775808
def z8 (_x0 _x1 _x2 _x3 _x4 _x5 x6 _x7 _x8 : Int) : Int := x6
def z9 (x0 x1 x2 x3 x4 x5 x6 x7 x8 : Int) : Int := (z2 x0 x1 x2 x3 x4 x5 x6 x7 x8 + z8 x0 x1 x2 x3 x4 x5 x6 x7 x8 + 9223372036854775808) % 18446744073709551616 - 9223372036854775808
def z10 (_x0 _x1 _x2 _x3 _x4 _x5 _x6 _x7 _x8 : Int) : Int := (1 : Int)
def z11 (_x0 _x1 _x2 _x3 _x4 _x5 _x6 x7 _x8 : Int) : Int := x7
def z12 (_x0 _x1 _x2 _x3 _x4 _x5 _x6 _x7 _x8 : Int) : Int := (2 : Int)
def z13 (x0 x1 x2 x3 x4 x5 x6 x7 x8 : Int) : Int := ((if 0 ≤ z4 x0 x1 x2 x3 x4 x5 x6 x7 x8 then z4 x0 x1 x2 x3 x4 x5 x6 x7 x8 / 2 else -((-z4 x0 x1 x2 x3 x4 x5 x6 x7 x8) / 2)) + 9223372036854775808) % 18446744073709551616 - 9223372036854775808
def z14 (x0 x1 x2 x3 x4 x5 x6 x7 x8 : Int) : Int := if z13 x0 x1 x2 x3 x4 x5 x6 x7 x8 ≤ z6 x0 x1 x2 x3 x4 x5 x6 x7 x8 then z13 x0 x1 x2 x3 x4 x5 x6 x7 x8 else z6 x0 x1 x2 x3 x4 x5 x6 x7 x8
def z15 (x0 x1 x2 x3 x4 x5 x6 x7 x8 : Int) : Int := (z2 x0 x1 x2 x3 x4 x5 x6 x7 x8 + z11 x0 x1 x2 x3 x4 x5 x6 x7 x8 + 9223372036854775808) % 18446744073709551616 - 9223372036854775808
def z16 (x0 x1 x2 x3 x4 x5 x6 x7 x8 : Int) : Int := (z12 x0 x1 x2 x3 x4 x5 x6 x7 x8 * z15 x0 x1 x2 x3 x4 x5 x6 x7 x8 + 9223372036854775808) % 18446744073709551616 - 9223372036854775808
def z17 (_x0 _x1 _x2 _x3 _x4 _x5 _x6 _x7 _x8 : Int) : Int := (6 : Int)
def z18 (x0 x1 x2 x3 x4 x5 x6 x7 x8 : Int) : Int := (z3 x0 x1 x2 x3 x4 x5 x6 x7 x8 - z17 x0 x1 x2 x3 x4 x5 x6 x7 x8 + 9223372036854775808) % 18446744073709551616 - 9223372036854775808
def z19 (x0 x1 x2 x3 x4 x5 x6 x7 x8 : Int) : Int := (z4 x0 x1 x2 x3 x4 x5 x6 x7 x8 * z18 x0 x1 x2 x3 x4 x5 x6 x7 x8 + 9223372036854775808) % 18446744073709551616 - 9223372036854775808
def z20 (_x0 _x1 _x2 _x3 _x4 _x5 _x6 _x7 _x8 : Int) : Int := (5 : Int)
def z21 (_x0 _x1 _x2 _x3 _x4 _x5 _x6 _x7 _x8 : Int) : Int := (11 : Int)
def z22 (_x0 _x1 _x2 _x3 _x4 _x5 _x6 _x7 _x8 : Int) : Int := (7 : Int)
structure In [Inhabited Ev.Val] (x0 x1 x2 x3 x4 x5 x6 x7 x8 : Int) : Prop where
  i0 : Ev.Is (Ev.inp .i64 0) .i64 x0
  i1 : Ev.Is (Ev.inp .i64 1) .i64 x1
  i2 : Ev.Is (Ev.inp .i64 2) .i64 x2
  i3 : Ev.Is (Ev.inp .i64 3) .i64 x3
  i4 : Ev.Is (Ev.inp .i64 4) .i64 x4
  i5 : Ev.Is (Ev.inp .i64 5) .i64 x5
  i6 : Ev.Is (Ev.inp .i64 6) .i64 x6
  i7 : Ev.Is (Ev.inp .i64 7) .i64 x7
  i8 : Ev.Is (Ev.inp .i64 8) .i64 x8
structure Bd (x0 x1 x2 x3 x4 x5 x6 x7 x8 : Int) : Prop where
  l0 : -9223372036854775808 ≤ x0
  u0 : x0 ≤ 9223372036854775807
  l1 : -9223372036854775808 ≤ x1
  u1 : x1 ≤ 9223372036854775807
  l2 : -9223372036854775808 ≤ x2
  u2 : x2 ≤ 9223372036854775807
  l3 : -9223372036854775808 ≤ x3
  u3 : x3 ≤ 9223372036854775807
  l4 : -9223372036854775808 ≤ x4
  u4 : x4 ≤ 9223372036854775807
  l5 : -9223372036854775808 ≤ x5
  u5 : x5 ≤ 9223372036854775807
  l6 : -9223372036854775808 ≤ x6
  u6 : x6 ≤ 9223372036854775807
  l7 : -9223372036854775808 ≤ x7
  u7 : x7 ≤ 9223372036854775807
  l8 : -9223372036854775808 ≤ x8
  u8 : x8 ≤ 9223372036854775807
section
variable [Inhabited Ev.Val] {x0 x1 x2 x3 x4 x5 x6 x7 x8 : Int}
theorem is0 (I : In x0 x1 x2 x3 x4 x5 x6 x7 x8) : Ev.Is n0 .i64 (z0 x0 x1 x2 x3 x4 x5 x6 x7 x8) := I.i8
theorem is1 (_ : In x0 x1 x2 x3 x4 x5 x6 x7 x8) : Ev.Is n1 .i64 (z1 x0 x1 x2 x3 x4 x5 x6 x7 x8) := Ev.Is.lit _ _
theorem is2 (I : In x0 x1 x2 x3 x4 x5 x6 x7 x8) : Ev.Is n2 .i64 (z2 x0 x1 x2 x3 x4 x5 x6 x7 x8) := I.i5
theorem is3 (I : In x0 x1 x2 x3 x4 x5 x6 x7 x8) : Ev.Is n3 .i64 (z3 x0 x1 x2 x3 x4 x5 x6 x7 x8) := I.i1
theorem is4 (I : In x0 x1 x2 x3 x4 x5 x6 x7 x8) : Ev.Is n4 .i64 (z4 x0 x1 x2 x3 x4 x5 x6 x7 x8) := I.i0
theorem is5 (I : In x0 x1 x2 x3 x4 x5 x6 x7 x8) : Ev.Is n5 .i64 (z5 x0 x1 x2 x3 x4 x5 x6 x7 x8) := Ev.is_mul_i64 (is3 I) (is4 I)
theorem is6 (I : In x0 x1 x2 x3 x4 x5 x6 x7 x8) : Ev.Is n6 .i64 (z6 x0 x1 x2 x3 x4 x5 x6 x7 x8) := I.i2
theorem is7 (I : In x0 x1 x2 x3 x4 x5 x6 x7 x8) : Ev.Is n7 .i64 (z7 x0 x1 x2 x3 x4 x5 x6 x7 x8) := Ev.is_add_i64 (is5 I) (is6 I)
theorem is8 (I : In x0 x1 x2 x3 x4 x5 x6 x7 x8) : Ev.Is n8 .i64 (z8 x0 x1 x2 x3 x4 x5 x6 x7 x8) := I.i6
theorem is9 (I : In x0 x1 x2 x3 x4 x5 x6 x7 x8) : Ev.Is n9 .i64 (z9 x0 x1 x2 x3 x4 x5 x6 x7 x8) := Ev.is_add_i64 (is2 I) (is8 I)
theorem is10 (_ : In x0 x1 x2 x3 x4 x5 x6 x7 x8) : Ev.Is n10 .i64 (z10 x0 x1 x2 x3 x4 x5 x6 x7 x8) := Ev.Is.lit _ _
theorem is11 (I : In x0 x1 x2 x3 x4 x5 x6 x7 x8) : Ev.Is n11 .i64 (z11 x0 x1 x2 x3 x4 x5 x6 x7 x8) := I.i7
theorem is12 (_ : In x0 x1 x2 x3 x4 x5 x6 x7 x8) : Ev.Is n12 .i64 (z12 x0 x1 x2 x3 x4 x5 x6 x7 x8) := Ev.Is.lit _ _
theorem is13 (I : In x0 x1 x2 x3 x4 x5 x6 x7 x8) : Ev.Is n13 .i64 (z13 x0 x1 x2 x3 x4 x5 x6 x7 x8) := Ev.is_quo_i64 2 2 rfl (by decide) (is4 I)
theorem is14 (I : In x0 x1 x2 x3 x4 x5 x6 x7 x8) : Ev.Is n14 .i64 (z14 x0 x1 x2 x3 x4 x5 x6 x7 x8) := Ev.nodeI_is (is13 I) (is6 I) (is13 I) (is6 I)
theorem is15 (I : In x0 x1 x2 x3 x4 x5 x6 x7 x8) : Ev.Is n15 .i64 (z15 x0 x1 x2 x3 x4 x5 x6 x7 x8) := Ev.is_add_i64 (is2 I) (is11 I)
theorem is16 (I : In x0 x1 x2 x3 x4 x5 x6 x7 x8) : Ev.Is n16 .i64 (z16 x0 x1 x2 x3 x4 x5 x6 x7 x8) := Ev.is_mul_i64 (is12 I) (is15 I)
theorem is17 (_ : In x0 x1 x2 x3 x4 x5 x6 x7 x8) : Ev.Is n17 .i64 (z17 x0 x1 x2 x3 x4 x5 x6 x7 x8) := Ev.Is.lit _ _
theorem is18 (I : In x0 x1 x2 x3 x4 x5 x6 x7 x8) : Ev.Is n18 .i64 (z18 x0 x1 x2 x3 x4 x5 x6 x7 x8) := Ev.is_sub_i64 (is3 I) (is17 I)
theorem is19 (I : In x0 x1 x2 x3 x4 x5 x6 x7 x8) : Ev.Is n19 .i64 (z19 x0 x1 x2 x3 x4 x5 x6 x7 x8) := Ev.is_mul_i64 (is4 I) (is18 I)
theorem is20 (_ : In x0 x1 x2 x3 x4 x5 x6 x7 x8) : Ev.Is n20 .i64 (z20 x0 x1 x2 x3 x4 x5 x6 x7 x8) := Ev.Is.lit _ _
theorem is21 (_ : In x0 x1 x2 x3 x4 x5 x6 x7 x8) : Ev.Is n21 .i64 (z21 x0 x1 x2 x3 x4 x5 x6 x7 x8) := Ev.Is.lit _ _
theorem is22 (_ : In x0 x1 x2 x3 x4 x5 x6 x7 x8) : Ev.Is n22 .i64 (z22 x0 x1 x2 x3 x4 x5 x6 x7 x8) := Ev.Is.lit _ _
end
theorem mixed : Try.prog.follows .mixedOrders = true := by kernel_rfl
abbrev Cs : List (FuncId × List Value × Value) := [(39, [.agg ⟨[Ev.inp .i64 0, Ev.inp .i64 1, Ev.inp .i64 2, Ev.inp .i64 3, Ev.inp .i64 4]⟩], Ev.inp .i64 8)]
abbrev Qs : List (TypeId × List IntKind) := [(23, [.i64, .i64, .i64, .i64, .i64])]
theorem qs23 : Ev.QOk Try.prog 23 [.i64, .i64, .i64, .i64, .i64] := by
  intro l m hl hm op x y w ho
  obtain ⟨aa0, aa1, aa2, aa3, aa4, rfl⟩ : ∃ aa0 aa1 aa2 aa3 aa4, l = [aa0, aa1, aa2, aa3, aa4] := by
    match l, hl with
    | [aa0, aa1, aa2, aa3, aa4], _ => exact ⟨aa0, aa1, aa2, aa3, aa4, rfl⟩
  obtain ⟨cc0, cc1, cc2, cc3, cc4, rfl⟩ : ∃ cc0 cc1 cc2 cc3 cc4, m = [cc0, cc1, cc2, cc3, cc4] := by
    match m, hm with
    | [cc0, cc1, cc2, cc3, cc4], _ => exact ⟨cc0, cc1, cc2, cc3, cc4, rfl⟩
  have u3 := Try.underlying3
  have a3 := Try.isAgg3
  have z3 := Try.sizeOf3
  have hS : Try.prog.underlying 23 = some (.struct (Try.prog.fieldsOf 23)) := by kernel_rfl
  have hp : Try.prog.stoodInHeld 23 = false := by kernel_rfl
  have hg : Try.prog.eqGuardType Try.prog.depth 23 = false := by kernel_rfl
  simp only [Ev.ints]
  rw [Sem.run_bind, run_eqGuard_agg w op 23 x y _ _ hg]
  rcases ho with rfl | rfl
  · simp only [Result.andThen_ok]
    rw [run_eql_struct, show (10000 : Nat) = 9999 + 1 from rfl, run_equalIn_agg w 9999 23 _ _ hS hp]
    simp only [Program.fieldsOf, Try.underlying23]
    go_simp
    by_cases h0 : aa0 = cc0 <;> by_cases h1 : aa1 = cc1 <;> by_cases h2 : aa2 = cc2 <;> by_cases h3 : aa3 = cc3 <;> by_cases h4 : aa4 = cc4 <;> simp [h0, h1, h2, h3, h4]
  · simp only [Result.andThen_ok]
    rw [run_neq_struct, show (10000 : Nat) = 9999 + 1 from rfl, run_equalIn_agg w 9999 23 _ _ hS hp]
    simp only [Program.fieldsOf, Try.underlying23]
    go_simp
    by_cases h0 : aa0 = cc0 <;> by_cases h1 : aa1 = cc1 <;> by_cases h2 : aa2 = cc2 <;> by_cases h3 : aa3 = cc3 <;> by_cases h4 : aa4 = cc4 <;> simp [h0, h1, h2, h3, h4]
theorem qs : ∀ t ks, Ev.lookQ t Qs = some ks → Ev.QOk Try.prog t ks := by
  intro t ks h
  by_cases h23 : t = 23
  · subst h23
    obtain rfl : _ = ks := Option.some.inj h
    exact qs23
  exfalso
  revert h
  simp only [Ev.lookQ]
  have e23 : Nat.beq t 23 = false := by
    cases hq : Nat.beq t 23 with
    | true => exact absurd (Nat.eq_of_beq_eq_true hq) h23
    | false => rfl
  rw [e23]
  simp
def r0 (x0 x1 x2 x3 x4 x5 x6 x7 x8 : Int) : Int := if z0 x0 x1 x2 x3 x4 x5 x6 x7 x8 = z1 x0 x1 x2 x3 x4 x5 x6 x7 x8 then if z1 x0 x1 x2 x3 x4 x5 x6 x7 x8 ≤ z2 x0 x1 x2 x3 x4 x5 x6 x7 x8 then if z2 x0 x1 x2 x3 x4 x5 x6 x7 x8 ≤ z7 x0 x1 x2 x3 x4 x5 x6 x7 x8 then if z1 x0 x1 x2 x3 x4 x5 x6 x7 x8 ≤ z8 x0 x1 x2 x3 x4 x5 x6 x7 x8 then if z8 x0 x1 x2 x3 x4 x5 x6 x7 x8 ≤ z6 x0 x1 x2 x3 x4 x5 x6 x7 x8 then if z6 x0 x1 x2 x3 x4 x5 x6 x7 x8 ≤ z9 x0 x1 x2 x3 x4 x5 x6 x7 x8 then if z10 x0 x1 x2 x3 x4 x5 x6 x7 x8 ≤ z11 x0 x1 x2 x3 x4 x5 x6 x7 x8 then if z11 x0 x1 x2 x3 x4 x5 x6 x7 x8 ≤ z14 x0 x1 x2 x3 x4 x5 x6 x7 x8 then if z11 x0 x1 x2 x3 x4 x5 x6 x7 x8 ≤ z8 x0 x1 x2 x3 x4 x5 x6 x7 x8 then if z16 x0 x1 x2 x3 x4 x5 x6 x7 x8 ≤ z19 x0 x1 x2 x3 x4 x5 x6 x7 x8 then z1 x0 x1 x2 x3 x4 x5 x6 x7 x8 else z20 x0 x1 x2 x3 x4 x5 x6 x7 x8 else z20 x0 x1 x2 x3 x4 x5 x6 x7 x8 else z21 x0 x1 x2 x3 x4 x5 x6 x7 x8 else z22 x0 x1 x2 x3 x4 x5 x6 x7 x8 else z22 x0 x1 x2 x3 x4 x5 x6 x7 x8 else z22 x0 x1 x2 x3 x4 x5 x6 x7 x8 else z22 x0 x1 x2 x3 x4 x5 x6 x7 x8 else z22 x0 x1 x2 x3 x4 x5 x6 x7 x8 else z22 x0 x1 x2 x3 x4 x5 x6 x7 x8 else z0 x0 x1 x2 x3 x4 x5 x6 x7 x8
end Go.Proofs.Ytffaikcaenkkhab.cAft
