/-
  'shunterconfig.Cchk': its numbers: what the evaluator calls them, what they are. No project text.
-/
import Derived.Test.YtnpgeeajlbglaaaRows
import Derived.Test.YtnpgeeajlbglaaaSy
import Derived.Test.YtnpgeeajlbglaaaFrm

namespace Go.Proofs.Ytnpgeeajlbglaaa.cchk
open Go.ChangeShapes Go.WideShapes Go.ChangeAt Go.RowKit

def n0 : Value := Ev.inp .i64 0
def n1 : Value := .int .i64 (Int.ofNat 8)
def n2 : Value := Ev.nodeI n0 n1 n1 n0 .i64
def n3 : Value := .int .i64 (Int.ofNat 64)
def n4 : Value := Ev.nodeI n2 n3 n2 n3 .i64
def n5 : Value := Ev.inp .i64 1
def n6 : Value := .int .i64 (Int.ofNat 7)
def n7 : Value := Ev.nodeI n5 n6 n6 n5 .i64
def n8 : Value := .int .i64 (Int.ofNat 24)
def n9 : Value := Ev.nodeI n7 n8 n7 n8 .i64
def n10 : Value := Ev.inp .i64 2
def n11 : Value := .int .i64 (Int.ofNat 4)
def n12 : Value := Ev.nodeI n10 n11 n11 n10 .i64
def n13 : Value := Ev.nodeI n12 n3 n12 n3 .i64
def n14 : Value := Ev.inp .i64 3
def n15 : Value := .int .i64 (Int.ofNat 1)
def n16 : Value := Ev.nodeI n14 n15 n15 n14 .i64
def n17 : Value := Ev.nodeI n16 n1 n16 n1 .i64
def n18 : Value := Ev.inp .i64 4
def n19 : Value := .int .i64 (Int.ofNat 2)
def n20 : Value := Ev.nodeI n18 n19 n19 n18 .i64
def n21 : Value := .int .i64 (Int.ofNat 16)
def n22 : Value := Ev.nodeI n20 n21 n20 n21 .i64
def n23 : Value := .int .i64 (Int.ofNat 0)
def z0 (x0 _x1 _x2 _x3 _x4 : Int) : Int := x0
def z1 (_x0 _x1 _x2 _x3 _x4 : Int) : Int := (8 : Int)
def z2 (x0 x1 x2 x3 x4 : Int) : Int := if z0 x0 x1 x2 x3 x4 ≤ z1 x0 x1 x2 x3 x4 then z1 x0 x1 x2 x3 x4 else z0 x0 x1 x2 x3 x4
def z3 (_x0 _x1 _x2 _x3 _x4 : Int) : Int := (64 : Int)
def z4 (x0 x1 x2 x3 x4 : Int) : Int := if z2 x0 x1 x2 x3 x4 ≤ z3 x0 x1 x2 x3 x4 then z2 x0 x1 x2 x3 x4 else z3 x0 x1 x2 x3 x4
def z5 (_x0 x1 _x2 _x3 _x4 : Int) : Int := x1
def z6 (_x0 _x1 _x2 _x3 _x4 : Int) : Int := (7 : Int)
def z7 (x0 x1 x2 x3 x4 : Int) : Int := if z5 x0 x1 x2 x3 x4 ≤ z6 x0 x1 x2 x3 x4 then z6 x0 x1 x2 x3 x4 else z5 x0 x1 x2 x3 x4
def z8 (_x0 _x1 _x2 _x3 _x4 : Int) : Int := (24 : Int)
def z9 (x0 x1 x2 x3 x4 : Int) : Int := if z7 x0 x1 x2 x3 x4 ≤ z8 x0 x1 x2 x3 x4 then z7 x0 x1 x2 x3 x4 else z8 x0 x1 x2 x3 x4
def z10 (_x0 _x1 x2 _x3 _x4 : Int) : Int := x2
def z11 (_x0 _x1 _x2 _x3 _x4 : Int) : Int := (4 : Int)
def z12 (x0 x1 x2 x3 x4 : Int) : Int := if z10 x0 x1 x2 x3 x4 ≤ z11 x0 x1 x2 x3 x4 then z11 x0 x1 x2 x3 x4 else z10 x0 x1 x2 x3 x4
def z13 (x0 x1 x2 x3 x4 : Int) : Int := if z12 x0 x1 x2 x3 x4 ≤ z3 x0 x1 x2 x3 x4 then z12 x0 x1 x2 x3 x4 else z3 x0 x1 x2 x3 x4
def z14 (_x0 _x1 _x2 x3 _x4 : Int) : Int := x3
def z15 (_x0 _x1 _x2 _x3 _x4 : Int) : Int := (1 : Int)
def z16 (x0 x1 x2 x3 x4 : Int) : Int := if z14 x0 x1 x2 x3 x4 ≤ z15 x0 x1 x2 x3 x4 then z15 x0 x1 x2 x3 x4 else z14 x0 x1 x2 x3 x4
def z17 (x0 x1 x2 x3 x4 : Int) : Int := if z16 x0 x1 x2 x3 x4 ≤ z1 x0 x1 x2 x3 x4 then z16 x0 x1 x2 x3 x4 else z1 x0 x1 x2 x3 x4
def z18 (_x0 _x1 _x2 _x3 x4 : Int) : Int := x4
def z19 (_x0 _x1 _x2 _x3 _x4 : Int) : Int := (2 : Int)
def z20 (x0 x1 x2 x3 x4 : Int) : Int := if z18 x0 x1 x2 x3 x4 ≤ z19 x0 x1 x2 x3 x4 then z19 x0 x1 x2 x3 x4 else z18 x0 x1 x2 x3 x4
def z21 (_x0 _x1 _x2 _x3 _x4 : Int) : Int := (16 : Int)
def z22 (x0 x1 x2 x3 x4 : Int) : Int := if z20 x0 x1 x2 x3 x4 ≤ z21 x0 x1 x2 x3 x4 then z20 x0 x1 x2 x3 x4 else z21 x0 x1 x2 x3 x4
def z23 (_x0 _x1 _x2 _x3 _x4 : Int) : Int := (0 : Int)
structure In [Inhabited Ev.Val] (x0 x1 x2 x3 x4 : Int) : Prop where
  i0 : Ev.Is (Ev.inp .i64 0) .i64 x0
  i1 : Ev.Is (Ev.inp .i64 1) .i64 x1
  i2 : Ev.Is (Ev.inp .i64 2) .i64 x2
  i3 : Ev.Is (Ev.inp .i64 3) .i64 x3
  i4 : Ev.Is (Ev.inp .i64 4) .i64 x4
structure Bd (x0 x1 x2 x3 x4 : Int) : Prop where
  l0 : -9223372036854775808 ≤ x0
  u0 : x0 ≤ 9223372036854775807
  l1 : -9223372036854775808 ≤ x1
  u1 : x1 ≤ 9223372036854775807
  l2 : -9223372036854775808 ≤ x2
  u2 : x2 ≤ 9223372036854775807
  l3 : -9223372036854775808 ≤ x3
  u3 : x3 ≤ 9223372036854775807
  l4 : -9223372036854775808 ≤ x4
  u4 : x4 ≤ 9223372036854775807
section
variable [Inhabited Ev.Val] {x0 x1 x2 x3 x4 : Int}
theorem is0 (I : In x0 x1 x2 x3 x4) : Ev.Is n0 .i64 (z0 x0 x1 x2 x3 x4) := I.i0
theorem is1 (_ : In x0 x1 x2 x3 x4) : Ev.Is n1 .i64 (z1 x0 x1 x2 x3 x4) := Ev.Is.lit _ _
theorem is2 (I : In x0 x1 x2 x3 x4) : Ev.Is n2 .i64 (z2 x0 x1 x2 x3 x4) := Ev.nodeI_is (is0 I) (is1 I) (is1 I) (is0 I)
theorem is3 (_ : In x0 x1 x2 x3 x4) : Ev.Is n3 .i64 (z3 x0 x1 x2 x3 x4) := Ev.Is.lit _ _
theorem is4 (I : In x0 x1 x2 x3 x4) : Ev.Is n4 .i64 (z4 x0 x1 x2 x3 x4) := Ev.nodeI_is (is2 I) (is3 I) (is2 I) (is3 I)
theorem is5 (I : In x0 x1 x2 x3 x4) : Ev.Is n5 .i64 (z5 x0 x1 x2 x3 x4) := I.i1
theorem is6 (_ : In x0 x1 x2 x3 x4) : Ev.Is n6 .i64 (z6 x0 x1 x2 x3 x4) := Ev.Is.lit _ _
theorem is7 (I : In x0 x1 x2 x3 x4) : Ev.Is n7 .i64 (z7 x0 x1 x2 x3 x4) := Ev.nodeI_is (is5 I) (is6 I) (is6 I) (is5 I)
theorem is8 (_ : In x0 x1 x2 x3 x4) : Ev.Is n8 .i64 (z8 x0 x1 x2 x3 x4) := Ev.Is.lit _ _
theorem is9 (I : In x0 x1 x2 x3 x4) : Ev.Is n9 .i64 (z9 x0 x1 x2 x3 x4) := Ev.nodeI_is (is7 I) (is8 I) (is7 I) (is8 I)
theorem is10 (I : In x0 x1 x2 x3 x4) : Ev.Is n10 .i64 (z10 x0 x1 x2 x3 x4) := I.i2
theorem is11 (_ : In x0 x1 x2 x3 x4) : Ev.Is n11 .i64 (z11 x0 x1 x2 x3 x4) := Ev.Is.lit _ _
theorem is12 (I : In x0 x1 x2 x3 x4) : Ev.Is n12 .i64 (z12 x0 x1 x2 x3 x4) := Ev.nodeI_is (is10 I) (is11 I) (is11 I) (is10 I)
theorem is13 (I : In x0 x1 x2 x3 x4) : Ev.Is n13 .i64 (z13 x0 x1 x2 x3 x4) := Ev.nodeI_is (is12 I) (is3 I) (is12 I) (is3 I)
theorem is14 (I : In x0 x1 x2 x3 x4) : Ev.Is n14 .i64 (z14 x0 x1 x2 x3 x4) := I.i3
theorem is15 (_ : In x0 x1 x2 x3 x4) : Ev.Is n15 .i64 (z15 x0 x1 x2 x3 x4) := Ev.Is.lit _ _
theorem is16 (I : In x0 x1 x2 x3 x4) : Ev.Is n16 .i64 (z16 x0 x1 x2 x3 x4) := Ev.nodeI_is (is14 I) (is15 I) (is15 I) (is14 I)
theorem is17 (I : In x0 x1 x2 x3 x4) : Ev.Is n17 .i64 (z17 x0 x1 x2 x3 x4) := Ev.nodeI_is (is16 I) (is1 I) (is16 I) (is1 I)
theorem is18 (I : In x0 x1 x2 x3 x4) : Ev.Is n18 .i64 (z18 x0 x1 x2 x3 x4) := I.i4
theorem is19 (_ : In x0 x1 x2 x3 x4) : Ev.Is n19 .i64 (z19 x0 x1 x2 x3 x4) := Ev.Is.lit _ _
theorem is20 (I : In x0 x1 x2 x3 x4) : Ev.Is n20 .i64 (z20 x0 x1 x2 x3 x4) := Ev.nodeI_is (is18 I) (is19 I) (is19 I) (is18 I)
theorem is21 (_ : In x0 x1 x2 x3 x4) : Ev.Is n21 .i64 (z21 x0 x1 x2 x3 x4) := Ev.Is.lit _ _
theorem is22 (I : In x0 x1 x2 x3 x4) : Ev.Is n22 .i64 (z22 x0 x1 x2 x3 x4) := Ev.nodeI_is (is20 I) (is21 I) (is20 I) (is21 I)
theorem is23 (_ : In x0 x1 x2 x3 x4) : Ev.Is n23 .i64 (z23 x0 x1 x2 x3 x4) := Ev.Is.lit _ _
end
theorem mixed : Try.prog.follows .mixedOrders = true := by kernel_rfl
abbrev Cs : List (FuncId × List Value × Value) := []
abbrev Qs : List (TypeId × List IntKind) := [(54, [.i64, .i64, .i64, .i64, .i64])]
theorem cs [Inhabited Ev.Val] : Ev.CsOk Try.prog Cs := Ev.csOk_nil _
theorem qs54 : Ev.QOk Try.prog 54 [.i64, .i64, .i64, .i64, .i64] := by
  intro l m hl hm op x y w ho
  obtain ⟨aa0, aa1, aa2, aa3, aa4, rfl⟩ : ∃ aa0 aa1 aa2 aa3 aa4, l = [aa0, aa1, aa2, aa3, aa4] := by
    match l, hl with
    | [aa0, aa1, aa2, aa3, aa4], _ => exact ⟨aa0, aa1, aa2, aa3, aa4, rfl⟩
  obtain ⟨cc0, cc1, cc2, cc3, cc4, rfl⟩ : ∃ cc0 cc1 cc2 cc3 cc4, m = [cc0, cc1, cc2, cc3, cc4] := by
    match m, hm with
    | [cc0, cc1, cc2, cc3, cc4], _ => exact ⟨cc0, cc1, cc2, cc3, cc4, rfl⟩
  have u3 := Try.underlying3
  have a3 := Try.isAgg3
  have z3 := Try.sizeOf3
  have hS : Try.prog.underlying 54 = some (.struct (Try.prog.fieldsOf 54)) := by kernel_rfl
  have hp : Try.prog.stoodInHeld 54 = false := by kernel_rfl
  have hg : Try.prog.eqGuardType Try.prog.depth 54 = false := by kernel_rfl
  simp only [Ev.ints]
  rw [Sem.run_bind, run_eqGuard_agg w op 54 x y _ _ hg]
  rcases ho with rfl | rfl
  · simp only [Result.andThen_ok]
    rw [run_eql_struct, show (10000 : Nat) = 9999 + 1 from rfl, run_equalIn_agg w 9999 54 _ _ hS hp]
    simp only [Program.fieldsOf, Try.underlying54]
    go_simp
    by_cases h0 : aa0 = cc0 <;> by_cases h1 : aa1 = cc1 <;> by_cases h2 : aa2 = cc2 <;> by_cases h3 : aa3 = cc3 <;> by_cases h4 : aa4 = cc4 <;> simp [h0, h1, h2, h3, h4]
  · simp only [Result.andThen_ok]
    rw [run_neq_struct, show (10000 : Nat) = 9999 + 1 from rfl, run_equalIn_agg w 9999 54 _ _ hS hp]
    simp only [Program.fieldsOf, Try.underlying54]
    go_simp
    by_cases h0 : aa0 = cc0 <;> by_cases h1 : aa1 = cc1 <;> by_cases h2 : aa2 = cc2 <;> by_cases h3 : aa3 = cc3 <;> by_cases h4 : aa4 = cc4 <;> simp [h0, h1, h2, h3, h4]
theorem qs : ∀ t ks, Ev.lookQ t Qs = some ks → Ev.QOk Try.prog t ks := by
  intro t ks h
  by_cases h54 : t = 54
  · subst h54
    obtain rfl : _ = ks := Option.some.inj h
    exact qs54
  exfalso
  revert h
  simp only [Ev.lookQ]
  have e54 : Nat.beq t 54 = false := by
    cases hq : Nat.beq t 54 with
    | true => exact absurd (Nat.eq_of_beq_eq_true hq) h54
    | false => rfl
  rw [e54]
  simp
def r0 (x0 x1 x2 x3 x4 : Int) : Int := if z4 x0 x1 x2 x3 x4 = z0 x0 x1 x2 x3 x4 then if z9 x0 x1 x2 x3 x4 = z5 x0 x1 x2 x3 x4 then if z13 x0 x1 x2 x3 x4 = z10 x0 x1 x2 x3 x4 then if z17 x0 x1 x2 x3 x4 = z14 x0 x1 x2 x3 x4 then if z22 x0 x1 x2 x3 x4 = z18 x0 x1 x2 x3 x4 then z23 x0 x1 x2 x3 x4 else z6 x0 x1 x2 x3 x4 else if z22 x0 x1 x2 x3 x4 = z18 x0 x1 x2 x3 x4 then z6 x0 x1 x2 x3 x4 else z6 x0 x1 x2 x3 x4 else if z17 x0 x1 x2 x3 x4 = z14 x0 x1 x2 x3 x4 then if z22 x0 x1 x2 x3 x4 = z18 x0 x1 x2 x3 x4 then z6 x0 x1 x2 x3 x4 else z6 x0 x1 x2 x3 x4 else if z22 x0 x1 x2 x3 x4 = z18 x0 x1 x2 x3 x4 then z6 x0 x1 x2 x3 x4 else z6 x0 x1 x2 x3 x4 else if z13 x0 x1 x2 x3 x4 = z10 x0 x1 x2 x3 x4 then if z17 x0 x1 x2 x3 x4 = z14 x0 x1 x2 x3 x4 then if z22 x0 x1 x2 x3 x4 = z18 x0 x1 x2 x3 x4 then z6 x0 x1 x2 x3 x4 else z6 x0 x1 x2 x3 x4 else if z22 x0 x1 x2 x3 x4 = z18 x0 x1 x2 x3 x4 then z6 x0 x1 x2 x3 x4 else z6 x0 x1 x2 x3 x4 else if z17 x0 x1 x2 x3 x4 = z14 x0 x1 x2 x3 x4 then if z22 x0 x1 x2 x3 x4 = z18 x0 x1 x2 x3 x4 then z6 x0 x1 x2 x3 x4 else z6 x0 x1 x2 x3 x4 else if z22 x0 x1 x2 x3 x4 = z18 x0 x1 x2 x3 x4 then z6 x0 x1 x2 x3 x4 else z6 x0 x1 x2 x3 x4 else if z9 x0 x1 x2 x3 x4 = z5 x0 x1 x2 x3 x4 then if z13 x0 x1 x2 x3 x4 = z10 x0 x1 x2 x3 x4 then if z17 x0 x1 x2 x3 x4 = z14 x0 x1 x2 x3 x4 then if z22 x0 x1 x2 x3 x4 = z18 x0 x1 x2 x3 x4 then z6 x0 x1 x2 x3 x4 else z6 x0 x1 x2 x3 x4 else if z22 x0 x1 x2 x3 x4 = z18 x0 x1 x2 x3 x4 then z6 x0 x1 x2 x3 x4 else z6 x0 x1 x2 x3 x4 else if z17 x0 x1 x2 x3 x4 = z14 x0 x1 x2 x3 x4 then if z22 x0 x1 x2 x3 x4 = z18 x0 x1 x2 x3 x4 then z6 x0 x1 x2 x3 x4 else z6 x0 x1 x2 x3 x4 else if z22 x0 x1 x2 x3 x4 = z18 x0 x1 x2 x3 x4 then z6 x0 x1 x2 x3 x4 else z6 x0 x1 x2 x3 x4 else if z13 x0 x1 x2 x3 x4 = z10 x0 x1 x2 x3 x4 then if z17 x0 x1 x2 x3 x4 = z14 x0 x1 x2 x3 x4 then if z22 x0 x1 x2 x3 x4 = z18 x0 x1 x2 x3 x4 then z6 x0 x1 x2 x3 x4 else z6 x0 x1 x2 x3 x4 else if z22 x0 x1 x2 x3 x4 = z18 x0 x1 x2 x3 x4 then z6 x0 x1 x2 x3 x4 else z6 x0 x1 x2 x3 x4 else if z17 x0 x1 x2 x3 x4 = z14 x0 x1 x2 x3 x4 then if z22 x0 x1 x2 x3 x4 = z18 x0 x1 x2 x3 x4 then z6 x0 x1 x2 x3 x4 else z6 x0 x1 x2 x3 x4 else if z22 x0 x1 x2 x3 x4 = z18 x0 x1 x2 x3 x4 then z6 x0 x1 x2 x3 x4 else z6 x0 x1 x2 x3 x4
end Go.Proofs.Ytnpgeeajlbglaaa.cchk
