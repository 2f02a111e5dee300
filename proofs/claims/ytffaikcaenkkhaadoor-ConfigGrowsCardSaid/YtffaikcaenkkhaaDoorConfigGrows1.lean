/-
  'shunterlaw02.ConfigGrows': its numbers: what the evaluator calls them, what they are. No project text.
-/
import Derived.Test.YtffaikcaenkkhaaDoorRows
import Derived.Test.YtffaikcaenkkhaaDoorSy
import Derived.Test.YtffaikcaenkkhaaDoorFrm
import Derived.Test.YtffaikcaenkkhaaDoorJn
namespace Go.Proofs.YtffaikcaenkkhaaDoor.configGrows
open Go.ChangeShapes Go.WideShapes Go.ChangeAt Go.RowKit

def n0 : Value := Ev.inp .i64 5
def n1 : Value := .int .i64 (Int.ofNat 0)
def n2 : Value := Ev.inp .i64 6
def n3 : Value := .int .i64 (Int.ofNat 1)
def n4 : Value := Ev.inp .i64 2
def n5 : Value := Ev.nodeB .add n3 n4 .i64
def n6 : Value := Ev.inp .i64 1
def n7 : Value := Ev.nodeB .add n6 n3 .i64
def n8 : Value := Ev.inp .i64 0
def n9 : Value := Ev.nodeB .mul n7 n8 .i64
def n10 : Value := Ev.nodeB .add n5 n9 .i64
def n11 : Value := Ev.nodeB .mul n6 n8 .i64
def n12 : Value := Ev.nodeB .add n5 n11 .i64
def n13 : Value := Ev.nodeB .add n12 n8 .i64
def n14 : Value := .int .i64 (Int.ofNat 6)
def n15 : Value := Ev.nodeB .sub n7 n14 .i64
def n16 : Value := Ev.nodeB .mul n8 n15 .i64
def n17 : Value := Ev.nodeB .sub n6 n14 .i64
def n18 : Value := Ev.nodeB .mul n8 n17 .i64
def n19 : Value := Ev.nodeB .add n18 n8 .i64
def n20 : Value := Ev.nodeB .add n7 n3 .i64
def n21 : Value := Ev.nodeB .mul n20 n20 .i64
def n22 : Value := Ev.nodeB .add n9 n3 .i64
def n23 : Value := Ev.nodeB .mul n21 n22 .i64
def n24 : Value := Ev.nodeB .mul n7 n7 .i64
def n25 : Value := Ev.nodeB .add n11 n3 .i64
def n26 : Value := Ev.nodeB .mul n24 n25 .i64
def n27 : Value := Ev.inp .i64 7
def n28 : Value := Ev.nodeB .add n4 n3 .i64
def n29 : Value := Ev.nodeB .add n3 n28 .i64
def n30 : Value := Ev.nodeB .add n29 n11 .i64
def n31 : Value := Ev.nodeB .add n12 n3 .i64
def n32 : Value := .int .i64 (Int.ofNat 64)
def n33 : Value := .int .i64 (Int.ofNat 24)
def z0 (_x0 _x1 _x2 _x3 _x4 x5 _x6 _x7 : Int) : Int := x5
def z1 (_x0 _x1 _x2 _x3 _x4 _x5 _x6 _x7 : Int) : Int := (0 : Int)
def z2 (_x0 _x1 _x2 _x3 _x4 _x5 x6 _x7 : Int) : Int := x6
def z3 (_x0 _x1 _x2 _x3 _x4 _x5 _x6 _x7 : Int) : Int := (1 : Int)
def z4 (_x0 _x1 x2 _x3 _x4 _x5 _x6 _x7 : Int) : Int := x2
def z5 (x0 x1 x2 x3 x4 x5 x6 x7 : Int) : Int := (z3 x0 x1 x2 x3 x4 x5 x6 x7 + z4 x0 x1 x2 x3 x4 x5 x6 x7 + 9223372036854775808) % 18446744073709551616 - 9223372036854775808
def z6 (_x0 x1 _x2 _x3 _x4 _x5 _x6 _x7 : Int) : Int := x1
def z7 (x0 x1 x2 x3 x4 x5 x6 x7 : Int) : Int := (z6 x0 x1 x2 x3 x4 x5 x6 x7 + z3 x0 x1 x2 x3 x4 x5 x6 x7 + 9223372036854775808) % 18446744073709551616 - 9223372036854775808
def z8 (x0 _x1 _x2 _x3 _x4 _x5 _x6 _x7 : Int) : Int := x0
def z9 (x0 x1 x2 x3 x4 x5 x6 x7 : Int) : Int := (z7 x0 x1 x2 x3 x4 x5 x6 x7 * z8 x0 x1 x2 x3 x4 x5 x6 x7 + 9223372036854775808) % 18446744073709551616 - 9223372036854775808
def z10 (x0 x1 x2 x3 x4 x5 x6 x7 : Int) : Int := (z5 x0 x1 x2 x3 x4 x5 x6 x7 + z9 x0 x1 x2 x3 x4 x5 x6 x7 + 9223372036854775808) % 18446744073709551616 - 9223372036854775808
def z11 (x0 x1 x2 x3 x4 x5 x6 x7 : Int) : Int := (z6 x0 x1 x2 x3 x4 x5 x6 x7 * z8 x0 x1 x2 x3 x4 x5 x6 x7 + 9223372036854775808) % 18446744073709551616 - 9223372036854775808
def z12 (x0 x1 x2 x3 x4 x5 x6 x7 : Int) : Int := (z5 x0 x1 x2 x3 x4 x5 x6 x7 + z11 x0 x1 x2 x3 x4 x5 x6 x7 + 9223372036854775808) % 18446744073709551616 - 9223372036854775808
def z13 (x0 x1 x2 x3 x4 x5 x6 x7 : Int) : Int := (z12 x0 x1 x2 x3 x4 x5 x6 x7 + z8 x0 x1 x2 x3 x4 x5 x6 x7 + 9223372036854775808) % 18446744073709551616 - 9223372036854775808
def z14 (_x0 _x1 _x2 _x3 _x4 _x5 _x6 _x7 : Int) : Int := (6 : Int)
def z15 (x0 x1 x2 x3 x4 x5 x6 x7 : Int) : Int := (z7 x0 x1 x2 x3 x4 x5 x6 x7 - z14 x0 x1 x2 x3 x4 x5 x6 x7 + 9223372036854775808) % 18446744073709551616 - 9223372036854775808
def z16 (x0 x1 x2 x3 x4 x5 x6 x7 : Int) : Int := (z8 x0 x1 x2 x3 x4 x5 x6 x7 * z15 x0 x1 x2 x3 x4 x5 x6 x7 + 9223372036854775808) % 18446744073709551616 - 9223372036854775808
def z17 (x0 x1 x2 x3 x4 x5 x6 x7 : Int) : Int := (z6 x0 x1 x2 x3 x4 x5 x6 x7 - z14 x0 x1 x2 x3 x4 x5 x6 x7 + 9223372036854775808) % 18446744073709551616 - 9223372036854775808
def z18 (x0 x1 x2 x3 x4 x5 x6 x7 : Int) : Int := (z8 x0 x1 x2 x3 x4 x5 x6 x7 * z17 x0 x1 x2 x3 x4 x5 x6 x7 + 9223372036854775808) % 18446744073709551616 - 9223372036854775808
def z19 (x0 x1 x2 x3 x4 x5 x6 x7 : Int) : Int := (z18 x0 x1 x2 x3 x4 x5 x6 x7 + z8 x0 x1 x2 x3 x4 x5 x6 x7 + 9223372036854775808) % 18446744073709551616 - 9223372036854775808
def z20 (x0 x1 x2 x3 x4 x5 x6 x7 : Int) : Int := (z7 x0 x1 x2 x3 x4 x5 x6 x7 + z3 x0 x1 x2 x3 x4 x5 x6 x7 + 9223372036854775808) % 18446744073709551616 - 9223372036854775808
def z21 (x0 x1 x2 x3 x4 x5 x6 x7 : Int) : Int := (z20 x0 x1 x2 x3 x4 x5 x6 x7 * z20 x0 x1 x2 x3 x4 x5 x6 x7 + 9223372036854775808) % 18446744073709551616 - 9223372036854775808
def z22 (x0 x1 x2 x3 x4 x5 x6 x7 : Int) : Int := (z9 x0 x1 x2 x3 x4 x5 x6 x7 + z3 x0 x1 x2 x3 x4 x5 x6 x7 + 9223372036854775808) % 18446744073709551616 - 9223372036854775808
def z23 (x0 x1 x2 x3 x4 x5 x6 x7 : Int) : Int := (z21 x0 x1 x2 x3 x4 x5 x6 x7 * z22 x0 x1 x2 x3 x4 x5 x6 x7 + 9223372036854775808) % 18446744073709551616 - 9223372036854775808
def z24 (x0 x1 x2 x3 x4 x5 x6 x7 : Int) : Int := (z7 x0 x1 x2 x3 x4 x5 x6 x7 * z7 x0 x1 x2 x3 x4 x5 x6 x7 + 9223372036854775808) % 18446744073709551616 - 9223372036854775808
def z25 (x0 x1 x2 x3 x4 x5 x6 x7 : Int) : Int := (z11 x0 x1 x2 x3 x4 x5 x6 x7 + z3 x0 x1 x2 x3 x4 x5 x6 x7 + 9223372036854775808) % 18446744073709551616 - 9223372036854775808
def z26 (x0 x1 x2 x3 x4 x5 x6 x7 : Int) : Int := (z24 x0 x1 x2 x3 x4 x5 x6 x7 * z25 x0 x1 x2 x3 x4 x5 x6 x7 + 9223372036854775808) % 18446744073709551616 - 9223372036854775808
def z27 (_x0 _x1 _x2 _x3 _x4 _x5 _x6 x7 : Int) : Int := x7
def z28 (x0 x1 x2 x3 x4 x5 x6 x7 : Int) : Int := (z4 x0 x1 x2 x3 x4 x5 x6 x7 + z3 x0 x1 x2 x3 x4 x5 x6 x7 + 9223372036854775808) % 18446744073709551616 - 9223372036854775808
def z29 (x0 x1 x2 x3 x4 x5 x6 x7 : Int) : Int := (z3 x0 x1 x2 x3 x4 x5 x6 x7 + z28 x0 x1 x2 x3 x4 x5 x6 x7 + 9223372036854775808) % 18446744073709551616 - 9223372036854775808
def z30 (x0 x1 x2 x3 x4 x5 x6 x7 : Int) : Int := (z29 x0 x1 x2 x3 x4 x5 x6 x7 + z11 x0 x1 x2 x3 x4 x5 x6 x7 + 9223372036854775808) % 18446744073709551616 - 9223372036854775808
def z31 (x0 x1 x2 x3 x4 x5 x6 x7 : Int) : Int := (z12 x0 x1 x2 x3 x4 x5 x6 x7 + z3 x0 x1 x2 x3 x4 x5 x6 x7 + 9223372036854775808) % 18446744073709551616 - 9223372036854775808
def z32 (_x0 _x1 _x2 _x3 _x4 _x5 _x6 _x7 : Int) : Int := (64 : Int)
def z33 (_x0 _x1 _x2 _x3 _x4 _x5 _x6 _x7 : Int) : Int := (24 : Int)
structure In [Inhabited Ev.Val] (x0 x1 x2 x3 x4 x5 x6 x7 : Int) : Prop where
  i0 : Ev.Is (Ev.inp .i64 0) .i64 x0
  i1 : Ev.Is (Ev.inp .i64 1) .i64 x1
  i2 : Ev.Is (Ev.inp .i64 2) .i64 x2
  i3 : Ev.Is (Ev.inp .i64 3) .i64 x3
  i4 : Ev.Is (Ev.inp .i64 4) .i64 x4
  i5 : Ev.Is (Ev.inp .i64 5) .i64 x5
  i6 : Ev.Is (Ev.inp .i64 6) .i64 x6
  i7 : Ev.Is (Ev.inp .i64 7) .i64 x7
structure Bd (x0 x1 x2 x3 x4 x5 x6 x7 : Int) : Prop where
  l0 : -9223372036854775808 ≤ x0
  u0 : x0 ≤ 9223372036854775807
  l1 : -9223372036854775808 ≤ x1
  u1 : x1 ≤ 9223372036854775807
  l2 : -9223372036854775808 ≤ x2
  u2 : x2 ≤ 9223372036854775807
  l3 : -9223372036854775808 ≤ x3
  u3 : x3 ≤ 9223372036854775807
  l4 : -9223372036854775808 ≤ x4
  u4 : x4 ≤ 9223372036854775807
  l5 : -9223372036854775808 ≤ x5
  u5 : x5 ≤ 9223372036854775807
  l6 : -9223372036854775808 ≤ x6
  u6 : x6 ≤ 9223372036854775807
  l7 : -9223372036854775808 ≤ x7
  u7 : x7 ≤ 9223372036854775807
  g0 : x5 = 0 → 8 ≤ x0
  g1 : x5 = 0 → x0 ≤ 64
  g2 : x5 = 0 → 7 ≤ x1
  g3 : x5 = 0 → x1 ≤ 24
  g4 : x5 = 0 → 4 ≤ x2
  g5 : x5 = 0 → x2 ≤ 64
  g6 : x5 = 0 → 1 ≤ x3
  g7 : x5 = 0 → x3 ≤ 8
  g8 : x5 = 0 → 2 ≤ x4
  g9 : x5 = 0 → x4 ≤ 16
  g10 : x5 = 0 → (x6 = 0 ∧ x1 ≤ 23) ∨ (x6 = 7 ∧ x1 = 24)
  g11 : x5 = 0 → (x7 = 0 ∧ x2 ≤ 63) ∨ (x7 = 7 ∧ x2 = 64)
section
variable [Inhabited Ev.Val] {x0 x1 x2 x3 x4 x5 x6 x7 : Int}
theorem is0 (I : In x0 x1 x2 x3 x4 x5 x6 x7) : Ev.Is n0 .i64 (z0 x0 x1 x2 x3 x4 x5 x6 x7) := I.i5
theorem is1 (_ : In x0 x1 x2 x3 x4 x5 x6 x7) : Ev.Is n1 .i64 (z1 x0 x1 x2 x3 x4 x5 x6 x7) := Ev.Is.lit _ _
theorem is2 (I : In x0 x1 x2 x3 x4 x5 x6 x7) : Ev.Is n2 .i64 (z2 x0 x1 x2 x3 x4 x5 x6 x7) := I.i6
theorem is3 (_ : In x0 x1 x2 x3 x4 x5 x6 x7) : Ev.Is n3 .i64 (z3 x0 x1 x2 x3 x4 x5 x6 x7) := Ev.Is.lit _ _
theorem is4 (I : In x0 x1 x2 x3 x4 x5 x6 x7) : Ev.Is n4 .i64 (z4 x0 x1 x2 x3 x4 x5 x6 x7) := I.i2
theorem is5 (I : In x0 x1 x2 x3 x4 x5 x6 x7) : Ev.Is n5 .i64 (z5 x0 x1 x2 x3 x4 x5 x6 x7) := Ev.is_add_i64 (is3 I) (is4 I)
theorem is6 (I : In x0 x1 x2 x3 x4 x5 x6 x7) : Ev.Is n6 .i64 (z6 x0 x1 x2 x3 x4 x5 x6 x7) := I.i1
theorem is7 (I : In x0 x1 x2 x3 x4 x5 x6 x7) : Ev.Is n7 .i64 (z7 x0 x1 x2 x3 x4 x5 x6 x7) := Ev.is_add_i64 (is6 I) (is3 I)
theorem is8 (I : In x0 x1 x2 x3 x4 x5 x6 x7) : Ev.Is n8 .i64 (z8 x0 x1 x2 x3 x4 x5 x6 x7) := I.i0
theorem is9 (I : In x0 x1 x2 x3 x4 x5 x6 x7) : Ev.Is n9 .i64 (z9 x0 x1 x2 x3 x4 x5 x6 x7) := Ev.is_mul_i64 (is7 I) (is8 I)
theorem is10 (I : In x0 x1 x2 x3 x4 x5 x6 x7) : Ev.Is n10 .i64 (z10 x0 x1 x2 x3 x4 x5 x6 x7) := Ev.is_add_i64 (is5 I) (is9 I)
theorem is11 (I : In x0 x1 x2 x3 x4 x5 x6 x7) : Ev.Is n11 .i64 (z11 x0 x1 x2 x3 x4 x5 x6 x7) := Ev.is_mul_i64 (is6 I) (is8 I)
theorem is12 (I : In x0 x1 x2 x3 x4 x5 x6 x7) : Ev.Is n12 .i64 (z12 x0 x1 x2 x3 x4 x5 x6 x7) := Ev.is_add_i64 (is5 I) (is11 I)
theorem is13 (I : In x0 x1 x2 x3 x4 x5 x6 x7) : Ev.Is n13 .i64 (z13 x0 x1 x2 x3 x4 x5 x6 x7) := Ev.is_add_i64 (is12 I) (is8 I)
theorem is14 (_ : In x0 x1 x2 x3 x4 x5 x6 x7) : Ev.Is n14 .i64 (z14 x0 x1 x2 x3 x4 x5 x6 x7) := Ev.Is.lit _ _
theorem is15 (I : In x0 x1 x2 x3 x4 x5 x6 x7) : Ev.Is n15 .i64 (z15 x0 x1 x2 x3 x4 x5 x6 x7) := Ev.is_sub_i64 (is7 I) (is14 I)
theorem is16 (I : In x0 x1 x2 x3 x4 x5 x6 x7) : Ev.Is n16 .i64 (z16 x0 x1 x2 x3 x4 x5 x6 x7) := Ev.is_mul_i64 (is8 I) (is15 I)
theorem is17 (I : In x0 x1 x2 x3 x4 x5 x6 x7) : Ev.Is n17 .i64 (z17 x0 x1 x2 x3 x4 x5 x6 x7) := Ev.is_sub_i64 (is6 I) (is14 I)
theorem is18 (I : In x0 x1 x2 x3 x4 x5 x6 x7) : Ev.Is n18 .i64 (z18 x0 x1 x2 x3 x4 x5 x6 x7) := Ev.is_mul_i64 (is8 I) (is17 I)
theorem is19 (I : In x0 x1 x2 x3 x4 x5 x6 x7) : Ev.Is n19 .i64 (z19 x0 x1 x2 x3 x4 x5 x6 x7) := Ev.is_add_i64 (is18 I) (is8 I)
theorem is20 (I : In x0 x1 x2 x3 x4 x5 x6 x7) : Ev.Is n20 .i64 (z20 x0 x1 x2 x3 x4 x5 x6 x7) := Ev.is_add_i64 (is7 I) (is3 I)
theorem is21 (I : In x0 x1 x2 x3 x4 x5 x6 x7) : Ev.Is n21 .i64 (z21 x0 x1 x2 x3 x4 x5 x6 x7) := Ev.is_mul_i64 (is20 I) (is20 I)
theorem is22 (I : In x0 x1 x2 x3 x4 x5 x6 x7) : Ev.Is n22 .i64 (z22 x0 x1 x2 x3 x4 x5 x6 x7) := Ev.is_add_i64 (is9 I) (is3 I)
theorem is23 (I : In x0 x1 x2 x3 x4 x5 x6 x7) : Ev.Is n23 .i64 (z23 x0 x1 x2 x3 x4 x5 x6 x7) := Ev.is_mul_i64 (is21 I) (is22 I)
theorem is24 (I : In x0 x1 x2 x3 x4 x5 x6 x7) : Ev.Is n24 .i64 (z24 x0 x1 x2 x3 x4 x5 x6 x7) := Ev.is_mul_i64 (is7 I) (is7 I)
theorem is25 (I : In x0 x1 x2 x3 x4 x5 x6 x7) : Ev.Is n25 .i64 (z25 x0 x1 x2 x3 x4 x5 x6 x7) := Ev.is_add_i64 (is11 I) (is3 I)
theorem is26 (I : In x0 x1 x2 x3 x4 x5 x6 x7) : Ev.Is n26 .i64 (z26 x0 x1 x2 x3 x4 x5 x6 x7) := Ev.is_mul_i64 (is24 I) (is25 I)
theorem is27 (I : In x0 x1 x2 x3 x4 x5 x6 x7) : Ev.Is n27 .i64 (z27 x0 x1 x2 x3 x4 x5 x6 x7) := I.i7
theorem is28 (I : In x0 x1 x2 x3 x4 x5 x6 x7) : Ev.Is n28 .i64 (z28 x0 x1 x2 x3 x4 x5 x6 x7) := Ev.is_add_i64 (is4 I) (is3 I)
theorem is29 (I : In x0 x1 x2 x3 x4 x5 x6 x7) : Ev.Is n29 .i64 (z29 x0 x1 x2 x3 x4 x5 x6 x7) := Ev.is_add_i64 (is3 I) (is28 I)
theorem is30 (I : In x0 x1 x2 x3 x4 x5 x6 x7) : Ev.Is n30 .i64 (z30 x0 x1 x2 x3 x4 x5 x6 x7) := Ev.is_add_i64 (is29 I) (is11 I)
theorem is31 (I : In x0 x1 x2 x3 x4 x5 x6 x7) : Ev.Is n31 .i64 (z31 x0 x1 x2 x3 x4 x5 x6 x7) := Ev.is_add_i64 (is12 I) (is3 I)
theorem is32 (_ : In x0 x1 x2 x3 x4 x5 x6 x7) : Ev.Is n32 .i64 (z32 x0 x1 x2 x3 x4 x5 x6 x7) := Ev.Is.lit _ _
theorem is33 (_ : In x0 x1 x2 x3 x4 x5 x6 x7) : Ev.Is n33 .i64 (z33 x0 x1 x2 x3 x4 x5 x6 x7) := Ev.Is.lit _ _
end
theorem mixed : Tryd.prog.follows .mixedOrders = true := by kernel_rfl
set_option maxRecDepth 1000000 in
theorem closed15 : Ev.run ⟨Tryd.prog, Ev.mkTT Tryd.prog, Ev.mkFT Tryd.prog, [], [], [], (some 42)⟩ 1000000 15 [] = some true := by kernel_rfl
abbrev Cs : List (FuncId × List Value × Value) := [(15, [], .bool true), (13, [.agg ⟨[Ev.inp .i64 0, Ev.inp .i64 1, Ev.inp .i64 2, Ev.inp .i64 3, Ev.inp .i64 4]⟩], Ev.inp .i64 5), (13, [.agg ⟨[Ev.inp .i64 0, Ev.nodeB .add (Ev.inp .i64 1) (.int .i64 1) .i64, Ev.inp .i64 2, Ev.inp .i64 3, Ev.inp .i64 4]⟩], Ev.inp .i64 6), (13, [.agg ⟨[Ev.inp .i64 0, Ev.inp .i64 1, Ev.nodeB .add (Ev.inp .i64 2) (.int .i64 1) .i64, Ev.inp .i64 3, Ev.inp .i64 4]⟩], Ev.inp .i64 7)]
abbrev Qs : List (TypeId × List IntKind) := [(23, [.i64, .i64, .i64, .i64, .i64])]
theorem qs23 : Ev.QOk Tryd.prog 23 [.i64, .i64, .i64, .i64, .i64] := by
  intro l m hl hm op x y w ho
  obtain ⟨aa0, aa1, aa2, aa3, aa4, rfl⟩ : ∃ aa0 aa1 aa2 aa3 aa4, l = [aa0, aa1, aa2, aa3, aa4] := by
    match l, hl with
    | [aa0, aa1, aa2, aa3, aa4], _ => exact ⟨aa0, aa1, aa2, aa3, aa4, rfl⟩
  obtain ⟨cc0, cc1, cc2, cc3, cc4, rfl⟩ : ∃ cc0 cc1 cc2 cc3 cc4, m = [cc0, cc1, cc2, cc3, cc4] := by
    match m, hm with
    | [cc0, cc1, cc2, cc3, cc4], _ => exact ⟨cc0, cc1, cc2, cc3, cc4, rfl⟩
  have u3 := Tryd.underlying3
  have a3 := Tryd.isAgg3
  have z3 := Tryd.sizeOf3
  have hS : Tryd.prog.underlying 23 = some (.struct (Tryd.prog.fieldsOf 23)) := by kernel_rfl
  have hp : Tryd.prog.stoodInHeld 23 = false := by kernel_rfl
  have hg : Tryd.prog.eqGuardType Tryd.prog.depth 23 = false := by kernel_rfl
  simp only [Ev.ints]
  rw [Sem.run_bind, run_eqGuard_agg w op 23 x y _ _ hg]
  rcases ho with rfl | rfl
  · simp only [Result.andThen_ok]
    rw [run_eql_struct, show (10000 : Nat) = 9999 + 1 from rfl, run_equalIn_agg w 9999 23 _ _ hS hp]
    simp only [Program.fieldsOf, Tryd.underlying23]
    go_simp
    by_cases h0 : aa0 = cc0 <;> by_cases h1 : aa1 = cc1 <;> by_cases h2 : aa2 = cc2 <;> by_cases h3 : aa3 = cc3 <;> by_cases h4 : aa4 = cc4 <;> simp [h0, h1, h2, h3, h4]
  · simp only [Result.andThen_ok]
    rw [run_neq_struct, show (10000 : Nat) = 9999 + 1 from rfl, run_equalIn_agg w 9999 23 _ _ hS hp]
    simp only [Program.fieldsOf, Tryd.underlying23]
    go_simp
    by_cases h0 : aa0 = cc0 <;> by_cases h1 : aa1 = cc1 <;> by_cases h2 : aa2 = cc2 <;> by_cases h3 : aa3 = cc3 <;> by_cases h4 : aa4 = cc4 <;> simp [h0, h1, h2, h3, h4]
theorem qs : ∀ t ks, Ev.lookQ t Qs = some ks → Ev.QOk Tryd.prog t ks := by
  intro t ks h
  by_cases h23 : t = 23
  · subst h23
    obtain rfl : _ = ks := Option.some.inj h
    exact qs23
  exfalso
  revert h
  simp only [Ev.lookQ]
  have e23 : Nat.beq t 23 = false := by
    cases hq : Nat.beq t 23 with
    | true => exact absurd (Nat.eq_of_beq_eq_true hq) h23
    | false => rfl
  rw [e23]
  simp
end Go.Proofs.YtffaikcaenkkhaaDoor.configGrows
