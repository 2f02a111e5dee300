/-
  'shunterlaw04.HeaderBack': its numbers: what the evaluator calls them, what they are. No project text.
-/
import Derived.Test.YtknifojinmnkfaaRows
import Derived.Test.YtknifojinmnkfaaSy
import Derived.Test.YtknifojinmnkfaaFrm
namespace Go.Proofs.Ytknifojinmnkfaa.headerBack
open Go.ChangeShapes Go.WideShapes Go.ChangeAt Go.RowKit

def n0 : Value := .int .i64 (Int.ofNat 0)
def n1 : Value := Ev.inp .i64 0
def n2 : Value := Ev.inp .i64 1
def n3 : Value := .int .i64 (Int.ofNat 64)
def n4 : Value := .int .i64 (Int.ofNat 1)
def n5 : Value := Ev.inp .i64 2
def n6 : Value := .int .i64 (Int.ofNat 1600)
def n7 : Value := .int .u64 (Int.ofNat 0)
def n8 : Value := Ev.nodeC n5 .u64
def n9 : Value := .int .u64 (Int.ofNat 8)
def n10 : Value := Ev.nodeB .shl n8 n9 .u64
def n11 : Value := Ev.nodeB .add n7 n10 .u64
def n12 : Value := .int .u64 (Int.ofNat 2)
def n13 : Value := Ev.nodeB .add n11 n12 .u64
def n14 : Value := .int .u64 (Int.ofNat 255)
def n15 : Value := Ev.nodeB .and n13 n14 .u64
def n16 : Value := .int .u64 (Int.ofNat 1)
def n17 : Value := Ev.nodeB .shr n13 n9 .u64
def n18 : Value := .int .u64 (Int.ofNat 1600)
def n19 : Value := Ev.nodeC n17 .i64
def n20 : Value := Ev.inp .u64 3
def n21 : Value := Ev.nodeB .and n20 n14 .u64
def n22 : Value := .int .u64 (Int.ofNat 64)
def n23 : Value := .int .u64 (Int.ofNat 16)
def n24 : Value := Ev.nodeB .shr n20 n23 .u64
def n25 : Value := Ev.nodeB .shr n20 n9 .u64
def n26 : Value := Ev.nodeB .and n25 n14 .u64
def n27 : Value := Ev.nodeC n26 .i64
def n28 : Value := Ev.nodeC n24 .i64
def n29 : Value := Ev.nodeB .add n4 n27 .i64
def n30 : Value := Ev.nodeB .add n29 n28 .i64
def n31 : Value := Ev.nodeC n28 .u64
def n32 : Value := Ev.nodeB .shl n31 n23 .u64
def n33 : Value := Ev.nodeB .add n32 n16 .u64
def n34 : Value := Ev.nodeB .add n7 n33 .u64
def n35 : Value := Ev.nodeC n27 .u64
def n36 : Value := Ev.nodeB .shl n35 n9 .u64
def n37 : Value := Ev.nodeB .add n34 n36 .u64
def n38 : Value := Ev.nodeC n25 .i64
def n39 : Value := Ev.nodeC n38 .u64
def n40 : Value := Ev.nodeB .shl n39 n9 .u64
def n41 : Value := Ev.nodeB .add n7 n40 .u64
def n42 : Value := Ev.nodeB .add n41 n12 .u64
def n43 : Value := Ev.nodeB .add n4 n1 .i64
def n44 : Value := Ev.nodeB .add n43 n2 .i64
def n45 : Value := Ev.nodeC n2 .u64
def n46 : Value := Ev.nodeB .shl n45 n23 .u64
def n47 : Value := Ev.nodeB .add n46 n16 .u64
def n48 : Value := Ev.nodeB .add n7 n47 .u64
def n49 : Value := Ev.nodeC n1 .u64
def n50 : Value := Ev.nodeB .shl n49 n9 .u64
def n51 : Value := Ev.nodeB .add n48 n50 .u64
def n52 : Value := Ev.nodeB .and n51 n14 .u64
def n53 : Value := Ev.nodeB .shr n51 n23 .u64
def n54 : Value := Ev.nodeB .shr n51 n9 .u64
def n55 : Value := Ev.nodeB .and n54 n14 .u64
def n56 : Value := Ev.nodeC n55 .i64
def n57 : Value := Ev.nodeC n53 .i64
def n58 : Value := Ev.nodeB .add n4 n56 .i64
def n59 : Value := Ev.nodeB .add n58 n57 .i64
def z0 (_x0 _x1 _x2 _x3 : Int) : Int := (0 : Int)
def z1 (x0 _x1 _x2 _x3 : Int) : Int := x0
def z2 (_x0 x1 _x2 _x3 : Int) : Int := x1
def z3 (_x0 _x1 _x2 _x3 : Int) : Int := (64 : Int)
def z4 (_x0 _x1 _x2 _x3 : Int) : Int := (1 : Int)
def z5 (_x0 _x1 x2 _x3 : Int) : Int := x2
def z6 (_x0 _x1 _x2 _x3 : Int) : Int := (1600 : Int)
def z7 (_x0 _x1 _x2 _x3 : Int) : Int := (0 : Int)
def z8 (x0 x1 x2 x3 : Int) : Int := (z5 x0 x1 x2 x3) % 18446744073709551616
def z9 (_x0 _x1 _x2 _x3 : Int) : Int := (8 : Int)
def z10 (x0 x1 x2 x3 : Int) : Int := (z8 x0 x1 x2 x3 * 2 ^ 8) % 18446744073709551616
def z11 (x0 x1 x2 x3 : Int) : Int := (z7 x0 x1 x2 x3 + z10 x0 x1 x2 x3) % 18446744073709551616
def z12 (_x0 _x1 _x2 _x3 : Int) : Int := (2 : Int)
def z13 (x0 x1 x2 x3 : Int) : Int := (z11 x0 x1 x2 x3 + z12 x0 x1 x2 x3) % 18446744073709551616
def z14 (_x0 _x1 _x2 _x3 : Int) : Int := (255 : Int)
def z15 (x0 x1 x2 x3 : Int) : Int := z13 x0 x1 x2 x3 % 2 ^ 8
def z16 (_x0 _x1 _x2 _x3 : Int) : Int := (1 : Int)
def z17 (x0 x1 x2 x3 : Int) : Int := z13 x0 x1 x2 x3 / 2 ^ 8
def z18 (_x0 _x1 _x2 _x3 : Int) : Int := (1600 : Int)
def z19 (x0 x1 x2 x3 : Int) : Int := (z17 x0 x1 x2 x3 + 9223372036854775808) % 18446744073709551616 - 9223372036854775808
def z20 (_x0 _x1 _x2 x3 : Int) : Int := x3
def z21 (x0 x1 x2 x3 : Int) : Int := z20 x0 x1 x2 x3 % 2 ^ 8
def z22 (_x0 _x1 _x2 _x3 : Int) : Int := (64 : Int)
def z23 (_x0 _x1 _x2 _x3 : Int) : Int := (16 : Int)
def z24 (x0 x1 x2 x3 : Int) : Int := z20 x0 x1 x2 x3 / 2 ^ 16
def z25 (x0 x1 x2 x3 : Int) : Int := z20 x0 x1 x2 x3 / 2 ^ 8
def z26 (x0 x1 x2 x3 : Int) : Int := z25 x0 x1 x2 x3 % 2 ^ 8
def z27 (x0 x1 x2 x3 : Int) : Int := (z26 x0 x1 x2 x3 + 9223372036854775808) % 18446744073709551616 - 9223372036854775808
def z28 (x0 x1 x2 x3 : Int) : Int := (z24 x0 x1 x2 x3 + 9223372036854775808) % 18446744073709551616 - 9223372036854775808
def z29 (x0 x1 x2 x3 : Int) : Int := (z4 x0 x1 x2 x3 + z27 x0 x1 x2 x3 + 9223372036854775808) % 18446744073709551616 - 9223372036854775808
def z30 (x0 x1 x2 x3 : Int) : Int := (z29 x0 x1 x2 x3 + z28 x0 x1 x2 x3 + 9223372036854775808) % 18446744073709551616 - 9223372036854775808
def z31 (x0 x1 x2 x3 : Int) : Int := (z28 x0 x1 x2 x3) % 18446744073709551616
def z32 (x0 x1 x2 x3 : Int) : Int := (z31 x0 x1 x2 x3 * 2 ^ 16) % 18446744073709551616
def z33 (x0 x1 x2 x3 : Int) : Int := (z32 x0 x1 x2 x3 + z16 x0 x1 x2 x3) % 18446744073709551616
def z34 (x0 x1 x2 x3 : Int) : Int := (z7 x0 x1 x2 x3 + z33 x0 x1 x2 x3) % 18446744073709551616
def z35 (x0 x1 x2 x3 : Int) : Int := (z27 x0 x1 x2 x3) % 18446744073709551616
def z36 (x0 x1 x2 x3 : Int) : Int := (z35 x0 x1 x2 x3 * 2 ^ 8) % 18446744073709551616
def z37 (x0 x1 x2 x3 : Int) : Int := (z34 x0 x1 x2 x3 + z36 x0 x1 x2 x3) % 18446744073709551616
def z38 (x0 x1 x2 x3 : Int) : Int := (z25 x0 x1 x2 x3 + 9223372036854775808) % 18446744073709551616 - 9223372036854775808
def z39 (x0 x1 x2 x3 : Int) : Int := (z38 x0 x1 x2 x3) % 18446744073709551616
def z40 (x0 x1 x2 x3 : Int) : Int := (z39 x0 x1 x2 x3 * 2 ^ 8) % 18446744073709551616
def z41 (x0 x1 x2 x3 : Int) : Int := (z7 x0 x1 x2 x3 + z40 x0 x1 x2 x3) % 18446744073709551616
def z42 (x0 x1 x2 x3 : Int) : Int := (z41 x0 x1 x2 x3 + z12 x0 x1 x2 x3) % 18446744073709551616
def z43 (x0 x1 x2 x3 : Int) : Int := (z4 x0 x1 x2 x3 + z1 x0 x1 x2 x3 + 9223372036854775808) % 18446744073709551616 - 9223372036854775808
def z44 (x0 x1 x2 x3 : Int) : Int := (z43 x0 x1 x2 x3 + z2 x0 x1 x2 x3 + 9223372036854775808) % 18446744073709551616 - 9223372036854775808
def z45 (x0 x1 x2 x3 : Int) : Int := (z2 x0 x1 x2 x3) % 18446744073709551616
def z46 (x0 x1 x2 x3 : Int) : Int := (z45 x0 x1 x2 x3 * 2 ^ 16) % 18446744073709551616
def z47 (x0 x1 x2 x3 : Int) : Int := (z46 x0 x1 x2 x3 + z16 x0 x1 x2 x3) % 18446744073709551616
def z48 (x0 x1 x2 x3 : Int) : Int := (z7 x0 x1 x2 x3 + z47 x0 x1 x2 x3) % 18446744073709551616
def z49 (x0 x1 x2 x3 : Int) : Int := (z1 x0 x1 x2 x3) % 18446744073709551616
def z50 (x0 x1 x2 x3 : Int) : Int := (z49 x0 x1 x2 x3 * 2 ^ 8) % 18446744073709551616
def z51 (x0 x1 x2 x3 : Int) : Int := (z48 x0 x1 x2 x3 + z50 x0 x1 x2 x3) % 18446744073709551616
def z52 (x0 x1 x2 x3 : Int) : Int := z51 x0 x1 x2 x3 % 2 ^ 8
def z53 (x0 x1 x2 x3 : Int) : Int := z51 x0 x1 x2 x3 / 2 ^ 16
def z54 (x0 x1 x2 x3 : Int) : Int := z51 x0 x1 x2 x3 / 2 ^ 8
def z55 (x0 x1 x2 x3 : Int) : Int := z54 x0 x1 x2 x3 % 2 ^ 8
def z56 (x0 x1 x2 x3 : Int) : Int := (z55 x0 x1 x2 x3 + 9223372036854775808) % 18446744073709551616 - 9223372036854775808
def z57 (x0 x1 x2 x3 : Int) : Int := (z53 x0 x1 x2 x3 + 9223372036854775808) % 18446744073709551616 - 9223372036854775808
def z58 (x0 x1 x2 x3 : Int) : Int := (z4 x0 x1 x2 x3 + z56 x0 x1 x2 x3 + 9223372036854775808) % 18446744073709551616 - 9223372036854775808
def z59 (x0 x1 x2 x3 : Int) : Int := (z58 x0 x1 x2 x3 + z57 x0 x1 x2 x3 + 9223372036854775808) % 18446744073709551616 - 9223372036854775808
structure In [Inhabited Ev.Val] (x0 x1 x2 x3 : Int) : Prop where
  i0 : Ev.Is (Ev.inp .i64 0) .i64 x0
  i1 : Ev.Is (Ev.inp .i64 1) .i64 x1
  i2 : Ev.Is (Ev.inp .i64 2) .i64 x2
  i3 : Ev.Is (Ev.inp .u64 3) .u64 x3
structure Bd (x0 x1 x2 x3 : Int) : Prop where
  l0 : -9223372036854775808 ≤ x0
  u0 : x0 ≤ 9223372036854775807
  l1 : -9223372036854775808 ≤ x1
  u1 : x1 ≤ 9223372036854775807
  l2 : -9223372036854775808 ≤ x2
  u2 : x2 ≤ 9223372036854775807
  l3 : 0 ≤ x3
  u3 : x3 ≤ 18446744073709551615
section
variable [Inhabited Ev.Val] {x0 x1 x2 x3 : Int}
theorem is0 (_ : In x0 x1 x2 x3) : Ev.Is n0 .i64 (z0 x0 x1 x2 x3) := Ev.Is.lit _ _
theorem is1 (I : In x0 x1 x2 x3) : Ev.Is n1 .i64 (z1 x0 x1 x2 x3) := I.i0
theorem is2 (I : In x0 x1 x2 x3) : Ev.Is n2 .i64 (z2 x0 x1 x2 x3) := I.i1
theorem is3 (_ : In x0 x1 x2 x3) : Ev.Is n3 .i64 (z3 x0 x1 x2 x3) := Ev.Is.lit _ _
theorem is4 (_ : In x0 x1 x2 x3) : Ev.Is n4 .i64 (z4 x0 x1 x2 x3) := Ev.Is.lit _ _
theorem is5 (I : In x0 x1 x2 x3) : Ev.Is n5 .i64 (z5 x0 x1 x2 x3) := I.i2
theorem is6 (_ : In x0 x1 x2 x3) : Ev.Is n6 .i64 (z6 x0 x1 x2 x3) := Ev.Is.lit _ _
theorem is7 (_ : In x0 x1 x2 x3) : Ev.Is n7 .u64 (z7 x0 x1 x2 x3) := Ev.Is.lit _ _
theorem is8 (I : In x0 x1 x2 x3) : Ev.Is n8 .u64 (z8 x0 x1 x2 x3) := Ev.is_conv_u64 (is5 I)
theorem is9 (_ : In x0 x1 x2 x3) : Ev.Is n9 .u64 (z9 x0 x1 x2 x3) := Ev.Is.lit _ _
theorem is10 (I : In x0 x1 x2 x3) : Ev.Is n10 .u64 (z10 x0 x1 x2 x3) := Ev.is_shl_u64 8 (by decide) (is8 I)
theorem is11 (I : In x0 x1 x2 x3) : Ev.Is n11 .u64 (z11 x0 x1 x2 x3) := Ev.is_add_u64 (is7 I) (is10 I)
theorem is12 (_ : In x0 x1 x2 x3) : Ev.Is n12 .u64 (z12 x0 x1 x2 x3) := Ev.Is.lit _ _
theorem is13 (I : In x0 x1 x2 x3) : Ev.Is n13 .u64 (z13 x0 x1 x2 x3) := Ev.is_add_u64 (is11 I) (is12 I)
theorem is14 (_ : In x0 x1 x2 x3) : Ev.Is n14 .u64 (z14 x0 x1 x2 x3) := Ev.Is.lit _ _
theorem is15 (I : In x0 x1 x2 x3) : Ev.Is n15 .u64 (z15 x0 x1 x2 x3) := Ev.is_and_u64 8 (by decide) (is13 I)
theorem is16 (_ : In x0 x1 x2 x3) : Ev.Is n16 .u64 (z16 x0 x1 x2 x3) := Ev.Is.lit _ _
theorem is17 (I : In x0 x1 x2 x3) : Ev.Is n17 .u64 (z17 x0 x1 x2 x3) := Ev.is_shr_u64 8 (by decide) (is13 I)
theorem is18 (_ : In x0 x1 x2 x3) : Ev.Is n18 .u64 (z18 x0 x1 x2 x3) := Ev.Is.lit _ _
theorem is19 (I : In x0 x1 x2 x3) : Ev.Is n19 .i64 (z19 x0 x1 x2 x3) := Ev.is_conv_i64 (is17 I)
theorem is20 (I : In x0 x1 x2 x3) : Ev.Is n20 .u64 (z20 x0 x1 x2 x3) := I.i3
theorem is21 (I : In x0 x1 x2 x3) : Ev.Is n21 .u64 (z21 x0 x1 x2 x3) := Ev.is_and_u64 8 (by decide) (is20 I)
theorem is22 (_ : In x0 x1 x2 x3) : Ev.Is n22 .u64 (z22 x0 x1 x2 x3) := Ev.Is.lit _ _
theorem is23 (_ : In x0 x1 x2 x3) : Ev.Is n23 .u64 (z23 x0 x1 x2 x3) := Ev.Is.lit _ _
theorem is24 (I : In x0 x1 x2 x3) : Ev.Is n24 .u64 (z24 x0 x1 x2 x3) := Ev.is_shr_u64 16 (by decide) (is20 I)
theorem is25 (I : In x0 x1 x2 x3) : Ev.Is n25 .u64 (z25 x0 x1 x2 x3) := Ev.is_shr_u64 8 (by decide) (is20 I)
theorem is26 (I : In x0 x1 x2 x3) : Ev.Is n26 .u64 (z26 x0 x1 x2 x3) := Ev.is_and_u64 8 (by decide) (is25 I)
theorem is27 (I : In x0 x1 x2 x3) : Ev.Is n27 .i64 (z27 x0 x1 x2 x3) := Ev.is_conv_i64 (is26 I)
theorem is28 (I : In x0 x1 x2 x3) : Ev.Is n28 .i64 (z28 x0 x1 x2 x3) := Ev.is_conv_i64 (is24 I)
theorem is29 (I : In x0 x1 x2 x3) : Ev.Is n29 .i64 (z29 x0 x1 x2 x3) := Ev.is_add_i64 (is4 I) (is27 I)
theorem is30 (I : In x0 x1 x2 x3) : Ev.Is n30 .i64 (z30 x0 x1 x2 x3) := Ev.is_add_i64 (is29 I) (is28 I)
theorem is31 (I : In x0 x1 x2 x3) : Ev.Is n31 .u64 (z31 x0 x1 x2 x3) := Ev.is_conv_u64 (is28 I)
theorem is32 (I : In x0 x1 x2 x3) : Ev.Is n32 .u64 (z32 x0 x1 x2 x3) := Ev.is_shl_u64 16 (by decide) (is31 I)
theorem is33 (I : In x0 x1 x2 x3) : Ev.Is n33 .u64 (z33 x0 x1 x2 x3) := Ev.is_add_u64 (is32 I) (is16 I)
theorem is34 (I : In x0 x1 x2 x3) : Ev.Is n34 .u64 (z34 x0 x1 x2 x3) := Ev.is_add_u64 (is7 I) (is33 I)
theorem is35 (I : In x0 x1 x2 x3) : Ev.Is n35 .u64 (z35 x0 x1 x2 x3) := Ev.is_conv_u64 (is27 I)
theorem is36 (I : In x0 x1 x2 x3) : Ev.Is n36 .u64 (z36 x0 x1 x2 x3) := Ev.is_shl_u64 8 (by decide) (is35 I)
theorem is37 (I : In x0 x1 x2 x3) : Ev.Is n37 .u64 (z37 x0 x1 x2 x3) := Ev.is_add_u64 (is34 I) (is36 I)
theorem is38 (I : In x0 x1 x2 x3) : Ev.Is n38 .i64 (z38 x0 x1 x2 x3) := Ev.is_conv_i64 (is25 I)
theorem is39 (I : In x0 x1 x2 x3) : Ev.Is n39 .u64 (z39 x0 x1 x2 x3) := Ev.is_conv_u64 (is38 I)
theorem is40 (I : In x0 x1 x2 x3) : Ev.Is n40 .u64 (z40 x0 x1 x2 x3) := Ev.is_shl_u64 8 (by decide) (is39 I)
theorem is41 (I : In x0 x1 x2 x3) : Ev.Is n41 .u64 (z41 x0 x1 x2 x3) := Ev.is_add_u64 (is7 I) (is40 I)
theorem is42 (I : In x0 x1 x2 x3) : Ev.Is n42 .u64 (z42 x0 x1 x2 x3) := Ev.is_add_u64 (is41 I) (is12 I)
theorem is43 (I : In x0 x1 x2 x3) : Ev.Is n43 .i64 (z43 x0 x1 x2 x3) := Ev.is_add_i64 (is4 I) (is1 I)
theorem is44 (I : In x0 x1 x2 x3) : Ev.Is n44 .i64 (z44 x0 x1 x2 x3) := Ev.is_add_i64 (is43 I) (is2 I)
theorem is45 (I : In x0 x1 x2 x3) : Ev.Is n45 .u64 (z45 x0 x1 x2 x3) := Ev.is_conv_u64 (is2 I)
theorem is46 (I : In x0 x1 x2 x3) : Ev.Is n46 .u64 (z46 x0 x1 x2 x3) := Ev.is_shl_u64 16 (by decide) (is45 I)
theorem is47 (I : In x0 x1 x2 x3) : Ev.Is n47 .u64 (z47 x0 x1 x2 x3) := Ev.is_add_u64 (is46 I) (is16 I)
theorem is48 (I : In x0 x1 x2 x3) : Ev.Is n48 .u64 (z48 x0 x1 x2 x3) := Ev.is_add_u64 (is7 I) (is47 I)
theorem is49 (I : In x0 x1 x2 x3) : Ev.Is n49 .u64 (z49 x0 x1 x2 x3) := Ev.is_conv_u64 (is1 I)
theorem is50 (I : In x0 x1 x2 x3) : Ev.Is n50 .u64 (z50 x0 x1 x2 x3) := Ev.is_shl_u64 8 (by decide) (is49 I)
theorem is51 (I : In x0 x1 x2 x3) : Ev.Is n51 .u64 (z51 x0 x1 x2 x3) := Ev.is_add_u64 (is48 I) (is50 I)
theorem is52 (I : In x0 x1 x2 x3) : Ev.Is n52 .u64 (z52 x0 x1 x2 x3) := Ev.is_and_u64 8 (by decide) (is51 I)
theorem is53 (I : In x0 x1 x2 x3) : Ev.Is n53 .u64 (z53 x0 x1 x2 x3) := Ev.is_shr_u64 16 (by decide) (is51 I)
theorem is54 (I : In x0 x1 x2 x3) : Ev.Is n54 .u64 (z54 x0 x1 x2 x3) := Ev.is_shr_u64 8 (by decide) (is51 I)
theorem is55 (I : In x0 x1 x2 x3) : Ev.Is n55 .u64 (z55 x0 x1 x2 x3) := Ev.is_and_u64 8 (by decide) (is54 I)
theorem is56 (I : In x0 x1 x2 x3) : Ev.Is n56 .i64 (z56 x0 x1 x2 x3) := Ev.is_conv_i64 (is55 I)
theorem is57 (I : In x0 x1 x2 x3) : Ev.Is n57 .i64 (z57 x0 x1 x2 x3) := Ev.is_conv_i64 (is53 I)
theorem is58 (I : In x0 x1 x2 x3) : Ev.Is n58 .i64 (z58 x0 x1 x2 x3) := Ev.is_add_i64 (is4 I) (is56 I)
theorem is59 (I : In x0 x1 x2 x3) : Ev.Is n59 .i64 (z59 x0 x1 x2 x3) := Ev.is_add_i64 (is58 I) (is57 I)
end
theorem mixed : Try.prog.follows .mixedOrders = true := by kernel_rfl
set_option maxRecDepth 1000000 in
theorem closed16 : Ev.run ⟨Try.prog, Ev.mkTT Try.prog, Ev.mkFT Try.prog, [], [], []⟩ 1000000 16 [] = some true := by kernel_rfl
abbrev Cs : List (FuncId × Bool) := [(16, true)]
abbrev Qs : List (TypeId × List IntKind) := [(30, [.i64, .i64])]
theorem cs : ∀ f b, Ev.lookC f Cs = some b → ∀ w, Calls Try.prog f #[] w fun e w' => e = .returned (.bool b) ∧ Below w.heap.size w w' := by
  intro f b h w
  by_cases h16 : f = 16
  · subst h16
    obtain rfl : true = b := Option.some.inj h
    exact Ev.run_closed mixed closed16 w
  exfalso
  revert h
  simp only [Ev.lookC]
  have e16 : Nat.beq f 16 = false := by
    cases hq : Nat.beq f 16 with
    | true => exact absurd (Nat.eq_of_beq_eq_true hq) h16
    | false => rfl
  rw [e16]
  simp
theorem qs30 : Ev.QOk Try.prog 30 [.i64, .i64] := by
  intro l m hl hm op x y w ho
  obtain ⟨a, b, rfl⟩ : ∃ a b, l = [a, b] := by
    match l, hl with
    | [a, b], _ => exact ⟨a, b, rfl⟩
  obtain ⟨c, d, rfl⟩ : ∃ c d, m = [c, d] := by
    match m, hm with
    | [c, d], _ => exact ⟨c, d, rfl⟩
  have u3 := Try.underlying3
  have a3 := Try.isAgg3
  have z3 := Try.sizeOf3
  have hS : Try.prog.underlying 30 = some (.struct (Try.prog.fieldsOf 30)) := by kernel_rfl
  have hp : Try.prog.stoodInHeld 30 = false := by kernel_rfl
  have hg : Try.prog.eqGuardType Try.prog.depth 30 = false := by kernel_rfl
  simp only [Ev.ints]
  rw [Sem.run_bind, run_eqGuard_agg w op 30 x y _ _ hg]
  rcases ho with rfl | rfl
  · simp only [Result.andThen_ok]
    rw [run_eql_struct, show (10000 : Nat) = 9999 + 1 from rfl, run_equalIn_agg w 9999 30 _ _ hS hp]
    simp only [Program.fieldsOf, Try.underlying30]
    go_simp
    by_cases h1 : a = c <;> by_cases h2 : b = d <;> simp [h1, h2]
  · simp only [Result.andThen_ok]
    rw [run_neq_struct, show (10000 : Nat) = 9999 + 1 from rfl, run_equalIn_agg w 9999 30 _ _ hS hp]
    simp only [Program.fieldsOf, Try.underlying30]
    go_simp
    by_cases h1 : a = c <;> by_cases h2 : b = d <;> simp [h1, h2]
theorem qs : ∀ t ks, Ev.lookQ t Qs = some ks → Ev.QOk Try.prog t ks := by
  intro t ks h
  by_cases h30 : t = 30
  · subst h30
    obtain rfl : _ = ks := Option.some.inj h
    exact qs30
  exfalso
  revert h
  simp only [Ev.lookQ]
  have e30 : Nat.beq t 30 = false := by
    cases hq : Nat.beq t 30 with
    | true => exact absurd (Nat.eq_of_beq_eq_true hq) h30
    | false => rfl
  rw [e30]
  simp
end Go.Proofs.Ytknifojinmnkfaa.headerBack
