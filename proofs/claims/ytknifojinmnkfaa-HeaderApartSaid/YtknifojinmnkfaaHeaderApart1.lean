/-
  'shunterlaw04.HeaderApart': its numbers: what the evaluator calls them, what they are. No project text.
-/
import Derived.Test.YtknifojinmnkfaaRows
import Derived.Test.YtknifojinmnkfaaSy
import Derived.Test.YtknifojinmnkfaaFrm
namespace Go.Proofs.Ytknifojinmnkfaa.headerApart
open Go.ChangeShapes Go.WideShapes Go.ChangeAt Go.RowKit

def n0 : Value := Ev.inp .i64 7
def n1 : Value := .int .i64 (Int.ofNat 0)
def n2 : Value := Ev.inp .i64 9
def n3 : Value := Ev.inp .u64 6
def n4 : Value := Ev.inp .u64 8
def n5 : Value := Ev.inp .i64 0
def n6 : Value := Ev.inp .i64 2
def n7 : Value := Ev.inp .i64 1
def n8 : Value := Ev.inp .i64 3
def n9 : Value := Ev.inp .i64 11
def n10 : Value := Ev.inp .i64 13
def n11 : Value := Ev.inp .u64 10
def n12 : Value := Ev.inp .u64 12
def n13 : Value := Ev.inp .i64 4
def n14 : Value := Ev.inp .i64 5
def n15 : Value := Ev.inp .i64 14
def n16 : Value := .int .i64 (Int.ofNat 1)
def n17 : Value := Ev.inp .i64 15
def n18 : Value := Ev.inp .i64 16
def n19 : Value := Ev.inp .i64 17
def n20 : Value := .int .i64 (Int.ofNat 2)
def n21 : Value := Ev.inp .i64 18
def n22 : Value := Ev.inp .i64 19
def z0 (_x0 _x1 _x2 _x3 _x4 _x5 _x6 x7 _x8 _x9 _x10 _x11 _x12 _x13 _x14 _x15 _x16 _x17 _x18 _x19 : Int) : Int := x7
def z1 (_x0 _x1 _x2 _x3 _x4 _x5 _x6 _x7 _x8 _x9 _x10 _x11 _x12 _x13 _x14 _x15 _x16 _x17 _x18 _x19 : Int) : Int := (0 : Int)
def z2 (_x0 _x1 _x2 _x3 _x4 _x5 _x6 _x7 _x8 x9 _x10 _x11 _x12 _x13 _x14 _x15 _x16 _x17 _x18 _x19 : Int) : Int := x9
def z3 (_x0 _x1 _x2 _x3 _x4 _x5 x6 _x7 _x8 _x9 _x10 _x11 _x12 _x13 _x14 _x15 _x16 _x17 _x18 _x19 : Int) : Int := x6
def z4 (_x0 _x1 _x2 _x3 _x4 _x5 _x6 _x7 x8 _x9 _x10 _x11 _x12 _x13 _x14 _x15 _x16 _x17 _x18 _x19 : Int) : Int := x8
def z5 (x0 _x1 _x2 _x3 _x4 _x5 _x6 _x7 _x8 _x9 _x10 _x11 _x12 _x13 _x14 _x15 _x16 _x17 _x18 _x19 : Int) : Int := x0
def z6 (_x0 _x1 x2 _x3 _x4 _x5 _x6 _x7 _x8 _x9 _x10 _x11 _x12 _x13 _x14 _x15 _x16 _x17 _x18 _x19 : Int) : Int := x2
def z7 (_x0 x1 _x2 _x3 _x4 _x5 _x6 _x7 _x8 _x9 _x10 _x11 _x12 _x13 _x14 _x15 _x16 _x17 _x18 _x19 : Int) : Int := x1
def z8 (_x0 _x1 _x2 x3 _x4 _x5 _x6 _x7 _x8 _x9 _x10 _x11 _x12 _x13 _x14 _x15 _x16 _x17 _x18 _x19 : Int) : Int := x3
def z9 (_x0 _x1 _x2 _x3 _x4 _x5 _x6 _x7 _x8 _x9 _x10 x11 _x12 _x13 _x14 _x15 _x16 _x17 _x18 _x19 : Int) : Int := x11
def z10 (_x0 _x1 _x2 _x3 _x4 _x5 _x6 _x7 _x8 _x9 _x10 _x11 _x12 x13 _x14 _x15 _x16 _x17 _x18 _x19 : Int) : Int := x13
def z11 (_x0 _x1 _x2 _x3 _x4 _x5 _x6 _x7 _x8 _x9 x10 _x11 _x12 _x13 _x14 _x15 _x16 _x17 _x18 _x19 : Int) : Int := x10
def z12 (_x0 _x1 _x2 _x3 _x4 _x5 _x6 _x7 _x8 _x9 _x10 _x11 x12 _x13 _x14 _x15 _x16 _x17 _x18 _x19 : Int) : Int := x12
def z13 (_x0 _x1 _x2 _x3 x4 _x5 _x6 _x7 _x8 _x9 _x10 _x11 _x12 _x13 _x14 _x15 _x16 _x17 _x18 _x19 : Int) : Int := x4
def z14 (_x0 _x1 _x2 _x3 _x4 x5 _x6 _x7 _x8 _x9 _x10 _x11 _x12 _x13 _x14 _x15 _x16 _x17 _x18 _x19 : Int) : Int := x5
def z15 (_x0 _x1 _x2 _x3 _x4 _x5 _x6 _x7 _x8 _x9 _x10 _x11 _x12 _x13 x14 _x15 _x16 _x17 _x18 _x19 : Int) : Int := x14
def z16 (_x0 _x1 _x2 _x3 _x4 _x5 _x6 _x7 _x8 _x9 _x10 _x11 _x12 _x13 _x14 _x15 _x16 _x17 _x18 _x19 : Int) : Int := (1 : Int)
def z17 (_x0 _x1 _x2 _x3 _x4 _x5 _x6 _x7 _x8 _x9 _x10 _x11 _x12 _x13 _x14 x15 _x16 _x17 _x18 _x19 : Int) : Int := x15
def z18 (_x0 _x1 _x2 _x3 _x4 _x5 _x6 _x7 _x8 _x9 _x10 _x11 _x12 _x13 _x14 _x15 x16 _x17 _x18 _x19 : Int) : Int := x16
def z19 (_x0 _x1 _x2 _x3 _x4 _x5 _x6 _x7 _x8 _x9 _x10 _x11 _x12 _x13 _x14 _x15 _x16 x17 _x18 _x19 : Int) : Int := x17
def z20 (_x0 _x1 _x2 _x3 _x4 _x5 _x6 _x7 _x8 _x9 _x10 _x11 _x12 _x13 _x14 _x15 _x16 _x17 _x18 _x19 : Int) : Int := (2 : Int)
def z21 (_x0 _x1 _x2 _x3 _x4 _x5 _x6 _x7 _x8 _x9 _x10 _x11 _x12 _x13 _x14 _x15 _x16 _x17 x18 _x19 : Int) : Int := x18
def z22 (_x0 _x1 _x2 _x3 _x4 _x5 _x6 _x7 _x8 _x9 _x10 _x11 _x12 _x13 _x14 _x15 _x16 _x17 _x18 x19 : Int) : Int := x19
structure In [Inhabited Ev.Val] (x0 x1 x2 x3 x4 x5 x6 x7 x8 x9 x10 x11 x12 x13 x14 x15 x16 x17 x18 x19 : Int) : Prop where
  i0 : Ev.Is (Ev.inp .i64 0) .i64 x0
  i1 : Ev.Is (Ev.inp .i64 1) .i64 x1
  i2 : Ev.Is (Ev.inp .i64 2) .i64 x2
  i3 : Ev.Is (Ev.inp .i64 3) .i64 x3
  i4 : Ev.Is (Ev.inp .i64 4) .i64 x4
  i5 : Ev.Is (Ev.inp .i64 5) .i64 x5
  i6 : Ev.Is (Ev.inp .u64 6) .u64 x6
  i7 : Ev.Is (Ev.inp .i64 7) .i64 x7
  i8 : Ev.Is (Ev.inp .u64 8) .u64 x8
  i9 : Ev.Is (Ev.inp .i64 9) .i64 x9
  i10 : Ev.Is (Ev.inp .u64 10) .u64 x10
  i11 : Ev.Is (Ev.inp .i64 11) .i64 x11
  i12 : Ev.Is (Ev.inp .u64 12) .u64 x12
  i13 : Ev.Is (Ev.inp .i64 13) .i64 x13
  i14 : Ev.Is (Ev.inp .i64 14) .i64 x14
  i15 : Ev.Is (Ev.inp .i64 15) .i64 x15
  i16 : Ev.Is (Ev.inp .i64 16) .i64 x16
  i17 : Ev.Is (Ev.inp .i64 17) .i64 x17
  i18 : Ev.Is (Ev.inp .i64 18) .i64 x18
  i19 : Ev.Is (Ev.inp .i64 19) .i64 x19
structure Bd (x0 x1 x2 x3 x4 x5 x6 x7 x8 x9 x10 x11 x12 x13 x14 x15 x16 x17 x18 x19 : Int) : Prop where
  l0 : -9223372036854775808 ≤ x0
  u0 : x0 ≤ 9223372036854775807
  l1 : -9223372036854775808 ≤ x1
  u1 : x1 ≤ 9223372036854775807
  l2 : -9223372036854775808 ≤ x2
  u2 : x2 ≤ 9223372036854775807
  l3 : -9223372036854775808 ≤ x3
  u3 : x3 ≤ 9223372036854775807
  l4 : -9223372036854775808 ≤ x4
  u4 : x4 ≤ 9223372036854775807
  l5 : -9223372036854775808 ≤ x5
  u5 : x5 ≤ 9223372036854775807
  l6 : 0 ≤ x6
  u6 : x6 ≤ 18446744073709551615
  l7 : -9223372036854775808 ≤ x7
  u7 : x7 ≤ 9223372036854775807
  l8 : 0 ≤ x8
  u8 : x8 ≤ 18446744073709551615
  l9 : -9223372036854775808 ≤ x9
  u9 : x9 ≤ 9223372036854775807
  l10 : 0 ≤ x10
  u10 : x10 ≤ 18446744073709551615
  l11 : -9223372036854775808 ≤ x11
  u11 : x11 ≤ 9223372036854775807
  l12 : 0 ≤ x12
  u12 : x12 ≤ 18446744073709551615
  l13 : -9223372036854775808 ≤ x13
  u13 : x13 ≤ 9223372036854775807
  l14 : -9223372036854775808 ≤ x14
  u14 : x14 ≤ 9223372036854775807
  l15 : -9223372036854775808 ≤ x15
  u15 : x15 ≤ 9223372036854775807
  l16 : -9223372036854775808 ≤ x16
  u16 : x16 ≤ 9223372036854775807
  l17 : -9223372036854775808 ≤ x17
  u17 : x17 ≤ 9223372036854775807
  l18 : -9223372036854775808 ≤ x18
  u18 : x18 ≤ 9223372036854775807
  l19 : -9223372036854775808 ≤ x19
  u19 : x19 ≤ 9223372036854775807
  g0 : x7 = 0 → x9 = 0 → x6 = x8 → x0 = x2 ∧ x1 = x3
  g1 : x0 = x2 → x1 = x3 → x6 = x8 ∧ x7 = x9
  g2 : x11 = 0 → x13 = 0 → x10 = x12 → x4 = x5
  g3 : x4 = x5 → x10 = x12 ∧ x11 = x13
  g4 : x7 = 0 → x11 = 0 → x6 ≠ x10
  g5 : x7 = 0 → x14 ≠ 1
  g6 : x7 = 0 → x15 ≠ 1
  g7 : x7 = 0 → x16 = 0
  g8 : x11 = 0 → x17 ≠ 2
  g9 : x11 = 0 → x18 ≠ 2
  g10 : x11 = 0 → x19 = 0
section
variable [Inhabited Ev.Val] {x0 x1 x2 x3 x4 x5 x6 x7 x8 x9 x10 x11 x12 x13 x14 x15 x16 x17 x18 x19 : Int}
theorem is0 (I : In x0 x1 x2 x3 x4 x5 x6 x7 x8 x9 x10 x11 x12 x13 x14 x15 x16 x17 x18 x19) : Ev.Is n0 .i64 (z0 x0 x1 x2 x3 x4 x5 x6 x7 x8 x9 x10 x11 x12 x13 x14 x15 x16 x17 x18 x19) := I.i7
theorem is1 (_ : In x0 x1 x2 x3 x4 x5 x6 x7 x8 x9 x10 x11 x12 x13 x14 x15 x16 x17 x18 x19) : Ev.Is n1 .i64 (z1 x0 x1 x2 x3 x4 x5 x6 x7 x8 x9 x10 x11 x12 x13 x14 x15 x16 x17 x18 x19) := Ev.Is.lit _ _
theorem is2 (I : In x0 x1 x2 x3 x4 x5 x6 x7 x8 x9 x10 x11 x12 x13 x14 x15 x16 x17 x18 x19) : Ev.Is n2 .i64 (z2 x0 x1 x2 x3 x4 x5 x6 x7 x8 x9 x10 x11 x12 x13 x14 x15 x16 x17 x18 x19) := I.i9
theorem is3 (I : In x0 x1 x2 x3 x4 x5 x6 x7 x8 x9 x10 x11 x12 x13 x14 x15 x16 x17 x18 x19) : Ev.Is n3 .u64 (z3 x0 x1 x2 x3 x4 x5 x6 x7 x8 x9 x10 x11 x12 x13 x14 x15 x16 x17 x18 x19) := I.i6
theorem is4 (I : In x0 x1 x2 x3 x4 x5 x6 x7 x8 x9 x10 x11 x12 x13 x14 x15 x16 x17 x18 x19) : Ev.Is n4 .u64 (z4 x0 x1 x2 x3 x4 x5 x6 x7 x8 x9 x10 x11 x12 x13 x14 x15 x16 x17 x18 x19) := I.i8
theorem is5 (I : In x0 x1 x2 x3 x4 x5 x6 x7 x8 x9 x10 x11 x12 x13 x14 x15 x16 x17 x18 x19) : Ev.Is n5 .i64 (z5 x0 x1 x2 x3 x4 x5 x6 x7 x8 x9 x10 x11 x12 x13 x14 x15 x16 x17 x18 x19) := I.i0
theorem is6 (I : In x0 x1 x2 x3 x4 x5 x6 x7 x8 x9 x10 x11 x12 x13 x14 x15 x16 x17 x18 x19) : Ev.Is n6 .i64 (z6 x0 x1 x2 x3 x4 x5 x6 x7 x8 x9 x10 x11 x12 x13 x14 x15 x16 x17 x18 x19) := I.i2
theorem is7 (I : In x0 x1 x2 x3 x4 x5 x6 x7 x8 x9 x10 x11 x12 x13 x14 x15 x16 x17 x18 x19) : Ev.Is n7 .i64 (z7 x0 x1 x2 x3 x4 x5 x6 x7 x8 x9 x10 x11 x12 x13 x14 x15 x16 x17 x18 x19) := I.i1
theorem is8 (I : In x0 x1 x2 x3 x4 x5 x6 x7 x8 x9 x10 x11 x12 x13 x14 x15 x16 x17 x18 x19) : Ev.Is n8 .i64 (z8 x0 x1 x2 x3 x4 x5 x6 x7 x8 x9 x10 x11 x12 x13 x14 x15 x16 x17 x18 x19) := I.i3
theorem is9 (I : In x0 x1 x2 x3 x4 x5 x6 x7 x8 x9 x10 x11 x12 x13 x14 x15 x16 x17 x18 x19) : Ev.Is n9 .i64 (z9 x0 x1 x2 x3 x4 x5 x6 x7 x8 x9 x10 x11 x12 x13 x14 x15 x16 x17 x18 x19) := I.i11
theorem is10 (I : In x0 x1 x2 x3 x4 x5 x6 x7 x8 x9 x10 x11 x12 x13 x14 x15 x16 x17 x18 x19) : Ev.Is n10 .i64 (z10 x0 x1 x2 x3 x4 x5 x6 x7 x8 x9 x10 x11 x12 x13 x14 x15 x16 x17 x18 x19) := I.i13
theorem is11 (I : In x0 x1 x2 x3 x4 x5 x6 x7 x8 x9 x10 x11 x12 x13 x14 x15 x16 x17 x18 x19) : Ev.Is n11 .u64 (z11 x0 x1 x2 x3 x4 x5 x6 x7 x8 x9 x10 x11 x12 x13 x14 x15 x16 x17 x18 x19) := I.i10
theorem is12 (I : In x0 x1 x2 x3 x4 x5 x6 x7 x8 x9 x10 x11 x12 x13 x14 x15 x16 x17 x18 x19) : Ev.Is n12 .u64 (z12 x0 x1 x2 x3 x4 x5 x6 x7 x8 x9 x10 x11 x12 x13 x14 x15 x16 x17 x18 x19) := I.i12
theorem is13 (I : In x0 x1 x2 x3 x4 x5 x6 x7 x8 x9 x10 x11 x12 x13 x14 x15 x16 x17 x18 x19) : Ev.Is n13 .i64 (z13 x0 x1 x2 x3 x4 x5 x6 x7 x8 x9 x10 x11 x12 x13 x14 x15 x16 x17 x18 x19) := I.i4
theorem is14 (I : In x0 x1 x2 x3 x4 x5 x6 x7 x8 x9 x10 x11 x12 x13 x14 x15 x16 x17 x18 x19) : Ev.Is n14 .i64 (z14 x0 x1 x2 x3 x4 x5 x6 x7 x8 x9 x10 x11 x12 x13 x14 x15 x16 x17 x18 x19) := I.i5
theorem is15 (I : In x0 x1 x2 x3 x4 x5 x6 x7 x8 x9 x10 x11 x12 x13 x14 x15 x16 x17 x18 x19) : Ev.Is n15 .i64 (z15 x0 x1 x2 x3 x4 x5 x6 x7 x8 x9 x10 x11 x12 x13 x14 x15 x16 x17 x18 x19) := I.i14
theorem is16 (_ : In x0 x1 x2 x3 x4 x5 x6 x7 x8 x9 x10 x11 x12 x13 x14 x15 x16 x17 x18 x19) : Ev.Is n16 .i64 (z16 x0 x1 x2 x3 x4 x5 x6 x7 x8 x9 x10 x11 x12 x13 x14 x15 x16 x17 x18 x19) := Ev.Is.lit _ _
theorem is17 (I : In x0 x1 x2 x3 x4 x5 x6 x7 x8 x9 x10 x11 x12 x13 x14 x15 x16 x17 x18 x19) : Ev.Is n17 .i64 (z17 x0 x1 x2 x3 x4 x5 x6 x7 x8 x9 x10 x11 x12 x13 x14 x15 x16 x17 x18 x19) := I.i15
theorem is18 (I : In x0 x1 x2 x3 x4 x5 x6 x7 x8 x9 x10 x11 x12 x13 x14 x15 x16 x17 x18 x19) : Ev.Is n18 .i64 (z18 x0 x1 x2 x3 x4 x5 x6 x7 x8 x9 x10 x11 x12 x13 x14 x15 x16 x17 x18 x19) := I.i16
theorem is19 (I : In x0 x1 x2 x3 x4 x5 x6 x7 x8 x9 x10 x11 x12 x13 x14 x15 x16 x17 x18 x19) : Ev.Is n19 .i64 (z19 x0 x1 x2 x3 x4 x5 x6 x7 x8 x9 x10 x11 x12 x13 x14 x15 x16 x17 x18 x19) := I.i17
theorem is20 (_ : In x0 x1 x2 x3 x4 x5 x6 x7 x8 x9 x10 x11 x12 x13 x14 x15 x16 x17 x18 x19) : Ev.Is n20 .i64 (z20 x0 x1 x2 x3 x4 x5 x6 x7 x8 x9 x10 x11 x12 x13 x14 x15 x16 x17 x18 x19) := Ev.Is.lit _ _
theorem is21 (I : In x0 x1 x2 x3 x4 x5 x6 x7 x8 x9 x10 x11 x12 x13 x14 x15 x16 x17 x18 x19) : Ev.Is n21 .i64 (z21 x0 x1 x2 x3 x4 x5 x6 x7 x8 x9 x10 x11 x12 x13 x14 x15 x16 x17 x18 x19) := I.i18
theorem is22 (I : In x0 x1 x2 x3 x4 x5 x6 x7 x8 x9 x10 x11 x12 x13 x14 x15 x16 x17 x18 x19) : Ev.Is n22 .i64 (z22 x0 x1 x2 x3 x4 x5 x6 x7 x8 x9 x10 x11 x12 x13 x14 x15 x16 x17 x18 x19) := I.i19
end
theorem mixed : Try.prog.follows .mixedOrders = true := by kernel_rfl
set_option maxRecDepth 1000000 in
theorem closed16 : Ev.run ⟨Try.prog, Ev.mkTT Try.prog, Ev.mkFT Try.prog, [], [], []⟩ 1000000 16 [] = some true := by kernel_rfl
abbrev Cs : List (FuncId × List Value × Value) := [(16, [], .bool true), (17, [.agg ⟨[Ev.inp .i64 0, Ev.inp .i64 1]⟩], .tuple ⟨[Ev.inp .u64 6, Ev.inp .i64 7]⟩), (17, [.agg ⟨[Ev.inp .i64 2, Ev.inp .i64 3]⟩], .tuple ⟨[Ev.inp .u64 8, Ev.inp .i64 9]⟩), (12, [Ev.inp .i64 4], .tuple ⟨[Ev.inp .u64 10, Ev.inp .i64 11]⟩), (12, [Ev.inp .i64 5], .tuple ⟨[Ev.inp .u64 12, Ev.inp .i64 13]⟩), (19, [Ev.nodeB .add (Ev.inp .u64 6) (.int .u64 1) .u64], Ev.inp .i64 14), (19, [Ev.nodeB .sub (Ev.inp .u64 6) (.int .u64 1) .u64], Ev.inp .i64 15), (19, [Ev.nodeB .or (Ev.inp .u64 6) (.int .u64 1099511627776) .u64], Ev.inp .i64 16), (19, [Ev.nodeB .add (Ev.inp .u64 10) (.int .u64 1) .u64], Ev.inp .i64 17), (19, [Ev.nodeB .sub (Ev.inp .u64 10) (.int .u64 1) .u64], Ev.inp .i64 18), (19, [Ev.nodeB .or (Ev.inp .u64 10) (.int .u64 1099511627776) .u64], Ev.inp .i64 19)]
abbrev Qs : List (TypeId × List IntKind) := [(30, [.i64, .i64])]
theorem qs30 : Ev.QOk Try.prog 30 [.i64, .i64] := by
  intro l m hl hm op x y w ho
  obtain ⟨a, b, rfl⟩ : ∃ a b, l = [a, b] := by
    match l, hl with
    | [a, b], _ => exact ⟨a, b, rfl⟩
  obtain ⟨c, d, rfl⟩ : ∃ c d, m = [c, d] := by
    match m, hm with
    | [c, d], _ => exact ⟨c, d, rfl⟩
  have u3 := Try.underlying3
  have a3 := Try.isAgg3
  have z3 := Try.sizeOf3
  have hS : Try.prog.underlying 30 = some (.struct (Try.prog.fieldsOf 30)) := by kernel_rfl
  have hp : Try.prog.stoodInHeld 30 = false := by kernel_rfl
  have hg : Try.prog.eqGuardType Try.prog.depth 30 = false := by kernel_rfl
  simp only [Ev.ints]
  rw [Sem.run_bind, run_eqGuard_agg w op 30 x y _ _ hg]
  rcases ho with rfl | rfl
  · simp only [Result.andThen_ok]
    rw [run_eql_struct, show (10000 : Nat) = 9999 + 1 from rfl, run_equalIn_agg w 9999 30 _ _ hS hp]
    simp only [Program.fieldsOf, Try.underlying30]
    go_simp
    by_cases h1 : a = c <;> by_cases h2 : b = d <;> simp [h1, h2]
  · simp only [Result.andThen_ok]
    rw [run_neq_struct, show (10000 : Nat) = 9999 + 1 from rfl, run_equalIn_agg w 9999 30 _ _ hS hp]
    simp only [Program.fieldsOf, Try.underlying30]
    go_simp
    by_cases h1 : a = c <;> by_cases h2 : b = d <;> simp [h1, h2]
theorem qs : ∀ t ks, Ev.lookQ t Qs = some ks → Ev.QOk Try.prog t ks := by
  intro t ks h
  by_cases h30 : t = 30
  · subst h30
    obtain rfl : _ = ks := Option.some.inj h
    exact qs30
  exfalso
  revert h
  simp only [Ev.lookQ]
  have e30 : Nat.beq t 30 = false := by
    cases hq : Nat.beq t 30 with
    | true => exact absurd (Nat.eq_of_beq_eq_true hq) h30
    | false => rfl
  rw [e30]
  simp
end Go.Proofs.Ytknifojinmnkfaa.headerApart
