/-
  'shunterlaw04.CKind': its numbers: what the evaluator calls them, what they are. No project text.
-/
import Derived.Test.YtknifojinmnkfaaRows
import Derived.Test.YtknifojinmnkfaaSy
import Derived.Test.YtknifojinmnkfaaFrm
namespace Go.Proofs.Ytknifojinmnkfaa.cKind
open Go.ChangeShapes Go.WideShapes Go.ChangeAt Go.RowKit

def n0 : Value := Ev.inp .u64 0
def n1 : Value := .int .u64 (Int.ofNat 255)
def n2 : Value := Ev.nodeB .and n0 n1 .u64
def n3 : Value := .int .u64 (Int.ofNat 1)
def n4 : Value := .int .u64 (Int.ofNat 64)
def n5 : Value := .int .u64 (Int.ofNat 16)
def n6 : Value := Ev.nodeB .shr n0 n5 .u64
def n7 : Value := .int .u64 (Int.ofNat 2)
def n8 : Value := .int .i64 (Int.ofNat 0)
def n9 : Value := .int .u64 (Int.ofNat 8)
def n10 : Value := Ev.nodeB .shr n0 n9 .u64
def n11 : Value := Ev.nodeB .and n10 n1 .u64
def n12 : Value := Ev.nodeC n11 .i64
def n13 : Value := Ev.nodeC n6 .i64
def n14 : Value := .int .i64 (Int.ofNat 64)
def n15 : Value := .int .i64 (Int.ofNat 1)
def n16 : Value := Ev.nodeB .add n15 n12 .i64
def n17 : Value := Ev.nodeB .add n16 n13 .i64
def n18 : Value := .int .u64 (Int.ofNat 1600)
def n19 : Value := .int .i64 (Int.ofNat 2)
def z0 (x0 : Int) : Int := x0
def z1 (_x0 : Int) : Int := (255 : Int)
def z2 (x0 : Int) : Int := z0 x0 % 2 ^ 8
def z3 (_x0 : Int) : Int := (1 : Int)
def z4 (_x0 : Int) : Int := (64 : Int)
def z5 (_x0 : Int) : Int := (16 : Int)
def z6 (x0 : Int) : Int := z0 x0 / 2 ^ 16
def z7 (_x0 : Int) : Int := (2 : Int)
def z8 (_x0 : Int) : Int := (0 : Int)
def z9 (_x0 : Int) : Int := (8 : Int)
def z10 (x0 : Int) : Int := z0 x0 / 2 ^ 8
def z11 (x0 : Int) : Int := z10 x0 % 2 ^ 8
def z12 (x0 : Int) : Int := (z11 x0 + 9223372036854775808) % 18446744073709551616 - 9223372036854775808
def z13 (x0 : Int) : Int := (z6 x0 + 9223372036854775808) % 18446744073709551616 - 9223372036854775808
def z14 (_x0 : Int) : Int := (64 : Int)
def z15 (_x0 : Int) : Int := (1 : Int)
def z16 (x0 : Int) : Int := (z15 x0 + z12 x0 + 9223372036854775808) % 18446744073709551616 - 9223372036854775808
def z17 (x0 : Int) : Int := (z16 x0 + z13 x0 + 9223372036854775808) % 18446744073709551616 - 9223372036854775808
def z18 (_x0 : Int) : Int := (1600 : Int)
def z19 (_x0 : Int) : Int := (2 : Int)
structure In [Inhabited Ev.Val] (x0 : Int) : Prop where
  i0 : Ev.Is (Ev.inp .u64 0) .u64 x0
structure Bd (x0 : Int) : Prop where
  l0 : 0 ≤ x0
  u0 : x0 ≤ 18446744073709551615
section
variable [Inhabited Ev.Val] {x0 : Int}
theorem is0 (I : In x0) : Ev.Is n0 .u64 (z0 x0) := I.i0
theorem is1 (_ : In x0) : Ev.Is n1 .u64 (z1 x0) := Ev.Is.lit _ _
theorem is2 (I : In x0) : Ev.Is n2 .u64 (z2 x0) := Ev.is_and_u64 8 (by decide) (is0 I)
theorem is3 (_ : In x0) : Ev.Is n3 .u64 (z3 x0) := Ev.Is.lit _ _
theorem is4 (_ : In x0) : Ev.Is n4 .u64 (z4 x0) := Ev.Is.lit _ _
theorem is5 (_ : In x0) : Ev.Is n5 .u64 (z5 x0) := Ev.Is.lit _ _
theorem is6 (I : In x0) : Ev.Is n6 .u64 (z6 x0) := Ev.is_shr_u64 16 (by decide) (is0 I)
theorem is7 (_ : In x0) : Ev.Is n7 .u64 (z7 x0) := Ev.Is.lit _ _
theorem is8 (_ : In x0) : Ev.Is n8 .i64 (z8 x0) := Ev.Is.lit _ _
theorem is9 (_ : In x0) : Ev.Is n9 .u64 (z9 x0) := Ev.Is.lit _ _
theorem is10 (I : In x0) : Ev.Is n10 .u64 (z10 x0) := Ev.is_shr_u64 8 (by decide) (is0 I)
theorem is11 (I : In x0) : Ev.Is n11 .u64 (z11 x0) := Ev.is_and_u64 8 (by decide) (is10 I)
theorem is12 (I : In x0) : Ev.Is n12 .i64 (z12 x0) := Ev.is_conv_i64 (is11 I)
theorem is13 (I : In x0) : Ev.Is n13 .i64 (z13 x0) := Ev.is_conv_i64 (is6 I)
theorem is14 (_ : In x0) : Ev.Is n14 .i64 (z14 x0) := Ev.Is.lit _ _
theorem is15 (_ : In x0) : Ev.Is n15 .i64 (z15 x0) := Ev.Is.lit _ _
theorem is16 (I : In x0) : Ev.Is n16 .i64 (z16 x0) := Ev.is_add_i64 (is15 I) (is12 I)
theorem is17 (I : In x0) : Ev.Is n17 .i64 (z17 x0) := Ev.is_add_i64 (is16 I) (is13 I)
theorem is18 (_ : In x0) : Ev.Is n18 .u64 (z18 x0) := Ev.Is.lit _ _
theorem is19 (_ : In x0) : Ev.Is n19 .i64 (z19 x0) := Ev.Is.lit _ _
end
theorem mixed : Try.prog.follows .mixedOrders = true := by kernel_rfl
abbrev Cs : List (FuncId × List Value × Value) := []
abbrev Qs : List (TypeId × List IntKind) := []
theorem cs [Inhabited Ev.Val] : Ev.CsOk Try.prog Cs := Ev.csOk_nil _
theorem qs : ∀ t ks, Ev.lookQ t Qs = some ks → Ev.QOk Try.prog t ks := fun _ _ h => by cases h
def r0 (x0 : Int) : Int := if z2 x0 = z3 x0 then if z4 x0 ≤ z6 x0 then if z2 x0 = z7 x0 then 0 else z8 x0 else if z8 x0 ≤ z12 x0 then if z8 x0 ≤ z13 x0 then if z14 x0 ≤ z12 x0 then if z2 x0 = z7 x0 then 0 else z8 x0 else if z14 x0 ≤ z13 x0 then 0 else if z17 x0 ≤ z14 x0 then z15 x0 else if z2 x0 = z7 x0 then 0 else z8 x0 else 0 else 0 else if z2 x0 = z7 x0 then if z3 x0 ≤ z10 x0 then if z10 x0 ≤ z18 x0 then z19 x0 else z8 x0 else z8 x0 else z8 x0
end Go.Proofs.Ytknifojinmnkfaa.cKind
