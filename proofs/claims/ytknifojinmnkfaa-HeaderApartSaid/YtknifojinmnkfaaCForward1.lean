/-
  'shunterlaw04.CForward': its numbers: what the evaluator calls them, what they are. No project text.
-/
import Derived.Test.YtknifojinmnkfaaRows
import Derived.Test.YtknifojinmnkfaaSy
import Derived.Test.YtknifojinmnkfaaFrm
namespace Go.Proofs.Ytknifojinmnkfaa.cForward
open Go.ChangeShapes Go.WideShapes Go.ChangeAt Go.RowKit

def n0 : Value := .int .i64 (Int.ofNat 1)
def n1 : Value := Ev.inp .i64 0
def n2 : Value := .int .i64 (Int.ofNat 1600)
def n3 : Value := .int .u64 (Int.ofNat 0)
def n4 : Value := Ev.nodeC n1 .u64
def n5 : Value := .int .u64 (Int.ofNat 8)
def n6 : Value := Ev.nodeB .shl n4 n5 .u64
def n7 : Value := Ev.nodeB .add n3 n6 .u64
def n8 : Value := .int .u64 (Int.ofNat 2)
def n9 : Value := Ev.nodeB .add n7 n8 .u64
def n10 : Value := .int .i64 (Int.ofNat 0)
def n11 : Value := .int .i64 (Int.ofNat 7)
def z0 (_x0 : Int) : Int := (1 : Int)
def z1 (x0 : Int) : Int := x0
def z2 (_x0 : Int) : Int := (1600 : Int)
def z3 (_x0 : Int) : Int := (0 : Int)
def z4 (x0 : Int) : Int := (z1 x0) % 18446744073709551616
def z5 (_x0 : Int) : Int := (8 : Int)
def z6 (x0 : Int) : Int := (z4 x0 * 2 ^ 8) % 18446744073709551616
def z7 (x0 : Int) : Int := (z3 x0 + z6 x0) % 18446744073709551616
def z8 (_x0 : Int) : Int := (2 : Int)
def z9 (x0 : Int) : Int := (z7 x0 + z8 x0) % 18446744073709551616
def z10 (_x0 : Int) : Int := (0 : Int)
def z11 (_x0 : Int) : Int := (7 : Int)
structure In [Inhabited Ev.Val] (x0 : Int) : Prop where
  i0 : Ev.Is (Ev.inp .i64 0) .i64 x0
structure Bd (x0 : Int) : Prop where
  l0 : -9223372036854775808 ≤ x0
  u0 : x0 ≤ 9223372036854775807
section
variable [Inhabited Ev.Val] {x0 : Int}
theorem is0 (_ : In x0) : Ev.Is n0 .i64 (z0 x0) := Ev.Is.lit _ _
theorem is1 (I : In x0) : Ev.Is n1 .i64 (z1 x0) := I.i0
theorem is2 (_ : In x0) : Ev.Is n2 .i64 (z2 x0) := Ev.Is.lit _ _
theorem is3 (_ : In x0) : Ev.Is n3 .u64 (z3 x0) := Ev.Is.lit _ _
theorem is4 (I : In x0) : Ev.Is n4 .u64 (z4 x0) := Ev.is_conv_u64 (is1 I)
theorem is5 (_ : In x0) : Ev.Is n5 .u64 (z5 x0) := Ev.Is.lit _ _
theorem is6 (I : In x0) : Ev.Is n6 .u64 (z6 x0) := Ev.is_shl_u64 8 (by decide) (is4 I)
theorem is7 (I : In x0) : Ev.Is n7 .u64 (z7 x0) := Ev.is_add_u64 (is3 I) (is6 I)
theorem is8 (_ : In x0) : Ev.Is n8 .u64 (z8 x0) := Ev.Is.lit _ _
theorem is9 (I : In x0) : Ev.Is n9 .u64 (z9 x0) := Ev.is_add_u64 (is7 I) (is8 I)
theorem is10 (_ : In x0) : Ev.Is n10 .i64 (z10 x0) := Ev.Is.lit _ _
theorem is11 (_ : In x0) : Ev.Is n11 .i64 (z11 x0) := Ev.Is.lit _ _
end
theorem mixed : Try.prog.follows .mixedOrders = true := by kernel_rfl
abbrev Cs : List (FuncId × List Value × Value) := []
abbrev Qs : List (TypeId × List IntKind) := []
theorem cs [Inhabited Ev.Val] : Ev.CsOk Try.prog Cs := Ev.csOk_nil _
theorem qs : ∀ t ks, Ev.lookQ t Qs = some ks → Ev.QOk Try.prog t ks := fun _ _ h => by cases h
def r0 (x0 : Int) : Int := if z0 x0 ≤ z1 x0 then if z1 x0 ≤ z2 x0 then z9 x0 else z3 x0 else z3 x0
def r1 (x0 : Int) : Int := if z0 x0 ≤ z1 x0 then if z1 x0 ≤ z2 x0 then z10 x0 else z11 x0 else z11 x0
end Go.Proofs.Ytknifojinmnkfaa.cForward
