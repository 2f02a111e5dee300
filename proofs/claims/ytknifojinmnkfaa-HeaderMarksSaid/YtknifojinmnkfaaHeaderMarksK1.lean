/-
  'shunterlaw04.HeaderMarksK': its numbers: what the evaluator calls them, what they are. No project text.
-/
import Derived.Test.YtknifojinmnkfaaRows
import Derived.Test.YtknifojinmnkfaaSy
import Derived.Test.YtknifojinmnkfaaFrm
namespace Go.Proofs.Ytknifojinmnkfaa.headerMarksK
open Go.ChangeShapes Go.WideShapes Go.ChangeAt Go.RowKit

def n0 : Value := .int .i64 (Int.ofNat 1)
def n1 : Value := Ev.inp .i64 0
def n2 : Value := .int .i64 (Int.ofNat 1600)
def n3 : Value := .int .u64 (Int.ofNat 0)
def n4 : Value := Ev.nodeC n1 .u64
def n5 : Value := .int .u64 (Int.ofNat 8)
def n6 : Value := Ev.nodeB .shl n4 n5 .u64
def n7 : Value := Ev.nodeB .add n3 n6 .u64
def n8 : Value := .int .u64 (Int.ofNat 2)
def n9 : Value := Ev.nodeB .add n7 n8 .u64
def n10 : Value := .int .u64 (Int.ofNat 256)
def n11 : Value := Ev.nodeB .mul n10 n4 .u64
def n12 : Value := Ev.nodeB .add n8 n11 .u64
def z0 (_x0 : Int) : Int := (1 : Int)
def z1 (x0 : Int) : Int := x0
def z2 (_x0 : Int) : Int := (1600 : Int)
def z3 (_x0 : Int) : Int := (0 : Int)
def z4 (x0 : Int) : Int := (z1 x0) % 18446744073709551616
def z5 (_x0 : Int) : Int := (8 : Int)
def z6 (x0 : Int) : Int := (z4 x0 * 2 ^ 8) % 18446744073709551616
def z7 (x0 : Int) : Int := (z3 x0 + z6 x0) % 18446744073709551616
def z8 (_x0 : Int) : Int := (2 : Int)
def z9 (x0 : Int) : Int := (z7 x0 + z8 x0) % 18446744073709551616
def z10 (_x0 : Int) : Int := (256 : Int)
def z11 (x0 : Int) : Int := (z10 x0 * z4 x0) % 18446744073709551616
def z12 (x0 : Int) : Int := (z8 x0 + z11 x0) % 18446744073709551616
structure In [Inhabited Ev.Val] (x0 : Int) : Prop where
  i0 : Ev.Is (Ev.inp .i64 0) .i64 x0
structure Bd (x0 : Int) : Prop where
  l0 : -9223372036854775808 ≤ x0
  u0 : x0 ≤ 9223372036854775807
section
variable [Inhabited Ev.Val] {x0 : Int}
theorem is0 (_ : In x0) : Ev.Is n0 .i64 (z0 x0) := Ev.Is.lit _ _
theorem is1 (I : In x0) : Ev.Is n1 .i64 (z1 x0) := I.i0
theorem is2 (_ : In x0) : Ev.Is n2 .i64 (z2 x0) := Ev.Is.lit _ _
theorem is3 (_ : In x0) : Ev.Is n3 .u64 (z3 x0) := Ev.Is.lit _ _
theorem is4 (I : In x0) : Ev.Is n4 .u64 (z4 x0) := Ev.is_conv_u64 (is1 I)
theorem is5 (_ : In x0) : Ev.Is n5 .u64 (z5 x0) := Ev.Is.lit _ _
theorem is6 (I : In x0) : Ev.Is n6 .u64 (z6 x0) := Ev.is_shl_u64 8 (by decide) (is4 I)
theorem is7 (I : In x0) : Ev.Is n7 .u64 (z7 x0) := Ev.is_add_u64 (is3 I) (is6 I)
theorem is8 (_ : In x0) : Ev.Is n8 .u64 (z8 x0) := Ev.Is.lit _ _
theorem is9 (I : In x0) : Ev.Is n9 .u64 (z9 x0) := Ev.is_add_u64 (is7 I) (is8 I)
theorem is10 (_ : In x0) : Ev.Is n10 .u64 (z10 x0) := Ev.Is.lit _ _
theorem is11 (I : In x0) : Ev.Is n11 .u64 (z11 x0) := Ev.is_mul_u64 (is10 I) (is4 I)
theorem is12 (I : In x0) : Ev.Is n12 .u64 (z12 x0) := Ev.is_add_u64 (is8 I) (is11 I)
end
theorem mixed : Try.prog.follows .mixedOrders = true := by kernel_rfl
set_option maxRecDepth 1000000 in
theorem closed16 : Ev.run ⟨Try.prog, Ev.mkTT Try.prog, Ev.mkFT Try.prog, [], [], []⟩ 1000000 16 [] = some true := by kernel_rfl
abbrev Cs : List (FuncId × Bool) := [(16, true)]
abbrev Qs : List (TypeId × List IntKind) := []
theorem cs : ∀ f b, Ev.lookC f Cs = some b → ∀ w, Calls Try.prog f #[] w fun e w' => e = .returned (.bool b) ∧ Below w.heap.size w w' := by
  intro f b h w
  by_cases h16 : f = 16
  · subst h16
    obtain rfl : true = b := Option.some.inj h
    exact Ev.run_closed mixed closed16 w
  exfalso
  revert h
  simp only [Ev.lookC]
  have e16 : Nat.beq f 16 = false := by
    cases hq : Nat.beq f 16 with
    | true => exact absurd (Nat.eq_of_beq_eq_true hq) h16
    | false => rfl
  rw [e16]
  simp
theorem qs : ∀ t ks, Ev.lookQ t Qs = some ks → Ev.QOk Try.prog t ks := fun _ _ h => by cases h
end Go.Proofs.Ytknifojinmnkfaa.headerMarksK
