/-
  'shunterlaw04.CPack': its numbers: what the evaluator calls them, what they are. No project text.
-/
import Derived.Test.YtknifojinmnkfaaRows
import Derived.Test.YtknifojinmnkfaaSy
import Derived.Test.YtknifojinmnkfaaFrm
namespace Go.Proofs.Ytknifojinmnkfaa.cPack
open Go.ChangeShapes Go.WideShapes Go.ChangeAt Go.RowKit

def n0 : Value := .int .i64 (Int.ofNat 0)
def n1 : Value := Ev.inp .i64 0
def n2 : Value := Ev.inp .i64 1
def n3 : Value := .int .i64 (Int.ofNat 64)
def n4 : Value := .int .u64 (Int.ofNat 0)
def n5 : Value := .int .i64 (Int.ofNat 11)
def n6 : Value := .int .i64 (Int.ofNat 1)
def n7 : Value := Ev.nodeB .add n6 n1 .i64
def n8 : Value := Ev.nodeB .add n7 n2 .i64
def n9 : Value := Ev.nodeC n2 .u64
def n10 : Value := .int .u64 (Int.ofNat 16)
def n11 : Value := Ev.nodeB .shl n9 n10 .u64
def n12 : Value := .int .u64 (Int.ofNat 1)
def n13 : Value := Ev.nodeB .add n11 n12 .u64
def n14 : Value := Ev.nodeB .add n4 n13 .u64
def n15 : Value := Ev.nodeC n1 .u64
def n16 : Value := .int .u64 (Int.ofNat 8)
def n17 : Value := Ev.nodeB .shl n15 n16 .u64
def n18 : Value := Ev.nodeB .add n14 n17 .u64
def n19 : Value := .int .i64 (Int.ofNat 7)
def z0 (_x0 _x1 : Int) : Int := (0 : Int)
def z1 (x0 _x1 : Int) : Int := x0
def z2 (_x0 x1 : Int) : Int := x1
def z3 (_x0 _x1 : Int) : Int := (64 : Int)
def z4 (_x0 _x1 : Int) : Int := (0 : Int)
def z5 (_x0 _x1 : Int) : Int := (11 : Int)
def z6 (_x0 _x1 : Int) : Int := (1 : Int)
def z7 (x0 x1 : Int) : Int := (z6 x0 x1 + z1 x0 x1 + 9223372036854775808) % 18446744073709551616 - 9223372036854775808
def z8 (x0 x1 : Int) : Int := (z7 x0 x1 + z2 x0 x1 + 9223372036854775808) % 18446744073709551616 - 9223372036854775808
def z9 (x0 x1 : Int) : Int := (z2 x0 x1) % 18446744073709551616
def z10 (_x0 _x1 : Int) : Int := (16 : Int)
def z11 (x0 x1 : Int) : Int := (z9 x0 x1 * 2 ^ 16) % 18446744073709551616
def z12 (_x0 _x1 : Int) : Int := (1 : Int)
def z13 (x0 x1 : Int) : Int := (z11 x0 x1 + z12 x0 x1) % 18446744073709551616
def z14 (x0 x1 : Int) : Int := (z4 x0 x1 + z13 x0 x1) % 18446744073709551616
def z15 (x0 x1 : Int) : Int := (z1 x0 x1) % 18446744073709551616
def z16 (_x0 _x1 : Int) : Int := (8 : Int)
def z17 (x0 x1 : Int) : Int := (z15 x0 x1 * 2 ^ 8) % 18446744073709551616
def z18 (x0 x1 : Int) : Int := (z14 x0 x1 + z17 x0 x1) % 18446744073709551616
def z19 (_x0 _x1 : Int) : Int := (7 : Int)
structure In [Inhabited Ev.Val] (x0 x1 : Int) : Prop where
  i0 : Ev.Is (Ev.inp .i64 0) .i64 x0
  i1 : Ev.Is (Ev.inp .i64 1) .i64 x1
structure Bd (x0 x1 : Int) : Prop where
  l0 : -9223372036854775808 ≤ x0
  u0 : x0 ≤ 9223372036854775807
  l1 : -9223372036854775808 ≤ x1
  u1 : x1 ≤ 9223372036854775807
section
variable [Inhabited Ev.Val] {x0 x1 : Int}
theorem is0 (_ : In x0 x1) : Ev.Is n0 .i64 (z0 x0 x1) := Ev.Is.lit _ _
theorem is1 (I : In x0 x1) : Ev.Is n1 .i64 (z1 x0 x1) := I.i0
theorem is2 (I : In x0 x1) : Ev.Is n2 .i64 (z2 x0 x1) := I.i1
theorem is3 (_ : In x0 x1) : Ev.Is n3 .i64 (z3 x0 x1) := Ev.Is.lit _ _
theorem is4 (_ : In x0 x1) : Ev.Is n4 .u64 (z4 x0 x1) := Ev.Is.lit _ _
theorem is5 (_ : In x0 x1) : Ev.Is n5 .i64 (z5 x0 x1) := Ev.Is.lit _ _
theorem is6 (_ : In x0 x1) : Ev.Is n6 .i64 (z6 x0 x1) := Ev.Is.lit _ _
theorem is7 (I : In x0 x1) : Ev.Is n7 .i64 (z7 x0 x1) := Ev.is_add_i64 (is6 I) (is1 I)
theorem is8 (I : In x0 x1) : Ev.Is n8 .i64 (z8 x0 x1) := Ev.is_add_i64 (is7 I) (is2 I)
theorem is9 (I : In x0 x1) : Ev.Is n9 .u64 (z9 x0 x1) := Ev.is_conv_u64 (is2 I)
theorem is10 (_ : In x0 x1) : Ev.Is n10 .u64 (z10 x0 x1) := Ev.Is.lit _ _
theorem is11 (I : In x0 x1) : Ev.Is n11 .u64 (z11 x0 x1) := Ev.is_shl_u64 16 (by decide) (is9 I)
theorem is12 (_ : In x0 x1) : Ev.Is n12 .u64 (z12 x0 x1) := Ev.Is.lit _ _
theorem is13 (I : In x0 x1) : Ev.Is n13 .u64 (z13 x0 x1) := Ev.is_add_u64 (is11 I) (is12 I)
theorem is14 (I : In x0 x1) : Ev.Is n14 .u64 (z14 x0 x1) := Ev.is_add_u64 (is4 I) (is13 I)
theorem is15 (I : In x0 x1) : Ev.Is n15 .u64 (z15 x0 x1) := Ev.is_conv_u64 (is1 I)
theorem is16 (_ : In x0 x1) : Ev.Is n16 .u64 (z16 x0 x1) := Ev.Is.lit _ _
theorem is17 (I : In x0 x1) : Ev.Is n17 .u64 (z17 x0 x1) := Ev.is_shl_u64 8 (by decide) (is15 I)
theorem is18 (I : In x0 x1) : Ev.Is n18 .u64 (z18 x0 x1) := Ev.is_add_u64 (is14 I) (is17 I)
theorem is19 (_ : In x0 x1) : Ev.Is n19 .i64 (z19 x0 x1) := Ev.Is.lit _ _
end
theorem mixed : Try.prog.follows .mixedOrders = true := by kernel_rfl
abbrev Cs : List (FuncId × List Value × Value) := []
abbrev Qs : List (TypeId × List IntKind) := [(30, [.i64, .i64])]
theorem cs [Inhabited Ev.Val] : Ev.CsOk Try.prog Cs := Ev.csOk_nil _
theorem qs30 : Ev.QOk Try.prog 30 [.i64, .i64] := by
  intro l m hl hm op x y w ho
  obtain ⟨a, b, rfl⟩ : ∃ a b, l = [a, b] := by
    match l, hl with
    | [a, b], _ => exact ⟨a, b, rfl⟩
  obtain ⟨c, d, rfl⟩ : ∃ c d, m = [c, d] := by
    match m, hm with
    | [c, d], _ => exact ⟨c, d, rfl⟩
  have u3 := Try.underlying3
  have a3 := Try.isAgg3
  have z3 := Try.sizeOf3
  have hS : Try.prog.underlying 30 = some (.struct (Try.prog.fieldsOf 30)) := by kernel_rfl
  have hp : Try.prog.stoodInHeld 30 = false := by kernel_rfl
  have hg : Try.prog.eqGuardType Try.prog.depth 30 = false := by kernel_rfl
  simp only [Ev.ints]
  rw [Sem.run_bind, run_eqGuard_agg w op 30 x y _ _ hg]
  rcases ho with rfl | rfl
  · simp only [Result.andThen_ok]
    rw [run_eql_struct, show (10000 : Nat) = 9999 + 1 from rfl, run_equalIn_agg w 9999 30 _ _ hS hp]
    simp only [Program.fieldsOf, Try.underlying30]
    go_simp
    by_cases h1 : a = c <;> by_cases h2 : b = d <;> simp [h1, h2]
  · simp only [Result.andThen_ok]
    rw [run_neq_struct, show (10000 : Nat) = 9999 + 1 from rfl, run_equalIn_agg w 9999 30 _ _ hS hp]
    simp only [Program.fieldsOf, Try.underlying30]
    go_simp
    by_cases h1 : a = c <;> by_cases h2 : b = d <;> simp [h1, h2]
theorem qs : ∀ t ks, Ev.lookQ t Qs = some ks → Ev.QOk Try.prog t ks := by
  intro t ks h
  by_cases h30 : t = 30
  · subst h30
    obtain rfl : _ = ks := Option.some.inj h
    exact qs30
  exfalso
  revert h
  simp only [Ev.lookQ]
  have e30 : Nat.beq t 30 = false := by
    cases hq : Nat.beq t 30 with
    | true => exact absurd (Nat.eq_of_beq_eq_true hq) h30
    | false => rfl
  rw [e30]
  simp
def r0 (x0 x1 : Int) : Int := if z0 x0 x1 ≤ z1 x0 x1 then if z0 x0 x1 ≤ z2 x0 x1 then if z3 x0 x1 ≤ z1 x0 x1 then z4 x0 x1 else if z3 x0 x1 ≤ z2 x0 x1 then z4 x0 x1 else if z8 x0 x1 ≤ z3 x0 x1 then z18 x0 x1 else z4 x0 x1 else z4 x0 x1 else z4 x0 x1
def r1 (x0 x1 : Int) : Int := if z0 x0 x1 ≤ z1 x0 x1 then if z0 x0 x1 ≤ z2 x0 x1 then if z3 x0 x1 ≤ z1 x0 x1 then z5 x0 x1 else if z3 x0 x1 ≤ z2 x0 x1 then z5 x0 x1 else if z8 x0 x1 ≤ z3 x0 x1 then z0 x0 x1 else z5 x0 x1 else z19 x0 x1 else z19 x0 x1
end Go.Proofs.Ytknifojinmnkfaa.cPack
