/-
  'shunterlaw02.PWords': its numbers: what the evaluator calls them, what they are. No project text.
-/
import Derived.Test.YtffaikcaenkkhaaDoorRows
import Derived.Test.YtffaikcaenkkhaaDoorSy
import Derived.Test.YtffaikcaenkkhaaDoorFrm

namespace Go.Proofs.YtffaikcaenkkhaaDoor.pWords
open Go.ChangeShapes Go.WideShapes Go.ChangeAt Go.RowKit

def n0 : Value := Ev.inp .i64 5
def n1 : Value := .int .i64 (Int.ofNat 0)
def n2 : Value := .int .i64 (Int.ofNat 1)
def n3 : Value := Ev.inp .i64 2
def n4 : Value := Ev.nodeB .add n2 n3 .i64
def n5 : Value := Ev.inp .i64 1
def n6 : Value := Ev.inp .i64 0
def n7 : Value := Ev.nodeB .mul n5 n6 .i64
def n8 : Value := Ev.nodeB .add n4 n7 .i64
def z0 (_x0 _x1 _x2 _x3 _x4 x5 : Int) : Int := x5
def z1 (_x0 _x1 _x2 _x3 _x4 _x5 : Int) : Int := (0 : Int)
def z2 (_x0 _x1 _x2 _x3 _x4 _x5 : Int) : Int := (1 : Int)
def z3 (_x0 _x1 x2 _x3 _x4 _x5 : Int) : Int := x2
def z4 (x0 x1 x2 x3 x4 x5 : Int) : Int := (z2 x0 x1 x2 x3 x4 x5 + z3 x0 x1 x2 x3 x4 x5 + 9223372036854775808) % 18446744073709551616 - 9223372036854775808
def z5 (_x0 x1 _x2 _x3 _x4 _x5 : Int) : Int := x1
def z6 (x0 _x1 _x2 _x3 _x4 _x5 : Int) : Int := x0
def z7 (x0 x1 x2 x3 x4 x5 : Int) : Int := (z5 x0 x1 x2 x3 x4 x5 * z6 x0 x1 x2 x3 x4 x5 + 9223372036854775808) % 18446744073709551616 - 9223372036854775808
def z8 (x0 x1 x2 x3 x4 x5 : Int) : Int := (z4 x0 x1 x2 x3 x4 x5 + z7 x0 x1 x2 x3 x4 x5 + 9223372036854775808) % 18446744073709551616 - 9223372036854775808
structure In [Inhabited Ev.Val] (x0 x1 x2 x3 x4 x5 : Int) : Prop where
  i0 : Ev.Is (Ev.inp .i64 0) .i64 x0
  i1 : Ev.Is (Ev.inp .i64 1) .i64 x1
  i2 : Ev.Is (Ev.inp .i64 2) .i64 x2
  i3 : Ev.Is (Ev.inp .i64 3) .i64 x3
  i4 : Ev.Is (Ev.inp .i64 4) .i64 x4
  i5 : Ev.Is (Ev.inp .i64 5) .i64 x5
structure Bd (x0 x1 x2 x3 x4 x5 : Int) : Prop where
  l0 : -9223372036854775808 ≤ x0
  u0 : x0 ≤ 9223372036854775807
  l1 : -9223372036854775808 ≤ x1
  u1 : x1 ≤ 9223372036854775807
  l2 : -9223372036854775808 ≤ x2
  u2 : x2 ≤ 9223372036854775807
  l3 : -9223372036854775808 ≤ x3
  u3 : x3 ≤ 9223372036854775807
  l4 : -9223372036854775808 ≤ x4
  u4 : x4 ≤ 9223372036854775807
  l5 : -9223372036854775808 ≤ x5
  u5 : x5 ≤ 9223372036854775807
section
variable [Inhabited Ev.Val] {x0 x1 x2 x3 x4 x5 : Int}
theorem is0 (I : In x0 x1 x2 x3 x4 x5) : Ev.Is n0 .i64 (z0 x0 x1 x2 x3 x4 x5) := I.i5
theorem is1 (_ : In x0 x1 x2 x3 x4 x5) : Ev.Is n1 .i64 (z1 x0 x1 x2 x3 x4 x5) := Ev.Is.lit _ _
theorem is2 (_ : In x0 x1 x2 x3 x4 x5) : Ev.Is n2 .i64 (z2 x0 x1 x2 x3 x4 x5) := Ev.Is.lit _ _
theorem is3 (I : In x0 x1 x2 x3 x4 x5) : Ev.Is n3 .i64 (z3 x0 x1 x2 x3 x4 x5) := I.i2
theorem is4 (I : In x0 x1 x2 x3 x4 x5) : Ev.Is n4 .i64 (z4 x0 x1 x2 x3 x4 x5) := Ev.is_add_i64 (is2 I) (is3 I)
theorem is5 (I : In x0 x1 x2 x3 x4 x5) : Ev.Is n5 .i64 (z5 x0 x1 x2 x3 x4 x5) := I.i1
theorem is6 (I : In x0 x1 x2 x3 x4 x5) : Ev.Is n6 .i64 (z6 x0 x1 x2 x3 x4 x5) := I.i0
theorem is7 (I : In x0 x1 x2 x3 x4 x5) : Ev.Is n7 .i64 (z7 x0 x1 x2 x3 x4 x5) := Ev.is_mul_i64 (is5 I) (is6 I)
theorem is8 (I : In x0 x1 x2 x3 x4 x5) : Ev.Is n8 .i64 (z8 x0 x1 x2 x3 x4 x5) := Ev.is_add_i64 (is4 I) (is7 I)
end
theorem mixed : Tryd.prog.follows .mixedOrders = true := by kernel_rfl
abbrev Cs : List (FuncId × List Value × Value) := [(13, [.agg ⟨[Ev.inp .i64 0, Ev.inp .i64 1, Ev.inp .i64 2, Ev.inp .i64 3, Ev.inp .i64 4]⟩], Ev.inp .i64 5), (14, [.agg ⟨[Ev.inp .i64 0, Ev.inp .i64 1, Ev.inp .i64 2, Ev.inp .i64 3, Ev.inp .i64 4]⟩], Ev.inp .i64 5)]
abbrev Qs : List (TypeId × List IntKind) := [(23, [.i64, .i64, .i64, .i64, .i64])]
theorem qs23 : Ev.QOk Tryd.prog 23 [.i64, .i64, .i64, .i64, .i64] := by
  intro l m hl hm op x y w ho
  obtain ⟨aa0, aa1, aa2, aa3, aa4, rfl⟩ : ∃ aa0 aa1 aa2 aa3 aa4, l = [aa0, aa1, aa2, aa3, aa4] := by
    match l, hl with
    | [aa0, aa1, aa2, aa3, aa4], _ => exact ⟨aa0, aa1, aa2, aa3, aa4, rfl⟩
  obtain ⟨cc0, cc1, cc2, cc3, cc4, rfl⟩ : ∃ cc0 cc1 cc2 cc3 cc4, m = [cc0, cc1, cc2, cc3, cc4] := by
    match m, hm with
    | [cc0, cc1, cc2, cc3, cc4], _ => exact ⟨cc0, cc1, cc2, cc3, cc4, rfl⟩
  have u3 := Tryd.underlying3
  have a3 := Tryd.isAgg3
  have z3 := Tryd.sizeOf3
  have hS : Tryd.prog.underlying 23 = some (.struct (Tryd.prog.fieldsOf 23)) := by kernel_rfl
  have hp : Tryd.prog.stoodInHeld 23 = false := by kernel_rfl
  have hg : Tryd.prog.eqGuardType Tryd.prog.depth 23 = false := by kernel_rfl
  simp only [Ev.ints]
  rw [Sem.run_bind, run_eqGuard_agg w op 23 x y _ _ hg]
  rcases ho with rfl | rfl
  · simp only [Result.andThen_ok]
    rw [run_eql_struct, show (10000 : Nat) = 9999 + 1 from rfl, run_equalIn_agg w 9999 23 _ _ hS hp]
    simp only [Program.fieldsOf, Tryd.underlying23]
    go_simp
    by_cases h0 : aa0 = cc0 <;> by_cases h1 : aa1 = cc1 <;> by_cases h2 : aa2 = cc2 <;> by_cases h3 : aa3 = cc3 <;> by_cases h4 : aa4 = cc4 <;> simp [h0, h1, h2, h3, h4]
  · simp only [Result.andThen_ok]
    rw [run_neq_struct, show (10000 : Nat) = 9999 + 1 from rfl, run_equalIn_agg w 9999 23 _ _ hS hp]
    simp only [Program.fieldsOf, Tryd.underlying23]
    go_simp
    by_cases h0 : aa0 = cc0 <;> by_cases h1 : aa1 = cc1 <;> by_cases h2 : aa2 = cc2 <;> by_cases h3 : aa3 = cc3 <;> by_cases h4 : aa4 = cc4 <;> simp [h0, h1, h2, h3, h4]
theorem qs : ∀ t ks, Ev.lookQ t Qs = some ks → Ev.QOk Tryd.prog t ks := by
  intro t ks h
  by_cases h23 : t = 23
  · subst h23
    obtain rfl : _ = ks := Option.some.inj h
    exact qs23
  exfalso
  revert h
  simp only [Ev.lookQ]
  have e23 : Nat.beq t 23 = false := by
    cases hq : Nat.beq t 23 with
    | true => exact absurd (Nat.eq_of_beq_eq_true hq) h23
    | false => rfl
  rw [e23]
  simp
def r0 (x0 x1 x2 x3 x4 x5 : Int) : Int := if z0 x0 x1 x2 x3 x4 x5 = z1 x0 x1 x2 x3 x4 x5 then z8 x0 x1 x2 x3 x4 x5 else z1 x0 x1 x2 x3 x4 x5
def r1 (x0 x1 x2 x3 x4 x5 : Int) : Int := if z0 x0 x1 x2 x3 x4 x5 = z1 x0 x1 x2 x3 x4 x5 then z1 x0 x1 x2 x3 x4 x5 else z0 x0 x1 x2 x3 x4 x5
end Go.Proofs.YtffaikcaenkkhaaDoor.pWords
