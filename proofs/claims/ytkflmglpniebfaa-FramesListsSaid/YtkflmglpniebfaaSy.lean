/-
  Numbers that are not known, as the arithmetic that omega takes. No project text.
-/
import Derived.Test.YtkflmglpniebfaaSnd2
import Derived.Laws.StructEq
import Derived.Lib.SmallJoins
import Derived.Deep.Fields
namespace Go.Ev

theorem wrap_i64 (n : Int) : IntKind.i64.wrap n = (n + 9223372036854775808) % 18446744073709551616 - 9223372036854775808 := by
  unfold IntKind.wrap
  simp [IntKind.bits, IntKind.signed]
  split <;> omega
theorem wrap_u64 (n : Int) : IntKind.u64.wrap n = n % 18446744073709551616 := by
  unfold IntKind.wrap
  simp [IntKind.bits, IntKind.signed]

section
variable [Inhabited Val] {u v : Value} {a b : Int}
theorem is_conv {k j : IntKind} (hu : Is u k a) : Is (nodeC u j) j (j.wrap a) := by
  obtain ⟨f, hf⟩ := hu
  refine ⟨f + 1, ?_⟩
  show tagK j (sevC j (sev default f u)) = _
  rw [hf]
  exact tagK_int _ _
theorem is_conv_i64 {k : IntKind} (hu : Is u k a) : Is (nodeC u .i64) .i64 ((a + 9223372036854775808) % 18446744073709551616 - 9223372036854775808) := wrap_i64 a ▸ is_conv hu
theorem is_conv_u64 {k : IntKind} (hu : Is u k a) : Is (nodeC u .u64) .u64 (a % 18446744073709551616) := wrap_u64 a ▸ is_conv hu
theorem is_add {k : IntKind} (hu : Is u k a) (hv : Is v k b) : Is (nodeB .add u v k) k (k.wrap (a + b)) := nodeB_is hu hv rfl (by simp [binOp, Op.intArith, pureV, pure])
theorem is_sub {k : IntKind} (hu : Is u k a) (hv : Is v k b) : Is (nodeB .sub u v k) k (k.wrap (a - b)) := nodeB_is hu hv rfl (by simp [binOp, Op.intArith, pureV, pure])
theorem is_mul {k : IntKind} (hu : Is u k a) (hv : Is v k b) : Is (nodeB .mul u v k) k (k.wrap (a * b)) := nodeB_is hu hv rfl (by simp [binOp, Op.intArith, pureV, pure])
theorem is_add_i64 (hu : Is u .i64 a) (hv : Is v .i64 b) : Is (nodeB .add u v .i64) .i64 ((a + b + 9223372036854775808) % 18446744073709551616 - 9223372036854775808) := wrap_i64 _ ▸ is_add hu hv
theorem is_sub_i64 (hu : Is u .i64 a) (hv : Is v .i64 b) : Is (nodeB .sub u v .i64) .i64 ((a - b + 9223372036854775808) % 18446744073709551616 - 9223372036854775808) := wrap_i64 _ ▸ is_sub hu hv
theorem is_mul_i64 (hu : Is u .i64 a) (hv : Is v .i64 b) : Is (nodeB .mul u v .i64) .i64 ((a * b + 9223372036854775808) % 18446744073709551616 - 9223372036854775808) := wrap_i64 _ ▸ is_mul hu hv
theorem is_add_u64 (hu : Is u .u64 a) (hv : Is v .u64 b) : Is (nodeB .add u v .u64) .u64 ((a + b) % 18446744073709551616) := wrap_u64 _ ▸ is_add hu hv
theorem is_sub_u64 (hu : Is u .u64 a) (hv : Is v .u64 b) : Is (nodeB .sub u v .u64) .u64 ((a - b) % 18446744073709551616) := wrap_u64 _ ▸ is_sub hu hv
theorem is_mul_u64 (hu : Is u .u64 a) (hv : Is v .u64 b) : Is (nodeB .mul u v .u64) .u64 ((a * b) % 18446744073709551616) := wrap_u64 _ ▸ is_mul hu hv
theorem is_shl_u64 {k : IntKind} (n : Nat) (hn : n ≤ 64) (hu : Is u .u64 a) : Is (nodeB .shl u (.int k (Int.ofNat n)) .u64) .u64 ((a * 2 ^ n) % 18446744073709551616) := by
  rw [← wrap_u64]
  refine nodeB_is hu (.lit _ _) rfl ?_
  have h : ¬ (Int.ofNat n) < 0 := by simp
  have m : min (Int.ofNat n).toNat IntKind.u64.bits = n := by simp [IntKind.bits]; omega
  simp only [binOp, Op.shift, if_neg h, m]
  rfl
theorem is_shr_u64 {k : IntKind} (n : Nat) (hn : n ≤ 64) (hu : Is u .u64 a) : Is (nodeB .shr u (.int k (Int.ofNat n)) .u64) .u64 (a / 2 ^ n) := by
  refine nodeB_is hu (.lit _ _) rfl ?_
  have h : ¬ (Int.ofNat n) < 0 := by simp
  have m : min (Int.ofNat n).toNat IntKind.u64.bits = n := by simp [IntKind.bits]; omega
  have p : (0 : Int) ≤ 2 ^ n := Int.le_of_lt (Int.pow_pos (by omega))
  simp only [binOp, Op.shift, if_neg h, m]
  rw [Int.fdiv_eq_ediv_of_nonneg _ p]
  rfl
theorem is_and_u64 (n : Nat) (hn : n ≤ 64) (hu : Is u .u64 a) : Is (nodeB .and u (.int .u64 (Int.ofNat (2 ^ n - 1))) .u64) .u64 (a % 2 ^ n) := by
  refine nodeB_is hu (.lit _ _) rfl ?_
  have key : ((BitVec.ofInt 64 a &&& BitVec.ofInt 64 (Int.ofNat (2 ^ n - 1))).toNat : Int) = a % 2 ^ n := by
    have h2 : (2 ^ n : Nat) ≤ 2 ^ 64 := Nat.pow_le_pow_right (by omega) hn
    have hp : 0 < 2 ^ n := Nat.pow_pos (by omega)
    have e : BitVec.ofInt 64 (Int.ofNat (2 ^ n - 1)) = BitVec.ofNat 64 (2 ^ n - 1) := by
      apply BitVec.eq_of_toNat_eq
      simp
    rw [e, BitVec.toNat_and, BitVec.toNat_ofNat, Nat.mod_eq_of_lt (by omega : 2 ^ n - 1 < 2 ^ 64), Nat.and_two_pow_sub_one_eq_mod, BitVec.toNat_ofInt]
    have hd : ((2 ^ n : Nat) : Int) ∣ ((2 ^ 64 : Nat) : Int) := Int.natCast_dvd_natCast.2 (Nat.pow_dvd_pow 2 hn)
    rw [Int.natCast_emod, Int.toNat_of_nonneg (Int.emod_nonneg _ (by simp)), Int.emod_emod_of_dvd _ hd]
    simp
  have hw : IntKind.u64.wrap ((BitVec.ofInt 64 a &&& BitVec.ofInt 64 (Int.ofNat (2 ^ n - 1))).toNat : Int) = a % 2 ^ n := by
    rw [wrap_u64, Int.emod_eq_of_lt (by omega) (by have := (BitVec.ofInt 64 a &&& BitVec.ofInt 64 (Int.ofNat (2 ^ n - 1))).isLt; omega), key]
  simp only [binOp, Op.intBits, IntKind.bits]
  exact congrArg (fun z => some (Value.int .u64 z)) hw
end

section
variable [Inhabited Val] {S : Sig} {u v : Value} {k : IntKind} {x : Int}
theorem is_inv (h : VR S u v) (hi : Is u k x) : v = .int k x := by
  cases h with
  | int k' n =>
    obtain ⟨rfl, rfl⟩ := hi.same (.lit _ _)
    rfl
  | sym h =>
    obtain ⟨rfl, rfl⟩ := hi.same h
    rfl
  | _ =>
    exfalso
    obtain ⟨f, hf⟩ := hi
    cases f <;> cases hf
theorem inv1 {y : Int} (h : VR S u v) (hi : Is u k x) (e : y = x) : v = .int k y := e ▸ is_inv h hi
theorem inv2 {a b : Value} {j : IntKind} {x' y y' : Int} (h : VR S (.tuple ⟨[a, b]⟩) v) (ha : Is a k x) (hb : Is b j x') (e : y = x) (e' : y' = x') : v = .tuple ⟨[.int k y, .int j y']⟩ := by
  cases h with
  | tuple hl hi =>
    rename_i l
    match l, hl with
    | [c, d], _ =>
      rw [is_inv (hi 0 _ _ rfl rfl) ha, is_inv (hi 1 _ _ rfl rfl) hb, e, e']
theorem inv3 {a b c : Value} {j i : IntKind} {x' y y' x2 y2 : Int} (h : VR S (.tuple ⟨[a, b, c]⟩) v) (ha : Is a k x) (hb : Is b j x') (hc : Is c i x2) (e : y = x) (e' : y' = x') (e2 : y2 = x2) : v = .tuple ⟨[.int k y, .int j y', .int i y2]⟩ := by
  cases h with
  | tuple hl hi =>
    rename_i l
    match l, hl with
    | [p, q, r], _ =>
      rw [is_inv (hi 0 _ _ rfl rfl) ha, is_inv (hi 1 _ _ rfl rfl) hb, is_inv (hi 2 _ _ rfl rfl) hc, e, e', e2]
theorem is_or_u64 {a : Int} (n : Nat) (hn : n < 64) (hu : Is u .u64 a) (h0 : 0 ≤ a) (h1 : a < 2 ^ n) : Is (nodeB .or u (.int .u64 (Int.ofNat (2 ^ n))) .u64) .u64 (a + 2 ^ n) := by
  refine nodeB_is hu (.lit _ _) rfl ?_
  obtain ⟨m, rfl⟩ := Int.eq_ofNat_of_zero_le h0
  have hm : m < 2 ^ n := by exact_mod_cast h1
  have h2 : 2 ^ n ≤ 2 ^ 63 := Nat.pow_le_pow_right (by omega) (by omega)
  have key : (BitVec.ofInt 64 (m : Int) ||| BitVec.ofInt 64 (Int.ofNat (2 ^ n))).toNat = m + 2 ^ n := by
    have e1 : BitVec.ofInt 64 (m : Int) = BitVec.ofNat 64 m := by
      apply BitVec.eq_of_toNat_eq
      simp
    have e2 : BitVec.ofInt 64 (Int.ofNat (2 ^ n)) = BitVec.ofNat 64 (2 ^ n) := by
      generalize 2 ^ n = q
      apply BitVec.eq_of_toNat_eq
      simp
    rw [e1, e2, BitVec.toNat_or, BitVec.toNat_ofNat, BitVec.toNat_ofNat, Nat.mod_eq_of_lt (by omega : m < 2 ^ 64), Nat.mod_eq_of_lt (by omega : 2 ^ n < 2 ^ 64), Nat.or_comm]
    have := Nat.two_pow_add_eq_or_of_lt hm 1
    rw [Nat.mul_one] at this
    omega
  have hw : IntKind.u64.wrap ((BitVec.ofInt 64 (m : Int) ||| BitVec.ofInt 64 (Int.ofNat (2 ^ n))).toNat : Int) = (m : Int) + 2 ^ n := by
    rw [key, wrap_u64, Int.emod_eq_of_lt (by omega) (by omega)]
    simp
  simp only [binOp, Op.intBits, IntKind.bits]
  exact congrArg (fun z => some (Value.int .u64 z)) hw
end

section
variable [Inhabited Val] {u : Value} {a : Int}
omit [Inhabited Val] in
theorem tdiv_pos (a : Int) {m : Int} : a.tdiv m = if 0 ≤ a then a / m else -((-a) / m) := by
  split
  · rename_i h; exact Int.tdiv_eq_ediv_of_nonneg h
  · rename_i h
    have h1 : (-a).tdiv m = (-a) / m := Int.tdiv_eq_ediv_of_nonneg (by omega)
    rw [← h1, Int.neg_tdiv, Int.neg_neg]
theorem is_quo_i64 (n : Nat) (m : Int) (h : m = Int.ofNat n) (hn : 0 < m) (hu : Is u .i64 a) : Is (nodeB .quo u (.int .i64 (Int.ofNat n)) .i64) .i64 (((if 0 ≤ a then a / m else -((-a) / m)) + 9223372036854775808) % 18446744073709551616 - 9223372036854775808) := by
  subst h
  rw [← wrap_i64, ← tdiv_pos a]
  refine nodeB_is hu (.lit _ _) rfl ?_
  have h0 : ¬ (Int.ofNat n) = 0 := by omega
  simp only [binOp, Op.intDiv, if_neg h0]
  rfl
end
theorem nl_mul {N C y3 y4 y5 a a' b b' : Int} (e3 : y3 = N) (e4 : y4 = C) (e5 : y5 = (y3 * y4 + 9223372036854775808) % 18446744073709551616 - 9223372036854775808)
    (h1 : a ≤ N) (h2 : N ≤ a') (h3 : b ≤ C) (h4 : C ≤ b') (h5 : 0 ≤ a) (h6 : 0 ≤ b) (h7 : a' * b' < 9223372036854775808) : y5 = N * C ∧ a * b ≤ N * C ∧ N * C ≤ a' * b' := by
  have l1 : a * b ≤ N * C := Int.mul_le_mul h1 h3 h6 (by omega)
  have l2 : N * C ≤ a' * b' := Int.mul_le_mul h2 h4 (by omega) (by omega)
  have l3 : 0 ≤ a * b := Int.mul_nonneg h5 h6
  subst e3 e4
  generalize y3 * y4 = p at *
  generalize a * b = q at *
  generalize a' * b' = r at *
  omega
theorem dt {p : Prop} [Decidable p] (h : p) : true = decide p := (decide_eq_true h).symm
theorem df {p : Prop} [Decidable p] (h : ¬ p) : false = decide p := (decide_eq_false h).symm
end Go.Ev
namespace Go.Ev
open Go.ChangeShapes Go.WideShapes Go.Joins Go.RowKit
/-- A struct of one-cell fields, by value: its cells, each with its reading. -/
theorem open_fields {H : Type} {enc : TypeId × Value → H} {P : Program} {w : World} {base : Nat} {spare : Nat → Bool} {held : Bool} {r : Reach} {b0 : Nat} {t : TypeId} {fs : Array Field} {v : Value} {d : DataW H} {p : List MemPlace}
    (hs : P.underlying t = some (.struct fs)) (hone : Deep.oneCellFields P fs = true) (hC : P.cellsOf t = fs.size) (hv : Value.okWide P w r b0 t v) (h : DataW.Trod enc P w base spare held t v d p) :
    ∃ (vs : List Value) (_ : List (DataW H × List MemPlace)) (n : Nat), v = .agg ⟨vs⟩ ∧ vs.length = fs.size ∧ ∀ (j : Nat) (f : Field), fs[j]? = some f → ∃ u y, vs[j]? = some u ∧ DataW.trod enc P w base spare held n f.type [u] = some y := by
  obtain ⟨⟨vs⟩, rfl, hsz⟩ := okWide_struct hs hv
  obtain ⟨fuel, hf⟩ := h
  obtain ⟨ys, n, -, -, -, hlen, hg⟩ := DataW.trod_struct hs hf
  have hl : vs.length = fs.size := by simpa using hsz.trans hC
  refine ⟨vs, ys, n, rfl, hl, fun j f hj => ?_⟩
  obtain ⟨h0, h1⟩ := Deep.hone_of hone j f hj
  have hjl : j < vs.length := by rw [hl]; exact (Array.getElem?_eq_some_iff.1 hj).1
  have hjy : j < ys.length := by rw [hlen]; exact (Array.getElem?_eq_some_iff.1 hj).1
  have h2 := hg j f hj
  rw [h0, h1, List.getElem?_eq_getElem hjy] at h2
  refine ⟨vs[j], ys[j], List.getElem?_eq_getElem hjl, ?_⟩
  have h3 : (List.drop j vs).take 1 = [vs[j]] := by rw [List.drop_eq_getElem_cons hjl]; rfl
  rw [← h3]
  simpa [Value.cells] using h2
end Go.Ev
