/-
  What the reference's 'Place' returns: a loop over the cars. CONDITIONS: numbers are of their kinds. No project text.
-/
import Derived.Test.YtffaikcaenkkhaaDoorGood
import Derived.Test.YtffaikcaenkkhaaDoorPSpace
import Derived.Test.YtffaikcaenkkhaaDoorRSpace
import Derived.Test.YtffaikcaenkkhaaDoorRWords
import Derived.WalkKit
import Derived.ProofKit
import Derived.OpenShut
import Derived.WalkSpells
import Derived.Handy
import Derived.Outline
import Derived.Lib.Hide
namespace Go.Proofs.YtffaikcaenkkhaaDoor.Places
open Go.ChangeShapes Go.WideShapes Go.ChangeAt Go.RowKit Go.Proofs.YtffaikcaenkkhaaDoor.Good

theorem via {W w1 w2 : World} (h1 : Below W.heap.size W w1) (h2 : Below w1.heap.size w1 w2) : Below W.heap.size W w2 := h1.trans (h2.mono h1.size)
theorem bcell {W w1 : World} (hb : Below W.heap.size W w1) : (∀ b o, b < W.heap.size → w1.cell? ⟨b, o, none⟩ = W.cell? ⟨b, o, none⟩) ∧ (∀ b o, b < W.heap.size → w1.frozen? ⟨b, o, none⟩ = W.frozen? ⟨b, o, none⟩) :=
  ⟨fun b o h => hb.cell (p := ⟨b, o, none⟩) h, fun b o h => hb.frozen (p := ⟨b, o, none⟩) h⟩
theorem in37 (n lo hi : Int) (b : Bool) (hb : b = decide (lo ≤ n ∧ n ≤ hi)) (w : World) :
    Calls Tryd.prog 37 #[.int .i64 n, .int .i64 lo, .int .i64 hi] w fun e w' => e = .returned (.bool b) ∧ w = w' := by
  by_cases k1 : lo ≤ n
  · by_cases k2 : n ≤ hi
    all_goals
      have H : Hid (b = decide (n ≤ hi)) := Lib.hid (by rw [hb]; simp [k1])
      clear hb
      go_enter Tryd.func37, Tryd.ntmps37
      go_wp2
      go_ret
      refine ⟨?_, rfl⟩
      rw [H.out]
      simp [k2]
  · have H : Hid (b = false) := Lib.hid (by rw [hb]; simp [k1])
    clear hb
    go_enter Tryd.func37, Tryd.ntmps37
    go_wp2
    go_ret
    refine ⟨?_, rfl⟩
    rw [H.out]
    rfl
section
variable {x0 x1 x2 x3 x4 : Int}
abbrev cfg (x0 x1 x2 x3 x4 : Int) : Value := .agg #[.int .i64 x0, .int .i64 x1, .int .i64 x2, .int .i64 x3, .int .i64 x4]
theorem nl {k : Int} (h : good x0 x1 x2 x3 x4) (h0 : 0 ≤ k) (h1 : k ≤ x1) : 0 ≤ k * x0 ∧ k * x0 ≤ x1 * x0 ∧ x1 * x0 ≤ 1536 ∧ 56 ≤ x1 * x0 ∧ (k + 1) * x0 = k * x0 + x0 := by
  obtain ⟨g1, g2, g3, g4, -⟩ := h
  have l1 : 7 * 8 ≤ x1 * x0 := Int.mul_le_mul g3 g1 (by omega) (by omega)
  have l2 : x1 * x0 ≤ 24 * 64 := Int.mul_le_mul g4 g2 (by omega) (by omega)
  have l3 : 0 ≤ k * x0 := Int.mul_nonneg h0 (by omega)
  have l4 : k * x0 ≤ x1 * x0 := Int.mul_le_mul_of_nonneg_right h1 (by omega)
  have l5 : (k + 1) * x0 = k * x0 + x0 := by rw [Int.add_mul, Int.one_mul]
  omega
/-- Where a space begins. -/
def at_ (x0 x2 k : Int) : Int := if k = -1 then 1 else 1 + x2 + k * x0
theorem space (h0 : In64 x0) (h1 : In64 x1) (h2 : In64 x2) (h3 : In64 x3) (h4 : In64 x4) (g : good x0 x1 x2 x3 x4) {k : Int} (k0 : -1 ≤ k) (k1 : k < x1) (w : World) :
    Calls Tryd.prog 25 #[cfg x0 x1 x2 x3 x4, .int .i64 k] w fun e w' => e = .returned (.tuple #[.int .i64 (at_ x0 x2 k), .int .i64 (at_ x0 x2 (k + 1)), .int .i64 0]) ∧ Below w.heap.size w w' := by
  have hc := chk_good g
  obtain ⟨g0, g1, g2, g3, g4, g5, g6, g7, g8, g9⟩ := id g
  have hk : In64 k := ⟨by omega, by omega⟩
  have B : rSpace.Bd x0 x1 x2 x3 x4 k (chk x0 x1 x2 x3 x4) := by
    have := chk_bd x0 x1 x2 x3 x4
    exact ⟨h0.1, h0.2, h1.1, h1.2, h2.1, h2.2, h3.1, h3.2, h4.1, h4.2, hk.1, hk.2, by omega, by omega⟩
  have C := rSpace.walk x0 x1 x2 x3 x4 k (chk x0 x1 x2 x3 x4) (fun I => Ev.csOk_cons (Good.cchk h0 h1 h2 h3 h4 I.i0 I.i1 I.i2 I.i3 I.i4 rfl I.i6 rfl) (Ev.csOk_cons (Good.rchk h0 h1 h2 h3 h4 I.i0 I.i1 I.i2 I.i3 I.i4 rfl I.i6 rfl) (Ev.csOk_nil _))) B w
  have e : rSpace.r0 x0 x1 x2 x3 x4 k (chk x0 x1 x2 x3 x4) = at_ x0 x2 k ∧ rSpace.r1 x0 x1 x2 x3 x4 k (chk x0 x1 x2 x3 x4) = at_ x0 x2 (k + 1) ∧ rSpace.r2 x0 x1 x2 x3 x4 k (chk x0 x1 x2 x3 x4) = 0 := by
    rw [hc]
    unfold at_
    by_cases hz : 0 ≤ k
    · obtain ⟨n1, n2, n3, n4, n5⟩ := nl g hz (by omega : k ≤ x1)
      have p1 : -1 ≤ k := k0
      have p2 : k ≤ (x1 - 1 + 9223372036854775808) % 18446744073709551616 - 9223372036854775808 := by omega
      refine ⟨?_, ?_, ?_⟩
      · unfold rSpace.r0
        rw [if_pos (c := rSpace.z0 x0 x1 x2 x3 x4 k 0 = rSpace.z1 x0 x1 x2 x3 x4 k 0) rfl, if_pos (c := rSpace.z2 x0 x1 x2 x3 x4 k 0 ≤ rSpace.z3 x0 x1 x2 x3 x4 k 0) p1, if_pos (c := rSpace.z3 x0 x1 x2 x3 x4 k 0 ≤ rSpace.z6 x0 x1 x2 x3 x4 k 0) p2, if_pos (c := rSpace.z1 x0 x1 x2 x3 x4 k 0 ≤ rSpace.z3 x0 x1 x2 x3 x4 k 0) hz]
        simp only [rSpace.z5, rSpace.z7, rSpace.z8, rSpace.z3, rSpace.z9, rSpace.z10, rSpace.z11]
        omega
      · unfold rSpace.r1
        rw [if_pos (c := rSpace.z0 x0 x1 x2 x3 x4 k 0 = rSpace.z1 x0 x1 x2 x3 x4 k 0) rfl, if_pos (c := rSpace.z2 x0 x1 x2 x3 x4 k 0 ≤ rSpace.z3 x0 x1 x2 x3 x4 k 0) p1, if_pos (c := rSpace.z3 x0 x1 x2 x3 x4 k 0 ≤ rSpace.z6 x0 x1 x2 x3 x4 k 0) p2, if_pos (c := rSpace.z1 x0 x1 x2 x3 x4 k 0 ≤ rSpace.z3 x0 x1 x2 x3 x4 k 0) hz]
        simp only [rSpace.z5, rSpace.z7, rSpace.z8, rSpace.z3, rSpace.z9, rSpace.z10, rSpace.z11, rSpace.z12]
        rw [n5]
        omega
      · unfold rSpace.r2
        rw [if_pos (c := rSpace.z0 x0 x1 x2 x3 x4 k 0 = rSpace.z1 x0 x1 x2 x3 x4 k 0) rfl, if_pos (c := rSpace.z2 x0 x1 x2 x3 x4 k 0 ≤ rSpace.z3 x0 x1 x2 x3 x4 k 0) p1, if_pos (c := rSpace.z3 x0 x1 x2 x3 x4 k 0 ≤ rSpace.z6 x0 x1 x2 x3 x4 k 0) p2, if_pos (c := rSpace.z1 x0 x1 x2 x3 x4 k 0 ≤ rSpace.z3 x0 x1 x2 x3 x4 k 0) hz]
        rfl
    · obtain rfl : k = -1 := by omega
      have p1 : (-1 : Int) ≤ -1 := by omega
      have p2 : (-1 : Int) ≤ (x1 - 1 + 9223372036854775808) % 18446744073709551616 - 9223372036854775808 := by omega
      refine ⟨?_, ?_, ?_⟩
      · unfold rSpace.r0
        rw [if_pos (c := rSpace.z0 x0 x1 x2 x3 x4 (-1) 0 = rSpace.z1 x0 x1 x2 x3 x4 (-1) 0) rfl, if_pos (c := rSpace.z2 x0 x1 x2 x3 x4 (-1) 0 ≤ rSpace.z3 x0 x1 x2 x3 x4 (-1) 0) p1, if_pos (c := rSpace.z3 x0 x1 x2 x3 x4 (-1) 0 ≤ rSpace.z6 x0 x1 x2 x3 x4 (-1) 0) p2, if_neg (c := rSpace.z1 x0 x1 x2 x3 x4 (-1) 0 ≤ rSpace.z3 x0 x1 x2 x3 x4 (-1) 0) hz]
        rfl
      · unfold rSpace.r1
        rw [if_pos (c := rSpace.z0 x0 x1 x2 x3 x4 (-1) 0 = rSpace.z1 x0 x1 x2 x3 x4 (-1) 0) rfl, if_pos (c := rSpace.z2 x0 x1 x2 x3 x4 (-1) 0 ≤ rSpace.z3 x0 x1 x2 x3 x4 (-1) 0) p1, if_pos (c := rSpace.z3 x0 x1 x2 x3 x4 (-1) 0 ≤ rSpace.z6 x0 x1 x2 x3 x4 (-1) 0) p2, if_neg (c := rSpace.z1 x0 x1 x2 x3 x4 (-1) 0 ≤ rSpace.z3 x0 x1 x2 x3 x4 (-1) 0) hz]
        simp only [rSpace.z5, rSpace.z7, rSpace.z8]
        rw [if_neg (by omega), show (-1 : Int) + 1 = 0 by omega, Int.zero_mul]
        omega
      · unfold rSpace.r2
        rw [if_pos (c := rSpace.z0 x0 x1 x2 x3 x4 (-1) 0 = rSpace.z1 x0 x1 x2 x3 x4 (-1) 0) rfl, if_pos (c := rSpace.z2 x0 x1 x2 x3 x4 (-1) 0 ≤ rSpace.z3 x0 x1 x2 x3 x4 (-1) 0) p1, if_pos (c := rSpace.z3 x0 x1 x2 x3 x4 (-1) 0 ≤ rSpace.z6 x0 x1 x2 x3 x4 (-1) 0) p2, if_neg (c := rSpace.z1 x0 x1 x2 x3 x4 (-1) 0 ≤ rSpace.z3 x0 x1 x2 x3 x4 (-1) 0) hz]
        rfl
  rw [e.1, e.2.1, e.2.2] at C
  exact C
end
end Go.Proofs.YtffaikcaenkkhaaDoor.Places
