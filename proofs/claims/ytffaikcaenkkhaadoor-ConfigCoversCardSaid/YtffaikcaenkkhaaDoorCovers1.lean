/-
  What 'Space', 'Place', 'Car' and 'Address' return for the addresses of a space of a good config. CONDITIONS: numbers are of their kinds. No project text.
-/
import Derived.Test.YtffaikcaenkkhaaDoorPlaces5
import Derived.Test.YtffaikcaenkkhaaDoorPAddr
namespace Go.Proofs.YtffaikcaenkkhaaDoor.Places
open Go.ChangeShapes Go.WideShapes Go.ChangeAt Go.RowKit Go.Proofs.YtffaikcaenkkhaaDoor.Good

section
variable {x0 x1 x2 x3 x4 : Int}
theorem s_at (g : good x0 x1 x2 x3 x4) {k : Int} (k0 : -1 ≤ k) (k1 : k < x1) : S0 x0 x1 x2 x3 x4 k = at_ x0 x2 k ∧ S1 x0 x1 x2 x3 x4 k = at_ x0 x2 (k + 1) ∧ S2 x0 x1 x2 x3 x4 k = 0 := by
  unfold S0 S1 S2
  rw [chk_good g]
  obtain ⟨g0, g1, g2, g3, g4, g5, g6, g7, g8, g9⟩ := id g
  unfold at_
  by_cases hz : 0 ≤ k
  · obtain ⟨n1, n2, n3, n4, n5⟩ := nl g hz (by omega : k ≤ x1)
    have p1 : -1 ≤ k := k0
    have p2 : k ≤ (x1 - 1 + 9223372036854775808) % 18446744073709551616 - 9223372036854775808 := by omega
    refine ⟨?_, ?_, ?_⟩
    · unfold rSpace.r0
      rw [if_pos (c := rSpace.z0 x0 x1 x2 x3 x4 k 0 = rSpace.z1 x0 x1 x2 x3 x4 k 0) rfl, if_pos (c := rSpace.z2 x0 x1 x2 x3 x4 k 0 ≤ rSpace.z3 x0 x1 x2 x3 x4 k 0) p1, if_pos (c := rSpace.z3 x0 x1 x2 x3 x4 k 0 ≤ rSpace.z6 x0 x1 x2 x3 x4 k 0) p2, if_pos (c := rSpace.z1 x0 x1 x2 x3 x4 k 0 ≤ rSpace.z3 x0 x1 x2 x3 x4 k 0) hz]
      simp only [rSpace.z5, rSpace.z7, rSpace.z8, rSpace.z3, rSpace.z9, rSpace.z10, rSpace.z11]
      omega
    · unfold rSpace.r1
      rw [if_pos (c := rSpace.z0 x0 x1 x2 x3 x4 k 0 = rSpace.z1 x0 x1 x2 x3 x4 k 0) rfl, if_pos (c := rSpace.z2 x0 x1 x2 x3 x4 k 0 ≤ rSpace.z3 x0 x1 x2 x3 x4 k 0) p1, if_pos (c := rSpace.z3 x0 x1 x2 x3 x4 k 0 ≤ rSpace.z6 x0 x1 x2 x3 x4 k 0) p2, if_pos (c := rSpace.z1 x0 x1 x2 x3 x4 k 0 ≤ rSpace.z3 x0 x1 x2 x3 x4 k 0) hz]
      simp only [rSpace.z5, rSpace.z7, rSpace.z8, rSpace.z3, rSpace.z9, rSpace.z10, rSpace.z11, rSpace.z12]
      rw [n5]
      omega
    · unfold rSpace.r2
      rw [if_pos (c := rSpace.z0 x0 x1 x2 x3 x4 k 0 = rSpace.z1 x0 x1 x2 x3 x4 k 0) rfl, if_pos (c := rSpace.z2 x0 x1 x2 x3 x4 k 0 ≤ rSpace.z3 x0 x1 x2 x3 x4 k 0) p1, if_pos (c := rSpace.z3 x0 x1 x2 x3 x4 k 0 ≤ rSpace.z6 x0 x1 x2 x3 x4 k 0) p2, if_pos (c := rSpace.z1 x0 x1 x2 x3 x4 k 0 ≤ rSpace.z3 x0 x1 x2 x3 x4 k 0) hz]
      rfl
  · obtain rfl : k = -1 := by omega
    have p1 : (-1 : Int) ≤ -1 := by omega
    have p2 : (-1 : Int) ≤ (x1 - 1 + 9223372036854775808) % 18446744073709551616 - 9223372036854775808 := by omega
    refine ⟨?_, ?_, ?_⟩
    · unfold rSpace.r0
      rw [if_pos (c := rSpace.z0 x0 x1 x2 x3 x4 (-1) 0 = rSpace.z1 x0 x1 x2 x3 x4 (-1) 0) rfl, if_pos (c := rSpace.z2 x0 x1 x2 x3 x4 (-1) 0 ≤ rSpace.z3 x0 x1 x2 x3 x4 (-1) 0) p1, if_pos (c := rSpace.z3 x0 x1 x2 x3 x4 (-1) 0 ≤ rSpace.z6 x0 x1 x2 x3 x4 (-1) 0) p2, if_neg (c := rSpace.z1 x0 x1 x2 x3 x4 (-1) 0 ≤ rSpace.z3 x0 x1 x2 x3 x4 (-1) 0) hz]
      rfl
    · unfold rSpace.r1
      rw [if_pos (c := rSpace.z0 x0 x1 x2 x3 x4 (-1) 0 = rSpace.z1 x0 x1 x2 x3 x4 (-1) 0) rfl, if_pos (c := rSpace.z2 x0 x1 x2 x3 x4 (-1) 0 ≤ rSpace.z3 x0 x1 x2 x3 x4 (-1) 0) p1, if_pos (c := rSpace.z3 x0 x1 x2 x3 x4 (-1) 0 ≤ rSpace.z6 x0 x1 x2 x3 x4 (-1) 0) p2, if_neg (c := rSpace.z1 x0 x1 x2 x3 x4 (-1) 0 ≤ rSpace.z3 x0 x1 x2 x3 x4 (-1) 0) hz]
      simp only [rSpace.z5, rSpace.z7, rSpace.z8]
      rw [if_neg (by omega), show (-1 : Int) + 1 = 0 by omega, Int.zero_mul]
      omega
    · unfold rSpace.r2
      rw [if_pos (c := rSpace.z0 x0 x1 x2 x3 x4 (-1) 0 = rSpace.z1 x0 x1 x2 x3 x4 (-1) 0) rfl, if_pos (c := rSpace.z2 x0 x1 x2 x3 x4 (-1) 0 ≤ rSpace.z3 x0 x1 x2 x3 x4 (-1) 0) p1, if_pos (c := rSpace.z3 x0 x1 x2 x3 x4 (-1) 0 ≤ rSpace.z6 x0 x1 x2 x3 x4 (-1) 0) p2, if_neg (c := rSpace.z1 x0 x1 x2 x3 x4 (-1) 0 ≤ rSpace.z3 x0 x1 x2 x3 x4 (-1) 0) hz]
      rfl
theorem at_bd (g : good x0 x1 x2 x3 x4) {k : Int} (k0 : -1 ≤ k) (k1 : k < x1) : 1 ≤ at_ x0 x2 k ∧ at_ x0 x2 k < at_ x0 x2 (k + 1) ∧ at_ x0 x2 (k + 1) ≤ 1 + x2 + x1 * x0 ∧ 1 + x2 + x1 * x0 ≤ 1601 := by
  obtain ⟨n1, n2, n3, n4, n5⟩ := nl (k := k + 1) g (by omega) (by omega)
  obtain ⟨g0, g1, g2, g3, g4, g5, -⟩ := id g
  unfold at_
  by_cases h : k = -1
  · subst h
    rw [if_pos rfl, if_neg (by omega)]
    rw [show (-1 : Int) + 1 = 0 by omega, Int.zero_mul] at *
    omega
  · obtain ⟨m1, m2, m3, m4, m5⟩ := nl (k := k) g (by omega) (by omega)
    rw [if_neg h, if_neg (by omega)]
    rw [m5] at n1 n2 ⊢
    clear m5 n5
    generalize k * x0 = m at *
    generalize x1 * x0 = n at *
    omega
theorem p_at (g : good x0 x1 x2 x3 x4) {k a : Int} (k0 : -1 ≤ k) (k1 : k < x1) (l : at_ x0 x2 k ≤ a) (u : a < at_ x0 x2 (k + 1)) : PC x0 x1 x2 x3 x4 a = k ∧ PO x0 x1 x2 x3 x4 a = a - at_ x0 x2 k ∧ PE x0 x1 x2 x3 x4 a = 0 := by
  obtain ⟨b1, b2, b3, b4⟩ := at_bd g k0 k1
  have hE : PE x0 x1 x2 x3 x4 a = 0 := by unfold PE; rw [if_pos (chk_good g), if_pos ⟨by omega, by omega⟩]
  obtain ⟨c1, c2⟩ := at_car (x0 := x0) (x2 := x2) (by have := g.1; omega) k0 l u
  refine ⟨?_, ?_, hE⟩
  · unfold PC; rw [if_pos hE, c1]
  · unfold PO; rw [if_pos hE, c2]
theorem p_out (g : good x0 x1 x2 x3 x4) {a : Int} (h : ¬ (1 ≤ a ∧ a < 1 + x2 + x1 * x0)) : PC x0 x1 x2 x3 x4 a = 0 ∧ PE x0 x1 x2 x3 x4 a = 7 := by
  have hE : PE x0 x1 x2 x3 x4 a = 7 := by unfold PE; rw [if_pos (chk_good g), if_neg h]
  refine ⟨?_, hE⟩
  unfold PC; rw [hE]; rfl
abbrev Cr (x0 x1 x2 x3 x4 a p e : Int) (w : World) : Prop := Calls Tryd.prog 26 #[.agg #[.int .i64 x0, .int .i64 x1, .int .i64 x2, .int .i64 x3, .int .i64 x4], .int .i64 a] w fun e' w' => e' = .returned (.tuple #[.int .i64 p, .int .i64 e]) ∧ Below w.heap.size w w'
set_option maxRecDepth 100000 in
set_option maxHeartbeats 4000000 in
theorem car26 {a p q c : Int} (HP : Hid (∀ w, Pl 28 x0 x1 x2 x3 x4 a p q c w)) (w : World) : Cr x0 x1 x2 x3 x4 a p c w := by
  go_enter Tryd.func26, Tryd.ntmps26
  go_wp2_with fail
  refine (HP.out _).mono ?_
  rintro e w1 ⟨rfl, hB⟩
  have HB : Hid (Below (w.heap.size + 1) (w.alloc (.cells #[.int .i64 x0, .int .i64 x1, .int .i64 x2, .int .i64 x3, .int .i64 x4] 23)) w1) := Lib.hid (by simpa using hB)
  clear hB
  go_wp2
  go_returns
  exact ⟨rfl, fin HB.out⟩
abbrev Ad (x0 x1 x2 x3 x4 k o a e : Int) (w : World) : Prop := Calls Tryd.prog 30 #[.agg #[.int .i64 x0, .int .i64 x1, .int .i64 x2, .int .i64 x3, .int .i64 x4], .int .i64 k, .int .i64 o] w fun e' w' => e' = .returned (.tuple #[.int .i64 a, .int .i64 e]) ∧ Below w.heap.size w w'
theorem addr30 (h0 : In64 x0) (h1 : In64 x1) (h2 : In64 x2) (h3 : In64 x3) (h4 : In64 x4) (g : good x0 x1 x2 x3 x4) {k o : Int} (k0 : -1 ≤ k) (k1 : k < x1) (o0 : 0 ≤ o) (w : World) :
    (o < at_ x0 x2 (k + 1) - at_ x0 x2 k → Ad x0 x1 x2 x3 x4 k o (at_ x0 x2 k + o) 0 w) ∧ (o = at_ x0 x2 (k + 1) - at_ x0 x2 k → Ad x0 x1 x2 x3 x4 k o 0 7 w) := by
  obtain ⟨b1, b2, b3, b4⟩ := at_bd g k0 k1
  have hk : In64 k := by obtain ⟨g0, g1, g2, g3, g4, g5, -⟩ := id g; omega
  obtain ⟨e0, e1, e2⟩ := s_at g k0 k1
  have C := fun w => (space_any h0 h1 h2 h3 h4 hk w).1
  rw [e0, e1, e2] at C
  have W := fun (io : In64 o) => pAddr.walk x0 x1 x2 x3 x4 k o (at_ x0 x2 k) (at_ x0 x2 (k + 1)) 0 (fun I => Ev.csOk_cons (pl_c C I.i0 I.i1 I.i2 I.i3 I.i4 I.i5 I.i7 I.i8 I.i9) (Ev.csOk_nil _)) ⟨h0.1, h0.2, h1.1, h1.2, h2.1, h2.2, h3.1, h3.2, h4.1, h4.2, hk.1, hk.2, io.1, io.2, by omega, by omega, by omega, by omega, by omega, by omega⟩ w
  constructor
  · intro ho
    have P := W ⟨by omega, by omega⟩
    generalize at_ x0 x2 k = s at *
    generalize at_ x0 x2 (k + 1) = t at *
    have q1 : ¬ (t - s + 9223372036854775808) % 18446744073709551616 - 9223372036854775808 ≤ o := by omega
    have r0 : pAddr.r0 x0 x1 x2 x3 x4 k o s t 0 = s + o := by
      unfold pAddr.r0
      rw [if_pos (c := pAddr.z0 x0 x1 x2 x3 x4 k o s t 0 = pAddr.z1 x0 x1 x2 x3 x4 k o s t 0) rfl, if_pos (c := pAddr.z1 x0 x1 x2 x3 x4 k o s t 0 ≤ pAddr.z2 x0 x1 x2 x3 x4 k o s t 0) o0, if_neg (c := pAddr.z5 x0 x1 x2 x3 x4 k o s t 0 ≤ pAddr.z2 x0 x1 x2 x3 x4 k o s t 0) q1]
      show (s + o + 9223372036854775808) % 18446744073709551616 - 9223372036854775808 = s + o
      omega
    have r1 : pAddr.r1 x0 x1 x2 x3 x4 k o s t 0 = 0 := by
      unfold pAddr.r1
      rw [if_pos (c := pAddr.z0 x0 x1 x2 x3 x4 k o s t 0 = pAddr.z1 x0 x1 x2 x3 x4 k o s t 0) rfl, if_pos (c := pAddr.z1 x0 x1 x2 x3 x4 k o s t 0 ≤ pAddr.z2 x0 x1 x2 x3 x4 k o s t 0) o0, if_neg (c := pAddr.z5 x0 x1 x2 x3 x4 k o s t 0 ≤ pAddr.z2 x0 x1 x2 x3 x4 k o s t 0) q1]
      rfl
    rw [r0, r1] at P
    exact P
  · intro ho
    have P := W ⟨by omega, by omega⟩
    generalize at_ x0 x2 k = s at *
    generalize at_ x0 x2 (k + 1) = t at *
    have q1 : (t - s + 9223372036854775808) % 18446744073709551616 - 9223372036854775808 ≤ o := by omega
    have r0 : pAddr.r0 x0 x1 x2 x3 x4 k o s t 0 = 0 := by
      unfold pAddr.r0
      rw [if_pos (c := pAddr.z0 x0 x1 x2 x3 x4 k o s t 0 = pAddr.z1 x0 x1 x2 x3 x4 k o s t 0) rfl, if_pos (c := pAddr.z1 x0 x1 x2 x3 x4 k o s t 0 ≤ pAddr.z2 x0 x1 x2 x3 x4 k o s t 0) o0, if_pos (c := pAddr.z5 x0 x1 x2 x3 x4 k o s t 0 ≤ pAddr.z2 x0 x1 x2 x3 x4 k o s t 0) q1]
      rfl
    have r1 : pAddr.r1 x0 x1 x2 x3 x4 k o s t 0 = 7 := by
      unfold pAddr.r1
      rw [if_pos (c := pAddr.z0 x0 x1 x2 x3 x4 k o s t 0 = pAddr.z1 x0 x1 x2 x3 x4 k o s t 0) rfl, if_pos (c := pAddr.z1 x0 x1 x2 x3 x4 k o s t 0 ≤ pAddr.z2 x0 x1 x2 x3 x4 k o s t 0) o0, if_pos (c := pAddr.z5 x0 x1 x2 x3 x4 k o s t 0 ≤ pAddr.z2 x0 x1 x2 x3 x4 k o s t 0) q1]
      rfl
    rw [r0, r1] at P
    exact P
end
end Go.Proofs.YtffaikcaenkkhaaDoor.Places
