/-
  'shunterlaw02.ConfigGrows': ways that no numbers lead to. No project text.
-/
import Derived.Test.YtffaikcaenkkhaaDoorConfigGrows1
namespace Go.Proofs.YtffaikcaenkkhaaDoor.configGrows
open Go.ChangeShapes Go.WideShapes Go.ChangeAt Go.RowKit

set_option maxHeartbeats 4000000 in
theorem dead0 (x0 x1 x2 x3 x4 x5 x6 x7 : Int) (B : Bd x0 x1 x2 x3 x4 x5 x6 x7) (y0 y1 y2 y3 y4 y5 y6 y7 y8 y9 y10 y11 y12 y13 y14 y15 y16 y17 y18 y19 y20 y21 y22 y23 y24 y25 y26 : Int) (_e0 : y0 = x5) (_e1 : y1 = (0 : Int)) (_e2 : y2 = x6) (_e3 : y3 = (1 : Int)) (_e4 : y4 = x2) (_e5 : y5 = (y3 + y4 + 9223372036854775808) % 18446744073709551616 - 9223372036854775808) (_e6 : y6 = x1) (_e7 : y7 = (y6 + y3 + 9223372036854775808) % 18446744073709551616 - 9223372036854775808) (_e8 : y8 = x0) (_e9 : y9 = (y7 * y8 + 9223372036854775808) % 18446744073709551616 - 9223372036854775808) (_e10 : y10 = (y5 + y9 + 9223372036854775808) % 18446744073709551616 - 9223372036854775808) (_e11 : y11 = (y6 * y8 + 9223372036854775808) % 18446744073709551616 - 9223372036854775808) (_e12 : y12 = (y5 + y11 + 9223372036854775808) % 18446744073709551616 - 9223372036854775808) (_e13 : y13 = (y12 + y8 + 9223372036854775808) % 18446744073709551616 - 9223372036854775808) (_e14 : y14 = (6 : Int)) (_e15 : y15 = (y7 - y14 + 9223372036854775808) % 18446744073709551616 - 9223372036854775808) (_e16 : y16 = (y8 * y15 + 9223372036854775808) % 18446744073709551616 - 9223372036854775808) (_e17 : y17 = (y6 - y14 + 9223372036854775808) % 18446744073709551616 - 9223372036854775808) (_e18 : y18 = (y8 * y17 + 9223372036854775808) % 18446744073709551616 - 9223372036854775808) (_e19 : y19 = (y18 + y8 + 9223372036854775808) % 18446744073709551616 - 9223372036854775808) (_e20 : y20 = (y7 + y3 + 9223372036854775808) % 18446744073709551616 - 9223372036854775808) (_e21 : y21 = (y20 * y20 + 9223372036854775808) % 18446744073709551616 - 9223372036854775808) (_e22 : y22 = (y9 + y3 + 9223372036854775808) % 18446744073709551616 - 9223372036854775808) (_e23 : y23 = (y21 * y22 + 9223372036854775808) % 18446744073709551616 - 9223372036854775808) (_e24 : y24 = (y7 * y7 + 9223372036854775808) % 18446744073709551616 - 9223372036854775808) (_e25 : y25 = (y11 + y3 + 9223372036854775808) % 18446744073709551616 - 9223372036854775808) (_e26 : y26 = (y24 * y25 + 9223372036854775808) % 18446744073709551616 - 9223372036854775808) (_h0 : y0 = y1) (_h1 : y2 = y1) (_h2 : y10 = y13) (_h3 : y16 = y19) (_h4 : y23 ≤ y26) : False := by
  obtain ⟨_l0, _u0, _l1, _u1, _l2, _u2, _l3, _u3, _l4, _u4, _l5, _u5, _l6, _u6, _l7, _u7, _g0, _g1, _g2, _g3, _g4, _g5, _g6, _g7, _g8, _g9, _g10, _g11⟩ := B
  have hc : x5 = 0 := by
    clear _e2 _e3 _e4 _e5 _e6 _e7 _e8 _e9 _e10 _e11 _e12 _e13 _e14 _e15 _e16 _e17 _e18 _e19 _e20 _e21 _e22 _e23 _e24 _e25 _e26 _h1 _h2 _h3 _h4
    omega
  have f0 := _g0 hc
  have f1 := _g1 hc
  have f2 := _g2 hc
  have f3 := _g3 hc
  have f4 := _g4 hc
  have f5 := _g5 hc
  have f6 := _g6 hc
  have f7 := _g7 hc
  have f8 := _g8 hc
  have f9 := _g9 hc
  have f10 := _g10 hc
  have f11 := _g11 hc
  clear _g0 _g1 _g2 _g3 _g4 _g5 _g6 _g7 _g8 _g9 _g10 _g11
  try (have c5 : y5 = y3 + y4 := (by
    clear _e6 _e7 _e8 _e9 _e10 _e11 _e12 _e13 _e14 _e15 _e16 _e17 _e18 _e19 _e20 _e21 _e22 _e23 _e24 _e25 _e26
    omega)
       clear _e5)
  try (have c7 : y7 = y6 + y3 := (by
    clear _e8 _e9 _e10 _e11 _e12 _e13 _e14 _e15 _e16 _e17 _e18 _e19 _e20 _e21 _e22 _e23 _e24 _e25 _e26
    omega)
       clear _e7)
  have q9 : y9 = x1 * x0 + x0 ∧ 64 ≤ y9 ∧ y9 ≤ 1600 := by
    clear _e10 _e11 _e12 _e13 _e14 _e15 _e16 _e17 _e18 _e19 _e20 _e21 _e22 _e23 _e24 _e25 _e26
    exact (by
      have hy : y7 = x1 + 1 := by omega
      have := Ev.nl_mul (a := 8) (a' := 25) (b := 8) (b' := 64) hy _e8 _e9 (by omega) (by omega) (by omega) (by omega) (by omega) (by omega) (by omega)
      rw [Int.add_mul, Int.one_mul] at this
      omega)
  clear _e9
  try (have c10 : y10 = y5 + y9 := (by
    clear _e11 _e12 _e13 _e14 _e15 _e16 _e17 _e18 _e19 _e20 _e21 _e22 _e23 _e24 _e25 _e26
    omega)
       clear _e10)
  have q11 : y11 = x1 * x0 ∧ 56 ≤ y11 ∧ y11 ≤ 1536 := by
    clear _e12 _e13 _e14 _e15 _e16 _e17 _e18 _e19 _e20 _e21 _e22 _e23 _e24 _e25 _e26
    exact (by have := Ev.nl_mul (a := 7) (a' := 24) (b := 8) (b' := 64) _e6 _e8 _e11 (by omega) (by omega) (by omega) (by omega) (by omega) (by omega) (by omega); omega)
  clear _e11
  try (have c12 : y12 = y5 + y11 := (by
    clear _e13 _e14 _e15 _e16 _e17 _e18 _e19 _e20 _e21 _e22 _e23 _e24 _e25 _e26
    omega)
       clear _e12)
  try (have c13 : y13 = y12 + y8 := (by
    clear _e14 _e15 _e16 _e17 _e18 _e19 _e20 _e21 _e22 _e23 _e24 _e25 _e26
    omega)
       clear _e13)
  try (have c15 : y15 = y7 - y14 := (by
    clear _e16 _e17 _e18 _e19 _e20 _e21 _e22 _e23 _e24 _e25 _e26
    omega)
       clear _e15)
  have q16 : y16 = x1 * x0 - 5 * x0 := by
    clear _e17 _e18 _e19 _e20 _e21 _e22 _e23 _e24 _e25 _e26
    exact (by
      have hy : y15 = x1 - 5 := by omega
      have := Ev.nl_mul (a := 8) (a' := 64) (b := 2) (b' := 19) _e8 hy _e16 (by omega) (by omega) (by omega) (by omega) (by omega) (by omega) (by omega)
      rw [show x0 * (x1 - 5) = x1 * x0 - 5 * x0 by rw [Int.mul_sub, Int.mul_comm x0 x1, Int.mul_comm x0 5]] at this
      omega)
  clear _e16
  try (have c17 : y17 = y6 - y14 := (by
    clear _e18 _e19 _e20 _e21 _e22 _e23 _e24 _e25 _e26
    omega)
       clear _e17)
  have q18 : y18 = x1 * x0 - 6 * x0 := by
    clear _e19 _e20 _e21 _e22 _e23 _e24 _e25 _e26
    exact (by
      have hy : y17 = x1 - 6 := by omega
      have := Ev.nl_mul (a := 8) (a' := 64) (b := 1) (b' := 18) _e8 hy _e18 (by omega) (by omega) (by omega) (by omega) (by omega) (by omega) (by omega)
      rw [show x0 * (x1 - 6) = x1 * x0 - 6 * x0 by rw [Int.mul_sub, Int.mul_comm x0 x1, Int.mul_comm x0 6]] at this
      omega)
  clear _e18
  try (have c19 : y19 = y18 + y8 := (by
    clear _e20 _e21 _e22 _e23 _e24 _e25 _e26
    omega)
       clear _e19)
  try (have c20 : y20 = y7 + y3 := (by
    clear _e21 _e22 _e23 _e24 _e25 _e26
    omega)
       clear _e20)
  try (have c22 : y22 = y9 + y3 := (by
    clear _e23 _e24 _e25 _e26 _e21
    omega)
       clear _e22)
  try (have c25 : y25 = y11 + y3 := (by
    clear _e26 _e21 _e23 _e24
    omega)
       clear _e25)
  have q26 : y26 < y23 := by
    exact (by
      have h7 : y7 = x1 + 1 := by omega
      have h20 : y20 = x1 + 2 := by omega
      have h21 := Ev.nl_mul (a := 9) (a' := 26) (b := 9) (b' := 26) h20 h20 _e21 (by omega) (by omega) (by omega) (by omega) (by omega) (by omega) (by omega)
      have h24 := Ev.nl_mul (a := 8) (a' := 25) (b := 8) (b' := 25) h7 h7 _e24 (by omega) (by omega) (by omega) (by omega) (by omega) (by omega) (by omega)
      have h22 : y22 = y9 + 1 := by omega
      have h25 : y25 = y11 + 1 := by omega
      have h23 := Ev.nl_mul (a := 81) (a' := 676) (b := 65) (b' := 1601) (rfl : y21 = y21) (rfl : y22 = y22) _e23 (by omega) (by omega) (by omega) (by omega) (by omega) (by omega) (by omega)
      have h26 := Ev.nl_mul (a := 64) (a' := 625) (b := 57) (b' := 1537) (rfl : y24 = y24) (rfl : y25 = y25) _e26 (by omega) (by omega) (by omega) (by omega) (by omega) (by omega) (by omega)
      have k1 : (x1 + 1) * (x1 + 1) < (x1 + 2) * (x1 + 2) := Int.mul_lt_mul (by omega) (by omega) (by omega) (by omega)
      have k2 : y24 * y25 < y21 * y22 := Int.mul_lt_mul (by omega) (by omega) (by omega) (by omega)
      omega)
  clear _e26
  clear _e21 _e23 _e24
  omega
set_option maxHeartbeats 4000000 in
theorem dead1 (x0 x1 x2 x3 x4 x5 x6 x7 : Int) (B : Bd x0 x1 x2 x3 x4 x5 x6 x7) (y0 y1 y2 y3 y4 y5 y6 y7 y8 y9 y10 y11 y12 y13 y14 y15 y16 y17 y18 y19 y20 y21 y22 y23 y24 y25 y26 y27 y28 y29 y30 y31 : Int) (_e0 : y0 = x5) (_e1 : y1 = (0 : Int)) (_e2 : y2 = x6) (_e3 : y3 = (1 : Int)) (_e4 : y4 = x2) (_e5 : y5 = (y3 + y4 + 9223372036854775808) % 18446744073709551616 - 9223372036854775808) (_e6 : y6 = x1) (_e7 : y7 = (y6 + y3 + 9223372036854775808) % 18446744073709551616 - 9223372036854775808) (_e8 : y8 = x0) (_e9 : y9 = (y7 * y8 + 9223372036854775808) % 18446744073709551616 - 9223372036854775808) (_e10 : y10 = (y5 + y9 + 9223372036854775808) % 18446744073709551616 - 9223372036854775808) (_e11 : y11 = (y6 * y8 + 9223372036854775808) % 18446744073709551616 - 9223372036854775808) (_e12 : y12 = (y5 + y11 + 9223372036854775808) % 18446744073709551616 - 9223372036854775808) (_e13 : y13 = (y12 + y8 + 9223372036854775808) % 18446744073709551616 - 9223372036854775808) (_e14 : y14 = (6 : Int)) (_e15 : y15 = (y7 - y14 + 9223372036854775808) % 18446744073709551616 - 9223372036854775808) (_e16 : y16 = (y8 * y15 + 9223372036854775808) % 18446744073709551616 - 9223372036854775808) (_e17 : y17 = (y6 - y14 + 9223372036854775808) % 18446744073709551616 - 9223372036854775808) (_e18 : y18 = (y8 * y17 + 9223372036854775808) % 18446744073709551616 - 9223372036854775808) (_e19 : y19 = (y18 + y8 + 9223372036854775808) % 18446744073709551616 - 9223372036854775808) (_e20 : y20 = (y7 + y3 + 9223372036854775808) % 18446744073709551616 - 9223372036854775808) (_e21 : y21 = (y20 * y20 + 9223372036854775808) % 18446744073709551616 - 9223372036854775808) (_e22 : y22 = (y9 + y3 + 9223372036854775808) % 18446744073709551616 - 9223372036854775808) (_e23 : y23 = (y21 * y22 + 9223372036854775808) % 18446744073709551616 - 9223372036854775808) (_e24 : y24 = (y7 * y7 + 9223372036854775808) % 18446744073709551616 - 9223372036854775808) (_e25 : y25 = (y11 + y3 + 9223372036854775808) % 18446744073709551616 - 9223372036854775808) (_e26 : y26 = (y24 * y25 + 9223372036854775808) % 18446744073709551616 - 9223372036854775808) (_e27 : y27 = x7) (_e28 : y28 = (y4 + y3 + 9223372036854775808) % 18446744073709551616 - 9223372036854775808) (_e29 : y29 = (y3 + y28 + 9223372036854775808) % 18446744073709551616 - 9223372036854775808) (_e30 : y30 = (y29 + y11 + 9223372036854775808) % 18446744073709551616 - 9223372036854775808) (_e31 : y31 = (y12 + y3 + 9223372036854775808) % 18446744073709551616 - 9223372036854775808) (_h0 : y0 = y1) (_h1 : y2 = y1) (_h2 : y10 = y13) (_h3 : y16 = y19) (_h4 : ¬ (y23 ≤ y26)) (_h5 : y27 = y1) (_h6 : ¬ (y30 = y31)) : False := by
  obtain ⟨_l0, _u0, _l1, _u1, _l2, _u2, _l3, _u3, _l4, _u4, _l5, _u5, _l6, _u6, _l7, _u7, _g0, _g1, _g2, _g3, _g4, _g5, _g6, _g7, _g8, _g9, _g10, _g11⟩ := B
  have hc : x5 = 0 := by
    clear _e2 _e3 _e4 _e5 _e6 _e7 _e8 _e9 _e10 _e11 _e12 _e13 _e14 _e15 _e16 _e17 _e18 _e19 _e20 _e21 _e22 _e23 _e24 _e25 _e26 _e27 _e28 _e29 _e30 _e31 _h1 _h2 _h3 _h4 _h5 _h6
    omega
  have f0 := _g0 hc
  have f1 := _g1 hc
  have f2 := _g2 hc
  have f3 := _g3 hc
  have f4 := _g4 hc
  have f5 := _g5 hc
  have f6 := _g6 hc
  have f7 := _g7 hc
  have f8 := _g8 hc
  have f9 := _g9 hc
  have f10 := _g10 hc
  have f11 := _g11 hc
  clear _g0 _g1 _g2 _g3 _g4 _g5 _g6 _g7 _g8 _g9 _g10 _g11
  try (have c5 : y5 = y3 + y4 := (by
    clear _e6 _e7 _e8 _e9 _e10 _e11 _e12 _e13 _e14 _e15 _e16 _e17 _e18 _e19 _e20 _e21 _e22 _e23 _e24 _e25 _e26 _e27 _e28 _e29 _e30 _e31
    omega)
       clear _e5)
  try (have c7 : y7 = y6 + y3 := (by
    clear _e8 _e9 _e10 _e11 _e12 _e13 _e14 _e15 _e16 _e17 _e18 _e19 _e20 _e21 _e22 _e23 _e24 _e25 _e26 _e27 _e28 _e29 _e30 _e31
    omega)
       clear _e7)
  have q9 : y9 = x1 * x0 + x0 ∧ 64 ≤ y9 ∧ y9 ≤ 1600 := by
    clear _e10 _e11 _e12 _e13 _e14 _e15 _e16 _e17 _e18 _e19 _e20 _e21 _e22 _e23 _e24 _e25 _e26 _e27 _e28 _e29 _e30 _e31
    exact (by
      have hy : y7 = x1 + 1 := by omega
      have := Ev.nl_mul (a := 8) (a' := 25) (b := 8) (b' := 64) hy _e8 _e9 (by omega) (by omega) (by omega) (by omega) (by omega) (by omega) (by omega)
      rw [Int.add_mul, Int.one_mul] at this
      omega)
  clear _e9
  try (have c10 : y10 = y5 + y9 := (by
    clear _e11 _e12 _e13 _e14 _e15 _e16 _e17 _e18 _e19 _e20 _e21 _e22 _e23 _e24 _e25 _e26 _e27 _e28 _e29 _e30 _e31
    omega)
       clear _e10)
  have q11 : y11 = x1 * x0 ∧ 56 ≤ y11 ∧ y11 ≤ 1536 := by
    clear _e12 _e13 _e14 _e15 _e16 _e17 _e18 _e19 _e20 _e21 _e22 _e23 _e24 _e25 _e26 _e27 _e28 _e29 _e30 _e31
    exact (by have := Ev.nl_mul (a := 7) (a' := 24) (b := 8) (b' := 64) _e6 _e8 _e11 (by omega) (by omega) (by omega) (by omega) (by omega) (by omega) (by omega); omega)
  clear _e11
  try (have c12 : y12 = y5 + y11 := (by
    clear _e13 _e14 _e15 _e16 _e17 _e18 _e19 _e20 _e21 _e22 _e23 _e24 _e25 _e26 _e27 _e28 _e29 _e30 _e31
    omega)
       clear _e12)
  try (have c13 : y13 = y12 + y8 := (by
    clear _e14 _e15 _e16 _e17 _e18 _e19 _e20 _e21 _e22 _e23 _e24 _e25 _e26 _e27 _e28 _e29 _e30 _e31
    omega)
       clear _e13)
  try (have c15 : y15 = y7 - y14 := (by
    clear _e16 _e17 _e18 _e19 _e20 _e21 _e22 _e23 _e24 _e25 _e26 _e27 _e28 _e29 _e30 _e31
    omega)
       clear _e15)
  have q16 : y16 = x1 * x0 - 5 * x0 := by
    clear _e17 _e18 _e19 _e20 _e21 _e22 _e23 _e24 _e25 _e26 _e27 _e28 _e29 _e30 _e31
    exact (by
      have hy : y15 = x1 - 5 := by omega
      have := Ev.nl_mul (a := 8) (a' := 64) (b := 2) (b' := 19) _e8 hy _e16 (by omega) (by omega) (by omega) (by omega) (by omega) (by omega) (by omega)
      rw [show x0 * (x1 - 5) = x1 * x0 - 5 * x0 by rw [Int.mul_sub, Int.mul_comm x0 x1, Int.mul_comm x0 5]] at this
      omega)
  clear _e16
  try (have c17 : y17 = y6 - y14 := (by
    clear _e18 _e19 _e20 _e21 _e22 _e23 _e24 _e25 _e26 _e27 _e28 _e29 _e30 _e31
    omega)
       clear _e17)
  have q18 : y18 = x1 * x0 - 6 * x0 := by
    clear _e19 _e20 _e21 _e22 _e23 _e24 _e25 _e26 _e27 _e28 _e29 _e30 _e31
    exact (by
      have hy : y17 = x1 - 6 := by omega
      have := Ev.nl_mul (a := 8) (a' := 64) (b := 1) (b' := 18) _e8 hy _e18 (by omega) (by omega) (by omega) (by omega) (by omega) (by omega) (by omega)
      rw [show x0 * (x1 - 6) = x1 * x0 - 6 * x0 by rw [Int.mul_sub, Int.mul_comm x0 x1, Int.mul_comm x0 6]] at this
      omega)
  clear _e18
  try (have c19 : y19 = y18 + y8 := (by
    clear _e20 _e21 _e22 _e23 _e24 _e25 _e26 _e27 _e28 _e29 _e30 _e31
    omega)
       clear _e19)
  try (have c20 : y20 = y7 + y3 := (by
    clear _e21 _e22 _e23 _e24 _e25 _e26 _e27 _e28 _e29 _e30 _e31
    omega)
       clear _e20)
  try (have c22 : y22 = y9 + y3 := (by
    clear _e23 _e24 _e25 _e26 _e27 _e28 _e29 _e30 _e31 _e21
    omega)
       clear _e22)
  try (have c25 : y25 = y11 + y3 := (by
    clear _e26 _e27 _e28 _e29 _e30 _e31 _e21 _e23 _e24
    omega)
       clear _e25)
  have q26 : y26 < y23 := by
    clear _e27 _e28 _e29 _e30 _e31
    exact (by
      have h7 : y7 = x1 + 1 := by omega
      have h20 : y20 = x1 + 2 := by omega
      have h21 := Ev.nl_mul (a := 9) (a' := 26) (b := 9) (b' := 26) h20 h20 _e21 (by omega) (by omega) (by omega) (by omega) (by omega) (by omega) (by omega)
      have h24 := Ev.nl_mul (a := 8) (a' := 25) (b := 8) (b' := 25) h7 h7 _e24 (by omega) (by omega) (by omega) (by omega) (by omega) (by omega) (by omega)
      have h22 : y22 = y9 + 1 := by omega
      have h25 : y25 = y11 + 1 := by omega
      have h23 := Ev.nl_mul (a := 81) (a' := 676) (b := 65) (b' := 1601) (rfl : y21 = y21) (rfl : y22 = y22) _e23 (by omega) (by omega) (by omega) (by omega) (by omega) (by omega) (by omega)
      have h26 := Ev.nl_mul (a := 64) (a' := 625) (b := 57) (b' := 1537) (rfl : y24 = y24) (rfl : y25 = y25) _e26 (by omega) (by omega) (by omega) (by omega) (by omega) (by omega) (by omega)
      have k1 : (x1 + 1) * (x1 + 1) < (x1 + 2) * (x1 + 2) := Int.mul_lt_mul (by omega) (by omega) (by omega) (by omega)
      have k2 : y24 * y25 < y21 * y22 := Int.mul_lt_mul (by omega) (by omega) (by omega) (by omega)
      omega)
  clear _e26
  try (have c28 : y28 = y4 + y3 := (by
    clear _e29 _e30 _e31 _e21 _e23 _e24
    omega)
       clear _e28)
  try (have c29 : y29 = y3 + y28 := (by
    clear _e30 _e31 _e21 _e23 _e24
    omega)
       clear _e29)
  try (have c30 : y30 = y29 + y11 := (by
    clear _e31 _e21 _e23 _e24
    omega)
       clear _e30)
  try (have c31 : y31 = y12 + y3 := (by
    clear _e21 _e23 _e24
    omega)
       clear _e31)
  clear _e21 _e23 _e24
  omega
set_option maxHeartbeats 4000000 in
theorem dead2 (x0 x1 x2 x3 x4 x5 x6 x7 : Int) (B : Bd x0 x1 x2 x3 x4 x5 x6 x7) (y0 y1 y2 y3 y4 y5 y6 y7 y8 y9 y10 y11 y12 y13 y14 y15 y16 y17 y18 y19 y20 y21 y22 y23 y24 y25 y26 y27 y32 : Int) (_e0 : y0 = x5) (_e1 : y1 = (0 : Int)) (_e2 : y2 = x6) (_e3 : y3 = (1 : Int)) (_e4 : y4 = x2) (_e5 : y5 = (y3 + y4 + 9223372036854775808) % 18446744073709551616 - 9223372036854775808) (_e6 : y6 = x1) (_e7 : y7 = (y6 + y3 + 9223372036854775808) % 18446744073709551616 - 9223372036854775808) (_e8 : y8 = x0) (_e9 : y9 = (y7 * y8 + 9223372036854775808) % 18446744073709551616 - 9223372036854775808) (_e10 : y10 = (y5 + y9 + 9223372036854775808) % 18446744073709551616 - 9223372036854775808) (_e11 : y11 = (y6 * y8 + 9223372036854775808) % 18446744073709551616 - 9223372036854775808) (_e12 : y12 = (y5 + y11 + 9223372036854775808) % 18446744073709551616 - 9223372036854775808) (_e13 : y13 = (y12 + y8 + 9223372036854775808) % 18446744073709551616 - 9223372036854775808) (_e14 : y14 = (6 : Int)) (_e15 : y15 = (y7 - y14 + 9223372036854775808) % 18446744073709551616 - 9223372036854775808) (_e16 : y16 = (y8 * y15 + 9223372036854775808) % 18446744073709551616 - 9223372036854775808) (_e17 : y17 = (y6 - y14 + 9223372036854775808) % 18446744073709551616 - 9223372036854775808) (_e18 : y18 = (y8 * y17 + 9223372036854775808) % 18446744073709551616 - 9223372036854775808) (_e19 : y19 = (y18 + y8 + 9223372036854775808) % 18446744073709551616 - 9223372036854775808) (_e20 : y20 = (y7 + y3 + 9223372036854775808) % 18446744073709551616 - 9223372036854775808) (_e21 : y21 = (y20 * y20 + 9223372036854775808) % 18446744073709551616 - 9223372036854775808) (_e22 : y22 = (y9 + y3 + 9223372036854775808) % 18446744073709551616 - 9223372036854775808) (_e23 : y23 = (y21 * y22 + 9223372036854775808) % 18446744073709551616 - 9223372036854775808) (_e24 : y24 = (y7 * y7 + 9223372036854775808) % 18446744073709551616 - 9223372036854775808) (_e25 : y25 = (y11 + y3 + 9223372036854775808) % 18446744073709551616 - 9223372036854775808) (_e26 : y26 = (y24 * y25 + 9223372036854775808) % 18446744073709551616 - 9223372036854775808) (_e27 : y27 = x7) (_e32 : y32 = (64 : Int)) (_h0 : y0 = y1) (_h1 : y2 = y1) (_h2 : y10 = y13) (_h3 : y16 = y19) (_h4 : ¬ (y23 ≤ y26)) (_h5 : ¬ (y27 = y1)) (_h6 : ¬ (y4 = y32)) : False := by
  obtain ⟨_l0, _u0, _l1, _u1, _l2, _u2, _l3, _u3, _l4, _u4, _l5, _u5, _l6, _u6, _l7, _u7, _g0, _g1, _g2, _g3, _g4, _g5, _g6, _g7, _g8, _g9, _g10, _g11⟩ := B
  have hc : x5 = 0 := by
    clear _e2 _e3 _e4 _e5 _e6 _e7 _e8 _e9 _e10 _e11 _e12 _e13 _e14 _e15 _e16 _e17 _e18 _e19 _e20 _e21 _e22 _e23 _e24 _e25 _e26 _e27 _e32 _h1 _h2 _h3 _h4 _h5 _h6
    omega
  have f0 := _g0 hc
  have f1 := _g1 hc
  have f2 := _g2 hc
  have f3 := _g3 hc
  have f4 := _g4 hc
  have f5 := _g5 hc
  have f6 := _g6 hc
  have f7 := _g7 hc
  have f8 := _g8 hc
  have f9 := _g9 hc
  have f10 := _g10 hc
  have f11 := _g11 hc
  clear _g0 _g1 _g2 _g3 _g4 _g5 _g6 _g7 _g8 _g9 _g10 _g11
  try (have c5 : y5 = y3 + y4 := (by
    clear _e6 _e7 _e8 _e9 _e10 _e11 _e12 _e13 _e14 _e15 _e16 _e17 _e18 _e19 _e20 _e21 _e22 _e23 _e24 _e25 _e26 _e27 _e32
    omega)
       clear _e5)
  try (have c7 : y7 = y6 + y3 := (by
    clear _e8 _e9 _e10 _e11 _e12 _e13 _e14 _e15 _e16 _e17 _e18 _e19 _e20 _e21 _e22 _e23 _e24 _e25 _e26 _e27 _e32
    omega)
       clear _e7)
  have q9 : y9 = x1 * x0 + x0 ∧ 64 ≤ y9 ∧ y9 ≤ 1600 := by
    clear _e10 _e11 _e12 _e13 _e14 _e15 _e16 _e17 _e18 _e19 _e20 _e21 _e22 _e23 _e24 _e25 _e26 _e27 _e32
    exact (by
      have hy : y7 = x1 + 1 := by omega
      have := Ev.nl_mul (a := 8) (a' := 25) (b := 8) (b' := 64) hy _e8 _e9 (by omega) (by omega) (by omega) (by omega) (by omega) (by omega) (by omega)
      rw [Int.add_mul, Int.one_mul] at this
      omega)
  clear _e9
  try (have c10 : y10 = y5 + y9 := (by
    clear _e11 _e12 _e13 _e14 _e15 _e16 _e17 _e18 _e19 _e20 _e21 _e22 _e23 _e24 _e25 _e26 _e27 _e32
    omega)
       clear _e10)
  have q11 : y11 = x1 * x0 ∧ 56 ≤ y11 ∧ y11 ≤ 1536 := by
    clear _e12 _e13 _e14 _e15 _e16 _e17 _e18 _e19 _e20 _e21 _e22 _e23 _e24 _e25 _e26 _e27 _e32
    exact (by have := Ev.nl_mul (a := 7) (a' := 24) (b := 8) (b' := 64) _e6 _e8 _e11 (by omega) (by omega) (by omega) (by omega) (by omega) (by omega) (by omega); omega)
  clear _e11
  try (have c12 : y12 = y5 + y11 := (by
    clear _e13 _e14 _e15 _e16 _e17 _e18 _e19 _e20 _e21 _e22 _e23 _e24 _e25 _e26 _e27 _e32
    omega)
       clear _e12)
  try (have c13 : y13 = y12 + y8 := (by
    clear _e14 _e15 _e16 _e17 _e18 _e19 _e20 _e21 _e22 _e23 _e24 _e25 _e26 _e27 _e32
    omega)
       clear _e13)
  try (have c15 : y15 = y7 - y14 := (by
    clear _e16 _e17 _e18 _e19 _e20 _e21 _e22 _e23 _e24 _e25 _e26 _e27 _e32
    omega)
       clear _e15)
  have q16 : y16 = x1 * x0 - 5 * x0 := by
    clear _e17 _e18 _e19 _e20 _e21 _e22 _e23 _e24 _e25 _e26 _e27 _e32
    exact (by
      have hy : y15 = x1 - 5 := by omega
      have := Ev.nl_mul (a := 8) (a' := 64) (b := 2) (b' := 19) _e8 hy _e16 (by omega) (by omega) (by omega) (by omega) (by omega) (by omega) (by omega)
      rw [show x0 * (x1 - 5) = x1 * x0 - 5 * x0 by rw [Int.mul_sub, Int.mul_comm x0 x1, Int.mul_comm x0 5]] at this
      omega)
  clear _e16
  try (have c17 : y17 = y6 - y14 := (by
    clear _e18 _e19 _e20 _e21 _e22 _e23 _e24 _e25 _e26 _e27 _e32
    omega)
       clear _e17)
  have q18 : y18 = x1 * x0 - 6 * x0 := by
    clear _e19 _e20 _e21 _e22 _e23 _e24 _e25 _e26 _e27 _e32
    exact (by
      have hy : y17 = x1 - 6 := by omega
      have := Ev.nl_mul (a := 8) (a' := 64) (b := 1) (b' := 18) _e8 hy _e18 (by omega) (by omega) (by omega) (by omega) (by omega) (by omega) (by omega)
      rw [show x0 * (x1 - 6) = x1 * x0 - 6 * x0 by rw [Int.mul_sub, Int.mul_comm x0 x1, Int.mul_comm x0 6]] at this
      omega)
  clear _e18
  try (have c19 : y19 = y18 + y8 := (by
    clear _e20 _e21 _e22 _e23 _e24 _e25 _e26 _e27 _e32
    omega)
       clear _e19)
  try (have c20 : y20 = y7 + y3 := (by
    clear _e21 _e22 _e23 _e24 _e25 _e26 _e27 _e32
    omega)
       clear _e20)
  try (have c22 : y22 = y9 + y3 := (by
    clear _e23 _e24 _e25 _e26 _e27 _e32 _e21
    omega)
       clear _e22)
  try (have c25 : y25 = y11 + y3 := (by
    clear _e26 _e27 _e32 _e21 _e23 _e24
    omega)
       clear _e25)
  have q26 : y26 < y23 := by
    clear _e27 _e32
    exact (by
      have h7 : y7 = x1 + 1 := by omega
      have h20 : y20 = x1 + 2 := by omega
      have h21 := Ev.nl_mul (a := 9) (a' := 26) (b := 9) (b' := 26) h20 h20 _e21 (by omega) (by omega) (by omega) (by omega) (by omega) (by omega) (by omega)
      have h24 := Ev.nl_mul (a := 8) (a' := 25) (b := 8) (b' := 25) h7 h7 _e24 (by omega) (by omega) (by omega) (by omega) (by omega) (by omega) (by omega)
      have h22 : y22 = y9 + 1 := by omega
      have h25 : y25 = y11 + 1 := by omega
      have h23 := Ev.nl_mul (a := 81) (a' := 676) (b := 65) (b' := 1601) (rfl : y21 = y21) (rfl : y22 = y22) _e23 (by omega) (by omega) (by omega) (by omega) (by omega) (by omega) (by omega)
      have h26 := Ev.nl_mul (a := 64) (a' := 625) (b := 57) (b' := 1537) (rfl : y24 = y24) (rfl : y25 = y25) _e26 (by omega) (by omega) (by omega) (by omega) (by omega) (by omega) (by omega)
      have k1 : (x1 + 1) * (x1 + 1) < (x1 + 2) * (x1 + 2) := Int.mul_lt_mul (by omega) (by omega) (by omega) (by omega)
      have k2 : y24 * y25 < y21 * y22 := Int.mul_lt_mul (by omega) (by omega) (by omega) (by omega)
      omega)
  clear _e26
  clear _e21 _e23 _e24
  omega
set_option maxHeartbeats 4000000 in
theorem dead3 (x0 x1 x2 x3 x4 x5 x6 x7 : Int) (B : Bd x0 x1 x2 x3 x4 x5 x6 x7) (y0 y1 y2 y3 y4 y5 y6 y7 y8 y9 y10 y11 y12 y13 y14 y15 y16 y17 y18 y19 : Int) (_e0 : y0 = x5) (_e1 : y1 = (0 : Int)) (_e2 : y2 = x6) (_e3 : y3 = (1 : Int)) (_e4 : y4 = x2) (_e5 : y5 = (y3 + y4 + 9223372036854775808) % 18446744073709551616 - 9223372036854775808) (_e6 : y6 = x1) (_e7 : y7 = (y6 + y3 + 9223372036854775808) % 18446744073709551616 - 9223372036854775808) (_e8 : y8 = x0) (_e9 : y9 = (y7 * y8 + 9223372036854775808) % 18446744073709551616 - 9223372036854775808) (_e10 : y10 = (y5 + y9 + 9223372036854775808) % 18446744073709551616 - 9223372036854775808) (_e11 : y11 = (y6 * y8 + 9223372036854775808) % 18446744073709551616 - 9223372036854775808) (_e12 : y12 = (y5 + y11 + 9223372036854775808) % 18446744073709551616 - 9223372036854775808) (_e13 : y13 = (y12 + y8 + 9223372036854775808) % 18446744073709551616 - 9223372036854775808) (_e14 : y14 = (6 : Int)) (_e15 : y15 = (y7 - y14 + 9223372036854775808) % 18446744073709551616 - 9223372036854775808) (_e16 : y16 = (y8 * y15 + 9223372036854775808) % 18446744073709551616 - 9223372036854775808) (_e17 : y17 = (y6 - y14 + 9223372036854775808) % 18446744073709551616 - 9223372036854775808) (_e18 : y18 = (y8 * y17 + 9223372036854775808) % 18446744073709551616 - 9223372036854775808) (_e19 : y19 = (y18 + y8 + 9223372036854775808) % 18446744073709551616 - 9223372036854775808) (_h0 : y0 = y1) (_h1 : y2 = y1) (_h2 : y10 = y13) (_h3 : ¬ (y16 = y19)) : False := by
  obtain ⟨_l0, _u0, _l1, _u1, _l2, _u2, _l3, _u3, _l4, _u4, _l5, _u5, _l6, _u6, _l7, _u7, _g0, _g1, _g2, _g3, _g4, _g5, _g6, _g7, _g8, _g9, _g10, _g11⟩ := B
  have hc : x5 = 0 := by
    clear _e2 _e3 _e4 _e5 _e6 _e7 _e8 _e9 _e10 _e11 _e12 _e13 _e14 _e15 _e16 _e17 _e18 _e19 _h1 _h2 _h3
    omega
  have f0 := _g0 hc
  have f1 := _g1 hc
  have f2 := _g2 hc
  have f3 := _g3 hc
  have f4 := _g4 hc
  have f5 := _g5 hc
  have f6 := _g6 hc
  have f7 := _g7 hc
  have f8 := _g8 hc
  have f9 := _g9 hc
  have f10 := _g10 hc
  have f11 := _g11 hc
  clear _g0 _g1 _g2 _g3 _g4 _g5 _g6 _g7 _g8 _g9 _g10 _g11
  try (have c5 : y5 = y3 + y4 := (by
    clear _e6 _e7 _e8 _e9 _e10 _e11 _e12 _e13 _e14 _e15 _e16 _e17 _e18 _e19
    omega)
       clear _e5)
  try (have c7 : y7 = y6 + y3 := (by
    clear _e8 _e9 _e10 _e11 _e12 _e13 _e14 _e15 _e16 _e17 _e18 _e19
    omega)
       clear _e7)
  have q9 : y9 = x1 * x0 + x0 ∧ 64 ≤ y9 ∧ y9 ≤ 1600 := by
    clear _e10 _e11 _e12 _e13 _e14 _e15 _e16 _e17 _e18 _e19
    exact (by
      have hy : y7 = x1 + 1 := by omega
      have := Ev.nl_mul (a := 8) (a' := 25) (b := 8) (b' := 64) hy _e8 _e9 (by omega) (by omega) (by omega) (by omega) (by omega) (by omega) (by omega)
      rw [Int.add_mul, Int.one_mul] at this
      omega)
  clear _e9
  try (have c10 : y10 = y5 + y9 := (by
    clear _e11 _e12 _e13 _e14 _e15 _e16 _e17 _e18 _e19
    omega)
       clear _e10)
  have q11 : y11 = x1 * x0 ∧ 56 ≤ y11 ∧ y11 ≤ 1536 := by
    clear _e12 _e13 _e14 _e15 _e16 _e17 _e18 _e19
    exact (by have := Ev.nl_mul (a := 7) (a' := 24) (b := 8) (b' := 64) _e6 _e8 _e11 (by omega) (by omega) (by omega) (by omega) (by omega) (by omega) (by omega); omega)
  clear _e11
  try (have c12 : y12 = y5 + y11 := (by
    clear _e13 _e14 _e15 _e16 _e17 _e18 _e19
    omega)
       clear _e12)
  try (have c13 : y13 = y12 + y8 := (by
    clear _e14 _e15 _e16 _e17 _e18 _e19
    omega)
       clear _e13)
  try (have c15 : y15 = y7 - y14 := (by
    clear _e16 _e17 _e18 _e19
    omega)
       clear _e15)
  have q16 : y16 = x1 * x0 - 5 * x0 := by
    clear _e17 _e18 _e19
    exact (by
      have hy : y15 = x1 - 5 := by omega
      have := Ev.nl_mul (a := 8) (a' := 64) (b := 2) (b' := 19) _e8 hy _e16 (by omega) (by omega) (by omega) (by omega) (by omega) (by omega) (by omega)
      rw [show x0 * (x1 - 5) = x1 * x0 - 5 * x0 by rw [Int.mul_sub, Int.mul_comm x0 x1, Int.mul_comm x0 5]] at this
      omega)
  clear _e16
  try (have c17 : y17 = y6 - y14 := (by
    clear _e18 _e19
    omega)
       clear _e17)
  have q18 : y18 = x1 * x0 - 6 * x0 := by
    clear _e19
    exact (by
      have hy : y17 = x1 - 6 := by omega
      have := Ev.nl_mul (a := 8) (a' := 64) (b := 1) (b' := 18) _e8 hy _e18 (by omega) (by omega) (by omega) (by omega) (by omega) (by omega) (by omega)
      rw [show x0 * (x1 - 6) = x1 * x0 - 6 * x0 by rw [Int.mul_sub, Int.mul_comm x0 x1, Int.mul_comm x0 6]] at this
      omega)
  clear _e18
  try (have c19 : y19 = y18 + y8 := (by
    omega)
       clear _e19)
  omega
set_option maxHeartbeats 4000000 in
theorem dead4 (x0 x1 x2 x3 x4 x5 x6 x7 : Int) (B : Bd x0 x1 x2 x3 x4 x5 x6 x7) (y0 y1 y2 y3 y4 y5 y6 y7 y8 y9 y10 y11 y12 y13 : Int) (_e0 : y0 = x5) (_e1 : y1 = (0 : Int)) (_e2 : y2 = x6) (_e3 : y3 = (1 : Int)) (_e4 : y4 = x2) (_e5 : y5 = (y3 + y4 + 9223372036854775808) % 18446744073709551616 - 9223372036854775808) (_e6 : y6 = x1) (_e7 : y7 = (y6 + y3 + 9223372036854775808) % 18446744073709551616 - 9223372036854775808) (_e8 : y8 = x0) (_e9 : y9 = (y7 * y8 + 9223372036854775808) % 18446744073709551616 - 9223372036854775808) (_e10 : y10 = (y5 + y9 + 9223372036854775808) % 18446744073709551616 - 9223372036854775808) (_e11 : y11 = (y6 * y8 + 9223372036854775808) % 18446744073709551616 - 9223372036854775808) (_e12 : y12 = (y5 + y11 + 9223372036854775808) % 18446744073709551616 - 9223372036854775808) (_e13 : y13 = (y12 + y8 + 9223372036854775808) % 18446744073709551616 - 9223372036854775808) (_h0 : y0 = y1) (_h1 : y2 = y1) (_h2 : ¬ (y10 = y13)) : False := by
  obtain ⟨_l0, _u0, _l1, _u1, _l2, _u2, _l3, _u3, _l4, _u4, _l5, _u5, _l6, _u6, _l7, _u7, _g0, _g1, _g2, _g3, _g4, _g5, _g6, _g7, _g8, _g9, _g10, _g11⟩ := B
  have hc : x5 = 0 := by
    clear _e2 _e3 _e4 _e5 _e6 _e7 _e8 _e9 _e10 _e11 _e12 _e13 _h1 _h2
    omega
  have f0 := _g0 hc
  have f1 := _g1 hc
  have f2 := _g2 hc
  have f3 := _g3 hc
  have f4 := _g4 hc
  have f5 := _g5 hc
  have f6 := _g6 hc
  have f7 := _g7 hc
  have f8 := _g8 hc
  have f9 := _g9 hc
  have f10 := _g10 hc
  have f11 := _g11 hc
  clear _g0 _g1 _g2 _g3 _g4 _g5 _g6 _g7 _g8 _g9 _g10 _g11
  try (have c5 : y5 = y3 + y4 := (by
    clear _e6 _e7 _e8 _e9 _e10 _e11 _e12 _e13
    omega)
       clear _e5)
  try (have c7 : y7 = y6 + y3 := (by
    clear _e8 _e9 _e10 _e11 _e12 _e13
    omega)
       clear _e7)
  have q9 : y9 = x1 * x0 + x0 ∧ 64 ≤ y9 ∧ y9 ≤ 1600 := by
    clear _e10 _e11 _e12 _e13
    exact (by
      have hy : y7 = x1 + 1 := by omega
      have := Ev.nl_mul (a := 8) (a' := 25) (b := 8) (b' := 64) hy _e8 _e9 (by omega) (by omega) (by omega) (by omega) (by omega) (by omega) (by omega)
      rw [Int.add_mul, Int.one_mul] at this
      omega)
  clear _e9
  try (have c10 : y10 = y5 + y9 := (by
    clear _e11 _e12 _e13
    omega)
       clear _e10)
  have q11 : y11 = x1 * x0 ∧ 56 ≤ y11 ∧ y11 ≤ 1536 := by
    clear _e12 _e13
    exact (by have := Ev.nl_mul (a := 7) (a' := 24) (b := 8) (b' := 64) _e6 _e8 _e11 (by omega) (by omega) (by omega) (by omega) (by omega) (by omega) (by omega); omega)
  clear _e11
  try (have c12 : y12 = y5 + y11 := (by
    clear _e13
    omega)
       clear _e12)
  try (have c13 : y13 = y12 + y8 := (by
    omega)
       clear _e13)
  omega
set_option maxHeartbeats 4000000 in
theorem dead5 (x0 x1 x2 x3 x4 x5 x6 x7 : Int) (B : Bd x0 x1 x2 x3 x4 x5 x6 x7) (y0 y1 y2 y6 y33 y27 y3 y4 y28 y29 y8 y11 y30 y5 y12 y31 : Int) (_e0 : y0 = x5) (_e1 : y1 = (0 : Int)) (_e2 : y2 = x6) (_e6 : y6 = x1) (_e33 : y33 = (24 : Int)) (_e27 : y27 = x7) (_e3 : y3 = (1 : Int)) (_e4 : y4 = x2) (_e28 : y28 = (y4 + y3 + 9223372036854775808) % 18446744073709551616 - 9223372036854775808) (_e29 : y29 = (y3 + y28 + 9223372036854775808) % 18446744073709551616 - 9223372036854775808) (_e8 : y8 = x0) (_e11 : y11 = (y6 * y8 + 9223372036854775808) % 18446744073709551616 - 9223372036854775808) (_e30 : y30 = (y29 + y11 + 9223372036854775808) % 18446744073709551616 - 9223372036854775808) (_e5 : y5 = (y3 + y4 + 9223372036854775808) % 18446744073709551616 - 9223372036854775808) (_e12 : y12 = (y5 + y11 + 9223372036854775808) % 18446744073709551616 - 9223372036854775808) (_e31 : y31 = (y12 + y3 + 9223372036854775808) % 18446744073709551616 - 9223372036854775808) (_h0 : y0 = y1) (_h1 : ¬ (y2 = y1)) (_h2 : y6 = y33) (_h3 : y27 = y1) (_h4 : ¬ (y30 = y31)) : False := by
  obtain ⟨_l0, _u0, _l1, _u1, _l2, _u2, _l3, _u3, _l4, _u4, _l5, _u5, _l6, _u6, _l7, _u7, _g0, _g1, _g2, _g3, _g4, _g5, _g6, _g7, _g8, _g9, _g10, _g11⟩ := B
  have hc : x5 = 0 := by
    clear _e2 _e6 _e33 _e27 _e3 _e4 _e28 _e29 _e8 _e11 _e30 _e5 _e12 _e31 _h1 _h2 _h3 _h4
    omega
  have f0 := _g0 hc
  have f1 := _g1 hc
  have f2 := _g2 hc
  have f3 := _g3 hc
  have f4 := _g4 hc
  have f5 := _g5 hc
  have f6 := _g6 hc
  have f7 := _g7 hc
  have f8 := _g8 hc
  have f9 := _g9 hc
  have f10 := _g10 hc
  have f11 := _g11 hc
  clear _g0 _g1 _g2 _g3 _g4 _g5 _g6 _g7 _g8 _g9 _g10 _g11
  try (have c28 : y28 = y4 + y3 := (by
    clear _e29 _e8 _e11 _e30 _e5 _e12 _e31
    omega)
       clear _e28)
  try (have c29 : y29 = y3 + y28 := (by
    clear _e8 _e11 _e30 _e5 _e12 _e31
    omega)
       clear _e29)
  have q11 : y11 = x1 * x0 ∧ 56 ≤ y11 ∧ y11 ≤ 1536 := by
    clear _e30 _e5 _e12 _e31
    exact (by have := Ev.nl_mul (a := 7) (a' := 24) (b := 8) (b' := 64) _e6 _e8 _e11 (by omega) (by omega) (by omega) (by omega) (by omega) (by omega) (by omega); omega)
  clear _e11
  try (have c30 : y30 = y29 + y11 := (by
    clear _e5 _e12 _e31
    omega)
       clear _e30)
  try (have c5 : y5 = y3 + y4 := (by
    clear _e12 _e31
    omega)
       clear _e5)
  try (have c12 : y12 = y5 + y11 := (by
    clear _e31
    omega)
       clear _e12)
  try (have c31 : y31 = y12 + y3 := (by
    omega)
       clear _e31)
  omega
set_option maxHeartbeats 4000000 in
theorem dead6 (x0 x1 x2 x3 x4 x5 x6 x7 : Int) (B : Bd x0 x1 x2 x3 x4 x5 x6 x7) (y0 y1 y2 y6 y33 y27 y4 y32 : Int) (_e0 : y0 = x5) (_e1 : y1 = (0 : Int)) (_e2 : y2 = x6) (_e6 : y6 = x1) (_e33 : y33 = (24 : Int)) (_e27 : y27 = x7) (_e4 : y4 = x2) (_e32 : y32 = (64 : Int)) (_h0 : y0 = y1) (_h1 : ¬ (y2 = y1)) (_h2 : y6 = y33) (_h3 : ¬ (y27 = y1)) (_h4 : ¬ (y4 = y32)) : False := by
  obtain ⟨_l0, _u0, _l1, _u1, _l2, _u2, _l3, _u3, _l4, _u4, _l5, _u5, _l6, _u6, _l7, _u7, _g0, _g1, _g2, _g3, _g4, _g5, _g6, _g7, _g8, _g9, _g10, _g11⟩ := B
  have hc : x5 = 0 := by
    clear _e2 _e6 _e33 _e27 _e4 _e32 _h1 _h2 _h3 _h4
    omega
  have f0 := _g0 hc
  have f1 := _g1 hc
  have f2 := _g2 hc
  have f3 := _g3 hc
  have f4 := _g4 hc
  have f5 := _g5 hc
  have f6 := _g6 hc
  have f7 := _g7 hc
  have f8 := _g8 hc
  have f9 := _g9 hc
  have f10 := _g10 hc
  have f11 := _g11 hc
  clear _g0 _g1 _g2 _g3 _g4 _g5 _g6 _g7 _g8 _g9 _g10 _g11
  omega
set_option maxHeartbeats 4000000 in
theorem dead7 (x0 x1 x2 x3 x4 x5 x6 x7 : Int) (B : Bd x0 x1 x2 x3 x4 x5 x6 x7) (y0 y1 y2 y6 y33 : Int) (_e0 : y0 = x5) (_e1 : y1 = (0 : Int)) (_e2 : y2 = x6) (_e6 : y6 = x1) (_e33 : y33 = (24 : Int)) (_h0 : y0 = y1) (_h1 : ¬ (y2 = y1)) (_h2 : ¬ (y6 = y33)) : False := by
  obtain ⟨_l0, _u0, _l1, _u1, _l2, _u2, _l3, _u3, _l4, _u4, _l5, _u5, _l6, _u6, _l7, _u7, _g0, _g1, _g2, _g3, _g4, _g5, _g6, _g7, _g8, _g9, _g10, _g11⟩ := B
  have hc : x5 = 0 := by
    clear _e2 _e6 _e33 _h1 _h2
    omega
  have f0 := _g0 hc
  have f1 := _g1 hc
  have f2 := _g2 hc
  have f3 := _g3 hc
  have f4 := _g4 hc
  have f5 := _g5 hc
  have f6 := _g6 hc
  have f7 := _g7 hc
  have f8 := _g8 hc
  have f9 := _g9 hc
  have f10 := _g10 hc
  have f11 := _g11 hc
  clear _g0 _g1 _g2 _g3 _g4 _g5 _g6 _g7 _g8 _g9 _g10 _g11
  omega

end Go.Proofs.YtffaikcaenkkhaaDoor.configGrows
