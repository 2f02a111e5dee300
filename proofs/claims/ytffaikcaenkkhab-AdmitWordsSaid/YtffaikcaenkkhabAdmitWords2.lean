/-
  'shunterlaw26.AdmitWords': ways that no numbers lead to. No project text.
-/
import Derived.Test.YtffaikcaenkkhabAdmitWords1
namespace Go.Proofs.Ytffaikcaenkkhab.admitWords
open Go.ChangeShapes Go.WideShapes Go.ChangeAt Go.RowKit

set_option maxHeartbeats 4000000 in
theorem dead0 (x0 x1 x2 x3 x4 x5 x6 x7 x8 x9 : Int) (B : Bd x0 x1 x2 x3 x4 x5 x6 x7 x8 x9) (y0 y1 y2 y3 y4 y5 y6 y7 y8 y9 y10 y11 y12 y13 y14 y15 y16 y17 y18 y19 y20 y21 y22 : Int) (_e0 : y0 = x7) (_e1 : y1 = (0 : Int)) (_e2 : y2 = x5) (_e3 : y3 = x1) (_e4 : y4 = x0) (_e5 : y5 = (y3 * y4 + 9223372036854775808) % 18446744073709551616 - 9223372036854775808) (_e6 : y6 = x2) (_e7 : y7 = (y5 + y6 + 9223372036854775808) % 18446744073709551616 - 9223372036854775808) (_e8 : y8 = x6) (_e9 : y9 = (y2 + y8 + 9223372036854775808) % 18446744073709551616 - 9223372036854775808) (_e10 : y10 = (2 : Int)) (_e11 : y11 = ((if 0 ≤ y4 then y4 / 2 else -((-y4) / 2)) + 9223372036854775808) % 18446744073709551616 - 9223372036854775808) (_e12 : y12 = if y11 ≤ y6 then y11 else y6) (_e13 : y13 = if y12 ≤ y8 then y12 else y8) (_e14 : y14 = (6 : Int)) (_e15 : y15 = (y3 - y14 + 9223372036854775808) % 18446744073709551616 - 9223372036854775808) (_e16 : y16 = (y4 * y15 + 9223372036854775808) % 18446744073709551616 - 9223372036854775808) (_e17 : y17 = ((if 0 ≤ y16 then y16 / 2 else -((-y16) / 2)) + 9223372036854775808) % 18446744073709551616 - 9223372036854775808) (_e18 : y18 = (y17 - y2 + 9223372036854775808) % 18446744073709551616 - 9223372036854775808) (_e19 : y19 = if y18 ≤ y1 then y1 else y18) (_e20 : y20 = if y13 ≤ y19 then y13 else y19) (_e21 : y21 = x8) (_e22 : y22 = x9) (_h0 : y0 = y1) (_h1 : y1 ≤ y2) (_h2 : y2 ≤ y7) (_h3 : y1 ≤ y8) (_h4 : y8 ≤ y6) (_h5 : y6 ≤ y9) (_h6 : y20 = y21) (_h7 : y1 = y22) (_h8 : y4 = y1) : False := by
  obtain ⟨_l0, _u0, _l1, _u1, _l2, _u2, _l3, _u3, _l4, _u4, _l5, _u5, _l6, _u6, _l7, _u7, _l8, _u8, _l9, _u9, _g0, _g1, _g2, _g3, _g4, _g5, _g6, _g7, _g8, _g9, _g10, _g11, _g12, _g13, _g14⟩ := B
  have hc : x7 = 0 := by
    clear _e2 _e3 _e4 _e5 _e6 _e7 _e8 _e9 _e10 _e11 _e12 _e13 _e14 _e15 _e16 _e17 _e18 _e19 _e20 _e21 _e22 _h1 _h2 _h3 _h4 _h5 _h6 _h7 _h8
    omega
  have f0 := _g1 hc
  have f1 := _g2 hc
  have f2 := _g3 hc
  have f3 := _g4 hc
  have f4 := _g5 hc
  have f5 := _g6 hc
  have f6 := _g7 hc
  have f7 := _g8 hc
  have f8 := _g9 hc
  have f9 := _g10 hc
  have f10 := _g11 hc
  have f11 := _g12 hc
  have f12 := _g13 hc
  have f13 := _g14 hc
  clear _g1 _g2 _g3 _g4 _g5 _g6 _g7 _g8 _g9 _g10 _g11 _g12 _g13 _g14
  have q5 : y5 = x1 * x0 ∧ 56 ≤ y5 ∧ y5 ≤ 1536 := by
    clear _e6 _e7 _e8 _e9 _e10 _e11 _e12 _e13 _e14 _e15 _e16 _e17 _e18 _e19 _e20 _e21 _e22
    exact (by have := Ev.nl_mul (a := 7) (a' := 24) (b := 8) (b' := 64) _e3 _e4 _e5 (by omega) (by omega) (by omega) (by omega) (by omega) (by omega) (by omega); omega)
  clear _e5
  try (have c7 : y7 = y5 + y6 := (by
    clear _e8 _e9 _e10 _e11 _e12 _e13 _e14 _e15 _e16 _e17 _e18 _e19 _e20 _e21 _e22
    omega)
       clear _e7)
  try (have c9 : y9 = y2 + y8 := (by
    clear _e10 _e11 _e12 _e13 _e14 _e15 _e16 _e17 _e18 _e19 _e20 _e21 _e22
    omega)
       clear _e9)
  try (have c11 : y11 = y4 / 2 := (by
    clear _e12 _e13 _e14 _e15 _e16 _e17 _e18 _e19 _e20 _e21 _e22
    omega)
       clear _e11)
  try (have c15 : y15 = y3 - y14 := (by
    clear _e16 _e17 _e18 _e19 _e20 _e21 _e22
    omega)
       clear _e15)
  have q16 : y16 = x1 * x0 - 6 * x0 ∧ 8 ≤ y16 ∧ y16 ≤ 1152 := by
    clear _e17 _e18 _e19 _e20 _e21 _e22
    exact (by
      have hy : y15 = x1 - 6 := by omega
      have := Ev.nl_mul (a := 8) (a' := 64) (b := 1) (b' := 18) _e4 hy _e16 (by omega) (by omega) (by omega) (by omega) (by omega) (by omega) (by omega)
      rw [show x0 * (x1 - 6) = x1 * x0 - 6 * x0 by rw [Int.mul_sub, Int.mul_comm x0 x1, Int.mul_comm x0 6]] at this
      omega)
  clear _e16
  try (have c17 : y17 = y16 / 2 := (by
    clear _e18 _e19 _e20 _e21 _e22
    omega)
       clear _e17)
  try (have c18 : y18 = y17 - y2 := (by
    clear _e19 _e20 _e21 _e22
    omega)
       clear _e18)
  omega
set_option maxHeartbeats 4000000 in
theorem dead1 (x0 x1 x2 x3 x4 x5 x6 x7 x8 x9 : Int) (B : Bd x0 x1 x2 x3 x4 x5 x6 x7 x8 x9) (y0 y1 y2 y3 y4 y5 y6 y7 y8 y9 y10 y11 y12 y13 y14 y15 y16 y17 y18 y19 y20 y21 y22 : Int) (_e0 : y0 = x7) (_e1 : y1 = (0 : Int)) (_e2 : y2 = x5) (_e3 : y3 = x1) (_e4 : y4 = x0) (_e5 : y5 = (y3 * y4 + 9223372036854775808) % 18446744073709551616 - 9223372036854775808) (_e6 : y6 = x2) (_e7 : y7 = (y5 + y6 + 9223372036854775808) % 18446744073709551616 - 9223372036854775808) (_e8 : y8 = x6) (_e9 : y9 = (y2 + y8 + 9223372036854775808) % 18446744073709551616 - 9223372036854775808) (_e10 : y10 = (2 : Int)) (_e11 : y11 = ((if 0 ≤ y4 then y4 / 2 else -((-y4) / 2)) + 9223372036854775808) % 18446744073709551616 - 9223372036854775808) (_e12 : y12 = if y11 ≤ y6 then y11 else y6) (_e13 : y13 = if y12 ≤ y8 then y12 else y8) (_e14 : y14 = (6 : Int)) (_e15 : y15 = (y3 - y14 + 9223372036854775808) % 18446744073709551616 - 9223372036854775808) (_e16 : y16 = (y4 * y15 + 9223372036854775808) % 18446744073709551616 - 9223372036854775808) (_e17 : y17 = ((if 0 ≤ y16 then y16 / 2 else -((-y16) / 2)) + 9223372036854775808) % 18446744073709551616 - 9223372036854775808) (_e18 : y18 = (y17 - y2 + 9223372036854775808) % 18446744073709551616 - 9223372036854775808) (_e19 : y19 = if y18 ≤ y1 then y1 else y18) (_e20 : y20 = if y13 ≤ y19 then y13 else y19) (_e21 : y21 = x8) (_e22 : y22 = x9) (_h0 : y0 = y1) (_h1 : y1 ≤ y2) (_h2 : y2 ≤ y7) (_h3 : y1 ≤ y8) (_h4 : y8 ≤ y6) (_h5 : y6 ≤ y9) (_h6 : y20 = y21) (_h7 : ¬ (y1 = y22)) : False := by
  obtain ⟨_l0, _u0, _l1, _u1, _l2, _u2, _l3, _u3, _l4, _u4, _l5, _u5, _l6, _u6, _l7, _u7, _l8, _u8, _l9, _u9, _g0, _g1, _g2, _g3, _g4, _g5, _g6, _g7, _g8, _g9, _g10, _g11, _g12, _g13, _g14⟩ := B
  have hc : x7 = 0 := by
    clear _e2 _e3 _e4 _e5 _e6 _e7 _e8 _e9 _e10 _e11 _e12 _e13 _e14 _e15 _e16 _e17 _e18 _e19 _e20 _e21 _e22 _h1 _h2 _h3 _h4 _h5 _h6 _h7
    omega
  have f0 := _g1 hc
  have f1 := _g2 hc
  have f2 := _g3 hc
  have f3 := _g4 hc
  have f4 := _g5 hc
  have f5 := _g6 hc
  have f6 := _g7 hc
  have f7 := _g8 hc
  have f8 := _g9 hc
  have f9 := _g10 hc
  have f10 := _g11 hc
  have f11 := _g12 hc
  have f12 := _g13 hc
  have f13 := _g14 hc
  clear _g1 _g2 _g3 _g4 _g5 _g6 _g7 _g8 _g9 _g10 _g11 _g12 _g13 _g14
  have q5 : y5 = x1 * x0 ∧ 56 ≤ y5 ∧ y5 ≤ 1536 := by
    clear _e6 _e7 _e8 _e9 _e10 _e11 _e12 _e13 _e14 _e15 _e16 _e17 _e18 _e19 _e20 _e21 _e22
    exact (by have := Ev.nl_mul (a := 7) (a' := 24) (b := 8) (b' := 64) _e3 _e4 _e5 (by omega) (by omega) (by omega) (by omega) (by omega) (by omega) (by omega); omega)
  clear _e5
  try (have c7 : y7 = y5 + y6 := (by
    clear _e8 _e9 _e10 _e11 _e12 _e13 _e14 _e15 _e16 _e17 _e18 _e19 _e20 _e21 _e22
    omega)
       clear _e7)
  try (have c9 : y9 = y2 + y8 := (by
    clear _e10 _e11 _e12 _e13 _e14 _e15 _e16 _e17 _e18 _e19 _e20 _e21 _e22
    omega)
       clear _e9)
  try (have c11 : y11 = y4 / 2 := (by
    clear _e12 _e13 _e14 _e15 _e16 _e17 _e18 _e19 _e20 _e21 _e22
    omega)
       clear _e11)
  try (have c15 : y15 = y3 - y14 := (by
    clear _e16 _e17 _e18 _e19 _e20 _e21 _e22
    omega)
       clear _e15)
  have q16 : y16 = x1 * x0 - 6 * x0 ∧ 8 ≤ y16 ∧ y16 ≤ 1152 := by
    clear _e17 _e18 _e19 _e20 _e21 _e22
    exact (by
      have hy : y15 = x1 - 6 := by omega
      have := Ev.nl_mul (a := 8) (a' := 64) (b := 1) (b' := 18) _e4 hy _e16 (by omega) (by omega) (by omega) (by omega) (by omega) (by omega) (by omega)
      rw [show x0 * (x1 - 6) = x1 * x0 - 6 * x0 by rw [Int.mul_sub, Int.mul_comm x0 x1, Int.mul_comm x0 6]] at this
      omega)
  clear _e16
  try (have c17 : y17 = y16 / 2 := (by
    clear _e18 _e19 _e20 _e21 _e22
    omega)
       clear _e17)
  try (have c18 : y18 = y17 - y2 := (by
    clear _e19 _e20 _e21 _e22
    omega)
       clear _e18)
  omega
set_option maxHeartbeats 4000000 in
theorem dead2 (x0 x1 x2 x3 x4 x5 x6 x7 x8 x9 : Int) (B : Bd x0 x1 x2 x3 x4 x5 x6 x7 x8 x9) (y0 y1 y2 y3 y4 y5 y6 y7 y8 y9 y10 y11 y12 y13 y14 y15 y16 y17 y18 y19 y20 y21 : Int) (_e0 : y0 = x7) (_e1 : y1 = (0 : Int)) (_e2 : y2 = x5) (_e3 : y3 = x1) (_e4 : y4 = x0) (_e5 : y5 = (y3 * y4 + 9223372036854775808) % 18446744073709551616 - 9223372036854775808) (_e6 : y6 = x2) (_e7 : y7 = (y5 + y6 + 9223372036854775808) % 18446744073709551616 - 9223372036854775808) (_e8 : y8 = x6) (_e9 : y9 = (y2 + y8 + 9223372036854775808) % 18446744073709551616 - 9223372036854775808) (_e10 : y10 = (2 : Int)) (_e11 : y11 = ((if 0 ≤ y4 then y4 / 2 else -((-y4) / 2)) + 9223372036854775808) % 18446744073709551616 - 9223372036854775808) (_e12 : y12 = if y11 ≤ y6 then y11 else y6) (_e13 : y13 = if y12 ≤ y8 then y12 else y8) (_e14 : y14 = (6 : Int)) (_e15 : y15 = (y3 - y14 + 9223372036854775808) % 18446744073709551616 - 9223372036854775808) (_e16 : y16 = (y4 * y15 + 9223372036854775808) % 18446744073709551616 - 9223372036854775808) (_e17 : y17 = ((if 0 ≤ y16 then y16 / 2 else -((-y16) / 2)) + 9223372036854775808) % 18446744073709551616 - 9223372036854775808) (_e18 : y18 = (y17 - y2 + 9223372036854775808) % 18446744073709551616 - 9223372036854775808) (_e19 : y19 = if y18 ≤ y1 then y1 else y18) (_e20 : y20 = if y13 ≤ y19 then y13 else y19) (_e21 : y21 = x8) (_h0 : y0 = y1) (_h1 : y1 ≤ y2) (_h2 : y2 ≤ y7) (_h3 : y1 ≤ y8) (_h4 : y8 ≤ y6) (_h5 : y6 ≤ y9) (_h6 : ¬ (y20 = y21)) : False := by
  obtain ⟨_l0, _u0, _l1, _u1, _l2, _u2, _l3, _u3, _l4, _u4, _l5, _u5, _l6, _u6, _l7, _u7, _l8, _u8, _l9, _u9, _g0, _g1, _g2, _g3, _g4, _g5, _g6, _g7, _g8, _g9, _g10, _g11, _g12, _g13, _g14⟩ := B
  have hc : x7 = 0 := by
    clear _e2 _e3 _e4 _e5 _e6 _e7 _e8 _e9 _e10 _e11 _e12 _e13 _e14 _e15 _e16 _e17 _e18 _e19 _e20 _e21 _h1 _h2 _h3 _h4 _h5 _h6
    omega
  have f0 := _g1 hc
  have f1 := _g2 hc
  have f2 := _g3 hc
  have f3 := _g4 hc
  have f4 := _g5 hc
  have f5 := _g6 hc
  have f6 := _g7 hc
  have f7 := _g8 hc
  have f8 := _g9 hc
  have f9 := _g10 hc
  have f10 := _g11 hc
  have f11 := _g12 hc
  have f12 := _g13 hc
  have f13 := _g14 hc
  clear _g1 _g2 _g3 _g4 _g5 _g6 _g7 _g8 _g9 _g10 _g11 _g12 _g13 _g14
  have q5 : y5 = x1 * x0 ∧ 56 ≤ y5 ∧ y5 ≤ 1536 := by
    clear _e6 _e7 _e8 _e9 _e10 _e11 _e12 _e13 _e14 _e15 _e16 _e17 _e18 _e19 _e20 _e21
    exact (by have := Ev.nl_mul (a := 7) (a' := 24) (b := 8) (b' := 64) _e3 _e4 _e5 (by omega) (by omega) (by omega) (by omega) (by omega) (by omega) (by omega); omega)
  clear _e5
  try (have c7 : y7 = y5 + y6 := (by
    clear _e8 _e9 _e10 _e11 _e12 _e13 _e14 _e15 _e16 _e17 _e18 _e19 _e20 _e21
    omega)
       clear _e7)
  try (have c9 : y9 = y2 + y8 := (by
    clear _e10 _e11 _e12 _e13 _e14 _e15 _e16 _e17 _e18 _e19 _e20 _e21
    omega)
       clear _e9)
  try (have c11 : y11 = y4 / 2 := (by
    clear _e12 _e13 _e14 _e15 _e16 _e17 _e18 _e19 _e20 _e21
    omega)
       clear _e11)
  try (have c15 : y15 = y3 - y14 := (by
    clear _e16 _e17 _e18 _e19 _e20 _e21
    omega)
       clear _e15)
  have q16 : y16 = x1 * x0 - 6 * x0 ∧ 8 ≤ y16 ∧ y16 ≤ 1152 := by
    clear _e17 _e18 _e19 _e20 _e21
    exact (by
      have hy : y15 = x1 - 6 := by omega
      have := Ev.nl_mul (a := 8) (a' := 64) (b := 1) (b' := 18) _e4 hy _e16 (by omega) (by omega) (by omega) (by omega) (by omega) (by omega) (by omega)
      rw [show x0 * (x1 - 6) = x1 * x0 - 6 * x0 by rw [Int.mul_sub, Int.mul_comm x0 x1, Int.mul_comm x0 6]] at this
      omega)
  clear _e16
  try (have c17 : y17 = y16 / 2 := (by
    clear _e18 _e19 _e20 _e21
    omega)
       clear _e17)
  try (have c18 : y18 = y17 - y2 := (by
    clear _e19 _e20 _e21
    omega)
       clear _e18)
  omega
set_option maxHeartbeats 4000000 in
theorem dead3 (x0 x1 x2 x3 x4 x5 x6 x7 x8 x9 : Int) (B : Bd x0 x1 x2 x3 x4 x5 x6 x7 x8 x9) (y0 y1 y2 y3 y4 y5 y6 y7 y8 y9 y21 y23 y22 : Int) (_e0 : y0 = x7) (_e1 : y1 = (0 : Int)) (_e2 : y2 = x5) (_e3 : y3 = x1) (_e4 : y4 = x0) (_e5 : y5 = (y3 * y4 + 9223372036854775808) % 18446744073709551616 - 9223372036854775808) (_e6 : y6 = x2) (_e7 : y7 = (y5 + y6 + 9223372036854775808) % 18446744073709551616 - 9223372036854775808) (_e8 : y8 = x6) (_e9 : y9 = (y2 + y8 + 9223372036854775808) % 18446744073709551616 - 9223372036854775808) (_e21 : y21 = x8) (_e23 : y23 = (7 : Int)) (_e22 : y22 = x9) (_h0 : y0 = y1) (_h1 : y1 ≤ y2) (_h2 : y2 ≤ y7) (_h3 : y1 ≤ y8) (_h4 : y8 ≤ y6) (_h5 : ¬ (y6 ≤ y9)) (_h6 : y1 = y21) (_h7 : y23 = y22) (_h8 : y4 = y1) : False := by
  obtain ⟨_l0, _u0, _l1, _u1, _l2, _u2, _l3, _u3, _l4, _u4, _l5, _u5, _l6, _u6, _l7, _u7, _l8, _u8, _l9, _u9, _g0, _g1, _g2, _g3, _g4, _g5, _g6, _g7, _g8, _g9, _g10, _g11, _g12, _g13, _g14⟩ := B
  have hc : x7 = 0 := by
    clear _e2 _e3 _e4 _e5 _e6 _e7 _e8 _e9 _e21 _e23 _e22 _h1 _h2 _h3 _h4 _h5 _h6 _h7 _h8
    omega
  have f0 := _g1 hc
  have f1 := _g2 hc
  have f2 := _g3 hc
  have f3 := _g4 hc
  have f4 := _g5 hc
  have f5 := _g6 hc
  have f6 := _g7 hc
  have f7 := _g8 hc
  have f8 := _g9 hc
  have f9 := _g10 hc
  have f10 := _g11 hc
  have f11 := _g12 hc
  have f12 := _g13 hc
  have f13 := _g14 hc
  clear _g1 _g2 _g3 _g4 _g5 _g6 _g7 _g8 _g9 _g10 _g11 _g12 _g13 _g14
  have q5 : y5 = x1 * x0 ∧ 56 ≤ y5 ∧ y5 ≤ 1536 := by
    clear _e6 _e7 _e8 _e9 _e21 _e23 _e22
    exact (by have := Ev.nl_mul (a := 7) (a' := 24) (b := 8) (b' := 64) _e3 _e4 _e5 (by omega) (by omega) (by omega) (by omega) (by omega) (by omega) (by omega); omega)
  clear _e5
  try (have c7 : y7 = y5 + y6 := (by
    clear _e8 _e9 _e21 _e23 _e22
    omega)
       clear _e7)
  try (have c9 : y9 = y2 + y8 := (by
    clear _e21 _e23 _e22
    omega)
       clear _e9)
  omega
set_option maxHeartbeats 4000000 in
theorem dead4 (x0 x1 x2 x3 x4 x5 x6 x7 x8 x9 : Int) (B : Bd x0 x1 x2 x3 x4 x5 x6 x7 x8 x9) (y0 y1 y2 y3 y4 y5 y6 y7 y8 y9 y21 y23 y22 : Int) (_e0 : y0 = x7) (_e1 : y1 = (0 : Int)) (_e2 : y2 = x5) (_e3 : y3 = x1) (_e4 : y4 = x0) (_e5 : y5 = (y3 * y4 + 9223372036854775808) % 18446744073709551616 - 9223372036854775808) (_e6 : y6 = x2) (_e7 : y7 = (y5 + y6 + 9223372036854775808) % 18446744073709551616 - 9223372036854775808) (_e8 : y8 = x6) (_e9 : y9 = (y2 + y8 + 9223372036854775808) % 18446744073709551616 - 9223372036854775808) (_e21 : y21 = x8) (_e23 : y23 = (7 : Int)) (_e22 : y22 = x9) (_h0 : y0 = y1) (_h1 : y1 ≤ y2) (_h2 : y2 ≤ y7) (_h3 : y1 ≤ y8) (_h4 : y8 ≤ y6) (_h5 : ¬ (y6 ≤ y9)) (_h6 : y1 = y21) (_h7 : ¬ (y23 = y22)) : False := by
  obtain ⟨_l0, _u0, _l1, _u1, _l2, _u2, _l3, _u3, _l4, _u4, _l5, _u5, _l6, _u6, _l7, _u7, _l8, _u8, _l9, _u9, _g0, _g1, _g2, _g3, _g4, _g5, _g6, _g7, _g8, _g9, _g10, _g11, _g12, _g13, _g14⟩ := B
  have hc : x7 = 0 := by
    clear _e2 _e3 _e4 _e5 _e6 _e7 _e8 _e9 _e21 _e23 _e22 _h1 _h2 _h3 _h4 _h5 _h6 _h7
    omega
  have f0 := _g1 hc
  have f1 := _g2 hc
  have f2 := _g3 hc
  have f3 := _g4 hc
  have f4 := _g5 hc
  have f5 := _g6 hc
  have f6 := _g7 hc
  have f7 := _g8 hc
  have f8 := _g9 hc
  have f9 := _g10 hc
  have f10 := _g11 hc
  have f11 := _g12 hc
  have f12 := _g13 hc
  have f13 := _g14 hc
  clear _g1 _g2 _g3 _g4 _g5 _g6 _g7 _g8 _g9 _g10 _g11 _g12 _g13 _g14
  have q5 : y5 = x1 * x0 ∧ 56 ≤ y5 ∧ y5 ≤ 1536 := by
    clear _e6 _e7 _e8 _e9 _e21 _e23 _e22
    exact (by have := Ev.nl_mul (a := 7) (a' := 24) (b := 8) (b' := 64) _e3 _e4 _e5 (by omega) (by omega) (by omega) (by omega) (by omega) (by omega) (by omega); omega)
  clear _e5
  try (have c7 : y7 = y5 + y6 := (by
    clear _e8 _e9 _e21 _e23 _e22
    omega)
       clear _e7)
  try (have c9 : y9 = y2 + y8 := (by
    clear _e21 _e23 _e22
    omega)
       clear _e9)
  omega
set_option maxHeartbeats 4000000 in
theorem dead5 (x0 x1 x2 x3 x4 x5 x6 x7 x8 x9 : Int) (B : Bd x0 x1 x2 x3 x4 x5 x6 x7 x8 x9) (y0 y1 y2 y3 y4 y5 y6 y7 y8 y9 y21 : Int) (_e0 : y0 = x7) (_e1 : y1 = (0 : Int)) (_e2 : y2 = x5) (_e3 : y3 = x1) (_e4 : y4 = x0) (_e5 : y5 = (y3 * y4 + 9223372036854775808) % 18446744073709551616 - 9223372036854775808) (_e6 : y6 = x2) (_e7 : y7 = (y5 + y6 + 9223372036854775808) % 18446744073709551616 - 9223372036854775808) (_e8 : y8 = x6) (_e9 : y9 = (y2 + y8 + 9223372036854775808) % 18446744073709551616 - 9223372036854775808) (_e21 : y21 = x8) (_h0 : y0 = y1) (_h1 : y1 ≤ y2) (_h2 : y2 ≤ y7) (_h3 : y1 ≤ y8) (_h4 : y8 ≤ y6) (_h5 : ¬ (y6 ≤ y9)) (_h6 : ¬ (y1 = y21)) : False := by
  obtain ⟨_l0, _u0, _l1, _u1, _l2, _u2, _l3, _u3, _l4, _u4, _l5, _u5, _l6, _u6, _l7, _u7, _l8, _u8, _l9, _u9, _g0, _g1, _g2, _g3, _g4, _g5, _g6, _g7, _g8, _g9, _g10, _g11, _g12, _g13, _g14⟩ := B
  have hc : x7 = 0 := by
    clear _e2 _e3 _e4 _e5 _e6 _e7 _e8 _e9 _e21 _h1 _h2 _h3 _h4 _h5 _h6
    omega
  have f0 := _g1 hc
  have f1 := _g2 hc
  have f2 := _g3 hc
  have f3 := _g4 hc
  have f4 := _g5 hc
  have f5 := _g6 hc
  have f6 := _g7 hc
  have f7 := _g8 hc
  have f8 := _g9 hc
  have f9 := _g10 hc
  have f10 := _g11 hc
  have f11 := _g12 hc
  have f12 := _g13 hc
  have f13 := _g14 hc
  clear _g1 _g2 _g3 _g4 _g5 _g6 _g7 _g8 _g9 _g10 _g11 _g12 _g13 _g14
  have q5 : y5 = x1 * x0 ∧ 56 ≤ y5 ∧ y5 ≤ 1536 := by
    clear _e6 _e7 _e8 _e9 _e21
    exact (by have := Ev.nl_mul (a := 7) (a' := 24) (b := 8) (b' := 64) _e3 _e4 _e5 (by omega) (by omega) (by omega) (by omega) (by omega) (by omega) (by omega); omega)
  clear _e5
  try (have c7 : y7 = y5 + y6 := (by
    clear _e8 _e9 _e21
    omega)
       clear _e7)
  try (have c9 : y9 = y2 + y8 := (by
    clear _e21
    omega)
       clear _e9)
  omega
set_option maxHeartbeats 4000000 in
theorem dead6 (x0 x1 x2 x3 x4 x5 x6 x7 x8 x9 : Int) (B : Bd x0 x1 x2 x3 x4 x5 x6 x7 x8 x9) (y0 y1 y2 y3 y4 y5 y6 y7 y8 y21 y23 y22 : Int) (_e0 : y0 = x7) (_e1 : y1 = (0 : Int)) (_e2 : y2 = x5) (_e3 : y3 = x1) (_e4 : y4 = x0) (_e5 : y5 = (y3 * y4 + 9223372036854775808) % 18446744073709551616 - 9223372036854775808) (_e6 : y6 = x2) (_e7 : y7 = (y5 + y6 + 9223372036854775808) % 18446744073709551616 - 9223372036854775808) (_e8 : y8 = x6) (_e21 : y21 = x8) (_e23 : y23 = (7 : Int)) (_e22 : y22 = x9) (_h0 : y0 = y1) (_h1 : y1 ≤ y2) (_h2 : y2 ≤ y7) (_h3 : y1 ≤ y8) (_h4 : ¬ (y8 ≤ y6)) (_h5 : y1 = y21) (_h6 : y23 = y22) (_h7 : y4 = y1) : False := by
  obtain ⟨_l0, _u0, _l1, _u1, _l2, _u2, _l3, _u3, _l4, _u4, _l5, _u5, _l6, _u6, _l7, _u7, _l8, _u8, _l9, _u9, _g0, _g1, _g2, _g3, _g4, _g5, _g6, _g7, _g8, _g9, _g10, _g11, _g12, _g13, _g14⟩ := B
  have hc : x7 = 0 := by
    clear _e2 _e3 _e4 _e5 _e6 _e7 _e8 _e21 _e23 _e22 _h1 _h2 _h3 _h4 _h5 _h6 _h7
    omega
  have f0 := _g1 hc
  have f1 := _g2 hc
  have f2 := _g3 hc
  have f3 := _g4 hc
  have f4 := _g5 hc
  have f5 := _g6 hc
  have f6 := _g7 hc
  have f7 := _g8 hc
  have f8 := _g9 hc
  have f9 := _g10 hc
  have f10 := _g11 hc
  have f11 := _g12 hc
  have f12 := _g13 hc
  have f13 := _g14 hc
  clear _g1 _g2 _g3 _g4 _g5 _g6 _g7 _g8 _g9 _g10 _g11 _g12 _g13 _g14
  have q5 : y5 = x1 * x0 ∧ 56 ≤ y5 ∧ y5 ≤ 1536 := by
    clear _e6 _e7 _e8 _e21 _e23 _e22
    exact (by have := Ev.nl_mul (a := 7) (a' := 24) (b := 8) (b' := 64) _e3 _e4 _e5 (by omega) (by omega) (by omega) (by omega) (by omega) (by omega) (by omega); omega)
  clear _e5
  try (have c7 : y7 = y5 + y6 := (by
    clear _e8 _e21 _e23 _e22
    omega)
       clear _e7)
  omega
set_option maxHeartbeats 4000000 in
theorem dead7 (x0 x1 x2 x3 x4 x5 x6 x7 x8 x9 : Int) (B : Bd x0 x1 x2 x3 x4 x5 x6 x7 x8 x9) (y0 y1 y2 y3 y4 y5 y6 y7 y8 y21 y23 y22 : Int) (_e0 : y0 = x7) (_e1 : y1 = (0 : Int)) (_e2 : y2 = x5) (_e3 : y3 = x1) (_e4 : y4 = x0) (_e5 : y5 = (y3 * y4 + 9223372036854775808) % 18446744073709551616 - 9223372036854775808) (_e6 : y6 = x2) (_e7 : y7 = (y5 + y6 + 9223372036854775808) % 18446744073709551616 - 9223372036854775808) (_e8 : y8 = x6) (_e21 : y21 = x8) (_e23 : y23 = (7 : Int)) (_e22 : y22 = x9) (_h0 : y0 = y1) (_h1 : y1 ≤ y2) (_h2 : y2 ≤ y7) (_h3 : y1 ≤ y8) (_h4 : ¬ (y8 ≤ y6)) (_h5 : y1 = y21) (_h6 : ¬ (y23 = y22)) : False := by
  obtain ⟨_l0, _u0, _l1, _u1, _l2, _u2, _l3, _u3, _l4, _u4, _l5, _u5, _l6, _u6, _l7, _u7, _l8, _u8, _l9, _u9, _g0, _g1, _g2, _g3, _g4, _g5, _g6, _g7, _g8, _g9, _g10, _g11, _g12, _g13, _g14⟩ := B
  have hc : x7 = 0 := by
    clear _e2 _e3 _e4 _e5 _e6 _e7 _e8 _e21 _e23 _e22 _h1 _h2 _h3 _h4 _h5 _h6
    omega
  have f0 := _g1 hc
  have f1 := _g2 hc
  have f2 := _g3 hc
  have f3 := _g4 hc
  have f4 := _g5 hc
  have f5 := _g6 hc
  have f6 := _g7 hc
  have f7 := _g8 hc
  have f8 := _g9 hc
  have f9 := _g10 hc
  have f10 := _g11 hc
  have f11 := _g12 hc
  have f12 := _g13 hc
  have f13 := _g14 hc
  clear _g1 _g2 _g3 _g4 _g5 _g6 _g7 _g8 _g9 _g10 _g11 _g12 _g13 _g14
  have q5 : y5 = x1 * x0 ∧ 56 ≤ y5 ∧ y5 ≤ 1536 := by
    clear _e6 _e7 _e8 _e21 _e23 _e22
    exact (by have := Ev.nl_mul (a := 7) (a' := 24) (b := 8) (b' := 64) _e3 _e4 _e5 (by omega) (by omega) (by omega) (by omega) (by omega) (by omega) (by omega); omega)
  clear _e5
  try (have c7 : y7 = y5 + y6 := (by
    clear _e8 _e21 _e23 _e22
    omega)
       clear _e7)
  omega
set_option maxHeartbeats 4000000 in
theorem dead8 (x0 x1 x2 x3 x4 x5 x6 x7 x8 x9 : Int) (B : Bd x0 x1 x2 x3 x4 x5 x6 x7 x8 x9) (y0 y1 y2 y3 y4 y5 y6 y7 y8 y21 : Int) (_e0 : y0 = x7) (_e1 : y1 = (0 : Int)) (_e2 : y2 = x5) (_e3 : y3 = x1) (_e4 : y4 = x0) (_e5 : y5 = (y3 * y4 + 9223372036854775808) % 18446744073709551616 - 9223372036854775808) (_e6 : y6 = x2) (_e7 : y7 = (y5 + y6 + 9223372036854775808) % 18446744073709551616 - 9223372036854775808) (_e8 : y8 = x6) (_e21 : y21 = x8) (_h0 : y0 = y1) (_h1 : y1 ≤ y2) (_h2 : y2 ≤ y7) (_h3 : y1 ≤ y8) (_h4 : ¬ (y8 ≤ y6)) (_h5 : ¬ (y1 = y21)) : False := by
  obtain ⟨_l0, _u0, _l1, _u1, _l2, _u2, _l3, _u3, _l4, _u4, _l5, _u5, _l6, _u6, _l7, _u7, _l8, _u8, _l9, _u9, _g0, _g1, _g2, _g3, _g4, _g5, _g6, _g7, _g8, _g9, _g10, _g11, _g12, _g13, _g14⟩ := B
  have hc : x7 = 0 := by
    clear _e2 _e3 _e4 _e5 _e6 _e7 _e8 _e21 _h1 _h2 _h3 _h4 _h5
    omega
  have f0 := _g1 hc
  have f1 := _g2 hc
  have f2 := _g3 hc
  have f3 := _g4 hc
  have f4 := _g5 hc
  have f5 := _g6 hc
  have f6 := _g7 hc
  have f7 := _g8 hc
  have f8 := _g9 hc
  have f9 := _g10 hc
  have f10 := _g11 hc
  have f11 := _g12 hc
  have f12 := _g13 hc
  have f13 := _g14 hc
  clear _g1 _g2 _g3 _g4 _g5 _g6 _g7 _g8 _g9 _g10 _g11 _g12 _g13 _g14
  have q5 : y5 = x1 * x0 ∧ 56 ≤ y5 ∧ y5 ≤ 1536 := by
    clear _e6 _e7 _e8 _e21
    exact (by have := Ev.nl_mul (a := 7) (a' := 24) (b := 8) (b' := 64) _e3 _e4 _e5 (by omega) (by omega) (by omega) (by omega) (by omega) (by omega) (by omega); omega)
  clear _e5
  try (have c7 : y7 = y5 + y6 := (by
    clear _e8 _e21
    omega)
       clear _e7)
  omega
set_option maxHeartbeats 4000000 in
theorem dead9 (x0 x1 x2 x3 x4 x5 x6 x7 x8 x9 : Int) (B : Bd x0 x1 x2 x3 x4 x5 x6 x7 x8 x9) (y0 y1 y2 y3 y4 y5 y6 y7 y8 y21 y23 y22 : Int) (_e0 : y0 = x7) (_e1 : y1 = (0 : Int)) (_e2 : y2 = x5) (_e3 : y3 = x1) (_e4 : y4 = x0) (_e5 : y5 = (y3 * y4 + 9223372036854775808) % 18446744073709551616 - 9223372036854775808) (_e6 : y6 = x2) (_e7 : y7 = (y5 + y6 + 9223372036854775808) % 18446744073709551616 - 9223372036854775808) (_e8 : y8 = x6) (_e21 : y21 = x8) (_e23 : y23 = (7 : Int)) (_e22 : y22 = x9) (_h0 : y0 = y1) (_h1 : y1 ≤ y2) (_h2 : y2 ≤ y7) (_h3 : ¬ (y1 ≤ y8)) (_h4 : y1 = y21) (_h5 : y23 = y22) (_h6 : y4 = y1) : False := by
  obtain ⟨_l0, _u0, _l1, _u1, _l2, _u2, _l3, _u3, _l4, _u4, _l5, _u5, _l6, _u6, _l7, _u7, _l8, _u8, _l9, _u9, _g0, _g1, _g2, _g3, _g4, _g5, _g6, _g7, _g8, _g9, _g10, _g11, _g12, _g13, _g14⟩ := B
  have hc : x7 = 0 := by
    clear _e2 _e3 _e4 _e5 _e6 _e7 _e8 _e21 _e23 _e22 _h1 _h2 _h3 _h4 _h5 _h6
    omega
  have f0 := _g1 hc
  have f1 := _g2 hc
  have f2 := _g3 hc
  have f3 := _g4 hc
  have f4 := _g5 hc
  have f5 := _g6 hc
  have f6 := _g7 hc
  have f7 := _g8 hc
  have f8 := _g9 hc
  have f9 := _g10 hc
  have f10 := _g11 hc
  have f11 := _g12 hc
  have f12 := _g13 hc
  have f13 := _g14 hc
  clear _g1 _g2 _g3 _g4 _g5 _g6 _g7 _g8 _g9 _g10 _g11 _g12 _g13 _g14
  have q5 : y5 = x1 * x0 ∧ 56 ≤ y5 ∧ y5 ≤ 1536 := by
    clear _e6 _e7 _e8 _e21 _e23 _e22
    exact (by have := Ev.nl_mul (a := 7) (a' := 24) (b := 8) (b' := 64) _e3 _e4 _e5 (by omega) (by omega) (by omega) (by omega) (by omega) (by omega) (by omega); omega)
  clear _e5
  try (have c7 : y7 = y5 + y6 := (by
    clear _e8 _e21 _e23 _e22
    omega)
       clear _e7)
  omega
set_option maxHeartbeats 4000000 in
theorem dead10 (x0 x1 x2 x3 x4 x5 x6 x7 x8 x9 : Int) (B : Bd x0 x1 x2 x3 x4 x5 x6 x7 x8 x9) (y0 y1 y2 y3 y4 y5 y6 y7 y8 y21 y23 y22 : Int) (_e0 : y0 = x7) (_e1 : y1 = (0 : Int)) (_e2 : y2 = x5) (_e3 : y3 = x1) (_e4 : y4 = x0) (_e5 : y5 = (y3 * y4 + 9223372036854775808) % 18446744073709551616 - 9223372036854775808) (_e6 : y6 = x2) (_e7 : y7 = (y5 + y6 + 9223372036854775808) % 18446744073709551616 - 9223372036854775808) (_e8 : y8 = x6) (_e21 : y21 = x8) (_e23 : y23 = (7 : Int)) (_e22 : y22 = x9) (_h0 : y0 = y1) (_h1 : y1 ≤ y2) (_h2 : y2 ≤ y7) (_h3 : ¬ (y1 ≤ y8)) (_h4 : y1 = y21) (_h5 : ¬ (y23 = y22)) : False := by
  obtain ⟨_l0, _u0, _l1, _u1, _l2, _u2, _l3, _u3, _l4, _u4, _l5, _u5, _l6, _u6, _l7, _u7, _l8, _u8, _l9, _u9, _g0, _g1, _g2, _g3, _g4, _g5, _g6, _g7, _g8, _g9, _g10, _g11, _g12, _g13, _g14⟩ := B
  have hc : x7 = 0 := by
    clear _e2 _e3 _e4 _e5 _e6 _e7 _e8 _e21 _e23 _e22 _h1 _h2 _h3 _h4 _h5
    omega
  have f0 := _g1 hc
  have f1 := _g2 hc
  have f2 := _g3 hc
  have f3 := _g4 hc
  have f4 := _g5 hc
  have f5 := _g6 hc
  have f6 := _g7 hc
  have f7 := _g8 hc
  have f8 := _g9 hc
  have f9 := _g10 hc
  have f10 := _g11 hc
  have f11 := _g12 hc
  have f12 := _g13 hc
  have f13 := _g14 hc
  clear _g1 _g2 _g3 _g4 _g5 _g6 _g7 _g8 _g9 _g10 _g11 _g12 _g13 _g14
  have q5 : y5 = x1 * x0 ∧ 56 ≤ y5 ∧ y5 ≤ 1536 := by
    clear _e6 _e7 _e8 _e21 _e23 _e22
    exact (by have := Ev.nl_mul (a := 7) (a' := 24) (b := 8) (b' := 64) _e3 _e4 _e5 (by omega) (by omega) (by omega) (by omega) (by omega) (by omega) (by omega); omega)
  clear _e5
  try (have c7 : y7 = y5 + y6 := (by
    clear _e8 _e21 _e23 _e22
    omega)
       clear _e7)
  omega
set_option maxHeartbeats 4000000 in
theorem dead11 (x0 x1 x2 x3 x4 x5 x6 x7 x8 x9 : Int) (B : Bd x0 x1 x2 x3 x4 x5 x6 x7 x8 x9) (y0 y1 y2 y3 y4 y5 y6 y7 y8 y21 : Int) (_e0 : y0 = x7) (_e1 : y1 = (0 : Int)) (_e2 : y2 = x5) (_e3 : y3 = x1) (_e4 : y4 = x0) (_e5 : y5 = (y3 * y4 + 9223372036854775808) % 18446744073709551616 - 9223372036854775808) (_e6 : y6 = x2) (_e7 : y7 = (y5 + y6 + 9223372036854775808) % 18446744073709551616 - 9223372036854775808) (_e8 : y8 = x6) (_e21 : y21 = x8) (_h0 : y0 = y1) (_h1 : y1 ≤ y2) (_h2 : y2 ≤ y7) (_h3 : ¬ (y1 ≤ y8)) (_h4 : ¬ (y1 = y21)) : False := by
  obtain ⟨_l0, _u0, _l1, _u1, _l2, _u2, _l3, _u3, _l4, _u4, _l5, _u5, _l6, _u6, _l7, _u7, _l8, _u8, _l9, _u9, _g0, _g1, _g2, _g3, _g4, _g5, _g6, _g7, _g8, _g9, _g10, _g11, _g12, _g13, _g14⟩ := B
  have hc : x7 = 0 := by
    clear _e2 _e3 _e4 _e5 _e6 _e7 _e8 _e21 _h1 _h2 _h3 _h4
    omega
  have f0 := _g1 hc
  have f1 := _g2 hc
  have f2 := _g3 hc
  have f3 := _g4 hc
  have f4 := _g5 hc
  have f5 := _g6 hc
  have f6 := _g7 hc
  have f7 := _g8 hc
  have f8 := _g9 hc
  have f9 := _g10 hc
  have f10 := _g11 hc
  have f11 := _g12 hc
  have f12 := _g13 hc
  have f13 := _g14 hc
  clear _g1 _g2 _g3 _g4 _g5 _g6 _g7 _g8 _g9 _g10 _g11 _g12 _g13 _g14
  have q5 : y5 = x1 * x0 ∧ 56 ≤ y5 ∧ y5 ≤ 1536 := by
    clear _e6 _e7 _e8 _e21
    exact (by have := Ev.nl_mul (a := 7) (a' := 24) (b := 8) (b' := 64) _e3 _e4 _e5 (by omega) (by omega) (by omega) (by omega) (by omega) (by omega) (by omega); omega)
  clear _e5
  try (have c7 : y7 = y5 + y6 := (by
    clear _e8 _e21
    omega)
       clear _e7)
  omega
set_option maxHeartbeats 4000000 in
theorem dead12 (x0 x1 x2 x3 x4 x5 x6 x7 x8 x9 : Int) (B : Bd x0 x1 x2 x3 x4 x5 x6 x7 x8 x9) (y0 y1 y2 y3 y4 y5 y6 y7 y21 y23 y22 : Int) (_e0 : y0 = x7) (_e1 : y1 = (0 : Int)) (_e2 : y2 = x5) (_e3 : y3 = x1) (_e4 : y4 = x0) (_e5 : y5 = (y3 * y4 + 9223372036854775808) % 18446744073709551616 - 9223372036854775808) (_e6 : y6 = x2) (_e7 : y7 = (y5 + y6 + 9223372036854775808) % 18446744073709551616 - 9223372036854775808) (_e21 : y21 = x8) (_e23 : y23 = (7 : Int)) (_e22 : y22 = x9) (_h0 : y0 = y1) (_h1 : y1 ≤ y2) (_h2 : ¬ (y2 ≤ y7)) (_h3 : y1 = y21) (_h4 : ¬ (y23 = y22)) : False := by
  obtain ⟨_l0, _u0, _l1, _u1, _l2, _u2, _l3, _u3, _l4, _u4, _l5, _u5, _l6, _u6, _l7, _u7, _l8, _u8, _l9, _u9, _g0, _g1, _g2, _g3, _g4, _g5, _g6, _g7, _g8, _g9, _g10, _g11, _g12, _g13, _g14⟩ := B
  have hc : x7 = 0 := by
    clear _e2 _e3 _e4 _e5 _e6 _e7 _e21 _e23 _e22 _h1 _h2 _h3 _h4
    omega
  have f0 := _g1 hc
  have f1 := _g2 hc
  have f2 := _g3 hc
  have f3 := _g4 hc
  have f4 := _g5 hc
  have f5 := _g6 hc
  have f6 := _g7 hc
  have f7 := _g8 hc
  have f8 := _g9 hc
  have f9 := _g10 hc
  have f10 := _g11 hc
  have f11 := _g12 hc
  have f12 := _g13 hc
  have f13 := _g14 hc
  clear _g1 _g2 _g3 _g4 _g5 _g6 _g7 _g8 _g9 _g10 _g11 _g12 _g13 _g14
  have q5 : y5 = x1 * x0 ∧ 56 ≤ y5 ∧ y5 ≤ 1536 := by
    clear _e6 _e7 _e21 _e23 _e22
    exact (by have := Ev.nl_mul (a := 7) (a' := 24) (b := 8) (b' := 64) _e3 _e4 _e5 (by omega) (by omega) (by omega) (by omega) (by omega) (by omega) (by omega); omega)
  clear _e5
  try (have c7 : y7 = y5 + y6 := (by
    clear _e21 _e23 _e22
    omega)
       clear _e7)
  omega
set_option maxHeartbeats 4000000 in
theorem dead13 (x0 x1 x2 x3 x4 x5 x6 x7 x8 x9 : Int) (B : Bd x0 x1 x2 x3 x4 x5 x6 x7 x8 x9) (y0 y1 y2 y3 y4 y5 y6 y7 y21 : Int) (_e0 : y0 = x7) (_e1 : y1 = (0 : Int)) (_e2 : y2 = x5) (_e3 : y3 = x1) (_e4 : y4 = x0) (_e5 : y5 = (y3 * y4 + 9223372036854775808) % 18446744073709551616 - 9223372036854775808) (_e6 : y6 = x2) (_e7 : y7 = (y5 + y6 + 9223372036854775808) % 18446744073709551616 - 9223372036854775808) (_e21 : y21 = x8) (_h0 : y0 = y1) (_h1 : y1 ≤ y2) (_h2 : ¬ (y2 ≤ y7)) (_h3 : ¬ (y1 = y21)) : False := by
  obtain ⟨_l0, _u0, _l1, _u1, _l2, _u2, _l3, _u3, _l4, _u4, _l5, _u5, _l6, _u6, _l7, _u7, _l8, _u8, _l9, _u9, _g0, _g1, _g2, _g3, _g4, _g5, _g6, _g7, _g8, _g9, _g10, _g11, _g12, _g13, _g14⟩ := B
  have hc : x7 = 0 := by
    clear _e2 _e3 _e4 _e5 _e6 _e7 _e21 _h1 _h2 _h3
    omega
  have f0 := _g1 hc
  have f1 := _g2 hc
  have f2 := _g3 hc
  have f3 := _g4 hc
  have f4 := _g5 hc
  have f5 := _g6 hc
  have f6 := _g7 hc
  have f7 := _g8 hc
  have f8 := _g9 hc
  have f9 := _g10 hc
  have f10 := _g11 hc
  have f11 := _g12 hc
  have f12 := _g13 hc
  have f13 := _g14 hc
  clear _g1 _g2 _g3 _g4 _g5 _g6 _g7 _g8 _g9 _g10 _g11 _g12 _g13 _g14
  have q5 : y5 = x1 * x0 ∧ 56 ≤ y5 ∧ y5 ≤ 1536 := by
    clear _e6 _e7 _e21
    exact (by have := Ev.nl_mul (a := 7) (a' := 24) (b := 8) (b' := 64) _e3 _e4 _e5 (by omega) (by omega) (by omega) (by omega) (by omega) (by omega) (by omega); omega)
  clear _e5
  try (have c7 : y7 = y5 + y6 := (by
    clear _e21
    omega)
       clear _e7)
  omega
set_option maxHeartbeats 4000000 in
theorem dead14 (x0 x1 x2 x3 x4 x5 x6 x7 x8 x9 : Int) (B : Bd x0 x1 x2 x3 x4 x5 x6 x7 x8 x9) (y0 y1 y2 y21 y23 y22 : Int) (_e0 : y0 = x7) (_e1 : y1 = (0 : Int)) (_e2 : y2 = x5) (_e21 : y21 = x8) (_e23 : y23 = (7 : Int)) (_e22 : y22 = x9) (_h0 : y0 = y1) (_h1 : ¬ (y1 ≤ y2)) (_h2 : y1 = y21) (_h3 : ¬ (y23 = y22)) : False := by
  obtain ⟨_l0, _u0, _l1, _u1, _l2, _u2, _l3, _u3, _l4, _u4, _l5, _u5, _l6, _u6, _l7, _u7, _l8, _u8, _l9, _u9, _g0, _g1, _g2, _g3, _g4, _g5, _g6, _g7, _g8, _g9, _g10, _g11, _g12, _g13, _g14⟩ := B
  have hc : x7 = 0 := by
    clear _e2 _e21 _e23 _e22 _h1 _h2 _h3
    omega
  have f0 := _g1 hc
  have f1 := _g2 hc
  have f2 := _g3 hc
  have f3 := _g4 hc
  have f4 := _g5 hc
  have f5 := _g6 hc
  have f6 := _g7 hc
  have f7 := _g8 hc
  have f8 := _g9 hc
  have f9 := _g10 hc
  have f10 := _g11 hc
  have f11 := _g12 hc
  have f12 := _g13 hc
  have f13 := _g14 hc
  clear _g1 _g2 _g3 _g4 _g5 _g6 _g7 _g8 _g9 _g10 _g11 _g12 _g13 _g14
  omega
set_option maxHeartbeats 4000000 in
theorem dead15 (x0 x1 x2 x3 x4 x5 x6 x7 x8 x9 : Int) (B : Bd x0 x1 x2 x3 x4 x5 x6 x7 x8 x9) (y0 y1 y2 y21 : Int) (_e0 : y0 = x7) (_e1 : y1 = (0 : Int)) (_e2 : y2 = x5) (_e21 : y21 = x8) (_h0 : y0 = y1) (_h1 : ¬ (y1 ≤ y2)) (_h2 : ¬ (y1 = y21)) : False := by
  obtain ⟨_l0, _u0, _l1, _u1, _l2, _u2, _l3, _u3, _l4, _u4, _l5, _u5, _l6, _u6, _l7, _u7, _l8, _u8, _l9, _u9, _g0, _g1, _g2, _g3, _g4, _g5, _g6, _g7, _g8, _g9, _g10, _g11, _g12, _g13, _g14⟩ := B
  have hc : x7 = 0 := by
    clear _e2 _e21 _h1 _h2
    omega
  have f0 := _g1 hc
  have f1 := _g2 hc
  have f2 := _g3 hc
  have f3 := _g4 hc
  have f4 := _g5 hc
  have f5 := _g6 hc
  have f6 := _g7 hc
  have f7 := _g8 hc
  have f8 := _g9 hc
  have f9 := _g10 hc
  have f10 := _g11 hc
  have f11 := _g12 hc
  have f12 := _g13 hc
  have f13 := _g14 hc
  clear _g1 _g2 _g3 _g4 _g5 _g6 _g7 _g8 _g9 _g10 _g11 _g12 _g13 _g14
  omega
set_option maxHeartbeats 4000000 in
theorem dead16 (x0 x1 x2 x3 x4 x5 x6 x7 x8 x9 : Int) (B : Bd x0 x1 x2 x3 x4 x5 x6 x7 x8 x9) (y0 y1 y21 y22 : Int) (_e0 : y0 = x7) (_e1 : y1 = (0 : Int)) (_e21 : y21 = x8) (_e22 : y22 = x9) (_h0 : ¬ (y0 = y1)) (_h1 : y1 = y21) (_h2 : ¬ (y0 = y22)) : False := by
  obtain ⟨_l0, _u0, _l1, _u1, _l2, _u2, _l3, _u3, _l4, _u4, _l5, _u5, _l6, _u6, _l7, _u7, _l8, _u8, _l9, _u9, _g0, _g1, _g2, _g3, _g4, _g5, _g6, _g7, _g8, _g9, _g10, _g11, _g12, _g13, _g14⟩ := B
  clear _g1 _g2 _g3 _g4 _g5 _g6 _g7 _g8 _g9 _g10 _g11 _g12 _g13 _g14
  omega
set_option maxHeartbeats 4000000 in
theorem dead17 (x0 x1 x2 x3 x4 x5 x6 x7 x8 x9 : Int) (B : Bd x0 x1 x2 x3 x4 x5 x6 x7 x8 x9) (y0 y1 y21 : Int) (_e0 : y0 = x7) (_e1 : y1 = (0 : Int)) (_e21 : y21 = x8) (_h0 : ¬ (y0 = y1)) (_h1 : ¬ (y1 = y21)) : False := by
  obtain ⟨_l0, _u0, _l1, _u1, _l2, _u2, _l3, _u3, _l4, _u4, _l5, _u5, _l6, _u6, _l7, _u7, _l8, _u8, _l9, _u9, _g0, _g1, _g2, _g3, _g4, _g5, _g6, _g7, _g8, _g9, _g10, _g11, _g12, _g13, _g14⟩ := B
  clear _g1 _g2 _g3 _g4 _g5 _g6 _g7 _g8 _g9 _g10 _g11 _g12 _g13 _g14
  omega

end Go.Proofs.Ytffaikcaenkkhab.admitWords
