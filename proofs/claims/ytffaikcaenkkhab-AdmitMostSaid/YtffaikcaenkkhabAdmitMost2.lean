/-
  'shunterlaw26.AdmitMost': ways that no numbers lead to. No project text.
-/
import Derived.Test.YtffaikcaenkkhabAdmitMost1
namespace Go.Proofs.Ytffaikcaenkkhab.admitMost
open Go.ChangeShapes Go.WideShapes Go.ChangeAt Go.RowKit

set_option maxHeartbeats 4000000 in
theorem dead0 (x0 x1 x2 x3 x4 x5 x6 x7 x8 : Int) (B : Bd x0 x1 x2 x3 x4 x5 x6 x7 x8) (y0 y1 y2 y3 y4 y5 y6 y7 y8 y9 y10 y11 y12 y13 y14 y15 y16 y17 y18 y19 y20 y21 y22 y23 y24 : Int) (_e0 : y0 = x8) (_e1 : y1 = (0 : Int)) (_e2 : y2 = x5) (_e3 : y3 = x1) (_e4 : y4 = x0) (_e5 : y5 = (y3 * y4 + 9223372036854775808) % 18446744073709551616 - 9223372036854775808) (_e6 : y6 = x2) (_e7 : y7 = (y5 + y6 + 9223372036854775808) % 18446744073709551616 - 9223372036854775808) (_e8 : y8 = x6) (_e9 : y9 = (y2 + y8 + 9223372036854775808) % 18446744073709551616 - 9223372036854775808) (_e10 : y10 = (2 : Int)) (_e11 : y11 = ((if 0 ≤ y4 then y4 / 2 else -((-y4) / 2)) + 9223372036854775808) % 18446744073709551616 - 9223372036854775808) (_e12 : y12 = if y11 ≤ y6 then y11 else y6) (_e13 : y13 = if y12 ≤ y8 then y12 else y8) (_e14 : y14 = (6 : Int)) (_e15 : y15 = (y3 - y14 + 9223372036854775808) % 18446744073709551616 - 9223372036854775808) (_e16 : y16 = (y4 * y15 + 9223372036854775808) % 18446744073709551616 - 9223372036854775808) (_e17 : y17 = ((if 0 ≤ y16 then y16 / 2 else -((-y16) / 2)) + 9223372036854775808) % 18446744073709551616 - 9223372036854775808) (_e18 : y18 = (y17 - y2 + 9223372036854775808) % 18446744073709551616 - 9223372036854775808) (_e19 : y19 = if y18 ≤ y1 then y1 else y18) (_e20 : y20 = if y13 ≤ y19 then y13 else y19) (_e21 : y21 = (1 : Int)) (_e22 : y22 = (y20 + y21 + 9223372036854775808) % 18446744073709551616 - 9223372036854775808) (_e23 : y23 = (y2 + y22 + 9223372036854775808) % 18446744073709551616 - 9223372036854775808) (_e24 : y24 = ((2 : Int) * y23 + 9223372036854775808) % 18446744073709551616 - 9223372036854775808) (_h0 : y0 = y1) (_h1 : y1 ≤ y2) (_h2 : y2 ≤ y7) (_h3 : y1 ≤ y8) (_h4 : y8 ≤ y6) (_h5 : y6 ≤ y9) (_h6 : y20 ≤ y1) (_h7 : y21 ≤ y22) (_h8 : y22 ≤ y12) (_h9 : y22 ≤ y8) (_h10 : y24 ≤ y16) : False := by
  obtain ⟨_l0, _u0, _l1, _u1, _l2, _u2, _l3, _u3, _l4, _u4, _l5, _u5, _l6, _u6, _l7, _u7, _l8, _u8, _g0, _g1, _g2, _g3, _g4, _g5, _g6, _g7, _g8, _g9⟩ := B
  have f0 := _g0 (by omega)
  have f1 := _g1 (by omega)
  have f2 := _g2 (by omega)
  have f3 := _g3 (by omega)
  have f4 := _g4 (by omega)
  have f5 := _g5 (by omega)
  have f6 := _g6 (by omega)
  have f7 := _g7 (by omega)
  have f8 := _g8 (by omega)
  have f9 := _g9 (by omega)
  clear _g0 _g1 _g2 _g3 _g4 _g5 _g6 _g7 _g8 _g9
  have q5 : y5 = x1 * x0 ∧ 56 ≤ y5 ∧ y5 ≤ 1536 := by have := Ev.nl_mul (a := 7) (a' := 24) (b := 8) (b' := 64) _e3 _e4 _e5 (by omega) (by omega) (by omega) (by omega) (by omega) (by omega) (by omega); omega
  clear _e5
  have q16 : y16 = x1 * x0 - 6 * x0 ∧ 8 ≤ y16 ∧ y16 ≤ 1152 := by
    have hy : y15 = x1 - 6 := by omega
    have := Ev.nl_mul (a := 8) (a' := 64) (b := 1) (b' := 18) _e4 hy _e16 (by omega) (by omega) (by omega) (by omega) (by omega) (by omega) (by omega)
    rw [show x0 * (x1 - 6) = x1 * x0 - 6 * x0 by rw [Int.mul_sub, Int.mul_comm x0 x1, Int.mul_comm x0 6]] at this
    omega
  clear _e16
  try (have c7 : y7 = y5 + y6 := (by
    clear _e8 _e9 _e10 _e11 _e12 _e13 _e14 _e15 _e17 _e18 _e19 _e20 _e21 _e22 _e23 _e24
    omega)
       clear _e7)
  try (have c9 : y9 = y2 + y8 := (by
    clear _e10 _e11 _e12 _e13 _e14 _e15 _e17 _e18 _e19 _e20 _e21 _e22 _e23 _e24
    omega)
       clear _e9)
  try (have c11 : y11 = y4 / 2 := (by
    clear _e12 _e13 _e14 _e15 _e17 _e18 _e19 _e20 _e21 _e22 _e23 _e24
    omega)
       clear _e11)
  try (have c15 : y15 = y3 - y14 := (by
    clear _e17 _e18 _e19 _e20 _e21 _e22 _e23 _e24
    omega)
       clear _e15)
  try (have c17 : y17 = y16 / 2 := (by
    clear _e18 _e19 _e20 _e21 _e22 _e23 _e24
    omega)
       clear _e17)
  try (have c18 : y18 = y17 - y2 := (by
    clear _e19 _e20 _e21 _e22 _e23 _e24
    omega)
       clear _e18)
  try (have c22 : y22 = y20 + y21 := (by
    clear _e23 _e24
    omega)
       clear _e22)
  try (have c23 : y23 = y2 + y22 := (by
    clear _e24
    omega)
       clear _e23)
  try (have c24 : y24 = (2) * y23 := (by
    omega)
       clear _e24)
  omega
set_option maxHeartbeats 4000000 in
theorem dead1 (x0 x1 x2 x3 x4 x5 x6 x7 x8 : Int) (B : Bd x0 x1 x2 x3 x4 x5 x6 x7 x8) (y0 y1 y2 y3 y4 y5 y6 y7 y8 y9 y10 y11 y12 y13 y14 y15 y16 y17 y18 y19 y20 y21 y22 y23 y24 : Int) (_e0 : y0 = x8) (_e1 : y1 = (0 : Int)) (_e2 : y2 = x5) (_e3 : y3 = x1) (_e4 : y4 = x0) (_e5 : y5 = (y3 * y4 + 9223372036854775808) % 18446744073709551616 - 9223372036854775808) (_e6 : y6 = x2) (_e7 : y7 = (y5 + y6 + 9223372036854775808) % 18446744073709551616 - 9223372036854775808) (_e8 : y8 = x6) (_e9 : y9 = (y2 + y8 + 9223372036854775808) % 18446744073709551616 - 9223372036854775808) (_e10 : y10 = (2 : Int)) (_e11 : y11 = ((if 0 ≤ y4 then y4 / 2 else -((-y4) / 2)) + 9223372036854775808) % 18446744073709551616 - 9223372036854775808) (_e12 : y12 = if y11 ≤ y6 then y11 else y6) (_e13 : y13 = if y12 ≤ y8 then y12 else y8) (_e14 : y14 = (6 : Int)) (_e15 : y15 = (y3 - y14 + 9223372036854775808) % 18446744073709551616 - 9223372036854775808) (_e16 : y16 = (y4 * y15 + 9223372036854775808) % 18446744073709551616 - 9223372036854775808) (_e17 : y17 = ((if 0 ≤ y16 then y16 / 2 else -((-y16) / 2)) + 9223372036854775808) % 18446744073709551616 - 9223372036854775808) (_e18 : y18 = (y17 - y2 + 9223372036854775808) % 18446744073709551616 - 9223372036854775808) (_e19 : y19 = if y18 ≤ y1 then y1 else y18) (_e20 : y20 = if y13 ≤ y19 then y13 else y19) (_e21 : y21 = (1 : Int)) (_e22 : y22 = (y20 + y21 + 9223372036854775808) % 18446744073709551616 - 9223372036854775808) (_e23 : y23 = (y2 + y22 + 9223372036854775808) % 18446744073709551616 - 9223372036854775808) (_e24 : y24 = ((2 : Int) * y23 + 9223372036854775808) % 18446744073709551616 - 9223372036854775808) (_h0 : y0 = y1) (_h1 : y1 ≤ y2) (_h2 : y2 ≤ y7) (_h3 : y1 ≤ y8) (_h4 : y8 ≤ y6) (_h5 : y6 ≤ y9) (_h6 : y20 ≤ y1) (_h7 : y21 ≤ y22) (_h8 : y22 ≤ y12) (_h9 : y22 ≤ y8) (_h10 : ¬ (y24 ≤ y16)) (_h11 : y20 = y12) : False := by
  obtain ⟨_l0, _u0, _l1, _u1, _l2, _u2, _l3, _u3, _l4, _u4, _l5, _u5, _l6, _u6, _l7, _u7, _l8, _u8, _g0, _g1, _g2, _g3, _g4, _g5, _g6, _g7, _g8, _g9⟩ := B
  have f0 := _g0 (by omega)
  have f1 := _g1 (by omega)
  have f2 := _g2 (by omega)
  have f3 := _g3 (by omega)
  have f4 := _g4 (by omega)
  have f5 := _g5 (by omega)
  have f6 := _g6 (by omega)
  have f7 := _g7 (by omega)
  have f8 := _g8 (by omega)
  have f9 := _g9 (by omega)
  clear _g0 _g1 _g2 _g3 _g4 _g5 _g6 _g7 _g8 _g9
  have q5 : y5 = x1 * x0 ∧ 56 ≤ y5 ∧ y5 ≤ 1536 := by have := Ev.nl_mul (a := 7) (a' := 24) (b := 8) (b' := 64) _e3 _e4 _e5 (by omega) (by omega) (by omega) (by omega) (by omega) (by omega) (by omega); omega
  clear _e5
  have q16 : y16 = x1 * x0 - 6 * x0 ∧ 8 ≤ y16 ∧ y16 ≤ 1152 := by
    have hy : y15 = x1 - 6 := by omega
    have := Ev.nl_mul (a := 8) (a' := 64) (b := 1) (b' := 18) _e4 hy _e16 (by omega) (by omega) (by omega) (by omega) (by omega) (by omega) (by omega)
    rw [show x0 * (x1 - 6) = x1 * x0 - 6 * x0 by rw [Int.mul_sub, Int.mul_comm x0 x1, Int.mul_comm x0 6]] at this
    omega
  clear _e16
  try (have c7 : y7 = y5 + y6 := (by
    clear _e8 _e9 _e10 _e11 _e12 _e13 _e14 _e15 _e17 _e18 _e19 _e20 _e21 _e22 _e23 _e24
    omega)
       clear _e7)
  try (have c9 : y9 = y2 + y8 := (by
    clear _e10 _e11 _e12 _e13 _e14 _e15 _e17 _e18 _e19 _e20 _e21 _e22 _e23 _e24
    omega)
       clear _e9)
  try (have c11 : y11 = y4 / 2 := (by
    clear _e12 _e13 _e14 _e15 _e17 _e18 _e19 _e20 _e21 _e22 _e23 _e24
    omega)
       clear _e11)
  try (have c15 : y15 = y3 - y14 := (by
    clear _e17 _e18 _e19 _e20 _e21 _e22 _e23 _e24
    omega)
       clear _e15)
  try (have c17 : y17 = y16 / 2 := (by
    clear _e18 _e19 _e20 _e21 _e22 _e23 _e24
    omega)
       clear _e17)
  try (have c18 : y18 = y17 - y2 := (by
    clear _e19 _e20 _e21 _e22 _e23 _e24
    omega)
       clear _e18)
  try (have c22 : y22 = y20 + y21 := (by
    clear _e23 _e24
    omega)
       clear _e22)
  try (have c23 : y23 = y2 + y22 := (by
    clear _e24
    omega)
       clear _e23)
  try (have c24 : y24 = (2) * y23 := (by
    omega)
       clear _e24)
  omega
set_option maxHeartbeats 4000000 in
theorem dead2 (x0 x1 x2 x3 x4 x5 x6 x7 x8 : Int) (B : Bd x0 x1 x2 x3 x4 x5 x6 x7 x8) (y0 y1 y2 y3 y4 y5 y6 y7 y8 y9 y10 y11 y12 y13 y14 y15 y16 y17 y18 y19 y20 y21 y22 : Int) (_e0 : y0 = x8) (_e1 : y1 = (0 : Int)) (_e2 : y2 = x5) (_e3 : y3 = x1) (_e4 : y4 = x0) (_e5 : y5 = (y3 * y4 + 9223372036854775808) % 18446744073709551616 - 9223372036854775808) (_e6 : y6 = x2) (_e7 : y7 = (y5 + y6 + 9223372036854775808) % 18446744073709551616 - 9223372036854775808) (_e8 : y8 = x6) (_e9 : y9 = (y2 + y8 + 9223372036854775808) % 18446744073709551616 - 9223372036854775808) (_e10 : y10 = (2 : Int)) (_e11 : y11 = ((if 0 ≤ y4 then y4 / 2 else -((-y4) / 2)) + 9223372036854775808) % 18446744073709551616 - 9223372036854775808) (_e12 : y12 = if y11 ≤ y6 then y11 else y6) (_e13 : y13 = if y12 ≤ y8 then y12 else y8) (_e14 : y14 = (6 : Int)) (_e15 : y15 = (y3 - y14 + 9223372036854775808) % 18446744073709551616 - 9223372036854775808) (_e16 : y16 = (y4 * y15 + 9223372036854775808) % 18446744073709551616 - 9223372036854775808) (_e17 : y17 = ((if 0 ≤ y16 then y16 / 2 else -((-y16) / 2)) + 9223372036854775808) % 18446744073709551616 - 9223372036854775808) (_e18 : y18 = (y17 - y2 + 9223372036854775808) % 18446744073709551616 - 9223372036854775808) (_e19 : y19 = if y18 ≤ y1 then y1 else y18) (_e20 : y20 = if y13 ≤ y19 then y13 else y19) (_e21 : y21 = (1 : Int)) (_e22 : y22 = (y20 + y21 + 9223372036854775808) % 18446744073709551616 - 9223372036854775808) (_h0 : y0 = y1) (_h1 : y1 ≤ y2) (_h2 : y2 ≤ y7) (_h3 : y1 ≤ y8) (_h4 : y8 ≤ y6) (_h5 : y6 ≤ y9) (_h6 : y20 ≤ y1) (_h7 : y21 ≤ y22) (_h8 : y22 ≤ y12) (_h9 : ¬ (y22 ≤ y8)) (_h10 : y20 = y12) : False := by
  obtain ⟨_l0, _u0, _l1, _u1, _l2, _u2, _l3, _u3, _l4, _u4, _l5, _u5, _l6, _u6, _l7, _u7, _l8, _u8, _g0, _g1, _g2, _g3, _g4, _g5, _g6, _g7, _g8, _g9⟩ := B
  have f0 := _g0 (by omega)
  have f1 := _g1 (by omega)
  have f2 := _g2 (by omega)
  have f3 := _g3 (by omega)
  have f4 := _g4 (by omega)
  have f5 := _g5 (by omega)
  have f6 := _g6 (by omega)
  have f7 := _g7 (by omega)
  have f8 := _g8 (by omega)
  have f9 := _g9 (by omega)
  clear _g0 _g1 _g2 _g3 _g4 _g5 _g6 _g7 _g8 _g9
  have q5 : y5 = x1 * x0 ∧ 56 ≤ y5 ∧ y5 ≤ 1536 := by have := Ev.nl_mul (a := 7) (a' := 24) (b := 8) (b' := 64) _e3 _e4 _e5 (by omega) (by omega) (by omega) (by omega) (by omega) (by omega) (by omega); omega
  clear _e5
  have q16 : y16 = x1 * x0 - 6 * x0 ∧ 8 ≤ y16 ∧ y16 ≤ 1152 := by
    have hy : y15 = x1 - 6 := by omega
    have := Ev.nl_mul (a := 8) (a' := 64) (b := 1) (b' := 18) _e4 hy _e16 (by omega) (by omega) (by omega) (by omega) (by omega) (by omega) (by omega)
    rw [show x0 * (x1 - 6) = x1 * x0 - 6 * x0 by rw [Int.mul_sub, Int.mul_comm x0 x1, Int.mul_comm x0 6]] at this
    omega
  clear _e16
  try (have c7 : y7 = y5 + y6 := (by
    clear _e8 _e9 _e10 _e11 _e12 _e13 _e14 _e15 _e17 _e18 _e19 _e20 _e21 _e22
    omega)
       clear _e7)
  try (have c9 : y9 = y2 + y8 := (by
    clear _e10 _e11 _e12 _e13 _e14 _e15 _e17 _e18 _e19 _e20 _e21 _e22
    omega)
       clear _e9)
  try (have c11 : y11 = y4 / 2 := (by
    clear _e12 _e13 _e14 _e15 _e17 _e18 _e19 _e20 _e21 _e22
    omega)
       clear _e11)
  try (have c15 : y15 = y3 - y14 := (by
    clear _e17 _e18 _e19 _e20 _e21 _e22
    omega)
       clear _e15)
  try (have c17 : y17 = y16 / 2 := (by
    clear _e18 _e19 _e20 _e21 _e22
    omega)
       clear _e17)
  try (have c18 : y18 = y17 - y2 := (by
    clear _e19 _e20 _e21 _e22
    omega)
       clear _e18)
  try (have c22 : y22 = y20 + y21 := (by
    omega)
       clear _e22)
  omega
set_option maxHeartbeats 4000000 in
theorem dead3 (x0 x1 x2 x3 x4 x5 x6 x7 x8 : Int) (B : Bd x0 x1 x2 x3 x4 x5 x6 x7 x8) (y0 y1 y2 y3 y4 y5 y6 y7 y8 y9 y10 y11 y12 y13 y14 y15 y16 y17 y18 y19 y20 y21 y22 : Int) (_e0 : y0 = x8) (_e1 : y1 = (0 : Int)) (_e2 : y2 = x5) (_e3 : y3 = x1) (_e4 : y4 = x0) (_e5 : y5 = (y3 * y4 + 9223372036854775808) % 18446744073709551616 - 9223372036854775808) (_e6 : y6 = x2) (_e7 : y7 = (y5 + y6 + 9223372036854775808) % 18446744073709551616 - 9223372036854775808) (_e8 : y8 = x6) (_e9 : y9 = (y2 + y8 + 9223372036854775808) % 18446744073709551616 - 9223372036854775808) (_e10 : y10 = (2 : Int)) (_e11 : y11 = ((if 0 ≤ y4 then y4 / 2 else -((-y4) / 2)) + 9223372036854775808) % 18446744073709551616 - 9223372036854775808) (_e12 : y12 = if y11 ≤ y6 then y11 else y6) (_e13 : y13 = if y12 ≤ y8 then y12 else y8) (_e14 : y14 = (6 : Int)) (_e15 : y15 = (y3 - y14 + 9223372036854775808) % 18446744073709551616 - 9223372036854775808) (_e16 : y16 = (y4 * y15 + 9223372036854775808) % 18446744073709551616 - 9223372036854775808) (_e17 : y17 = ((if 0 ≤ y16 then y16 / 2 else -((-y16) / 2)) + 9223372036854775808) % 18446744073709551616 - 9223372036854775808) (_e18 : y18 = (y17 - y2 + 9223372036854775808) % 18446744073709551616 - 9223372036854775808) (_e19 : y19 = if y18 ≤ y1 then y1 else y18) (_e20 : y20 = if y13 ≤ y19 then y13 else y19) (_e21 : y21 = (1 : Int)) (_e22 : y22 = (y20 + y21 + 9223372036854775808) % 18446744073709551616 - 9223372036854775808) (_h0 : y0 = y1) (_h1 : y1 ≤ y2) (_h2 : y2 ≤ y7) (_h3 : y1 ≤ y8) (_h4 : y8 ≤ y6) (_h5 : y6 ≤ y9) (_h6 : y20 ≤ y1) (_h7 : y21 ≤ y22) (_h8 : ¬ (y22 ≤ y12)) : False := by
  obtain ⟨_l0, _u0, _l1, _u1, _l2, _u2, _l3, _u3, _l4, _u4, _l5, _u5, _l6, _u6, _l7, _u7, _l8, _u8, _g0, _g1, _g2, _g3, _g4, _g5, _g6, _g7, _g8, _g9⟩ := B
  have f0 := _g0 (by omega)
  have f1 := _g1 (by omega)
  have f2 := _g2 (by omega)
  have f3 := _g3 (by omega)
  have f4 := _g4 (by omega)
  have f5 := _g5 (by omega)
  have f6 := _g6 (by omega)
  have f7 := _g7 (by omega)
  have f8 := _g8 (by omega)
  have f9 := _g9 (by omega)
  clear _g0 _g1 _g2 _g3 _g4 _g5 _g6 _g7 _g8 _g9
  have q5 : y5 = x1 * x0 ∧ 56 ≤ y5 ∧ y5 ≤ 1536 := by have := Ev.nl_mul (a := 7) (a' := 24) (b := 8) (b' := 64) _e3 _e4 _e5 (by omega) (by omega) (by omega) (by omega) (by omega) (by omega) (by omega); omega
  clear _e5
  have q16 : y16 = x1 * x0 - 6 * x0 ∧ 8 ≤ y16 ∧ y16 ≤ 1152 := by
    have hy : y15 = x1 - 6 := by omega
    have := Ev.nl_mul (a := 8) (a' := 64) (b := 1) (b' := 18) _e4 hy _e16 (by omega) (by omega) (by omega) (by omega) (by omega) (by omega) (by omega)
    rw [show x0 * (x1 - 6) = x1 * x0 - 6 * x0 by rw [Int.mul_sub, Int.mul_comm x0 x1, Int.mul_comm x0 6]] at this
    omega
  clear _e16
  try (have c7 : y7 = y5 + y6 := (by
    clear _e8 _e9 _e10 _e11 _e12 _e13 _e14 _e15 _e17 _e18 _e19 _e20 _e21 _e22
    omega)
       clear _e7)
  try (have c9 : y9 = y2 + y8 := (by
    clear _e10 _e11 _e12 _e13 _e14 _e15 _e17 _e18 _e19 _e20 _e21 _e22
    omega)
       clear _e9)
  try (have c11 : y11 = y4 / 2 := (by
    clear _e12 _e13 _e14 _e15 _e17 _e18 _e19 _e20 _e21 _e22
    omega)
       clear _e11)
  try (have c15 : y15 = y3 - y14 := (by
    clear _e17 _e18 _e19 _e20 _e21 _e22
    omega)
       clear _e15)
  try (have c17 : y17 = y16 / 2 := (by
    clear _e18 _e19 _e20 _e21 _e22
    omega)
       clear _e17)
  try (have c18 : y18 = y17 - y2 := (by
    clear _e19 _e20 _e21 _e22
    omega)
       clear _e18)
  try (have c22 : y22 = y20 + y21 := (by
    omega)
       clear _e22)
  omega
set_option maxHeartbeats 4000000 in
theorem dead4 (x0 x1 x2 x3 x4 x5 x6 x7 x8 : Int) (B : Bd x0 x1 x2 x3 x4 x5 x6 x7 x8) (y0 y1 y2 y3 y4 y5 y6 y7 y8 y9 y10 y11 y12 y13 y14 y15 y16 y17 y18 y19 y20 y21 y22 : Int) (_e0 : y0 = x8) (_e1 : y1 = (0 : Int)) (_e2 : y2 = x5) (_e3 : y3 = x1) (_e4 : y4 = x0) (_e5 : y5 = (y3 * y4 + 9223372036854775808) % 18446744073709551616 - 9223372036854775808) (_e6 : y6 = x2) (_e7 : y7 = (y5 + y6 + 9223372036854775808) % 18446744073709551616 - 9223372036854775808) (_e8 : y8 = x6) (_e9 : y9 = (y2 + y8 + 9223372036854775808) % 18446744073709551616 - 9223372036854775808) (_e10 : y10 = (2 : Int)) (_e11 : y11 = ((if 0 ≤ y4 then y4 / 2 else -((-y4) / 2)) + 9223372036854775808) % 18446744073709551616 - 9223372036854775808) (_e12 : y12 = if y11 ≤ y6 then y11 else y6) (_e13 : y13 = if y12 ≤ y8 then y12 else y8) (_e14 : y14 = (6 : Int)) (_e15 : y15 = (y3 - y14 + 9223372036854775808) % 18446744073709551616 - 9223372036854775808) (_e16 : y16 = (y4 * y15 + 9223372036854775808) % 18446744073709551616 - 9223372036854775808) (_e17 : y17 = ((if 0 ≤ y16 then y16 / 2 else -((-y16) / 2)) + 9223372036854775808) % 18446744073709551616 - 9223372036854775808) (_e18 : y18 = (y17 - y2 + 9223372036854775808) % 18446744073709551616 - 9223372036854775808) (_e19 : y19 = if y18 ≤ y1 then y1 else y18) (_e20 : y20 = if y13 ≤ y19 then y13 else y19) (_e21 : y21 = (1 : Int)) (_e22 : y22 = (y20 + y21 + 9223372036854775808) % 18446744073709551616 - 9223372036854775808) (_h0 : y0 = y1) (_h1 : y1 ≤ y2) (_h2 : y2 ≤ y7) (_h3 : y1 ≤ y8) (_h4 : y8 ≤ y6) (_h5 : y6 ≤ y9) (_h6 : y20 ≤ y1) (_h7 : ¬ (y21 ≤ y22)) : False := by
  obtain ⟨_l0, _u0, _l1, _u1, _l2, _u2, _l3, _u3, _l4, _u4, _l5, _u5, _l6, _u6, _l7, _u7, _l8, _u8, _g0, _g1, _g2, _g3, _g4, _g5, _g6, _g7, _g8, _g9⟩ := B
  have f0 := _g0 (by omega)
  have f1 := _g1 (by omega)
  have f2 := _g2 (by omega)
  have f3 := _g3 (by omega)
  have f4 := _g4 (by omega)
  have f5 := _g5 (by omega)
  have f6 := _g6 (by omega)
  have f7 := _g7 (by omega)
  have f8 := _g8 (by omega)
  have f9 := _g9 (by omega)
  clear _g0 _g1 _g2 _g3 _g4 _g5 _g6 _g7 _g8 _g9
  have q5 : y5 = x1 * x0 ∧ 56 ≤ y5 ∧ y5 ≤ 1536 := by have := Ev.nl_mul (a := 7) (a' := 24) (b := 8) (b' := 64) _e3 _e4 _e5 (by omega) (by omega) (by omega) (by omega) (by omega) (by omega) (by omega); omega
  clear _e5
  have q16 : y16 = x1 * x0 - 6 * x0 ∧ 8 ≤ y16 ∧ y16 ≤ 1152 := by
    have hy : y15 = x1 - 6 := by omega
    have := Ev.nl_mul (a := 8) (a' := 64) (b := 1) (b' := 18) _e4 hy _e16 (by omega) (by omega) (by omega) (by omega) (by omega) (by omega) (by omega)
    rw [show x0 * (x1 - 6) = x1 * x0 - 6 * x0 by rw [Int.mul_sub, Int.mul_comm x0 x1, Int.mul_comm x0 6]] at this
    omega
  clear _e16
  try (have c7 : y7 = y5 + y6 := (by
    clear _e8 _e9 _e10 _e11 _e12 _e13 _e14 _e15 _e17 _e18 _e19 _e20 _e21 _e22
    omega)
       clear _e7)
  try (have c9 : y9 = y2 + y8 := (by
    clear _e10 _e11 _e12 _e13 _e14 _e15 _e17 _e18 _e19 _e20 _e21 _e22
    omega)
       clear _e9)
  try (have c11 : y11 = y4 / 2 := (by
    clear _e12 _e13 _e14 _e15 _e17 _e18 _e19 _e20 _e21 _e22
    omega)
       clear _e11)
  try (have c15 : y15 = y3 - y14 := (by
    clear _e17 _e18 _e19 _e20 _e21 _e22
    omega)
       clear _e15)
  try (have c17 : y17 = y16 / 2 := (by
    clear _e18 _e19 _e20 _e21 _e22
    omega)
       clear _e17)
  try (have c18 : y18 = y17 - y2 := (by
    clear _e19 _e20 _e21 _e22
    omega)
       clear _e18)
  try (have c22 : y22 = y20 + y21 := (by
    omega)
       clear _e22)
  omega
set_option maxHeartbeats 4000000 in
theorem dead5 (x0 x1 x2 x3 x4 x5 x6 x7 x8 : Int) (B : Bd x0 x1 x2 x3 x4 x5 x6 x7 x8) (y0 y1 y2 y3 y4 y5 y6 y7 y8 y9 y10 y11 y12 y13 y14 y15 y16 y17 y18 y19 y20 y21 y25 y26 y22 y23 y24 : Int) (_e0 : y0 = x8) (_e1 : y1 = (0 : Int)) (_e2 : y2 = x5) (_e3 : y3 = x1) (_e4 : y4 = x0) (_e5 : y5 = (y3 * y4 + 9223372036854775808) % 18446744073709551616 - 9223372036854775808) (_e6 : y6 = x2) (_e7 : y7 = (y5 + y6 + 9223372036854775808) % 18446744073709551616 - 9223372036854775808) (_e8 : y8 = x6) (_e9 : y9 = (y2 + y8 + 9223372036854775808) % 18446744073709551616 - 9223372036854775808) (_e10 : y10 = (2 : Int)) (_e11 : y11 = ((if 0 ≤ y4 then y4 / 2 else -((-y4) / 2)) + 9223372036854775808) % 18446744073709551616 - 9223372036854775808) (_e12 : y12 = if y11 ≤ y6 then y11 else y6) (_e13 : y13 = if y12 ≤ y8 then y12 else y8) (_e14 : y14 = (6 : Int)) (_e15 : y15 = (y3 - y14 + 9223372036854775808) % 18446744073709551616 - 9223372036854775808) (_e16 : y16 = (y4 * y15 + 9223372036854775808) % 18446744073709551616 - 9223372036854775808) (_e17 : y17 = ((if 0 ≤ y16 then y16 / 2 else -((-y16) / 2)) + 9223372036854775808) % 18446744073709551616 - 9223372036854775808) (_e18 : y18 = (y17 - y2 + 9223372036854775808) % 18446744073709551616 - 9223372036854775808) (_e19 : y19 = if y18 ≤ y1 then y1 else y18) (_e20 : y20 = if y13 ≤ y19 then y13 else y19) (_e21 : y21 = (1 : Int)) (_e25 : y25 = (y2 + y20 + 9223372036854775808) % 18446744073709551616 - 9223372036854775808) (_e26 : y26 = ((2 : Int) * y25 + 9223372036854775808) % 18446744073709551616 - 9223372036854775808) (_e22 : y22 = (y20 + y21 + 9223372036854775808) % 18446744073709551616 - 9223372036854775808) (_e23 : y23 = (y2 + y22 + 9223372036854775808) % 18446744073709551616 - 9223372036854775808) (_e24 : y24 = ((2 : Int) * y23 + 9223372036854775808) % 18446744073709551616 - 9223372036854775808) (_h0 : y0 = y1) (_h1 : y1 ≤ y2) (_h2 : y2 ≤ y7) (_h3 : y1 ≤ y8) (_h4 : y8 ≤ y6) (_h5 : y6 ≤ y9) (_h6 : ¬ (y20 ≤ y1)) (_h7 : y21 ≤ y20) (_h8 : y20 ≤ y12) (_h9 : y20 ≤ y8) (_h10 : y26 ≤ y16) (_h11 : y21 ≤ y22) (_h12 : y22 ≤ y12) (_h13 : y22 ≤ y8) (_h14 : y24 ≤ y16) (_h15 : y20 = y12) : False := by
  obtain ⟨_l0, _u0, _l1, _u1, _l2, _u2, _l3, _u3, _l4, _u4, _l5, _u5, _l6, _u6, _l7, _u7, _l8, _u8, _g0, _g1, _g2, _g3, _g4, _g5, _g6, _g7, _g8, _g9⟩ := B
  have f0 := _g0 (by omega)
  have f1 := _g1 (by omega)
  have f2 := _g2 (by omega)
  have f3 := _g3 (by omega)
  have f4 := _g4 (by omega)
  have f5 := _g5 (by omega)
  have f6 := _g6 (by omega)
  have f7 := _g7 (by omega)
  have f8 := _g8 (by omega)
  have f9 := _g9 (by omega)
  clear _g0 _g1 _g2 _g3 _g4 _g5 _g6 _g7 _g8 _g9
  have q5 : y5 = x1 * x0 ∧ 56 ≤ y5 ∧ y5 ≤ 1536 := by have := Ev.nl_mul (a := 7) (a' := 24) (b := 8) (b' := 64) _e3 _e4 _e5 (by omega) (by omega) (by omega) (by omega) (by omega) (by omega) (by omega); omega
  clear _e5
  have q16 : y16 = x1 * x0 - 6 * x0 ∧ 8 ≤ y16 ∧ y16 ≤ 1152 := by
    have hy : y15 = x1 - 6 := by omega
    have := Ev.nl_mul (a := 8) (a' := 64) (b := 1) (b' := 18) _e4 hy _e16 (by omega) (by omega) (by omega) (by omega) (by omega) (by omega) (by omega)
    rw [show x0 * (x1 - 6) = x1 * x0 - 6 * x0 by rw [Int.mul_sub, Int.mul_comm x0 x1, Int.mul_comm x0 6]] at this
    omega
  clear _e16
  try (have c7 : y7 = y5 + y6 := (by
    clear _e8 _e9 _e10 _e11 _e12 _e13 _e14 _e15 _e17 _e18 _e19 _e20 _e21 _e25 _e26 _e22 _e23 _e24
    omega)
       clear _e7)
  try (have c9 : y9 = y2 + y8 := (by
    clear _e10 _e11 _e12 _e13 _e14 _e15 _e17 _e18 _e19 _e20 _e21 _e25 _e26 _e22 _e23 _e24
    omega)
       clear _e9)
  try (have c11 : y11 = y4 / 2 := (by
    clear _e12 _e13 _e14 _e15 _e17 _e18 _e19 _e20 _e21 _e25 _e26 _e22 _e23 _e24
    omega)
       clear _e11)
  try (have c15 : y15 = y3 - y14 := (by
    clear _e17 _e18 _e19 _e20 _e21 _e25 _e26 _e22 _e23 _e24
    omega)
       clear _e15)
  try (have c17 : y17 = y16 / 2 := (by
    clear _e18 _e19 _e20 _e21 _e25 _e26 _e22 _e23 _e24
    omega)
       clear _e17)
  try (have c18 : y18 = y17 - y2 := (by
    clear _e19 _e20 _e21 _e25 _e26 _e22 _e23 _e24
    omega)
       clear _e18)
  try (have c25 : y25 = y2 + y20 := (by
    clear _e26 _e22 _e23 _e24
    omega)
       clear _e25)
  try (have c26 : y26 = (2) * y25 := (by
    clear _e22 _e23 _e24
    omega)
       clear _e26)
  try (have c22 : y22 = y20 + y21 := (by
    clear _e23 _e24
    omega)
       clear _e22)
  try (have c23 : y23 = y2 + y22 := (by
    clear _e24
    omega)
       clear _e23)
  try (have c24 : y24 = (2) * y23 := (by
    omega)
       clear _e24)
  omega
set_option maxHeartbeats 4000000 in
theorem dead6 (x0 x1 x2 x3 x4 x5 x6 x7 x8 : Int) (B : Bd x0 x1 x2 x3 x4 x5 x6 x7 x8) (y0 y1 y2 y3 y4 y5 y6 y7 y8 y9 y10 y11 y12 y13 y14 y15 y16 y17 y18 y19 y20 y21 y25 y26 y22 y23 y24 : Int) (_e0 : y0 = x8) (_e1 : y1 = (0 : Int)) (_e2 : y2 = x5) (_e3 : y3 = x1) (_e4 : y4 = x0) (_e5 : y5 = (y3 * y4 + 9223372036854775808) % 18446744073709551616 - 9223372036854775808) (_e6 : y6 = x2) (_e7 : y7 = (y5 + y6 + 9223372036854775808) % 18446744073709551616 - 9223372036854775808) (_e8 : y8 = x6) (_e9 : y9 = (y2 + y8 + 9223372036854775808) % 18446744073709551616 - 9223372036854775808) (_e10 : y10 = (2 : Int)) (_e11 : y11 = ((if 0 ≤ y4 then y4 / 2 else -((-y4) / 2)) + 9223372036854775808) % 18446744073709551616 - 9223372036854775808) (_e12 : y12 = if y11 ≤ y6 then y11 else y6) (_e13 : y13 = if y12 ≤ y8 then y12 else y8) (_e14 : y14 = (6 : Int)) (_e15 : y15 = (y3 - y14 + 9223372036854775808) % 18446744073709551616 - 9223372036854775808) (_e16 : y16 = (y4 * y15 + 9223372036854775808) % 18446744073709551616 - 9223372036854775808) (_e17 : y17 = ((if 0 ≤ y16 then y16 / 2 else -((-y16) / 2)) + 9223372036854775808) % 18446744073709551616 - 9223372036854775808) (_e18 : y18 = (y17 - y2 + 9223372036854775808) % 18446744073709551616 - 9223372036854775808) (_e19 : y19 = if y18 ≤ y1 then y1 else y18) (_e20 : y20 = if y13 ≤ y19 then y13 else y19) (_e21 : y21 = (1 : Int)) (_e25 : y25 = (y2 + y20 + 9223372036854775808) % 18446744073709551616 - 9223372036854775808) (_e26 : y26 = ((2 : Int) * y25 + 9223372036854775808) % 18446744073709551616 - 9223372036854775808) (_e22 : y22 = (y20 + y21 + 9223372036854775808) % 18446744073709551616 - 9223372036854775808) (_e23 : y23 = (y2 + y22 + 9223372036854775808) % 18446744073709551616 - 9223372036854775808) (_e24 : y24 = ((2 : Int) * y23 + 9223372036854775808) % 18446744073709551616 - 9223372036854775808) (_h0 : y0 = y1) (_h1 : y1 ≤ y2) (_h2 : y2 ≤ y7) (_h3 : y1 ≤ y8) (_h4 : y8 ≤ y6) (_h5 : y6 ≤ y9) (_h6 : ¬ (y20 ≤ y1)) (_h7 : y21 ≤ y20) (_h8 : y20 ≤ y12) (_h9 : y20 ≤ y8) (_h10 : y26 ≤ y16) (_h11 : y21 ≤ y22) (_h12 : y22 ≤ y12) (_h13 : y22 ≤ y8) (_h14 : y24 ≤ y16) (_h15 : ¬ (y20 = y12)) : False := by
  obtain ⟨_l0, _u0, _l1, _u1, _l2, _u2, _l3, _u3, _l4, _u4, _l5, _u5, _l6, _u6, _l7, _u7, _l8, _u8, _g0, _g1, _g2, _g3, _g4, _g5, _g6, _g7, _g8, _g9⟩ := B
  have f0 := _g0 (by omega)
  have f1 := _g1 (by omega)
  have f2 := _g2 (by omega)
  have f3 := _g3 (by omega)
  have f4 := _g4 (by omega)
  have f5 := _g5 (by omega)
  have f6 := _g6 (by omega)
  have f7 := _g7 (by omega)
  have f8 := _g8 (by omega)
  have f9 := _g9 (by omega)
  clear _g0 _g1 _g2 _g3 _g4 _g5 _g6 _g7 _g8 _g9
  have q5 : y5 = x1 * x0 ∧ 56 ≤ y5 ∧ y5 ≤ 1536 := by have := Ev.nl_mul (a := 7) (a' := 24) (b := 8) (b' := 64) _e3 _e4 _e5 (by omega) (by omega) (by omega) (by omega) (by omega) (by omega) (by omega); omega
  clear _e5
  have q16 : y16 = x1 * x0 - 6 * x0 ∧ 8 ≤ y16 ∧ y16 ≤ 1152 := by
    have hy : y15 = x1 - 6 := by omega
    have := Ev.nl_mul (a := 8) (a' := 64) (b := 1) (b' := 18) _e4 hy _e16 (by omega) (by omega) (by omega) (by omega) (by omega) (by omega) (by omega)
    rw [show x0 * (x1 - 6) = x1 * x0 - 6 * x0 by rw [Int.mul_sub, Int.mul_comm x0 x1, Int.mul_comm x0 6]] at this
    omega
  clear _e16
  try (have c7 : y7 = y5 + y6 := (by
    clear _e8 _e9 _e10 _e11 _e12 _e13 _e14 _e15 _e17 _e18 _e19 _e20 _e21 _e25 _e26 _e22 _e23 _e24
    omega)
       clear _e7)
  try (have c9 : y9 = y2 + y8 := (by
    clear _e10 _e11 _e12 _e13 _e14 _e15 _e17 _e18 _e19 _e20 _e21 _e25 _e26 _e22 _e23 _e24
    omega)
       clear _e9)
  try (have c11 : y11 = y4 / 2 := (by
    clear _e12 _e13 _e14 _e15 _e17 _e18 _e19 _e20 _e21 _e25 _e26 _e22 _e23 _e24
    omega)
       clear _e11)
  try (have c15 : y15 = y3 - y14 := (by
    clear _e17 _e18 _e19 _e20 _e21 _e25 _e26 _e22 _e23 _e24
    omega)
       clear _e15)
  try (have c17 : y17 = y16 / 2 := (by
    clear _e18 _e19 _e20 _e21 _e25 _e26 _e22 _e23 _e24
    omega)
       clear _e17)
  try (have c18 : y18 = y17 - y2 := (by
    clear _e19 _e20 _e21 _e25 _e26 _e22 _e23 _e24
    omega)
       clear _e18)
  try (have c25 : y25 = y2 + y20 := (by
    clear _e26 _e22 _e23 _e24
    omega)
       clear _e25)
  try (have c26 : y26 = (2) * y25 := (by
    clear _e22 _e23 _e24
    omega)
       clear _e26)
  try (have c22 : y22 = y20 + y21 := (by
    clear _e23 _e24
    omega)
       clear _e22)
  try (have c23 : y23 = y2 + y22 := (by
    clear _e24
    omega)
       clear _e23)
  try (have c24 : y24 = (2) * y23 := (by
    omega)
       clear _e24)
  omega
set_option maxHeartbeats 4000000 in
theorem dead7 (x0 x1 x2 x3 x4 x5 x6 x7 x8 : Int) (B : Bd x0 x1 x2 x3 x4 x5 x6 x7 x8) (y0 y1 y2 y3 y4 y5 y6 y7 y8 y9 y10 y11 y12 y13 y14 y15 y16 y17 y18 y19 y20 y21 y25 y26 y22 y23 y24 : Int) (_e0 : y0 = x8) (_e1 : y1 = (0 : Int)) (_e2 : y2 = x5) (_e3 : y3 = x1) (_e4 : y4 = x0) (_e5 : y5 = (y3 * y4 + 9223372036854775808) % 18446744073709551616 - 9223372036854775808) (_e6 : y6 = x2) (_e7 : y7 = (y5 + y6 + 9223372036854775808) % 18446744073709551616 - 9223372036854775808) (_e8 : y8 = x6) (_e9 : y9 = (y2 + y8 + 9223372036854775808) % 18446744073709551616 - 9223372036854775808) (_e10 : y10 = (2 : Int)) (_e11 : y11 = ((if 0 ≤ y4 then y4 / 2 else -((-y4) / 2)) + 9223372036854775808) % 18446744073709551616 - 9223372036854775808) (_e12 : y12 = if y11 ≤ y6 then y11 else y6) (_e13 : y13 = if y12 ≤ y8 then y12 else y8) (_e14 : y14 = (6 : Int)) (_e15 : y15 = (y3 - y14 + 9223372036854775808) % 18446744073709551616 - 9223372036854775808) (_e16 : y16 = (y4 * y15 + 9223372036854775808) % 18446744073709551616 - 9223372036854775808) (_e17 : y17 = ((if 0 ≤ y16 then y16 / 2 else -((-y16) / 2)) + 9223372036854775808) % 18446744073709551616 - 9223372036854775808) (_e18 : y18 = (y17 - y2 + 9223372036854775808) % 18446744073709551616 - 9223372036854775808) (_e19 : y19 = if y18 ≤ y1 then y1 else y18) (_e20 : y20 = if y13 ≤ y19 then y13 else y19) (_e21 : y21 = (1 : Int)) (_e25 : y25 = (y2 + y20 + 9223372036854775808) % 18446744073709551616 - 9223372036854775808) (_e26 : y26 = ((2 : Int) * y25 + 9223372036854775808) % 18446744073709551616 - 9223372036854775808) (_e22 : y22 = (y20 + y21 + 9223372036854775808) % 18446744073709551616 - 9223372036854775808) (_e23 : y23 = (y2 + y22 + 9223372036854775808) % 18446744073709551616 - 9223372036854775808) (_e24 : y24 = ((2 : Int) * y23 + 9223372036854775808) % 18446744073709551616 - 9223372036854775808) (_h0 : y0 = y1) (_h1 : y1 ≤ y2) (_h2 : y2 ≤ y7) (_h3 : y1 ≤ y8) (_h4 : y8 ≤ y6) (_h5 : y6 ≤ y9) (_h6 : ¬ (y20 ≤ y1)) (_h7 : y21 ≤ y20) (_h8 : y20 ≤ y12) (_h9 : y20 ≤ y8) (_h10 : y26 ≤ y16) (_h11 : y21 ≤ y22) (_h12 : y22 ≤ y12) (_h13 : y22 ≤ y8) (_h14 : ¬ (y24 ≤ y16)) (_h15 : y20 = y12) : False := by
  obtain ⟨_l0, _u0, _l1, _u1, _l2, _u2, _l3, _u3, _l4, _u4, _l5, _u5, _l6, _u6, _l7, _u7, _l8, _u8, _g0, _g1, _g2, _g3, _g4, _g5, _g6, _g7, _g8, _g9⟩ := B
  have f0 := _g0 (by omega)
  have f1 := _g1 (by omega)
  have f2 := _g2 (by omega)
  have f3 := _g3 (by omega)
  have f4 := _g4 (by omega)
  have f5 := _g5 (by omega)
  have f6 := _g6 (by omega)
  have f7 := _g7 (by omega)
  have f8 := _g8 (by omega)
  have f9 := _g9 (by omega)
  clear _g0 _g1 _g2 _g3 _g4 _g5 _g6 _g7 _g8 _g9
  have q5 : y5 = x1 * x0 ∧ 56 ≤ y5 ∧ y5 ≤ 1536 := by have := Ev.nl_mul (a := 7) (a' := 24) (b := 8) (b' := 64) _e3 _e4 _e5 (by omega) (by omega) (by omega) (by omega) (by omega) (by omega) (by omega); omega
  clear _e5
  have q16 : y16 = x1 * x0 - 6 * x0 ∧ 8 ≤ y16 ∧ y16 ≤ 1152 := by
    have hy : y15 = x1 - 6 := by omega
    have := Ev.nl_mul (a := 8) (a' := 64) (b := 1) (b' := 18) _e4 hy _e16 (by omega) (by omega) (by omega) (by omega) (by omega) (by omega) (by omega)
    rw [show x0 * (x1 - 6) = x1 * x0 - 6 * x0 by rw [Int.mul_sub, Int.mul_comm x0 x1, Int.mul_comm x0 6]] at this
    omega
  clear _e16
  try (have c7 : y7 = y5 + y6 := (by
    clear _e8 _e9 _e10 _e11 _e12 _e13 _e14 _e15 _e17 _e18 _e19 _e20 _e21 _e25 _e26 _e22 _e23 _e24
    omega)
       clear _e7)
  try (have c9 : y9 = y2 + y8 := (by
    clear _e10 _e11 _e12 _e13 _e14 _e15 _e17 _e18 _e19 _e20 _e21 _e25 _e26 _e22 _e23 _e24
    omega)
       clear _e9)
  try (have c11 : y11 = y4 / 2 := (by
    clear _e12 _e13 _e14 _e15 _e17 _e18 _e19 _e20 _e21 _e25 _e26 _e22 _e23 _e24
    omega)
       clear _e11)
  try (have c15 : y15 = y3 - y14 := (by
    clear _e17 _e18 _e19 _e20 _e21 _e25 _e26 _e22 _e23 _e24
    omega)
       clear _e15)
  try (have c17 : y17 = y16 / 2 := (by
    clear _e18 _e19 _e20 _e21 _e25 _e26 _e22 _e23 _e24
    omega)
       clear _e17)
  try (have c18 : y18 = y17 - y2 := (by
    clear _e19 _e20 _e21 _e25 _e26 _e22 _e23 _e24
    omega)
       clear _e18)
  try (have c25 : y25 = y2 + y20 := (by
    clear _e26 _e22 _e23 _e24
    omega)
       clear _e25)
  try (have c26 : y26 = (2) * y25 := (by
    clear _e22 _e23 _e24
    omega)
       clear _e26)
  try (have c22 : y22 = y20 + y21 := (by
    clear _e23 _e24
    omega)
       clear _e22)
  try (have c23 : y23 = y2 + y22 := (by
    clear _e24
    omega)
       clear _e23)
  try (have c24 : y24 = (2) * y23 := (by
    omega)
       clear _e24)
  omega
set_option maxHeartbeats 4000000 in
theorem dead8 (x0 x1 x2 x3 x4 x5 x6 x7 x8 : Int) (B : Bd x0 x1 x2 x3 x4 x5 x6 x7 x8) (y0 y1 y2 y3 y4 y5 y6 y7 y8 y9 y10 y11 y12 y13 y14 y15 y16 y17 y18 y19 y20 y21 y25 y26 y22 : Int) (_e0 : y0 = x8) (_e1 : y1 = (0 : Int)) (_e2 : y2 = x5) (_e3 : y3 = x1) (_e4 : y4 = x0) (_e5 : y5 = (y3 * y4 + 9223372036854775808) % 18446744073709551616 - 9223372036854775808) (_e6 : y6 = x2) (_e7 : y7 = (y5 + y6 + 9223372036854775808) % 18446744073709551616 - 9223372036854775808) (_e8 : y8 = x6) (_e9 : y9 = (y2 + y8 + 9223372036854775808) % 18446744073709551616 - 9223372036854775808) (_e10 : y10 = (2 : Int)) (_e11 : y11 = ((if 0 ≤ y4 then y4 / 2 else -((-y4) / 2)) + 9223372036854775808) % 18446744073709551616 - 9223372036854775808) (_e12 : y12 = if y11 ≤ y6 then y11 else y6) (_e13 : y13 = if y12 ≤ y8 then y12 else y8) (_e14 : y14 = (6 : Int)) (_e15 : y15 = (y3 - y14 + 9223372036854775808) % 18446744073709551616 - 9223372036854775808) (_e16 : y16 = (y4 * y15 + 9223372036854775808) % 18446744073709551616 - 9223372036854775808) (_e17 : y17 = ((if 0 ≤ y16 then y16 / 2 else -((-y16) / 2)) + 9223372036854775808) % 18446744073709551616 - 9223372036854775808) (_e18 : y18 = (y17 - y2 + 9223372036854775808) % 18446744073709551616 - 9223372036854775808) (_e19 : y19 = if y18 ≤ y1 then y1 else y18) (_e20 : y20 = if y13 ≤ y19 then y13 else y19) (_e21 : y21 = (1 : Int)) (_e25 : y25 = (y2 + y20 + 9223372036854775808) % 18446744073709551616 - 9223372036854775808) (_e26 : y26 = ((2 : Int) * y25 + 9223372036854775808) % 18446744073709551616 - 9223372036854775808) (_e22 : y22 = (y20 + y21 + 9223372036854775808) % 18446744073709551616 - 9223372036854775808) (_h0 : y0 = y1) (_h1 : y1 ≤ y2) (_h2 : y2 ≤ y7) (_h3 : y1 ≤ y8) (_h4 : y8 ≤ y6) (_h5 : y6 ≤ y9) (_h6 : ¬ (y20 ≤ y1)) (_h7 : y21 ≤ y20) (_h8 : y20 ≤ y12) (_h9 : y20 ≤ y8) (_h10 : y26 ≤ y16) (_h11 : y21 ≤ y22) (_h12 : y22 ≤ y12) (_h13 : ¬ (y22 ≤ y8)) (_h14 : y20 = y12) : False := by
  obtain ⟨_l0, _u0, _l1, _u1, _l2, _u2, _l3, _u3, _l4, _u4, _l5, _u5, _l6, _u6, _l7, _u7, _l8, _u8, _g0, _g1, _g2, _g3, _g4, _g5, _g6, _g7, _g8, _g9⟩ := B
  have f0 := _g0 (by omega)
  have f1 := _g1 (by omega)
  have f2 := _g2 (by omega)
  have f3 := _g3 (by omega)
  have f4 := _g4 (by omega)
  have f5 := _g5 (by omega)
  have f6 := _g6 (by omega)
  have f7 := _g7 (by omega)
  have f8 := _g8 (by omega)
  have f9 := _g9 (by omega)
  clear _g0 _g1 _g2 _g3 _g4 _g5 _g6 _g7 _g8 _g9
  have q5 : y5 = x1 * x0 ∧ 56 ≤ y5 ∧ y5 ≤ 1536 := by have := Ev.nl_mul (a := 7) (a' := 24) (b := 8) (b' := 64) _e3 _e4 _e5 (by omega) (by omega) (by omega) (by omega) (by omega) (by omega) (by omega); omega
  clear _e5
  have q16 : y16 = x1 * x0 - 6 * x0 ∧ 8 ≤ y16 ∧ y16 ≤ 1152 := by
    have hy : y15 = x1 - 6 := by omega
    have := Ev.nl_mul (a := 8) (a' := 64) (b := 1) (b' := 18) _e4 hy _e16 (by omega) (by omega) (by omega) (by omega) (by omega) (by omega) (by omega)
    rw [show x0 * (x1 - 6) = x1 * x0 - 6 * x0 by rw [Int.mul_sub, Int.mul_comm x0 x1, Int.mul_comm x0 6]] at this
    omega
  clear _e16
  try (have c7 : y7 = y5 + y6 := (by
    clear _e8 _e9 _e10 _e11 _e12 _e13 _e14 _e15 _e17 _e18 _e19 _e20 _e21 _e25 _e26 _e22
    omega)
       clear _e7)
  try (have c9 : y9 = y2 + y8 := (by
    clear _e10 _e11 _e12 _e13 _e14 _e15 _e17 _e18 _e19 _e20 _e21 _e25 _e26 _e22
    omega)
       clear _e9)
  try (have c11 : y11 = y4 / 2 := (by
    clear _e12 _e13 _e14 _e15 _e17 _e18 _e19 _e20 _e21 _e25 _e26 _e22
    omega)
       clear _e11)
  try (have c15 : y15 = y3 - y14 := (by
    clear _e17 _e18 _e19 _e20 _e21 _e25 _e26 _e22
    omega)
       clear _e15)
  try (have c17 : y17 = y16 / 2 := (by
    clear _e18 _e19 _e20 _e21 _e25 _e26 _e22
    omega)
       clear _e17)
  try (have c18 : y18 = y17 - y2 := (by
    clear _e19 _e20 _e21 _e25 _e26 _e22
    omega)
       clear _e18)
  try (have c25 : y25 = y2 + y20 := (by
    clear _e26 _e22
    omega)
       clear _e25)
  try (have c26 : y26 = (2) * y25 := (by
    clear _e22
    omega)
       clear _e26)
  try (have c22 : y22 = y20 + y21 := (by
    omega)
       clear _e22)
  omega
set_option maxHeartbeats 4000000 in
theorem dead9 (x0 x1 x2 x3 x4 x5 x6 x7 x8 : Int) (B : Bd x0 x1 x2 x3 x4 x5 x6 x7 x8) (y0 y1 y2 y3 y4 y5 y6 y7 y8 y9 y10 y11 y12 y13 y14 y15 y16 y17 y18 y19 y20 y21 y25 y26 y22 : Int) (_e0 : y0 = x8) (_e1 : y1 = (0 : Int)) (_e2 : y2 = x5) (_e3 : y3 = x1) (_e4 : y4 = x0) (_e5 : y5 = (y3 * y4 + 9223372036854775808) % 18446744073709551616 - 9223372036854775808) (_e6 : y6 = x2) (_e7 : y7 = (y5 + y6 + 9223372036854775808) % 18446744073709551616 - 9223372036854775808) (_e8 : y8 = x6) (_e9 : y9 = (y2 + y8 + 9223372036854775808) % 18446744073709551616 - 9223372036854775808) (_e10 : y10 = (2 : Int)) (_e11 : y11 = ((if 0 ≤ y4 then y4 / 2 else -((-y4) / 2)) + 9223372036854775808) % 18446744073709551616 - 9223372036854775808) (_e12 : y12 = if y11 ≤ y6 then y11 else y6) (_e13 : y13 = if y12 ≤ y8 then y12 else y8) (_e14 : y14 = (6 : Int)) (_e15 : y15 = (y3 - y14 + 9223372036854775808) % 18446744073709551616 - 9223372036854775808) (_e16 : y16 = (y4 * y15 + 9223372036854775808) % 18446744073709551616 - 9223372036854775808) (_e17 : y17 = ((if 0 ≤ y16 then y16 / 2 else -((-y16) / 2)) + 9223372036854775808) % 18446744073709551616 - 9223372036854775808) (_e18 : y18 = (y17 - y2 + 9223372036854775808) % 18446744073709551616 - 9223372036854775808) (_e19 : y19 = if y18 ≤ y1 then y1 else y18) (_e20 : y20 = if y13 ≤ y19 then y13 else y19) (_e21 : y21 = (1 : Int)) (_e25 : y25 = (y2 + y20 + 9223372036854775808) % 18446744073709551616 - 9223372036854775808) (_e26 : y26 = ((2 : Int) * y25 + 9223372036854775808) % 18446744073709551616 - 9223372036854775808) (_e22 : y22 = (y20 + y21 + 9223372036854775808) % 18446744073709551616 - 9223372036854775808) (_h0 : y0 = y1) (_h1 : y1 ≤ y2) (_h2 : y2 ≤ y7) (_h3 : y1 ≤ y8) (_h4 : y8 ≤ y6) (_h5 : y6 ≤ y9) (_h6 : ¬ (y20 ≤ y1)) (_h7 : y21 ≤ y20) (_h8 : y20 ≤ y12) (_h9 : y20 ≤ y8) (_h10 : y26 ≤ y16) (_h11 : y21 ≤ y22) (_h12 : ¬ (y22 ≤ y12)) (_h13 : ¬ (y20 = y12)) : False := by
  obtain ⟨_l0, _u0, _l1, _u1, _l2, _u2, _l3, _u3, _l4, _u4, _l5, _u5, _l6, _u6, _l7, _u7, _l8, _u8, _g0, _g1, _g2, _g3, _g4, _g5, _g6, _g7, _g8, _g9⟩ := B
  have f0 := _g0 (by omega)
  have f1 := _g1 (by omega)
  have f2 := _g2 (by omega)
  have f3 := _g3 (by omega)
  have f4 := _g4 (by omega)
  have f5 := _g5 (by omega)
  have f6 := _g6 (by omega)
  have f7 := _g7 (by omega)
  have f8 := _g8 (by omega)
  have f9 := _g9 (by omega)
  clear _g0 _g1 _g2 _g3 _g4 _g5 _g6 _g7 _g8 _g9
  have q5 : y5 = x1 * x0 ∧ 56 ≤ y5 ∧ y5 ≤ 1536 := by have := Ev.nl_mul (a := 7) (a' := 24) (b := 8) (b' := 64) _e3 _e4 _e5 (by omega) (by omega) (by omega) (by omega) (by omega) (by omega) (by omega); omega
  clear _e5
  have q16 : y16 = x1 * x0 - 6 * x0 ∧ 8 ≤ y16 ∧ y16 ≤ 1152 := by
    have hy : y15 = x1 - 6 := by omega
    have := Ev.nl_mul (a := 8) (a' := 64) (b := 1) (b' := 18) _e4 hy _e16 (by omega) (by omega) (by omega) (by omega) (by omega) (by omega) (by omega)
    rw [show x0 * (x1 - 6) = x1 * x0 - 6 * x0 by rw [Int.mul_sub, Int.mul_comm x0 x1, Int.mul_comm x0 6]] at this
    omega
  clear _e16
  try (have c7 : y7 = y5 + y6 := (by
    clear _e8 _e9 _e10 _e11 _e12 _e13 _e14 _e15 _e17 _e18 _e19 _e20 _e21 _e25 _e26 _e22
    omega)
       clear _e7)
  try (have c9 : y9 = y2 + y8 := (by
    clear _e10 _e11 _e12 _e13 _e14 _e15 _e17 _e18 _e19 _e20 _e21 _e25 _e26 _e22
    omega)
       clear _e9)
  try (have c11 : y11 = y4 / 2 := (by
    clear _e12 _e13 _e14 _e15 _e17 _e18 _e19 _e20 _e21 _e25 _e26 _e22
    omega)
       clear _e11)
  try (have c15 : y15 = y3 - y14 := (by
    clear _e17 _e18 _e19 _e20 _e21 _e25 _e26 _e22
    omega)
       clear _e15)
  try (have c17 : y17 = y16 / 2 := (by
    clear _e18 _e19 _e20 _e21 _e25 _e26 _e22
    omega)
       clear _e17)
  try (have c18 : y18 = y17 - y2 := (by
    clear _e19 _e20 _e21 _e25 _e26 _e22
    omega)
       clear _e18)
  try (have c25 : y25 = y2 + y20 := (by
    clear _e26 _e22
    omega)
       clear _e25)
  try (have c26 : y26 = (2) * y25 := (by
    clear _e22
    omega)
       clear _e26)
  try (have c22 : y22 = y20 + y21 := (by
    omega)
       clear _e22)
  omega
set_option maxHeartbeats 4000000 in
theorem dead10 (x0 x1 x2 x3 x4 x5 x6 x7 x8 : Int) (B : Bd x0 x1 x2 x3 x4 x5 x6 x7 x8) (y0 y1 y2 y3 y4 y5 y6 y7 y8 y9 y10 y11 y12 y13 y14 y15 y16 y17 y18 y19 y20 y21 y25 y26 y22 : Int) (_e0 : y0 = x8) (_e1 : y1 = (0 : Int)) (_e2 : y2 = x5) (_e3 : y3 = x1) (_e4 : y4 = x0) (_e5 : y5 = (y3 * y4 + 9223372036854775808) % 18446744073709551616 - 9223372036854775808) (_e6 : y6 = x2) (_e7 : y7 = (y5 + y6 + 9223372036854775808) % 18446744073709551616 - 9223372036854775808) (_e8 : y8 = x6) (_e9 : y9 = (y2 + y8 + 9223372036854775808) % 18446744073709551616 - 9223372036854775808) (_e10 : y10 = (2 : Int)) (_e11 : y11 = ((if 0 ≤ y4 then y4 / 2 else -((-y4) / 2)) + 9223372036854775808) % 18446744073709551616 - 9223372036854775808) (_e12 : y12 = if y11 ≤ y6 then y11 else y6) (_e13 : y13 = if y12 ≤ y8 then y12 else y8) (_e14 : y14 = (6 : Int)) (_e15 : y15 = (y3 - y14 + 9223372036854775808) % 18446744073709551616 - 9223372036854775808) (_e16 : y16 = (y4 * y15 + 9223372036854775808) % 18446744073709551616 - 9223372036854775808) (_e17 : y17 = ((if 0 ≤ y16 then y16 / 2 else -((-y16) / 2)) + 9223372036854775808) % 18446744073709551616 - 9223372036854775808) (_e18 : y18 = (y17 - y2 + 9223372036854775808) % 18446744073709551616 - 9223372036854775808) (_e19 : y19 = if y18 ≤ y1 then y1 else y18) (_e20 : y20 = if y13 ≤ y19 then y13 else y19) (_e21 : y21 = (1 : Int)) (_e25 : y25 = (y2 + y20 + 9223372036854775808) % 18446744073709551616 - 9223372036854775808) (_e26 : y26 = ((2 : Int) * y25 + 9223372036854775808) % 18446744073709551616 - 9223372036854775808) (_e22 : y22 = (y20 + y21 + 9223372036854775808) % 18446744073709551616 - 9223372036854775808) (_h0 : y0 = y1) (_h1 : y1 ≤ y2) (_h2 : y2 ≤ y7) (_h3 : y1 ≤ y8) (_h4 : y8 ≤ y6) (_h5 : y6 ≤ y9) (_h6 : ¬ (y20 ≤ y1)) (_h7 : y21 ≤ y20) (_h8 : y20 ≤ y12) (_h9 : y20 ≤ y8) (_h10 : y26 ≤ y16) (_h11 : ¬ (y21 ≤ y22)) : False := by
  obtain ⟨_l0, _u0, _l1, _u1, _l2, _u2, _l3, _u3, _l4, _u4, _l5, _u5, _l6, _u6, _l7, _u7, _l8, _u8, _g0, _g1, _g2, _g3, _g4, _g5, _g6, _g7, _g8, _g9⟩ := B
  have f0 := _g0 (by omega)
  have f1 := _g1 (by omega)
  have f2 := _g2 (by omega)
  have f3 := _g3 (by omega)
  have f4 := _g4 (by omega)
  have f5 := _g5 (by omega)
  have f6 := _g6 (by omega)
  have f7 := _g7 (by omega)
  have f8 := _g8 (by omega)
  have f9 := _g9 (by omega)
  clear _g0 _g1 _g2 _g3 _g4 _g5 _g6 _g7 _g8 _g9
  have q5 : y5 = x1 * x0 ∧ 56 ≤ y5 ∧ y5 ≤ 1536 := by have := Ev.nl_mul (a := 7) (a' := 24) (b := 8) (b' := 64) _e3 _e4 _e5 (by omega) (by omega) (by omega) (by omega) (by omega) (by omega) (by omega); omega
  clear _e5
  have q16 : y16 = x1 * x0 - 6 * x0 ∧ 8 ≤ y16 ∧ y16 ≤ 1152 := by
    have hy : y15 = x1 - 6 := by omega
    have := Ev.nl_mul (a := 8) (a' := 64) (b := 1) (b' := 18) _e4 hy _e16 (by omega) (by omega) (by omega) (by omega) (by omega) (by omega) (by omega)
    rw [show x0 * (x1 - 6) = x1 * x0 - 6 * x0 by rw [Int.mul_sub, Int.mul_comm x0 x1, Int.mul_comm x0 6]] at this
    omega
  clear _e16
  try (have c7 : y7 = y5 + y6 := (by
    clear _e8 _e9 _e10 _e11 _e12 _e13 _e14 _e15 _e17 _e18 _e19 _e20 _e21 _e25 _e26 _e22
    omega)
       clear _e7)
  try (have c9 : y9 = y2 + y8 := (by
    clear _e10 _e11 _e12 _e13 _e14 _e15 _e17 _e18 _e19 _e20 _e21 _e25 _e26 _e22
    omega)
       clear _e9)
  try (have c11 : y11 = y4 / 2 := (by
    clear _e12 _e13 _e14 _e15 _e17 _e18 _e19 _e20 _e21 _e25 _e26 _e22
    omega)
       clear _e11)
  try (have c15 : y15 = y3 - y14 := (by
    clear _e17 _e18 _e19 _e20 _e21 _e25 _e26 _e22
    omega)
       clear _e15)
  try (have c17 : y17 = y16 / 2 := (by
    clear _e18 _e19 _e20 _e21 _e25 _e26 _e22
    omega)
       clear _e17)
  try (have c18 : y18 = y17 - y2 := (by
    clear _e19 _e20 _e21 _e25 _e26 _e22
    omega)
       clear _e18)
  try (have c25 : y25 = y2 + y20 := (by
    clear _e26 _e22
    omega)
       clear _e25)
  try (have c26 : y26 = (2) * y25 := (by
    clear _e22
    omega)
       clear _e26)
  try (have c22 : y22 = y20 + y21 := (by
    omega)
       clear _e22)
  omega
set_option maxHeartbeats 4000000 in
theorem dead11 (x0 x1 x2 x3 x4 x5 x6 x7 x8 : Int) (B : Bd x0 x1 x2 x3 x4 x5 x6 x7 x8) (y0 y1 y2 y3 y4 y5 y6 y7 y8 y9 y10 y11 y12 y13 y14 y15 y16 y17 y18 y19 y20 y21 y25 y26 : Int) (_e0 : y0 = x8) (_e1 : y1 = (0 : Int)) (_e2 : y2 = x5) (_e3 : y3 = x1) (_e4 : y4 = x0) (_e5 : y5 = (y3 * y4 + 9223372036854775808) % 18446744073709551616 - 9223372036854775808) (_e6 : y6 = x2) (_e7 : y7 = (y5 + y6 + 9223372036854775808) % 18446744073709551616 - 9223372036854775808) (_e8 : y8 = x6) (_e9 : y9 = (y2 + y8 + 9223372036854775808) % 18446744073709551616 - 9223372036854775808) (_e10 : y10 = (2 : Int)) (_e11 : y11 = ((if 0 ≤ y4 then y4 / 2 else -((-y4) / 2)) + 9223372036854775808) % 18446744073709551616 - 9223372036854775808) (_e12 : y12 = if y11 ≤ y6 then y11 else y6) (_e13 : y13 = if y12 ≤ y8 then y12 else y8) (_e14 : y14 = (6 : Int)) (_e15 : y15 = (y3 - y14 + 9223372036854775808) % 18446744073709551616 - 9223372036854775808) (_e16 : y16 = (y4 * y15 + 9223372036854775808) % 18446744073709551616 - 9223372036854775808) (_e17 : y17 = ((if 0 ≤ y16 then y16 / 2 else -((-y16) / 2)) + 9223372036854775808) % 18446744073709551616 - 9223372036854775808) (_e18 : y18 = (y17 - y2 + 9223372036854775808) % 18446744073709551616 - 9223372036854775808) (_e19 : y19 = if y18 ≤ y1 then y1 else y18) (_e20 : y20 = if y13 ≤ y19 then y13 else y19) (_e21 : y21 = (1 : Int)) (_e25 : y25 = (y2 + y20 + 9223372036854775808) % 18446744073709551616 - 9223372036854775808) (_e26 : y26 = ((2 : Int) * y25 + 9223372036854775808) % 18446744073709551616 - 9223372036854775808) (_h0 : y0 = y1) (_h1 : y1 ≤ y2) (_h2 : y2 ≤ y7) (_h3 : y1 ≤ y8) (_h4 : y8 ≤ y6) (_h5 : y6 ≤ y9) (_h6 : ¬ (y20 ≤ y1)) (_h7 : y21 ≤ y20) (_h8 : y20 ≤ y12) (_h9 : y20 ≤ y8) (_h10 : ¬ (y26 ≤ y16)) : False := by
  obtain ⟨_l0, _u0, _l1, _u1, _l2, _u2, _l3, _u3, _l4, _u4, _l5, _u5, _l6, _u6, _l7, _u7, _l8, _u8, _g0, _g1, _g2, _g3, _g4, _g5, _g6, _g7, _g8, _g9⟩ := B
  have f0 := _g0 (by omega)
  have f1 := _g1 (by omega)
  have f2 := _g2 (by omega)
  have f3 := _g3 (by omega)
  have f4 := _g4 (by omega)
  have f5 := _g5 (by omega)
  have f6 := _g6 (by omega)
  have f7 := _g7 (by omega)
  have f8 := _g8 (by omega)
  have f9 := _g9 (by omega)
  clear _g0 _g1 _g2 _g3 _g4 _g5 _g6 _g7 _g8 _g9
  have q5 : y5 = x1 * x0 ∧ 56 ≤ y5 ∧ y5 ≤ 1536 := by have := Ev.nl_mul (a := 7) (a' := 24) (b := 8) (b' := 64) _e3 _e4 _e5 (by omega) (by omega) (by omega) (by omega) (by omega) (by omega) (by omega); omega
  clear _e5
  have q16 : y16 = x1 * x0 - 6 * x0 ∧ 8 ≤ y16 ∧ y16 ≤ 1152 := by
    have hy : y15 = x1 - 6 := by omega
    have := Ev.nl_mul (a := 8) (a' := 64) (b := 1) (b' := 18) _e4 hy _e16 (by omega) (by omega) (by omega) (by omega) (by omega) (by omega) (by omega)
    rw [show x0 * (x1 - 6) = x1 * x0 - 6 * x0 by rw [Int.mul_sub, Int.mul_comm x0 x1, Int.mul_comm x0 6]] at this
    omega
  clear _e16
  try (have c7 : y7 = y5 + y6 := (by
    clear _e8 _e9 _e10 _e11 _e12 _e13 _e14 _e15 _e17 _e18 _e19 _e20 _e21 _e25 _e26
    omega)
       clear _e7)
  try (have c9 : y9 = y2 + y8 := (by
    clear _e10 _e11 _e12 _e13 _e14 _e15 _e17 _e18 _e19 _e20 _e21 _e25 _e26
    omega)
       clear _e9)
  try (have c11 : y11 = y4 / 2 := (by
    clear _e12 _e13 _e14 _e15 _e17 _e18 _e19 _e20 _e21 _e25 _e26
    omega)
       clear _e11)
  try (have c15 : y15 = y3 - y14 := (by
    clear _e17 _e18 _e19 _e20 _e21 _e25 _e26
    omega)
       clear _e15)
  try (have c17 : y17 = y16 / 2 := (by
    clear _e18 _e19 _e20 _e21 _e25 _e26
    omega)
       clear _e17)
  try (have c18 : y18 = y17 - y2 := (by
    clear _e19 _e20 _e21 _e25 _e26
    omega)
       clear _e18)
  try (have c25 : y25 = y2 + y20 := (by
    clear _e26
    omega)
       clear _e25)
  try (have c26 : y26 = (2) * y25 := (by
    omega)
       clear _e26)
  omega
set_option maxHeartbeats 4000000 in
theorem dead12 (x0 x1 x2 x3 x4 x5 x6 x7 x8 : Int) (B : Bd x0 x1 x2 x3 x4 x5 x6 x7 x8) (y0 y1 y2 y3 y4 y5 y6 y7 y8 y9 y10 y11 y12 y13 y14 y15 y16 y17 y18 y19 y20 y21 : Int) (_e0 : y0 = x8) (_e1 : y1 = (0 : Int)) (_e2 : y2 = x5) (_e3 : y3 = x1) (_e4 : y4 = x0) (_e5 : y5 = (y3 * y4 + 9223372036854775808) % 18446744073709551616 - 9223372036854775808) (_e6 : y6 = x2) (_e7 : y7 = (y5 + y6 + 9223372036854775808) % 18446744073709551616 - 9223372036854775808) (_e8 : y8 = x6) (_e9 : y9 = (y2 + y8 + 9223372036854775808) % 18446744073709551616 - 9223372036854775808) (_e10 : y10 = (2 : Int)) (_e11 : y11 = ((if 0 ≤ y4 then y4 / 2 else -((-y4) / 2)) + 9223372036854775808) % 18446744073709551616 - 9223372036854775808) (_e12 : y12 = if y11 ≤ y6 then y11 else y6) (_e13 : y13 = if y12 ≤ y8 then y12 else y8) (_e14 : y14 = (6 : Int)) (_e15 : y15 = (y3 - y14 + 9223372036854775808) % 18446744073709551616 - 9223372036854775808) (_e16 : y16 = (y4 * y15 + 9223372036854775808) % 18446744073709551616 - 9223372036854775808) (_e17 : y17 = ((if 0 ≤ y16 then y16 / 2 else -((-y16) / 2)) + 9223372036854775808) % 18446744073709551616 - 9223372036854775808) (_e18 : y18 = (y17 - y2 + 9223372036854775808) % 18446744073709551616 - 9223372036854775808) (_e19 : y19 = if y18 ≤ y1 then y1 else y18) (_e20 : y20 = if y13 ≤ y19 then y13 else y19) (_e21 : y21 = (1 : Int)) (_h0 : y0 = y1) (_h1 : y1 ≤ y2) (_h2 : y2 ≤ y7) (_h3 : y1 ≤ y8) (_h4 : y8 ≤ y6) (_h5 : y6 ≤ y9) (_h6 : ¬ (y20 ≤ y1)) (_h7 : y21 ≤ y20) (_h8 : y20 ≤ y12) (_h9 : ¬ (y20 ≤ y8)) : False := by
  obtain ⟨_l0, _u0, _l1, _u1, _l2, _u2, _l3, _u3, _l4, _u4, _l5, _u5, _l6, _u6, _l7, _u7, _l8, _u8, _g0, _g1, _g2, _g3, _g4, _g5, _g6, _g7, _g8, _g9⟩ := B
  have f0 := _g0 (by omega)
  have f1 := _g1 (by omega)
  have f2 := _g2 (by omega)
  have f3 := _g3 (by omega)
  have f4 := _g4 (by omega)
  have f5 := _g5 (by omega)
  have f6 := _g6 (by omega)
  have f7 := _g7 (by omega)
  have f8 := _g8 (by omega)
  have f9 := _g9 (by omega)
  clear _g0 _g1 _g2 _g3 _g4 _g5 _g6 _g7 _g8 _g9
  have q5 : y5 = x1 * x0 ∧ 56 ≤ y5 ∧ y5 ≤ 1536 := by have := Ev.nl_mul (a := 7) (a' := 24) (b := 8) (b' := 64) _e3 _e4 _e5 (by omega) (by omega) (by omega) (by omega) (by omega) (by omega) (by omega); omega
  clear _e5
  have q16 : y16 = x1 * x0 - 6 * x0 ∧ 8 ≤ y16 ∧ y16 ≤ 1152 := by
    have hy : y15 = x1 - 6 := by omega
    have := Ev.nl_mul (a := 8) (a' := 64) (b := 1) (b' := 18) _e4 hy _e16 (by omega) (by omega) (by omega) (by omega) (by omega) (by omega) (by omega)
    rw [show x0 * (x1 - 6) = x1 * x0 - 6 * x0 by rw [Int.mul_sub, Int.mul_comm x0 x1, Int.mul_comm x0 6]] at this
    omega
  clear _e16
  try (have c7 : y7 = y5 + y6 := (by
    clear _e8 _e9 _e10 _e11 _e12 _e13 _e14 _e15 _e17 _e18 _e19 _e20 _e21
    omega)
       clear _e7)
  try (have c9 : y9 = y2 + y8 := (by
    clear _e10 _e11 _e12 _e13 _e14 _e15 _e17 _e18 _e19 _e20 _e21
    omega)
       clear _e9)
  try (have c11 : y11 = y4 / 2 := (by
    clear _e12 _e13 _e14 _e15 _e17 _e18 _e19 _e20 _e21
    omega)
       clear _e11)
  try (have c15 : y15 = y3 - y14 := (by
    clear _e17 _e18 _e19 _e20 _e21
    omega)
       clear _e15)
  try (have c17 : y17 = y16 / 2 := (by
    clear _e18 _e19 _e20 _e21
    omega)
       clear _e17)
  try (have c18 : y18 = y17 - y2 := (by
    clear _e19 _e20 _e21
    omega)
       clear _e18)
  omega
set_option maxHeartbeats 4000000 in
theorem dead13 (x0 x1 x2 x3 x4 x5 x6 x7 x8 : Int) (B : Bd x0 x1 x2 x3 x4 x5 x6 x7 x8) (y0 y1 y2 y3 y4 y5 y6 y7 y8 y9 y10 y11 y12 y13 y14 y15 y16 y17 y18 y19 y20 y21 : Int) (_e0 : y0 = x8) (_e1 : y1 = (0 : Int)) (_e2 : y2 = x5) (_e3 : y3 = x1) (_e4 : y4 = x0) (_e5 : y5 = (y3 * y4 + 9223372036854775808) % 18446744073709551616 - 9223372036854775808) (_e6 : y6 = x2) (_e7 : y7 = (y5 + y6 + 9223372036854775808) % 18446744073709551616 - 9223372036854775808) (_e8 : y8 = x6) (_e9 : y9 = (y2 + y8 + 9223372036854775808) % 18446744073709551616 - 9223372036854775808) (_e10 : y10 = (2 : Int)) (_e11 : y11 = ((if 0 ≤ y4 then y4 / 2 else -((-y4) / 2)) + 9223372036854775808) % 18446744073709551616 - 9223372036854775808) (_e12 : y12 = if y11 ≤ y6 then y11 else y6) (_e13 : y13 = if y12 ≤ y8 then y12 else y8) (_e14 : y14 = (6 : Int)) (_e15 : y15 = (y3 - y14 + 9223372036854775808) % 18446744073709551616 - 9223372036854775808) (_e16 : y16 = (y4 * y15 + 9223372036854775808) % 18446744073709551616 - 9223372036854775808) (_e17 : y17 = ((if 0 ≤ y16 then y16 / 2 else -((-y16) / 2)) + 9223372036854775808) % 18446744073709551616 - 9223372036854775808) (_e18 : y18 = (y17 - y2 + 9223372036854775808) % 18446744073709551616 - 9223372036854775808) (_e19 : y19 = if y18 ≤ y1 then y1 else y18) (_e20 : y20 = if y13 ≤ y19 then y13 else y19) (_e21 : y21 = (1 : Int)) (_h0 : y0 = y1) (_h1 : y1 ≤ y2) (_h2 : y2 ≤ y7) (_h3 : y1 ≤ y8) (_h4 : y8 ≤ y6) (_h5 : y6 ≤ y9) (_h6 : ¬ (y20 ≤ y1)) (_h7 : y21 ≤ y20) (_h8 : ¬ (y20 ≤ y12)) : False := by
  obtain ⟨_l0, _u0, _l1, _u1, _l2, _u2, _l3, _u3, _l4, _u4, _l5, _u5, _l6, _u6, _l7, _u7, _l8, _u8, _g0, _g1, _g2, _g3, _g4, _g5, _g6, _g7, _g8, _g9⟩ := B
  have f0 := _g0 (by omega)
  have f1 := _g1 (by omega)
  have f2 := _g2 (by omega)
  have f3 := _g3 (by omega)
  have f4 := _g4 (by omega)
  have f5 := _g5 (by omega)
  have f6 := _g6 (by omega)
  have f7 := _g7 (by omega)
  have f8 := _g8 (by omega)
  have f9 := _g9 (by omega)
  clear _g0 _g1 _g2 _g3 _g4 _g5 _g6 _g7 _g8 _g9
  have q5 : y5 = x1 * x0 ∧ 56 ≤ y5 ∧ y5 ≤ 1536 := by have := Ev.nl_mul (a := 7) (a' := 24) (b := 8) (b' := 64) _e3 _e4 _e5 (by omega) (by omega) (by omega) (by omega) (by omega) (by omega) (by omega); omega
  clear _e5
  have q16 : y16 = x1 * x0 - 6 * x0 ∧ 8 ≤ y16 ∧ y16 ≤ 1152 := by
    have hy : y15 = x1 - 6 := by omega
    have := Ev.nl_mul (a := 8) (a' := 64) (b := 1) (b' := 18) _e4 hy _e16 (by omega) (by omega) (by omega) (by omega) (by omega) (by omega) (by omega)
    rw [show x0 * (x1 - 6) = x1 * x0 - 6 * x0 by rw [Int.mul_sub, Int.mul_comm x0 x1, Int.mul_comm x0 6]] at this
    omega
  clear _e16
  try (have c7 : y7 = y5 + y6 := (by
    clear _e8 _e9 _e10 _e11 _e12 _e13 _e14 _e15 _e17 _e18 _e19 _e20 _e21
    omega)
       clear _e7)
  try (have c9 : y9 = y2 + y8 := (by
    clear _e10 _e11 _e12 _e13 _e14 _e15 _e17 _e18 _e19 _e20 _e21
    omega)
       clear _e9)
  try (have c11 : y11 = y4 / 2 := (by
    clear _e12 _e13 _e14 _e15 _e17 _e18 _e19 _e20 _e21
    omega)
       clear _e11)
  try (have c15 : y15 = y3 - y14 := (by
    clear _e17 _e18 _e19 _e20 _e21
    omega)
       clear _e15)
  try (have c17 : y17 = y16 / 2 := (by
    clear _e18 _e19 _e20 _e21
    omega)
       clear _e17)
  try (have c18 : y18 = y17 - y2 := (by
    clear _e19 _e20 _e21
    omega)
       clear _e18)
  omega
set_option maxHeartbeats 4000000 in
theorem dead14 (x0 x1 x2 x3 x4 x5 x6 x7 x8 : Int) (B : Bd x0 x1 x2 x3 x4 x5 x6 x7 x8) (y0 y1 y2 y3 y4 y5 y6 y7 y8 y9 y10 y11 y12 y13 y14 y15 y16 y17 y18 y19 y20 y21 : Int) (_e0 : y0 = x8) (_e1 : y1 = (0 : Int)) (_e2 : y2 = x5) (_e3 : y3 = x1) (_e4 : y4 = x0) (_e5 : y5 = (y3 * y4 + 9223372036854775808) % 18446744073709551616 - 9223372036854775808) (_e6 : y6 = x2) (_e7 : y7 = (y5 + y6 + 9223372036854775808) % 18446744073709551616 - 9223372036854775808) (_e8 : y8 = x6) (_e9 : y9 = (y2 + y8 + 9223372036854775808) % 18446744073709551616 - 9223372036854775808) (_e10 : y10 = (2 : Int)) (_e11 : y11 = ((if 0 ≤ y4 then y4 / 2 else -((-y4) / 2)) + 9223372036854775808) % 18446744073709551616 - 9223372036854775808) (_e12 : y12 = if y11 ≤ y6 then y11 else y6) (_e13 : y13 = if y12 ≤ y8 then y12 else y8) (_e14 : y14 = (6 : Int)) (_e15 : y15 = (y3 - y14 + 9223372036854775808) % 18446744073709551616 - 9223372036854775808) (_e16 : y16 = (y4 * y15 + 9223372036854775808) % 18446744073709551616 - 9223372036854775808) (_e17 : y17 = ((if 0 ≤ y16 then y16 / 2 else -((-y16) / 2)) + 9223372036854775808) % 18446744073709551616 - 9223372036854775808) (_e18 : y18 = (y17 - y2 + 9223372036854775808) % 18446744073709551616 - 9223372036854775808) (_e19 : y19 = if y18 ≤ y1 then y1 else y18) (_e20 : y20 = if y13 ≤ y19 then y13 else y19) (_e21 : y21 = (1 : Int)) (_h0 : y0 = y1) (_h1 : y1 ≤ y2) (_h2 : y2 ≤ y7) (_h3 : y1 ≤ y8) (_h4 : y8 ≤ y6) (_h5 : y6 ≤ y9) (_h6 : ¬ (y20 ≤ y1)) (_h7 : ¬ (y21 ≤ y20)) : False := by
  obtain ⟨_l0, _u0, _l1, _u1, _l2, _u2, _l3, _u3, _l4, _u4, _l5, _u5, _l6, _u6, _l7, _u7, _l8, _u8, _g0, _g1, _g2, _g3, _g4, _g5, _g6, _g7, _g8, _g9⟩ := B
  have f0 := _g0 (by omega)
  have f1 := _g1 (by omega)
  have f2 := _g2 (by omega)
  have f3 := _g3 (by omega)
  have f4 := _g4 (by omega)
  have f5 := _g5 (by omega)
  have f6 := _g6 (by omega)
  have f7 := _g7 (by omega)
  have f8 := _g8 (by omega)
  have f9 := _g9 (by omega)
  clear _g0 _g1 _g2 _g3 _g4 _g5 _g6 _g7 _g8 _g9
  have q5 : y5 = x1 * x0 ∧ 56 ≤ y5 ∧ y5 ≤ 1536 := by have := Ev.nl_mul (a := 7) (a' := 24) (b := 8) (b' := 64) _e3 _e4 _e5 (by omega) (by omega) (by omega) (by omega) (by omega) (by omega) (by omega); omega
  clear _e5
  have q16 : y16 = x1 * x0 - 6 * x0 ∧ 8 ≤ y16 ∧ y16 ≤ 1152 := by
    have hy : y15 = x1 - 6 := by omega
    have := Ev.nl_mul (a := 8) (a' := 64) (b := 1) (b' := 18) _e4 hy _e16 (by omega) (by omega) (by omega) (by omega) (by omega) (by omega) (by omega)
    rw [show x0 * (x1 - 6) = x1 * x0 - 6 * x0 by rw [Int.mul_sub, Int.mul_comm x0 x1, Int.mul_comm x0 6]] at this
    omega
  clear _e16
  try (have c7 : y7 = y5 + y6 := (by
    clear _e8 _e9 _e10 _e11 _e12 _e13 _e14 _e15 _e17 _e18 _e19 _e20 _e21
    omega)
       clear _e7)
  try (have c9 : y9 = y2 + y8 := (by
    clear _e10 _e11 _e12 _e13 _e14 _e15 _e17 _e18 _e19 _e20 _e21
    omega)
       clear _e9)
  try (have c11 : y11 = y4 / 2 := (by
    clear _e12 _e13 _e14 _e15 _e17 _e18 _e19 _e20 _e21
    omega)
       clear _e11)
  try (have c15 : y15 = y3 - y14 := (by
    clear _e17 _e18 _e19 _e20 _e21
    omega)
       clear _e15)
  try (have c17 : y17 = y16 / 2 := (by
    clear _e18 _e19 _e20 _e21
    omega)
       clear _e17)
  try (have c18 : y18 = y17 - y2 := (by
    clear _e19 _e20 _e21
    omega)
       clear _e18)
  omega

end Go.Proofs.Ytffaikcaenkkhab.admitMost
