/-
  'shunterlaw02.ConfigRoom': ways that no numbers lead to. No project text.
-/
import Derived.Test.YtffaikcaenkkhaaDoorConfigRoom1
namespace Go.Proofs.YtffaikcaenkkhaaDoor.configRoom
open Go.ChangeShapes Go.WideShapes Go.ChangeAt Go.RowKit

set_option maxHeartbeats 4000000 in
theorem dead0 (x0 x1 x2 x3 x4 x5 x6 : Int) (B : Bd x0 x1 x2 x3 x4 x5 x6) (y0 y1 y2 y3 y4 y5 y6 y7 y8 y9 : Int) (_e0 : y0 = x6) (_e1 : y1 = (0 : Int)) (_e2 : y2 = (1 : Int)) (_e3 : y3 = x5) (_e4 : y4 = x0) (_e5 : y5 = (2 : Int)) (_e6 : y6 = ((if 0 ≤ y4 then y4 / 2 else -((-y4) / 2)) + 9223372036854775808) % 18446744073709551616 - 9223372036854775808) (_e7 : y7 = x2) (_e8 : y8 = if y6 ≤ y7 then y6 else y7) (_e9 : y9 = (y8 + y2 + 9223372036854775808) % 18446744073709551616 - 9223372036854775808) (_h0 : y0 = y1) (_h1 : y2 ≤ y3) (_h2 : y3 ≤ y8) (_h3 : y2 ≤ y8) (_h4 : y2 ≤ y9) (_h5 : y9 ≤ y8) : False := by
  obtain ⟨_l0, _u0, _l1, _u1, _l2, _u2, _l3, _u3, _l4, _u4, _l5, _u5, _l6, _u6, _g0, _g1, _g2, _g3, _g4, _g5, _g6, _g7, _g8, _g9⟩ := B
  have f0 := _g0 (by omega)
  have f1 := _g1 (by omega)
  have f2 := _g2 (by omega)
  have f3 := _g3 (by omega)
  have f4 := _g4 (by omega)
  have f5 := _g5 (by omega)
  have f6 := _g6 (by omega)
  have f7 := _g7 (by omega)
  have f8 := _g8 (by omega)
  have f9 := _g9 (by omega)
  clear _g0 _g1 _g2 _g3 _g4 _g5 _g6 _g7 _g8 _g9
  try (have c6 : y6 = y4 / 2 := (by
    clear _e7 _e8 _e9
    omega)
       clear _e6)
  try (have c9 : y9 = y8 + y2 := (by
    omega)
       clear _e9)
  omega
set_option maxHeartbeats 4000000 in
theorem dead1 (x0 x1 x2 x3 x4 x5 x6 : Int) (B : Bd x0 x1 x2 x3 x4 x5 x6) (y0 y1 y2 y3 y4 y5 y6 y7 y8 y9 y10 y11 y12 y13 y14 y15 y16 y17 y18 : Int) (_e0 : y0 = x6) (_e1 : y1 = (0 : Int)) (_e2 : y2 = (1 : Int)) (_e3 : y3 = x5) (_e4 : y4 = x0) (_e5 : y5 = (2 : Int)) (_e6 : y6 = ((if 0 ≤ y4 then y4 / 2 else -((-y4) / 2)) + 9223372036854775808) % 18446744073709551616 - 9223372036854775808) (_e7 : y7 = x2) (_e8 : y8 = if y6 ≤ y7 then y6 else y7) (_e9 : y9 = (y8 + y2 + 9223372036854775808) % 18446744073709551616 - 9223372036854775808) (_e10 : y10 = x1) (_e11 : y11 = (6 : Int)) (_e12 : y12 = (y10 - y11 + 9223372036854775808) % 18446744073709551616 - 9223372036854775808) (_e13 : y13 = (y4 * y12 + 9223372036854775808) % 18446744073709551616 - 9223372036854775808) (_e14 : y14 = (y10 * y4 + 9223372036854775808) % 18446744073709551616 - 9223372036854775808) (_e15 : y15 = ((6 : Int) * y4 + 9223372036854775808) % 18446744073709551616 - 9223372036854775808) (_e16 : y16 = (y14 - y15 + 9223372036854775808) % 18446744073709551616 - 9223372036854775808) (_e17 : y17 = (4 : Int)) (_e18 : y18 = ((2 : Int) * y3 + 9223372036854775808) % 18446744073709551616 - 9223372036854775808) (_h0 : y0 = y1) (_h1 : y2 ≤ y3) (_h2 : y3 ≤ y8) (_h3 : y2 ≤ y8) (_h4 : y2 ≤ y9) (_h5 : ¬ (y9 ≤ y8)) (_h6 : y4 ≤ y13) (_h7 : y13 ≤ y16) (_h8 : y17 ≤ y8) (_h9 : y3 ≤ y7) (_h10 : ¬ (y18 ≤ y4)) : False := by
  obtain ⟨_l0, _u0, _l1, _u1, _l2, _u2, _l3, _u3, _l4, _u4, _l5, _u5, _l6, _u6, _g0, _g1, _g2, _g3, _g4, _g5, _g6, _g7, _g8, _g9⟩ := B
  have f0 := _g0 (by omega)
  have f1 := _g1 (by omega)
  have f2 := _g2 (by omega)
  have f3 := _g3 (by omega)
  have f4 := _g4 (by omega)
  have f5 := _g5 (by omega)
  have f6 := _g6 (by omega)
  have f7 := _g7 (by omega)
  have f8 := _g8 (by omega)
  have f9 := _g9 (by omega)
  clear _g0 _g1 _g2 _g3 _g4 _g5 _g6 _g7 _g8 _g9
  have q13 : y13 = x1 * x0 - 6 * x0 ∧ x0 ≤ y13 ∧ y13 ≤ 1152 := by
    have hy : y12 = x1 - 6 := by omega
    have := Ev.nl_mul (a := 8) (a' := 64) (b := 1) (b' := 18) _e4 hy _e13 (by omega) (by omega) (by omega) (by omega) (by omega) (by omega) (by omega)
    have h7 : 0 ≤ x0 * (x1 - 7) := Int.mul_nonneg (by omega) (by omega)
    rw [Int.mul_sub, Int.mul_comm x0 x1, Int.mul_comm x0 7] at h7
    rw [show x0 * (x1 - 6) = x1 * x0 - 6 * x0 by rw [Int.mul_sub, Int.mul_comm x0 x1, Int.mul_comm x0 6]] at this
    omega
  clear _e13
  have q14 : y14 = x1 * x0 ∧ 56 ≤ y14 ∧ y14 ≤ 1536 := by have := Ev.nl_mul (a := 7) (a' := 24) (b := 8) (b' := 64) _e10 _e4 _e14 (by omega) (by omega) (by omega) (by omega) (by omega) (by omega) (by omega); omega
  clear _e14
  try (have c6 : y6 = y4 / 2 := (by
    clear _e7 _e8 _e9 _e10 _e11 _e12 _e15 _e16 _e17 _e18
    omega)
       clear _e6)
  try (have c9 : y9 = y8 + y2 := (by
    clear _e10 _e11 _e12 _e15 _e16 _e17 _e18
    omega)
       clear _e9)
  try (have c12 : y12 = y10 - y11 := (by
    clear _e15 _e16 _e17 _e18
    omega)
       clear _e12)
  try (have c15 : y15 = (6) * y4 := (by
    clear _e16 _e17 _e18
    omega)
       clear _e15)
  try (have c16 : y16 = y14 - y15 := (by
    clear _e17 _e18
    omega)
       clear _e16)
  try (have c18 : y18 = (2) * y3 := (by
    omega)
       clear _e18)
  omega
set_option maxHeartbeats 4000000 in
theorem dead2 (x0 x1 x2 x3 x4 x5 x6 : Int) (B : Bd x0 x1 x2 x3 x4 x5 x6) (y0 y1 y2 y3 y4 y5 y6 y7 y8 y9 y10 y11 y12 y13 y14 y15 y16 y17 : Int) (_e0 : y0 = x6) (_e1 : y1 = (0 : Int)) (_e2 : y2 = (1 : Int)) (_e3 : y3 = x5) (_e4 : y4 = x0) (_e5 : y5 = (2 : Int)) (_e6 : y6 = ((if 0 ≤ y4 then y4 / 2 else -((-y4) / 2)) + 9223372036854775808) % 18446744073709551616 - 9223372036854775808) (_e7 : y7 = x2) (_e8 : y8 = if y6 ≤ y7 then y6 else y7) (_e9 : y9 = (y8 + y2 + 9223372036854775808) % 18446744073709551616 - 9223372036854775808) (_e10 : y10 = x1) (_e11 : y11 = (6 : Int)) (_e12 : y12 = (y10 - y11 + 9223372036854775808) % 18446744073709551616 - 9223372036854775808) (_e13 : y13 = (y4 * y12 + 9223372036854775808) % 18446744073709551616 - 9223372036854775808) (_e14 : y14 = (y10 * y4 + 9223372036854775808) % 18446744073709551616 - 9223372036854775808) (_e15 : y15 = ((6 : Int) * y4 + 9223372036854775808) % 18446744073709551616 - 9223372036854775808) (_e16 : y16 = (y14 - y15 + 9223372036854775808) % 18446744073709551616 - 9223372036854775808) (_e17 : y17 = (4 : Int)) (_h0 : y0 = y1) (_h1 : y2 ≤ y3) (_h2 : y3 ≤ y8) (_h3 : y2 ≤ y8) (_h4 : y2 ≤ y9) (_h5 : ¬ (y9 ≤ y8)) (_h6 : y4 ≤ y13) (_h7 : y13 ≤ y16) (_h8 : y17 ≤ y8) (_h9 : ¬ (y3 ≤ y7)) : False := by
  obtain ⟨_l0, _u0, _l1, _u1, _l2, _u2, _l3, _u3, _l4, _u4, _l5, _u5, _l6, _u6, _g0, _g1, _g2, _g3, _g4, _g5, _g6, _g7, _g8, _g9⟩ := B
  have f0 := _g0 (by omega)
  have f1 := _g1 (by omega)
  have f2 := _g2 (by omega)
  have f3 := _g3 (by omega)
  have f4 := _g4 (by omega)
  have f5 := _g5 (by omega)
  have f6 := _g6 (by omega)
  have f7 := _g7 (by omega)
  have f8 := _g8 (by omega)
  have f9 := _g9 (by omega)
  clear _g0 _g1 _g2 _g3 _g4 _g5 _g6 _g7 _g8 _g9
  have q13 : y13 = x1 * x0 - 6 * x0 ∧ x0 ≤ y13 ∧ y13 ≤ 1152 := by
    have hy : y12 = x1 - 6 := by omega
    have := Ev.nl_mul (a := 8) (a' := 64) (b := 1) (b' := 18) _e4 hy _e13 (by omega) (by omega) (by omega) (by omega) (by omega) (by omega) (by omega)
    have h7 : 0 ≤ x0 * (x1 - 7) := Int.mul_nonneg (by omega) (by omega)
    rw [Int.mul_sub, Int.mul_comm x0 x1, Int.mul_comm x0 7] at h7
    rw [show x0 * (x1 - 6) = x1 * x0 - 6 * x0 by rw [Int.mul_sub, Int.mul_comm x0 x1, Int.mul_comm x0 6]] at this
    omega
  clear _e13
  have q14 : y14 = x1 * x0 ∧ 56 ≤ y14 ∧ y14 ≤ 1536 := by have := Ev.nl_mul (a := 7) (a' := 24) (b := 8) (b' := 64) _e10 _e4 _e14 (by omega) (by omega) (by omega) (by omega) (by omega) (by omega) (by omega); omega
  clear _e14
  try (have c6 : y6 = y4 / 2 := (by
    clear _e7 _e8 _e9 _e10 _e11 _e12 _e15 _e16 _e17
    omega)
       clear _e6)
  try (have c9 : y9 = y8 + y2 := (by
    clear _e10 _e11 _e12 _e15 _e16 _e17
    omega)
       clear _e9)
  try (have c12 : y12 = y10 - y11 := (by
    clear _e15 _e16 _e17
    omega)
       clear _e12)
  try (have c15 : y15 = (6) * y4 := (by
    clear _e16 _e17
    omega)
       clear _e15)
  try (have c16 : y16 = y14 - y15 := (by
    clear _e17
    omega)
       clear _e16)
  omega
set_option maxHeartbeats 4000000 in
theorem dead3 (x0 x1 x2 x3 x4 x5 x6 : Int) (B : Bd x0 x1 x2 x3 x4 x5 x6) (y0 y1 y2 y3 y4 y5 y6 y7 y8 y9 y10 y11 y12 y13 y14 y15 y16 y17 : Int) (_e0 : y0 = x6) (_e1 : y1 = (0 : Int)) (_e2 : y2 = (1 : Int)) (_e3 : y3 = x5) (_e4 : y4 = x0) (_e5 : y5 = (2 : Int)) (_e6 : y6 = ((if 0 ≤ y4 then y4 / 2 else -((-y4) / 2)) + 9223372036854775808) % 18446744073709551616 - 9223372036854775808) (_e7 : y7 = x2) (_e8 : y8 = if y6 ≤ y7 then y6 else y7) (_e9 : y9 = (y8 + y2 + 9223372036854775808) % 18446744073709551616 - 9223372036854775808) (_e10 : y10 = x1) (_e11 : y11 = (6 : Int)) (_e12 : y12 = (y10 - y11 + 9223372036854775808) % 18446744073709551616 - 9223372036854775808) (_e13 : y13 = (y4 * y12 + 9223372036854775808) % 18446744073709551616 - 9223372036854775808) (_e14 : y14 = (y10 * y4 + 9223372036854775808) % 18446744073709551616 - 9223372036854775808) (_e15 : y15 = ((6 : Int) * y4 + 9223372036854775808) % 18446744073709551616 - 9223372036854775808) (_e16 : y16 = (y14 - y15 + 9223372036854775808) % 18446744073709551616 - 9223372036854775808) (_e17 : y17 = (4 : Int)) (_h0 : y0 = y1) (_h1 : y2 ≤ y3) (_h2 : y3 ≤ y8) (_h3 : y2 ≤ y8) (_h4 : y2 ≤ y9) (_h5 : ¬ (y9 ≤ y8)) (_h6 : y4 ≤ y13) (_h7 : y13 ≤ y16) (_h8 : ¬ (y17 ≤ y8)) : False := by
  obtain ⟨_l0, _u0, _l1, _u1, _l2, _u2, _l3, _u3, _l4, _u4, _l5, _u5, _l6, _u6, _g0, _g1, _g2, _g3, _g4, _g5, _g6, _g7, _g8, _g9⟩ := B
  have f0 := _g0 (by omega)
  have f1 := _g1 (by omega)
  have f2 := _g2 (by omega)
  have f3 := _g3 (by omega)
  have f4 := _g4 (by omega)
  have f5 := _g5 (by omega)
  have f6 := _g6 (by omega)
  have f7 := _g7 (by omega)
  have f8 := _g8 (by omega)
  have f9 := _g9 (by omega)
  clear _g0 _g1 _g2 _g3 _g4 _g5 _g6 _g7 _g8 _g9
  have q13 : y13 = x1 * x0 - 6 * x0 ∧ x0 ≤ y13 ∧ y13 ≤ 1152 := by
    have hy : y12 = x1 - 6 := by omega
    have := Ev.nl_mul (a := 8) (a' := 64) (b := 1) (b' := 18) _e4 hy _e13 (by omega) (by omega) (by omega) (by omega) (by omega) (by omega) (by omega)
    have h7 : 0 ≤ x0 * (x1 - 7) := Int.mul_nonneg (by omega) (by omega)
    rw [Int.mul_sub, Int.mul_comm x0 x1, Int.mul_comm x0 7] at h7
    rw [show x0 * (x1 - 6) = x1 * x0 - 6 * x0 by rw [Int.mul_sub, Int.mul_comm x0 x1, Int.mul_comm x0 6]] at this
    omega
  clear _e13
  have q14 : y14 = x1 * x0 ∧ 56 ≤ y14 ∧ y14 ≤ 1536 := by have := Ev.nl_mul (a := 7) (a' := 24) (b := 8) (b' := 64) _e10 _e4 _e14 (by omega) (by omega) (by omega) (by omega) (by omega) (by omega) (by omega); omega
  clear _e14
  try (have c6 : y6 = y4 / 2 := (by
    clear _e7 _e8 _e9 _e10 _e11 _e12 _e15 _e16 _e17
    omega)
       clear _e6)
  try (have c9 : y9 = y8 + y2 := (by
    clear _e10 _e11 _e12 _e15 _e16 _e17
    omega)
       clear _e9)
  try (have c12 : y12 = y10 - y11 := (by
    clear _e15 _e16 _e17
    omega)
       clear _e12)
  try (have c15 : y15 = (6) * y4 := (by
    clear _e16 _e17
    omega)
       clear _e15)
  try (have c16 : y16 = y14 - y15 := (by
    clear _e17
    omega)
       clear _e16)
  omega
set_option maxHeartbeats 4000000 in
theorem dead4 (x0 x1 x2 x3 x4 x5 x6 : Int) (B : Bd x0 x1 x2 x3 x4 x5 x6) (y0 y1 y2 y3 y4 y5 y6 y7 y8 y9 y10 y11 y12 y13 y14 y15 y16 : Int) (_e0 : y0 = x6) (_e1 : y1 = (0 : Int)) (_e2 : y2 = (1 : Int)) (_e3 : y3 = x5) (_e4 : y4 = x0) (_e5 : y5 = (2 : Int)) (_e6 : y6 = ((if 0 ≤ y4 then y4 / 2 else -((-y4) / 2)) + 9223372036854775808) % 18446744073709551616 - 9223372036854775808) (_e7 : y7 = x2) (_e8 : y8 = if y6 ≤ y7 then y6 else y7) (_e9 : y9 = (y8 + y2 + 9223372036854775808) % 18446744073709551616 - 9223372036854775808) (_e10 : y10 = x1) (_e11 : y11 = (6 : Int)) (_e12 : y12 = (y10 - y11 + 9223372036854775808) % 18446744073709551616 - 9223372036854775808) (_e13 : y13 = (y4 * y12 + 9223372036854775808) % 18446744073709551616 - 9223372036854775808) (_e14 : y14 = (y10 * y4 + 9223372036854775808) % 18446744073709551616 - 9223372036854775808) (_e15 : y15 = ((6 : Int) * y4 + 9223372036854775808) % 18446744073709551616 - 9223372036854775808) (_e16 : y16 = (y14 - y15 + 9223372036854775808) % 18446744073709551616 - 9223372036854775808) (_h0 : y0 = y1) (_h1 : y2 ≤ y3) (_h2 : y3 ≤ y8) (_h3 : y2 ≤ y8) (_h4 : y2 ≤ y9) (_h5 : ¬ (y9 ≤ y8)) (_h6 : y4 ≤ y13) (_h7 : ¬ (y13 ≤ y16)) : False := by
  obtain ⟨_l0, _u0, _l1, _u1, _l2, _u2, _l3, _u3, _l4, _u4, _l5, _u5, _l6, _u6, _g0, _g1, _g2, _g3, _g4, _g5, _g6, _g7, _g8, _g9⟩ := B
  have f0 := _g0 (by omega)
  have f1 := _g1 (by omega)
  have f2 := _g2 (by omega)
  have f3 := _g3 (by omega)
  have f4 := _g4 (by omega)
  have f5 := _g5 (by omega)
  have f6 := _g6 (by omega)
  have f7 := _g7 (by omega)
  have f8 := _g8 (by omega)
  have f9 := _g9 (by omega)
  clear _g0 _g1 _g2 _g3 _g4 _g5 _g6 _g7 _g8 _g9
  have q13 : y13 = x1 * x0 - 6 * x0 ∧ x0 ≤ y13 ∧ y13 ≤ 1152 := by
    have hy : y12 = x1 - 6 := by omega
    have := Ev.nl_mul (a := 8) (a' := 64) (b := 1) (b' := 18) _e4 hy _e13 (by omega) (by omega) (by omega) (by omega) (by omega) (by omega) (by omega)
    have h7 : 0 ≤ x0 * (x1 - 7) := Int.mul_nonneg (by omega) (by omega)
    rw [Int.mul_sub, Int.mul_comm x0 x1, Int.mul_comm x0 7] at h7
    rw [show x0 * (x1 - 6) = x1 * x0 - 6 * x0 by rw [Int.mul_sub, Int.mul_comm x0 x1, Int.mul_comm x0 6]] at this
    omega
  clear _e13
  have q14 : y14 = x1 * x0 ∧ 56 ≤ y14 ∧ y14 ≤ 1536 := by have := Ev.nl_mul (a := 7) (a' := 24) (b := 8) (b' := 64) _e10 _e4 _e14 (by omega) (by omega) (by omega) (by omega) (by omega) (by omega) (by omega); omega
  clear _e14
  try (have c6 : y6 = y4 / 2 := (by
    clear _e7 _e8 _e9 _e10 _e11 _e12 _e15 _e16
    omega)
       clear _e6)
  try (have c9 : y9 = y8 + y2 := (by
    clear _e10 _e11 _e12 _e15 _e16
    omega)
       clear _e9)
  try (have c12 : y12 = y10 - y11 := (by
    clear _e15 _e16
    omega)
       clear _e12)
  try (have c15 : y15 = (6) * y4 := (by
    clear _e16
    omega)
       clear _e15)
  try (have c16 : y16 = y14 - y15 := (by
    omega)
       clear _e16)
  omega
set_option maxHeartbeats 4000000 in
theorem dead5 (x0 x1 x2 x3 x4 x5 x6 : Int) (B : Bd x0 x1 x2 x3 x4 x5 x6) (y0 y1 y2 y3 y4 y5 y6 y7 y8 y9 y10 y11 y12 y13 : Int) (_e0 : y0 = x6) (_e1 : y1 = (0 : Int)) (_e2 : y2 = (1 : Int)) (_e3 : y3 = x5) (_e4 : y4 = x0) (_e5 : y5 = (2 : Int)) (_e6 : y6 = ((if 0 ≤ y4 then y4 / 2 else -((-y4) / 2)) + 9223372036854775808) % 18446744073709551616 - 9223372036854775808) (_e7 : y7 = x2) (_e8 : y8 = if y6 ≤ y7 then y6 else y7) (_e9 : y9 = (y8 + y2 + 9223372036854775808) % 18446744073709551616 - 9223372036854775808) (_e10 : y10 = x1) (_e11 : y11 = (6 : Int)) (_e12 : y12 = (y10 - y11 + 9223372036854775808) % 18446744073709551616 - 9223372036854775808) (_e13 : y13 = (y4 * y12 + 9223372036854775808) % 18446744073709551616 - 9223372036854775808) (_h0 : y0 = y1) (_h1 : y2 ≤ y3) (_h2 : y3 ≤ y8) (_h3 : y2 ≤ y8) (_h4 : y2 ≤ y9) (_h5 : ¬ (y9 ≤ y8)) (_h6 : ¬ (y4 ≤ y13)) : False := by
  obtain ⟨_l0, _u0, _l1, _u1, _l2, _u2, _l3, _u3, _l4, _u4, _l5, _u5, _l6, _u6, _g0, _g1, _g2, _g3, _g4, _g5, _g6, _g7, _g8, _g9⟩ := B
  have f0 := _g0 (by omega)
  have f1 := _g1 (by omega)
  have f2 := _g2 (by omega)
  have f3 := _g3 (by omega)
  have f4 := _g4 (by omega)
  have f5 := _g5 (by omega)
  have f6 := _g6 (by omega)
  have f7 := _g7 (by omega)
  have f8 := _g8 (by omega)
  have f9 := _g9 (by omega)
  clear _g0 _g1 _g2 _g3 _g4 _g5 _g6 _g7 _g8 _g9
  have q13 : y13 = x1 * x0 - 6 * x0 ∧ x0 ≤ y13 ∧ y13 ≤ 1152 := by
    have hy : y12 = x1 - 6 := by omega
    have := Ev.nl_mul (a := 8) (a' := 64) (b := 1) (b' := 18) _e4 hy _e13 (by omega) (by omega) (by omega) (by omega) (by omega) (by omega) (by omega)
    have h7 : 0 ≤ x0 * (x1 - 7) := Int.mul_nonneg (by omega) (by omega)
    rw [Int.mul_sub, Int.mul_comm x0 x1, Int.mul_comm x0 7] at h7
    rw [show x0 * (x1 - 6) = x1 * x0 - 6 * x0 by rw [Int.mul_sub, Int.mul_comm x0 x1, Int.mul_comm x0 6]] at this
    omega
  clear _e13
  try (have c6 : y6 = y4 / 2 := (by
    clear _e7 _e8 _e9 _e10 _e11 _e12
    omega)
       clear _e6)
  try (have c9 : y9 = y8 + y2 := (by
    clear _e10 _e11 _e12
    omega)
       clear _e9)
  try (have c12 : y12 = y10 - y11 := (by
    omega)
       clear _e12)
  omega
set_option maxHeartbeats 4000000 in
theorem dead6 (x0 x1 x2 x3 x4 x5 x6 : Int) (B : Bd x0 x1 x2 x3 x4 x5 x6) (y0 y1 y2 y3 y4 y5 y6 y7 y8 y9 : Int) (_e0 : y0 = x6) (_e1 : y1 = (0 : Int)) (_e2 : y2 = (1 : Int)) (_e3 : y3 = x5) (_e4 : y4 = x0) (_e5 : y5 = (2 : Int)) (_e6 : y6 = ((if 0 ≤ y4 then y4 / 2 else -((-y4) / 2)) + 9223372036854775808) % 18446744073709551616 - 9223372036854775808) (_e7 : y7 = x2) (_e8 : y8 = if y6 ≤ y7 then y6 else y7) (_e9 : y9 = (y8 + y2 + 9223372036854775808) % 18446744073709551616 - 9223372036854775808) (_h0 : y0 = y1) (_h1 : y2 ≤ y3) (_h2 : y3 ≤ y8) (_h3 : y2 ≤ y8) (_h4 : ¬ (y2 ≤ y9)) : False := by
  obtain ⟨_l0, _u0, _l1, _u1, _l2, _u2, _l3, _u3, _l4, _u4, _l5, _u5, _l6, _u6, _g0, _g1, _g2, _g3, _g4, _g5, _g6, _g7, _g8, _g9⟩ := B
  have f0 := _g0 (by omega)
  have f1 := _g1 (by omega)
  have f2 := _g2 (by omega)
  have f3 := _g3 (by omega)
  have f4 := _g4 (by omega)
  have f5 := _g5 (by omega)
  have f6 := _g6 (by omega)
  have f7 := _g7 (by omega)
  have f8 := _g8 (by omega)
  have f9 := _g9 (by omega)
  clear _g0 _g1 _g2 _g3 _g4 _g5 _g6 _g7 _g8 _g9
  try (have c6 : y6 = y4 / 2 := (by
    clear _e7 _e8 _e9
    omega)
       clear _e6)
  try (have c9 : y9 = y8 + y2 := (by
    omega)
       clear _e9)
  omega
set_option maxHeartbeats 4000000 in
theorem dead7 (x0 x1 x2 x3 x4 x5 x6 : Int) (B : Bd x0 x1 x2 x3 x4 x5 x6) (y0 y1 y2 y3 y4 y5 y6 y7 y8 : Int) (_e0 : y0 = x6) (_e1 : y1 = (0 : Int)) (_e2 : y2 = (1 : Int)) (_e3 : y3 = x5) (_e4 : y4 = x0) (_e5 : y5 = (2 : Int)) (_e6 : y6 = ((if 0 ≤ y4 then y4 / 2 else -((-y4) / 2)) + 9223372036854775808) % 18446744073709551616 - 9223372036854775808) (_e7 : y7 = x2) (_e8 : y8 = if y6 ≤ y7 then y6 else y7) (_h0 : y0 = y1) (_h1 : y2 ≤ y3) (_h2 : y3 ≤ y8) (_h3 : ¬ (y2 ≤ y8)) : False := by
  obtain ⟨_l0, _u0, _l1, _u1, _l2, _u2, _l3, _u3, _l4, _u4, _l5, _u5, _l6, _u6, _g0, _g1, _g2, _g3, _g4, _g5, _g6, _g7, _g8, _g9⟩ := B
  have f0 := _g0 (by omega)
  have f1 := _g1 (by omega)
  have f2 := _g2 (by omega)
  have f3 := _g3 (by omega)
  have f4 := _g4 (by omega)
  have f5 := _g5 (by omega)
  have f6 := _g6 (by omega)
  have f7 := _g7 (by omega)
  have f8 := _g8 (by omega)
  have f9 := _g9 (by omega)
  clear _g0 _g1 _g2 _g3 _g4 _g5 _g6 _g7 _g8 _g9
  try (have c6 : y6 = y4 / 2 := (by
    clear _e7 _e8
    omega)
       clear _e6)
  omega
set_option maxHeartbeats 4000000 in
theorem dead8 (x0 x1 x2 x3 x4 x5 x6 : Int) (B : Bd x0 x1 x2 x3 x4 x5 x6) (y0 y1 y2 y3 y4 y5 y6 y7 y8 y9 : Int) (_e0 : y0 = x6) (_e1 : y1 = (0 : Int)) (_e2 : y2 = (1 : Int)) (_e3 : y3 = x5) (_e4 : y4 = x0) (_e5 : y5 = (2 : Int)) (_e6 : y6 = ((if 0 ≤ y4 then y4 / 2 else -((-y4) / 2)) + 9223372036854775808) % 18446744073709551616 - 9223372036854775808) (_e7 : y7 = x2) (_e8 : y8 = if y6 ≤ y7 then y6 else y7) (_e9 : y9 = (y8 + y2 + 9223372036854775808) % 18446744073709551616 - 9223372036854775808) (_h0 : y0 = y1) (_h1 : y2 ≤ y3) (_h2 : ¬ (y3 ≤ y8)) (_h3 : y2 ≤ y8) (_h4 : y2 ≤ y9) (_h5 : y9 ≤ y8) : False := by
  obtain ⟨_l0, _u0, _l1, _u1, _l2, _u2, _l3, _u3, _l4, _u4, _l5, _u5, _l6, _u6, _g0, _g1, _g2, _g3, _g4, _g5, _g6, _g7, _g8, _g9⟩ := B
  have f0 := _g0 (by omega)
  have f1 := _g1 (by omega)
  have f2 := _g2 (by omega)
  have f3 := _g3 (by omega)
  have f4 := _g4 (by omega)
  have f5 := _g5 (by omega)
  have f6 := _g6 (by omega)
  have f7 := _g7 (by omega)
  have f8 := _g8 (by omega)
  have f9 := _g9 (by omega)
  clear _g0 _g1 _g2 _g3 _g4 _g5 _g6 _g7 _g8 _g9
  try (have c6 : y6 = y4 / 2 := (by
    clear _e7 _e8 _e9
    omega)
       clear _e6)
  try (have c9 : y9 = y8 + y2 := (by
    omega)
       clear _e9)
  omega
set_option maxHeartbeats 4000000 in
theorem dead9 (x0 x1 x2 x3 x4 x5 x6 : Int) (B : Bd x0 x1 x2 x3 x4 x5 x6) (y0 y1 y2 y3 y4 y5 y6 y7 y8 y9 y10 y11 y12 y13 y14 y15 y16 y17 : Int) (_e0 : y0 = x6) (_e1 : y1 = (0 : Int)) (_e2 : y2 = (1 : Int)) (_e3 : y3 = x5) (_e4 : y4 = x0) (_e5 : y5 = (2 : Int)) (_e6 : y6 = ((if 0 ≤ y4 then y4 / 2 else -((-y4) / 2)) + 9223372036854775808) % 18446744073709551616 - 9223372036854775808) (_e7 : y7 = x2) (_e8 : y8 = if y6 ≤ y7 then y6 else y7) (_e9 : y9 = (y8 + y2 + 9223372036854775808) % 18446744073709551616 - 9223372036854775808) (_e10 : y10 = x1) (_e11 : y11 = (6 : Int)) (_e12 : y12 = (y10 - y11 + 9223372036854775808) % 18446744073709551616 - 9223372036854775808) (_e13 : y13 = (y4 * y12 + 9223372036854775808) % 18446744073709551616 - 9223372036854775808) (_e14 : y14 = (y10 * y4 + 9223372036854775808) % 18446744073709551616 - 9223372036854775808) (_e15 : y15 = ((6 : Int) * y4 + 9223372036854775808) % 18446744073709551616 - 9223372036854775808) (_e16 : y16 = (y14 - y15 + 9223372036854775808) % 18446744073709551616 - 9223372036854775808) (_e17 : y17 = (4 : Int)) (_h0 : y0 = y1) (_h1 : y2 ≤ y3) (_h2 : ¬ (y3 ≤ y8)) (_h3 : y2 ≤ y8) (_h4 : y2 ≤ y9) (_h5 : ¬ (y9 ≤ y8)) (_h6 : y4 ≤ y13) (_h7 : y13 ≤ y16) (_h8 : ¬ (y17 ≤ y8)) : False := by
  obtain ⟨_l0, _u0, _l1, _u1, _l2, _u2, _l3, _u3, _l4, _u4, _l5, _u5, _l6, _u6, _g0, _g1, _g2, _g3, _g4, _g5, _g6, _g7, _g8, _g9⟩ := B
  have f0 := _g0 (by omega)
  have f1 := _g1 (by omega)
  have f2 := _g2 (by omega)
  have f3 := _g3 (by omega)
  have f4 := _g4 (by omega)
  have f5 := _g5 (by omega)
  have f6 := _g6 (by omega)
  have f7 := _g7 (by omega)
  have f8 := _g8 (by omega)
  have f9 := _g9 (by omega)
  clear _g0 _g1 _g2 _g3 _g4 _g5 _g6 _g7 _g8 _g9
  have q13 : y13 = x1 * x0 - 6 * x0 ∧ x0 ≤ y13 ∧ y13 ≤ 1152 := by
    have hy : y12 = x1 - 6 := by omega
    have := Ev.nl_mul (a := 8) (a' := 64) (b := 1) (b' := 18) _e4 hy _e13 (by omega) (by omega) (by omega) (by omega) (by omega) (by omega) (by omega)
    have h7 : 0 ≤ x0 * (x1 - 7) := Int.mul_nonneg (by omega) (by omega)
    rw [Int.mul_sub, Int.mul_comm x0 x1, Int.mul_comm x0 7] at h7
    rw [show x0 * (x1 - 6) = x1 * x0 - 6 * x0 by rw [Int.mul_sub, Int.mul_comm x0 x1, Int.mul_comm x0 6]] at this
    omega
  clear _e13
  have q14 : y14 = x1 * x0 ∧ 56 ≤ y14 ∧ y14 ≤ 1536 := by have := Ev.nl_mul (a := 7) (a' := 24) (b := 8) (b' := 64) _e10 _e4 _e14 (by omega) (by omega) (by omega) (by omega) (by omega) (by omega) (by omega); omega
  clear _e14
  try (have c6 : y6 = y4 / 2 := (by
    clear _e7 _e8 _e9 _e10 _e11 _e12 _e15 _e16 _e17
    omega)
       clear _e6)
  try (have c9 : y9 = y8 + y2 := (by
    clear _e10 _e11 _e12 _e15 _e16 _e17
    omega)
       clear _e9)
  try (have c12 : y12 = y10 - y11 := (by
    clear _e15 _e16 _e17
    omega)
       clear _e12)
  try (have c15 : y15 = (6) * y4 := (by
    clear _e16 _e17
    omega)
       clear _e15)
  try (have c16 : y16 = y14 - y15 := (by
    clear _e17
    omega)
       clear _e16)
  omega
set_option maxHeartbeats 4000000 in
theorem dead10 (x0 x1 x2 x3 x4 x5 x6 : Int) (B : Bd x0 x1 x2 x3 x4 x5 x6) (y0 y1 y2 y3 y4 y5 y6 y7 y8 y9 y10 y11 y12 y13 y14 y15 y16 : Int) (_e0 : y0 = x6) (_e1 : y1 = (0 : Int)) (_e2 : y2 = (1 : Int)) (_e3 : y3 = x5) (_e4 : y4 = x0) (_e5 : y5 = (2 : Int)) (_e6 : y6 = ((if 0 ≤ y4 then y4 / 2 else -((-y4) / 2)) + 9223372036854775808) % 18446744073709551616 - 9223372036854775808) (_e7 : y7 = x2) (_e8 : y8 = if y6 ≤ y7 then y6 else y7) (_e9 : y9 = (y8 + y2 + 9223372036854775808) % 18446744073709551616 - 9223372036854775808) (_e10 : y10 = x1) (_e11 : y11 = (6 : Int)) (_e12 : y12 = (y10 - y11 + 9223372036854775808) % 18446744073709551616 - 9223372036854775808) (_e13 : y13 = (y4 * y12 + 9223372036854775808) % 18446744073709551616 - 9223372036854775808) (_e14 : y14 = (y10 * y4 + 9223372036854775808) % 18446744073709551616 - 9223372036854775808) (_e15 : y15 = ((6 : Int) * y4 + 9223372036854775808) % 18446744073709551616 - 9223372036854775808) (_e16 : y16 = (y14 - y15 + 9223372036854775808) % 18446744073709551616 - 9223372036854775808) (_h0 : y0 = y1) (_h1 : y2 ≤ y3) (_h2 : ¬ (y3 ≤ y8)) (_h3 : y2 ≤ y8) (_h4 : y2 ≤ y9) (_h5 : ¬ (y9 ≤ y8)) (_h6 : y4 ≤ y13) (_h7 : ¬ (y13 ≤ y16)) : False := by
  obtain ⟨_l0, _u0, _l1, _u1, _l2, _u2, _l3, _u3, _l4, _u4, _l5, _u5, _l6, _u6, _g0, _g1, _g2, _g3, _g4, _g5, _g6, _g7, _g8, _g9⟩ := B
  have f0 := _g0 (by omega)
  have f1 := _g1 (by omega)
  have f2 := _g2 (by omega)
  have f3 := _g3 (by omega)
  have f4 := _g4 (by omega)
  have f5 := _g5 (by omega)
  have f6 := _g6 (by omega)
  have f7 := _g7 (by omega)
  have f8 := _g8 (by omega)
  have f9 := _g9 (by omega)
  clear _g0 _g1 _g2 _g3 _g4 _g5 _g6 _g7 _g8 _g9
  have q13 : y13 = x1 * x0 - 6 * x0 ∧ x0 ≤ y13 ∧ y13 ≤ 1152 := by
    have hy : y12 = x1 - 6 := by omega
    have := Ev.nl_mul (a := 8) (a' := 64) (b := 1) (b' := 18) _e4 hy _e13 (by omega) (by omega) (by omega) (by omega) (by omega) (by omega) (by omega)
    have h7 : 0 ≤ x0 * (x1 - 7) := Int.mul_nonneg (by omega) (by omega)
    rw [Int.mul_sub, Int.mul_comm x0 x1, Int.mul_comm x0 7] at h7
    rw [show x0 * (x1 - 6) = x1 * x0 - 6 * x0 by rw [Int.mul_sub, Int.mul_comm x0 x1, Int.mul_comm x0 6]] at this
    omega
  clear _e13
  have q14 : y14 = x1 * x0 ∧ 56 ≤ y14 ∧ y14 ≤ 1536 := by have := Ev.nl_mul (a := 7) (a' := 24) (b := 8) (b' := 64) _e10 _e4 _e14 (by omega) (by omega) (by omega) (by omega) (by omega) (by omega) (by omega); omega
  clear _e14
  try (have c6 : y6 = y4 / 2 := (by
    clear _e7 _e8 _e9 _e10 _e11 _e12 _e15 _e16
    omega)
       clear _e6)
  try (have c9 : y9 = y8 + y2 := (by
    clear _e10 _e11 _e12 _e15 _e16
    omega)
       clear _e9)
  try (have c12 : y12 = y10 - y11 := (by
    clear _e15 _e16
    omega)
       clear _e12)
  try (have c15 : y15 = (6) * y4 := (by
    clear _e16
    omega)
       clear _e15)
  try (have c16 : y16 = y14 - y15 := (by
    omega)
       clear _e16)
  omega
set_option maxHeartbeats 4000000 in
theorem dead11 (x0 x1 x2 x3 x4 x5 x6 : Int) (B : Bd x0 x1 x2 x3 x4 x5 x6) (y0 y1 y2 y3 y4 y5 y6 y7 y8 y9 y10 y11 y12 y13 : Int) (_e0 : y0 = x6) (_e1 : y1 = (0 : Int)) (_e2 : y2 = (1 : Int)) (_e3 : y3 = x5) (_e4 : y4 = x0) (_e5 : y5 = (2 : Int)) (_e6 : y6 = ((if 0 ≤ y4 then y4 / 2 else -((-y4) / 2)) + 9223372036854775808) % 18446744073709551616 - 9223372036854775808) (_e7 : y7 = x2) (_e8 : y8 = if y6 ≤ y7 then y6 else y7) (_e9 : y9 = (y8 + y2 + 9223372036854775808) % 18446744073709551616 - 9223372036854775808) (_e10 : y10 = x1) (_e11 : y11 = (6 : Int)) (_e12 : y12 = (y10 - y11 + 9223372036854775808) % 18446744073709551616 - 9223372036854775808) (_e13 : y13 = (y4 * y12 + 9223372036854775808) % 18446744073709551616 - 9223372036854775808) (_h0 : y0 = y1) (_h1 : y2 ≤ y3) (_h2 : ¬ (y3 ≤ y8)) (_h3 : y2 ≤ y8) (_h4 : y2 ≤ y9) (_h5 : ¬ (y9 ≤ y8)) (_h6 : ¬ (y4 ≤ y13)) : False := by
  obtain ⟨_l0, _u0, _l1, _u1, _l2, _u2, _l3, _u3, _l4, _u4, _l5, _u5, _l6, _u6, _g0, _g1, _g2, _g3, _g4, _g5, _g6, _g7, _g8, _g9⟩ := B
  have f0 := _g0 (by omega)
  have f1 := _g1 (by omega)
  have f2 := _g2 (by omega)
  have f3 := _g3 (by omega)
  have f4 := _g4 (by omega)
  have f5 := _g5 (by omega)
  have f6 := _g6 (by omega)
  have f7 := _g7 (by omega)
  have f8 := _g8 (by omega)
  have f9 := _g9 (by omega)
  clear _g0 _g1 _g2 _g3 _g4 _g5 _g6 _g7 _g8 _g9
  have q13 : y13 = x1 * x0 - 6 * x0 ∧ x0 ≤ y13 ∧ y13 ≤ 1152 := by
    have hy : y12 = x1 - 6 := by omega
    have := Ev.nl_mul (a := 8) (a' := 64) (b := 1) (b' := 18) _e4 hy _e13 (by omega) (by omega) (by omega) (by omega) (by omega) (by omega) (by omega)
    have h7 : 0 ≤ x0 * (x1 - 7) := Int.mul_nonneg (by omega) (by omega)
    rw [Int.mul_sub, Int.mul_comm x0 x1, Int.mul_comm x0 7] at h7
    rw [show x0 * (x1 - 6) = x1 * x0 - 6 * x0 by rw [Int.mul_sub, Int.mul_comm x0 x1, Int.mul_comm x0 6]] at this
    omega
  clear _e13
  try (have c6 : y6 = y4 / 2 := (by
    clear _e7 _e8 _e9 _e10 _e11 _e12
    omega)
       clear _e6)
  try (have c9 : y9 = y8 + y2 := (by
    clear _e10 _e11 _e12
    omega)
       clear _e9)
  try (have c12 : y12 = y10 - y11 := (by
    omega)
       clear _e12)
  omega
set_option maxHeartbeats 4000000 in
theorem dead12 (x0 x1 x2 x3 x4 x5 x6 : Int) (B : Bd x0 x1 x2 x3 x4 x5 x6) (y0 y1 y2 y3 y4 y5 y6 y7 y8 y9 : Int) (_e0 : y0 = x6) (_e1 : y1 = (0 : Int)) (_e2 : y2 = (1 : Int)) (_e3 : y3 = x5) (_e4 : y4 = x0) (_e5 : y5 = (2 : Int)) (_e6 : y6 = ((if 0 ≤ y4 then y4 / 2 else -((-y4) / 2)) + 9223372036854775808) % 18446744073709551616 - 9223372036854775808) (_e7 : y7 = x2) (_e8 : y8 = if y6 ≤ y7 then y6 else y7) (_e9 : y9 = (y8 + y2 + 9223372036854775808) % 18446744073709551616 - 9223372036854775808) (_h0 : y0 = y1) (_h1 : y2 ≤ y3) (_h2 : ¬ (y3 ≤ y8)) (_h3 : y2 ≤ y8) (_h4 : ¬ (y2 ≤ y9)) : False := by
  obtain ⟨_l0, _u0, _l1, _u1, _l2, _u2, _l3, _u3, _l4, _u4, _l5, _u5, _l6, _u6, _g0, _g1, _g2, _g3, _g4, _g5, _g6, _g7, _g8, _g9⟩ := B
  have f0 := _g0 (by omega)
  have f1 := _g1 (by omega)
  have f2 := _g2 (by omega)
  have f3 := _g3 (by omega)
  have f4 := _g4 (by omega)
  have f5 := _g5 (by omega)
  have f6 := _g6 (by omega)
  have f7 := _g7 (by omega)
  have f8 := _g8 (by omega)
  have f9 := _g9 (by omega)
  clear _g0 _g1 _g2 _g3 _g4 _g5 _g6 _g7 _g8 _g9
  try (have c6 : y6 = y4 / 2 := (by
    clear _e7 _e8 _e9
    omega)
       clear _e6)
  try (have c9 : y9 = y8 + y2 := (by
    omega)
       clear _e9)
  omega
set_option maxHeartbeats 4000000 in
theorem dead13 (x0 x1 x2 x3 x4 x5 x6 : Int) (B : Bd x0 x1 x2 x3 x4 x5 x6) (y0 y1 y2 y3 y4 y5 y6 y7 y8 : Int) (_e0 : y0 = x6) (_e1 : y1 = (0 : Int)) (_e2 : y2 = (1 : Int)) (_e3 : y3 = x5) (_e4 : y4 = x0) (_e5 : y5 = (2 : Int)) (_e6 : y6 = ((if 0 ≤ y4 then y4 / 2 else -((-y4) / 2)) + 9223372036854775808) % 18446744073709551616 - 9223372036854775808) (_e7 : y7 = x2) (_e8 : y8 = if y6 ≤ y7 then y6 else y7) (_h0 : y0 = y1) (_h1 : y2 ≤ y3) (_h2 : ¬ (y3 ≤ y8)) (_h3 : ¬ (y2 ≤ y8)) : False := by
  obtain ⟨_l0, _u0, _l1, _u1, _l2, _u2, _l3, _u3, _l4, _u4, _l5, _u5, _l6, _u6, _g0, _g1, _g2, _g3, _g4, _g5, _g6, _g7, _g8, _g9⟩ := B
  have f0 := _g0 (by omega)
  have f1 := _g1 (by omega)
  have f2 := _g2 (by omega)
  have f3 := _g3 (by omega)
  have f4 := _g4 (by omega)
  have f5 := _g5 (by omega)
  have f6 := _g6 (by omega)
  have f7 := _g7 (by omega)
  have f8 := _g8 (by omega)
  have f9 := _g9 (by omega)
  clear _g0 _g1 _g2 _g3 _g4 _g5 _g6 _g7 _g8 _g9
  try (have c6 : y6 = y4 / 2 := (by
    clear _e7 _e8
    omega)
       clear _e6)
  omega
set_option maxHeartbeats 4000000 in
theorem dead14 (x0 x1 x2 x3 x4 x5 x6 : Int) (B : Bd x0 x1 x2 x3 x4 x5 x6) (y0 y1 y2 y3 y4 y5 y6 y7 y8 y9 : Int) (_e0 : y0 = x6) (_e1 : y1 = (0 : Int)) (_e2 : y2 = (1 : Int)) (_e3 : y3 = x5) (_e4 : y4 = x0) (_e5 : y5 = (2 : Int)) (_e6 : y6 = ((if 0 ≤ y4 then y4 / 2 else -((-y4) / 2)) + 9223372036854775808) % 18446744073709551616 - 9223372036854775808) (_e7 : y7 = x2) (_e8 : y8 = if y6 ≤ y7 then y6 else y7) (_e9 : y9 = (y8 + y2 + 9223372036854775808) % 18446744073709551616 - 9223372036854775808) (_h0 : y0 = y1) (_h1 : ¬ (y2 ≤ y3)) (_h2 : y2 ≤ y8) (_h3 : y2 ≤ y9) (_h4 : y9 ≤ y8) : False := by
  obtain ⟨_l0, _u0, _l1, _u1, _l2, _u2, _l3, _u3, _l4, _u4, _l5, _u5, _l6, _u6, _g0, _g1, _g2, _g3, _g4, _g5, _g6, _g7, _g8, _g9⟩ := B
  have f0 := _g0 (by omega)
  have f1 := _g1 (by omega)
  have f2 := _g2 (by omega)
  have f3 := _g3 (by omega)
  have f4 := _g4 (by omega)
  have f5 := _g5 (by omega)
  have f6 := _g6 (by omega)
  have f7 := _g7 (by omega)
  have f8 := _g8 (by omega)
  have f9 := _g9 (by omega)
  clear _g0 _g1 _g2 _g3 _g4 _g5 _g6 _g7 _g8 _g9
  try (have c6 : y6 = y4 / 2 := (by
    clear _e7 _e8 _e9
    omega)
       clear _e6)
  try (have c9 : y9 = y8 + y2 := (by
    omega)
       clear _e9)
  omega
set_option maxHeartbeats 4000000 in
theorem dead15 (x0 x1 x2 x3 x4 x5 x6 : Int) (B : Bd x0 x1 x2 x3 x4 x5 x6) (y0 y1 y2 y3 y4 y5 y6 y7 y8 y9 y10 y11 y12 y13 y14 y15 y16 y17 : Int) (_e0 : y0 = x6) (_e1 : y1 = (0 : Int)) (_e2 : y2 = (1 : Int)) (_e3 : y3 = x5) (_e4 : y4 = x0) (_e5 : y5 = (2 : Int)) (_e6 : y6 = ((if 0 ≤ y4 then y4 / 2 else -((-y4) / 2)) + 9223372036854775808) % 18446744073709551616 - 9223372036854775808) (_e7 : y7 = x2) (_e8 : y8 = if y6 ≤ y7 then y6 else y7) (_e9 : y9 = (y8 + y2 + 9223372036854775808) % 18446744073709551616 - 9223372036854775808) (_e10 : y10 = x1) (_e11 : y11 = (6 : Int)) (_e12 : y12 = (y10 - y11 + 9223372036854775808) % 18446744073709551616 - 9223372036854775808) (_e13 : y13 = (y4 * y12 + 9223372036854775808) % 18446744073709551616 - 9223372036854775808) (_e14 : y14 = (y10 * y4 + 9223372036854775808) % 18446744073709551616 - 9223372036854775808) (_e15 : y15 = ((6 : Int) * y4 + 9223372036854775808) % 18446744073709551616 - 9223372036854775808) (_e16 : y16 = (y14 - y15 + 9223372036854775808) % 18446744073709551616 - 9223372036854775808) (_e17 : y17 = (4 : Int)) (_h0 : y0 = y1) (_h1 : ¬ (y2 ≤ y3)) (_h2 : y2 ≤ y8) (_h3 : y2 ≤ y9) (_h4 : ¬ (y9 ≤ y8)) (_h5 : y4 ≤ y13) (_h6 : y13 ≤ y16) (_h7 : ¬ (y17 ≤ y8)) : False := by
  obtain ⟨_l0, _u0, _l1, _u1, _l2, _u2, _l3, _u3, _l4, _u4, _l5, _u5, _l6, _u6, _g0, _g1, _g2, _g3, _g4, _g5, _g6, _g7, _g8, _g9⟩ := B
  have f0 := _g0 (by omega)
  have f1 := _g1 (by omega)
  have f2 := _g2 (by omega)
  have f3 := _g3 (by omega)
  have f4 := _g4 (by omega)
  have f5 := _g5 (by omega)
  have f6 := _g6 (by omega)
  have f7 := _g7 (by omega)
  have f8 := _g8 (by omega)
  have f9 := _g9 (by omega)
  clear _g0 _g1 _g2 _g3 _g4 _g5 _g6 _g7 _g8 _g9
  have q13 : y13 = x1 * x0 - 6 * x0 ∧ x0 ≤ y13 ∧ y13 ≤ 1152 := by
    have hy : y12 = x1 - 6 := by omega
    have := Ev.nl_mul (a := 8) (a' := 64) (b := 1) (b' := 18) _e4 hy _e13 (by omega) (by omega) (by omega) (by omega) (by omega) (by omega) (by omega)
    have h7 : 0 ≤ x0 * (x1 - 7) := Int.mul_nonneg (by omega) (by omega)
    rw [Int.mul_sub, Int.mul_comm x0 x1, Int.mul_comm x0 7] at h7
    rw [show x0 * (x1 - 6) = x1 * x0 - 6 * x0 by rw [Int.mul_sub, Int.mul_comm x0 x1, Int.mul_comm x0 6]] at this
    omega
  clear _e13
  have q14 : y14 = x1 * x0 ∧ 56 ≤ y14 ∧ y14 ≤ 1536 := by have := Ev.nl_mul (a := 7) (a' := 24) (b := 8) (b' := 64) _e10 _e4 _e14 (by omega) (by omega) (by omega) (by omega) (by omega) (by omega) (by omega); omega
  clear _e14
  try (have c6 : y6 = y4 / 2 := (by
    clear _e7 _e8 _e9 _e10 _e11 _e12 _e15 _e16 _e17
    omega)
       clear _e6)
  try (have c9 : y9 = y8 + y2 := (by
    clear _e10 _e11 _e12 _e15 _e16 _e17
    omega)
       clear _e9)
  try (have c12 : y12 = y10 - y11 := (by
    clear _e15 _e16 _e17
    omega)
       clear _e12)
  try (have c15 : y15 = (6) * y4 := (by
    clear _e16 _e17
    omega)
       clear _e15)
  try (have c16 : y16 = y14 - y15 := (by
    clear _e17
    omega)
       clear _e16)
  omega
set_option maxHeartbeats 4000000 in
theorem dead16 (x0 x1 x2 x3 x4 x5 x6 : Int) (B : Bd x0 x1 x2 x3 x4 x5 x6) (y0 y1 y2 y3 y4 y5 y6 y7 y8 y9 y10 y11 y12 y13 y14 y15 y16 : Int) (_e0 : y0 = x6) (_e1 : y1 = (0 : Int)) (_e2 : y2 = (1 : Int)) (_e3 : y3 = x5) (_e4 : y4 = x0) (_e5 : y5 = (2 : Int)) (_e6 : y6 = ((if 0 ≤ y4 then y4 / 2 else -((-y4) / 2)) + 9223372036854775808) % 18446744073709551616 - 9223372036854775808) (_e7 : y7 = x2) (_e8 : y8 = if y6 ≤ y7 then y6 else y7) (_e9 : y9 = (y8 + y2 + 9223372036854775808) % 18446744073709551616 - 9223372036854775808) (_e10 : y10 = x1) (_e11 : y11 = (6 : Int)) (_e12 : y12 = (y10 - y11 + 9223372036854775808) % 18446744073709551616 - 9223372036854775808) (_e13 : y13 = (y4 * y12 + 9223372036854775808) % 18446744073709551616 - 9223372036854775808) (_e14 : y14 = (y10 * y4 + 9223372036854775808) % 18446744073709551616 - 9223372036854775808) (_e15 : y15 = ((6 : Int) * y4 + 9223372036854775808) % 18446744073709551616 - 9223372036854775808) (_e16 : y16 = (y14 - y15 + 9223372036854775808) % 18446744073709551616 - 9223372036854775808) (_h0 : y0 = y1) (_h1 : ¬ (y2 ≤ y3)) (_h2 : y2 ≤ y8) (_h3 : y2 ≤ y9) (_h4 : ¬ (y9 ≤ y8)) (_h5 : y4 ≤ y13) (_h6 : ¬ (y13 ≤ y16)) : False := by
  obtain ⟨_l0, _u0, _l1, _u1, _l2, _u2, _l3, _u3, _l4, _u4, _l5, _u5, _l6, _u6, _g0, _g1, _g2, _g3, _g4, _g5, _g6, _g7, _g8, _g9⟩ := B
  have f0 := _g0 (by omega)
  have f1 := _g1 (by omega)
  have f2 := _g2 (by omega)
  have f3 := _g3 (by omega)
  have f4 := _g4 (by omega)
  have f5 := _g5 (by omega)
  have f6 := _g6 (by omega)
  have f7 := _g7 (by omega)
  have f8 := _g8 (by omega)
  have f9 := _g9 (by omega)
  clear _g0 _g1 _g2 _g3 _g4 _g5 _g6 _g7 _g8 _g9
  have q13 : y13 = x1 * x0 - 6 * x0 ∧ x0 ≤ y13 ∧ y13 ≤ 1152 := by
    have hy : y12 = x1 - 6 := by omega
    have := Ev.nl_mul (a := 8) (a' := 64) (b := 1) (b' := 18) _e4 hy _e13 (by omega) (by omega) (by omega) (by omega) (by omega) (by omega) (by omega)
    have h7 : 0 ≤ x0 * (x1 - 7) := Int.mul_nonneg (by omega) (by omega)
    rw [Int.mul_sub, Int.mul_comm x0 x1, Int.mul_comm x0 7] at h7
    rw [show x0 * (x1 - 6) = x1 * x0 - 6 * x0 by rw [Int.mul_sub, Int.mul_comm x0 x1, Int.mul_comm x0 6]] at this
    omega
  clear _e13
  have q14 : y14 = x1 * x0 ∧ 56 ≤ y14 ∧ y14 ≤ 1536 := by have := Ev.nl_mul (a := 7) (a' := 24) (b := 8) (b' := 64) _e10 _e4 _e14 (by omega) (by omega) (by omega) (by omega) (by omega) (by omega) (by omega); omega
  clear _e14
  try (have c6 : y6 = y4 / 2 := (by
    clear _e7 _e8 _e9 _e10 _e11 _e12 _e15 _e16
    omega)
       clear _e6)
  try (have c9 : y9 = y8 + y2 := (by
    clear _e10 _e11 _e12 _e15 _e16
    omega)
       clear _e9)
  try (have c12 : y12 = y10 - y11 := (by
    clear _e15 _e16
    omega)
       clear _e12)
  try (have c15 : y15 = (6) * y4 := (by
    clear _e16
    omega)
       clear _e15)
  try (have c16 : y16 = y14 - y15 := (by
    omega)
       clear _e16)
  omega
set_option maxHeartbeats 4000000 in
theorem dead17 (x0 x1 x2 x3 x4 x5 x6 : Int) (B : Bd x0 x1 x2 x3 x4 x5 x6) (y0 y1 y2 y3 y4 y5 y6 y7 y8 y9 y10 y11 y12 y13 : Int) (_e0 : y0 = x6) (_e1 : y1 = (0 : Int)) (_e2 : y2 = (1 : Int)) (_e3 : y3 = x5) (_e4 : y4 = x0) (_e5 : y5 = (2 : Int)) (_e6 : y6 = ((if 0 ≤ y4 then y4 / 2 else -((-y4) / 2)) + 9223372036854775808) % 18446744073709551616 - 9223372036854775808) (_e7 : y7 = x2) (_e8 : y8 = if y6 ≤ y7 then y6 else y7) (_e9 : y9 = (y8 + y2 + 9223372036854775808) % 18446744073709551616 - 9223372036854775808) (_e10 : y10 = x1) (_e11 : y11 = (6 : Int)) (_e12 : y12 = (y10 - y11 + 9223372036854775808) % 18446744073709551616 - 9223372036854775808) (_e13 : y13 = (y4 * y12 + 9223372036854775808) % 18446744073709551616 - 9223372036854775808) (_h0 : y0 = y1) (_h1 : ¬ (y2 ≤ y3)) (_h2 : y2 ≤ y8) (_h3 : y2 ≤ y9) (_h4 : ¬ (y9 ≤ y8)) (_h5 : ¬ (y4 ≤ y13)) : False := by
  obtain ⟨_l0, _u0, _l1, _u1, _l2, _u2, _l3, _u3, _l4, _u4, _l5, _u5, _l6, _u6, _g0, _g1, _g2, _g3, _g4, _g5, _g6, _g7, _g8, _g9⟩ := B
  have f0 := _g0 (by omega)
  have f1 := _g1 (by omega)
  have f2 := _g2 (by omega)
  have f3 := _g3 (by omega)
  have f4 := _g4 (by omega)
  have f5 := _g5 (by omega)
  have f6 := _g6 (by omega)
  have f7 := _g7 (by omega)
  have f8 := _g8 (by omega)
  have f9 := _g9 (by omega)
  clear _g0 _g1 _g2 _g3 _g4 _g5 _g6 _g7 _g8 _g9
  have q13 : y13 = x1 * x0 - 6 * x0 ∧ x0 ≤ y13 ∧ y13 ≤ 1152 := by
    have hy : y12 = x1 - 6 := by omega
    have := Ev.nl_mul (a := 8) (a' := 64) (b := 1) (b' := 18) _e4 hy _e13 (by omega) (by omega) (by omega) (by omega) (by omega) (by omega) (by omega)
    have h7 : 0 ≤ x0 * (x1 - 7) := Int.mul_nonneg (by omega) (by omega)
    rw [Int.mul_sub, Int.mul_comm x0 x1, Int.mul_comm x0 7] at h7
    rw [show x0 * (x1 - 6) = x1 * x0 - 6 * x0 by rw [Int.mul_sub, Int.mul_comm x0 x1, Int.mul_comm x0 6]] at this
    omega
  clear _e13
  try (have c6 : y6 = y4 / 2 := (by
    clear _e7 _e8 _e9 _e10 _e11 _e12
    omega)
       clear _e6)
  try (have c9 : y9 = y8 + y2 := (by
    clear _e10 _e11 _e12
    omega)
       clear _e9)
  try (have c12 : y12 = y10 - y11 := (by
    omega)
       clear _e12)
  omega
set_option maxHeartbeats 4000000 in
theorem dead18 (x0 x1 x2 x3 x4 x5 x6 : Int) (B : Bd x0 x1 x2 x3 x4 x5 x6) (y0 y1 y2 y3 y4 y5 y6 y7 y8 y9 : Int) (_e0 : y0 = x6) (_e1 : y1 = (0 : Int)) (_e2 : y2 = (1 : Int)) (_e3 : y3 = x5) (_e4 : y4 = x0) (_e5 : y5 = (2 : Int)) (_e6 : y6 = ((if 0 ≤ y4 then y4 / 2 else -((-y4) / 2)) + 9223372036854775808) % 18446744073709551616 - 9223372036854775808) (_e7 : y7 = x2) (_e8 : y8 = if y6 ≤ y7 then y6 else y7) (_e9 : y9 = (y8 + y2 + 9223372036854775808) % 18446744073709551616 - 9223372036854775808) (_h0 : y0 = y1) (_h1 : ¬ (y2 ≤ y3)) (_h2 : y2 ≤ y8) (_h3 : ¬ (y2 ≤ y9)) : False := by
  obtain ⟨_l0, _u0, _l1, _u1, _l2, _u2, _l3, _u3, _l4, _u4, _l5, _u5, _l6, _u6, _g0, _g1, _g2, _g3, _g4, _g5, _g6, _g7, _g8, _g9⟩ := B
  have f0 := _g0 (by omega)
  have f1 := _g1 (by omega)
  have f2 := _g2 (by omega)
  have f3 := _g3 (by omega)
  have f4 := _g4 (by omega)
  have f5 := _g5 (by omega)
  have f6 := _g6 (by omega)
  have f7 := _g7 (by omega)
  have f8 := _g8 (by omega)
  have f9 := _g9 (by omega)
  clear _g0 _g1 _g2 _g3 _g4 _g5 _g6 _g7 _g8 _g9
  try (have c6 : y6 = y4 / 2 := (by
    clear _e7 _e8 _e9
    omega)
       clear _e6)
  try (have c9 : y9 = y8 + y2 := (by
    omega)
       clear _e9)
  omega
set_option maxHeartbeats 4000000 in
theorem dead19 (x0 x1 x2 x3 x4 x5 x6 : Int) (B : Bd x0 x1 x2 x3 x4 x5 x6) (y0 y1 y2 y3 y4 y5 y6 y7 y8 : Int) (_e0 : y0 = x6) (_e1 : y1 = (0 : Int)) (_e2 : y2 = (1 : Int)) (_e3 : y3 = x5) (_e4 : y4 = x0) (_e5 : y5 = (2 : Int)) (_e6 : y6 = ((if 0 ≤ y4 then y4 / 2 else -((-y4) / 2)) + 9223372036854775808) % 18446744073709551616 - 9223372036854775808) (_e7 : y7 = x2) (_e8 : y8 = if y6 ≤ y7 then y6 else y7) (_h0 : y0 = y1) (_h1 : ¬ (y2 ≤ y3)) (_h2 : ¬ (y2 ≤ y8)) : False := by
  obtain ⟨_l0, _u0, _l1, _u1, _l2, _u2, _l3, _u3, _l4, _u4, _l5, _u5, _l6, _u6, _g0, _g1, _g2, _g3, _g4, _g5, _g6, _g7, _g8, _g9⟩ := B
  have f0 := _g0 (by omega)
  have f1 := _g1 (by omega)
  have f2 := _g2 (by omega)
  have f3 := _g3 (by omega)
  have f4 := _g4 (by omega)
  have f5 := _g5 (by omega)
  have f6 := _g6 (by omega)
  have f7 := _g7 (by omega)
  have f8 := _g8 (by omega)
  have f9 := _g9 (by omega)
  clear _g0 _g1 _g2 _g3 _g4 _g5 _g6 _g7 _g8 _g9
  try (have c6 : y6 = y4 / 2 := (by
    clear _e7 _e8
    omega)
       clear _e6)
  omega

end Go.Proofs.YtffaikcaenkkhaaDoor.configRoom
