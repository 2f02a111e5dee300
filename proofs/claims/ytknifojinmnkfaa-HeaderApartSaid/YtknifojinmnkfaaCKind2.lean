/-
  'shunterlaw04.CKind': ways that no numbers lead to. No project text.
-/
import Derived.Test.YtknifojinmnkfaaCKind1
namespace Go.Proofs.Ytknifojinmnkfaa.cKind
open Go.ChangeShapes Go.WideShapes Go.ChangeAt Go.RowKit

theorem dead0 (x0 : Int) (B : Bd x0) (y0 y1 y2 y3 y4 y5 y6 y7 : Int) (_e0 : y0 = x0) (_e1 : y1 = (255 : Int)) (_e2 : y2 = y0 % 256) (_e3 : y3 = (1 : Int)) (_e4 : y4 = (64 : Int)) (_e5 : y5 = (16 : Int)) (_e6 : y6 = y0 / 65536) (_e7 : y7 = (2 : Int)) (_h0 : y2 = y3) (_h1 : y4 ≤ y6) (_h2 : y2 = y7) : False := by
  obtain ⟨_l0, _u0⟩ := B
  omega
theorem dead1 (x0 : Int) (B : Bd x0) (y0 y1 y2 y3 y4 y5 y6 y8 y9 y10 y11 y12 y13 y14 y7 : Int) (_e0 : y0 = x0) (_e1 : y1 = (255 : Int)) (_e2 : y2 = y0 % 256) (_e3 : y3 = (1 : Int)) (_e4 : y4 = (64 : Int)) (_e5 : y5 = (16 : Int)) (_e6 : y6 = y0 / 65536) (_e8 : y8 = (0 : Int)) (_e9 : y9 = (8 : Int)) (_e10 : y10 = y0 / 256) (_e11 : y11 = y10 % 256) (_e12 : y12 = (y11 + 9223372036854775808) % 18446744073709551616 - 9223372036854775808) (_e13 : y13 = (y6 + 9223372036854775808) % 18446744073709551616 - 9223372036854775808) (_e14 : y14 = (64 : Int)) (_e7 : y7 = (2 : Int)) (_h0 : y2 = y3) (_h1 : ¬ (y4 ≤ y6)) (_h2 : y8 ≤ y12) (_h3 : y8 ≤ y13) (_h4 : y14 ≤ y12) (_h5 : y2 = y7) : False := by
  obtain ⟨_l0, _u0⟩ := B
  omega
theorem dead2 (x0 : Int) (B : Bd x0) (y0 y1 y2 y3 y4 y5 y6 y8 y9 y10 y11 y12 y13 y14 : Int) (_e0 : y0 = x0) (_e1 : y1 = (255 : Int)) (_e2 : y2 = y0 % 256) (_e3 : y3 = (1 : Int)) (_e4 : y4 = (64 : Int)) (_e5 : y5 = (16 : Int)) (_e6 : y6 = y0 / 65536) (_e8 : y8 = (0 : Int)) (_e9 : y9 = (8 : Int)) (_e10 : y10 = y0 / 256) (_e11 : y11 = y10 % 256) (_e12 : y12 = (y11 + 9223372036854775808) % 18446744073709551616 - 9223372036854775808) (_e13 : y13 = (y6 + 9223372036854775808) % 18446744073709551616 - 9223372036854775808) (_e14 : y14 = (64 : Int)) (_h0 : y2 = y3) (_h1 : ¬ (y4 ≤ y6)) (_h2 : y8 ≤ y12) (_h3 : y8 ≤ y13) (_h4 : ¬ (y14 ≤ y12)) (_h5 : y14 ≤ y13) : False := by
  obtain ⟨_l0, _u0⟩ := B
  omega
theorem dead3 (x0 : Int) (B : Bd x0) (y0 y1 y2 y3 y4 y5 y6 y8 y9 y10 y11 y12 y13 y14 y15 y16 y17 y7 : Int) (_e0 : y0 = x0) (_e1 : y1 = (255 : Int)) (_e2 : y2 = y0 % 256) (_e3 : y3 = (1 : Int)) (_e4 : y4 = (64 : Int)) (_e5 : y5 = (16 : Int)) (_e6 : y6 = y0 / 65536) (_e8 : y8 = (0 : Int)) (_e9 : y9 = (8 : Int)) (_e10 : y10 = y0 / 256) (_e11 : y11 = y10 % 256) (_e12 : y12 = (y11 + 9223372036854775808) % 18446744073709551616 - 9223372036854775808) (_e13 : y13 = (y6 + 9223372036854775808) % 18446744073709551616 - 9223372036854775808) (_e14 : y14 = (64 : Int)) (_e15 : y15 = (1 : Int)) (_e16 : y16 = (y15 + y12 + 9223372036854775808) % 18446744073709551616 - 9223372036854775808) (_e17 : y17 = (y16 + y13 + 9223372036854775808) % 18446744073709551616 - 9223372036854775808) (_e7 : y7 = (2 : Int)) (_h0 : y2 = y3) (_h1 : ¬ (y4 ≤ y6)) (_h2 : y8 ≤ y12) (_h3 : y8 ≤ y13) (_h4 : ¬ (y14 ≤ y12)) (_h5 : ¬ (y14 ≤ y13)) (_h6 : ¬ (y17 ≤ y14)) (_h7 : y2 = y7) : False := by
  obtain ⟨_l0, _u0⟩ := B
  omega
theorem dead4 (x0 : Int) (B : Bd x0) (y0 y1 y2 y3 y4 y5 y6 y8 y9 y10 y11 y12 y13 : Int) (_e0 : y0 = x0) (_e1 : y1 = (255 : Int)) (_e2 : y2 = y0 % 256) (_e3 : y3 = (1 : Int)) (_e4 : y4 = (64 : Int)) (_e5 : y5 = (16 : Int)) (_e6 : y6 = y0 / 65536) (_e8 : y8 = (0 : Int)) (_e9 : y9 = (8 : Int)) (_e10 : y10 = y0 / 256) (_e11 : y11 = y10 % 256) (_e12 : y12 = (y11 + 9223372036854775808) % 18446744073709551616 - 9223372036854775808) (_e13 : y13 = (y6 + 9223372036854775808) % 18446744073709551616 - 9223372036854775808) (_h0 : y2 = y3) (_h1 : ¬ (y4 ≤ y6)) (_h2 : y8 ≤ y12) (_h3 : ¬ (y8 ≤ y13)) : False := by
  obtain ⟨_l0, _u0⟩ := B
  omega
theorem dead5 (x0 : Int) (B : Bd x0) (y0 y1 y2 y3 y4 y5 y6 y8 y9 y10 y11 y12 : Int) (_e0 : y0 = x0) (_e1 : y1 = (255 : Int)) (_e2 : y2 = y0 % 256) (_e3 : y3 = (1 : Int)) (_e4 : y4 = (64 : Int)) (_e5 : y5 = (16 : Int)) (_e6 : y6 = y0 / 65536) (_e8 : y8 = (0 : Int)) (_e9 : y9 = (8 : Int)) (_e10 : y10 = y0 / 256) (_e11 : y11 = y10 % 256) (_e12 : y12 = (y11 + 9223372036854775808) % 18446744073709551616 - 9223372036854775808) (_h0 : y2 = y3) (_h1 : ¬ (y4 ≤ y6)) (_h2 : ¬ (y8 ≤ y12)) : False := by
  obtain ⟨_l0, _u0⟩ := B
  omega

end Go.Proofs.Ytknifojinmnkfaa.cKind
