/-
  'shunterlaw04.HeaderMarksA': ways that no numbers lead to. No project text.
-/
import Derived.Test.YtknifojinmnkfaaHeaderMarksA1
namespace Go.Proofs.Ytknifojinmnkfaa.headerMarksA
open Go.ChangeShapes Go.WideShapes Go.ChangeAt Go.RowKit

theorem dead0 (x0 x1 : Int) (B : Bd x0 x1) (y0 y1 y2 y3 : Int) (_e0 : y0 = (1 : Int)) (_e1 : y1 = x0) (_e2 : y2 = (1600 : Int)) (_e3 : y3 = x1) (_h0 : y0 ≤ y1) (_h1 : y1 ≤ y2) (_h2 : y0 ≤ y3) : False := by
  obtain ⟨_l0, _u0, _l1, _u1, _g0⟩ := B
  omega
theorem dead1 (x0 x1 : Int) (B : Bd x0 x1) (y0 y1 y2 y3 y4 y5 y6 y7 y8 y9 y10 y11 y12 y13 : Int) (_e0 : y0 = (1 : Int)) (_e1 : y1 = x0) (_e2 : y2 = (1600 : Int)) (_e3 : y3 = x1) (_e4 : y4 = (0 : Int)) (_e5 : y5 = (y1) % 18446744073709551616) (_e6 : y6 = (8 : Int)) (_e7 : y7 = (y5 * 256) % 18446744073709551616) (_e8 : y8 = (y4 + y7) % 18446744073709551616) (_e9 : y9 = (2 : Int)) (_e10 : y10 = (y8 + y9) % 18446744073709551616) (_e11 : y11 = (256 : Int)) (_e12 : y12 = ((256 : Int) * y5) % 18446744073709551616) (_e13 : y13 = (y9 + y12) % 18446744073709551616) (_h0 : y0 ≤ y1) (_h1 : y1 ≤ y2) (_h2 : ¬ (y0 ≤ y3)) (_h3 : ¬ (y10 = y13)) : False := by
  obtain ⟨_l0, _u0, _l1, _u1, _g0⟩ := B
  omega
theorem dead2 (x0 x1 : Int) (B : Bd x0 x1) (y0 y1 y2 y3 : Int) (_e0 : y0 = (1 : Int)) (_e1 : y1 = x0) (_e2 : y2 = (1600 : Int)) (_e3 : y3 = x1) (_h0 : y0 ≤ y1) (_h1 : ¬ (y1 ≤ y2)) (_h2 : y0 ≤ y3) : False := by
  obtain ⟨_l0, _u0, _l1, _u1, _g0⟩ := B
  omega
theorem dead3 (x0 x1 : Int) (B : Bd x0 x1) (y0 y1 y3 : Int) (_e0 : y0 = (1 : Int)) (_e1 : y1 = x0) (_e3 : y3 = x1) (_h0 : ¬ (y0 ≤ y1)) (_h1 : y0 ≤ y3) : False := by
  obtain ⟨_l0, _u0, _l1, _u1, _g0⟩ := B
  omega

end Go.Proofs.Ytknifojinmnkfaa.headerMarksA
