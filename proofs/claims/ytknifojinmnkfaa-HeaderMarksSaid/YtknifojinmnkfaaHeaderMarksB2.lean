/-
  'shunterlaw04.HeaderMarksB': ways that no numbers lead to. No project text.
-/
import Derived.Test.YtknifojinmnkfaaHeaderMarksB1
namespace Go.Proofs.Ytknifojinmnkfaa.headerMarksB
open Go.ChangeShapes Go.WideShapes Go.ChangeAt Go.RowKit

theorem dead0 (x0 x1 : Int) (B : Bd x0 x1) (y0 y1 y2 y3 y4 : Int) (_e0 : y0 = (1 : Int)) (_e1 : y1 = x0) (_e2 : y2 = (1600 : Int)) (_e3 : y3 = x1) (_e4 : y4 = (64 : Int)) (_h0 : y0 ≤ y1) (_h1 : y1 ≤ y2) (_h2 : y0 ≤ y3) (_h3 : y3 ≤ y4) : False := by
  obtain ⟨_l0, _u0, _l1, _u1, _g0⟩ := B
  omega
theorem dead1 (x0 x1 : Int) (B : Bd x0 x1) (y0 y1 y2 y3 y4 y5 y6 y7 y8 y9 y10 y11 y12 y13 y14 : Int) (_e0 : y0 = (1 : Int)) (_e1 : y1 = x0) (_e2 : y2 = (1600 : Int)) (_e3 : y3 = x1) (_e4 : y4 = (64 : Int)) (_e5 : y5 = (0 : Int)) (_e6 : y6 = (y1) % 18446744073709551616) (_e7 : y7 = (8 : Int)) (_e8 : y8 = (y6 * 256) % 18446744073709551616) (_e9 : y9 = (y5 + y8) % 18446744073709551616) (_e10 : y10 = (2 : Int)) (_e11 : y11 = (y9 + y10) % 18446744073709551616) (_e12 : y12 = (256 : Int)) (_e13 : y13 = ((256 : Int) * y6) % 18446744073709551616) (_e14 : y14 = (y10 + y13) % 18446744073709551616) (_h0 : y0 ≤ y1) (_h1 : y1 ≤ y2) (_h2 : y0 ≤ y3) (_h3 : ¬ (y3 ≤ y4)) (_h4 : ¬ (y11 = y14)) : False := by
  obtain ⟨_l0, _u0, _l1, _u1, _g0⟩ := B
  omega
theorem dead2 (x0 x1 : Int) (B : Bd x0 x1) (y0 y1 y2 y3 : Int) (_e0 : y0 = (1 : Int)) (_e1 : y1 = x0) (_e2 : y2 = (1600 : Int)) (_e3 : y3 = x1) (_h0 : y0 ≤ y1) (_h1 : y1 ≤ y2) (_h2 : ¬ (y0 ≤ y3)) : False := by
  obtain ⟨_l0, _u0, _l1, _u1, _g0⟩ := B
  omega
theorem dead3 (x0 x1 : Int) (B : Bd x0 x1) (y0 y1 y2 y3 y4 : Int) (_e0 : y0 = (1 : Int)) (_e1 : y1 = x0) (_e2 : y2 = (1600 : Int)) (_e3 : y3 = x1) (_e4 : y4 = (64 : Int)) (_h0 : y0 ≤ y1) (_h1 : ¬ (y1 ≤ y2)) (_h2 : y0 ≤ y3) (_h3 : y3 ≤ y4) : False := by
  obtain ⟨_l0, _u0, _l1, _u1, _g0⟩ := B
  omega
theorem dead4 (x0 x1 : Int) (B : Bd x0 x1) (y0 y1 y2 y3 : Int) (_e0 : y0 = (1 : Int)) (_e1 : y1 = x0) (_e2 : y2 = (1600 : Int)) (_e3 : y3 = x1) (_h0 : y0 ≤ y1) (_h1 : ¬ (y1 ≤ y2)) (_h2 : ¬ (y0 ≤ y3)) : False := by
  obtain ⟨_l0, _u0, _l1, _u1, _g0⟩ := B
  omega
theorem dead5 (x0 x1 : Int) (B : Bd x0 x1) (y0 y1 y3 y4 : Int) (_e0 : y0 = (1 : Int)) (_e1 : y1 = x0) (_e3 : y3 = x1) (_e4 : y4 = (64 : Int)) (_h0 : ¬ (y0 ≤ y1)) (_h1 : y0 ≤ y3) (_h2 : y3 ≤ y4) : False := by
  obtain ⟨_l0, _u0, _l1, _u1, _g0⟩ := B
  omega
theorem dead6 (x0 x1 : Int) (B : Bd x0 x1) (y0 y1 y3 : Int) (_e0 : y0 = (1 : Int)) (_e1 : y1 = x0) (_e3 : y3 = x1) (_h0 : ¬ (y0 ≤ y1)) (_h1 : ¬ (y0 ≤ y3)) : False := by
  obtain ⟨_l0, _u0, _l1, _u1, _g0⟩ := B
  omega

end Go.Proofs.Ytknifojinmnkfaa.headerMarksB
