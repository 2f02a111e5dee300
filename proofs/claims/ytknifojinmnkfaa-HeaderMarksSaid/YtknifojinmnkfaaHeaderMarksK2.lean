/-
  'shunterlaw04.HeaderMarksK': ways that no numbers lead to. No project text.
-/
import Derived.Test.YtknifojinmnkfaaHeaderMarksK1
namespace Go.Proofs.Ytknifojinmnkfaa.headerMarksK
open Go.ChangeShapes Go.WideShapes Go.ChangeAt Go.RowKit

theorem dead0 (x0 : Int) (B : Bd x0) (y0 y1 y2 y3 y4 y5 y6 y7 y8 y9 y10 y11 y12 : Int) (_e0 : y0 = (1 : Int)) (_e1 : y1 = x0) (_e2 : y2 = (1600 : Int)) (_e3 : y3 = (0 : Int)) (_e4 : y4 = (y1) % 18446744073709551616) (_e5 : y5 = (8 : Int)) (_e6 : y6 = (y4 * 256) % 18446744073709551616) (_e7 : y7 = (y3 + y6) % 18446744073709551616) (_e8 : y8 = (2 : Int)) (_e9 : y9 = (y7 + y8) % 18446744073709551616) (_e10 : y10 = (256 : Int)) (_e11 : y11 = ((256 : Int) * y4) % 18446744073709551616) (_e12 : y12 = (y8 + y11) % 18446744073709551616) (_h0 : y0 ≤ y1) (_h1 : y1 ≤ y2) (_h2 : ¬ (y9 = y12)) : False := by
  obtain ⟨_l0, _u0⟩ := B
  omega

end Go.Proofs.Ytknifojinmnkfaa.headerMarksK
