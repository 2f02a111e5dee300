/-
  'shunterlaw02.ConfigPlaces': ways that no numbers lead to. No project text.
-/
import Derived.Test.YtffaikcaenkkhaaDoorConfigPlaces1
namespace Go.Proofs.YtffaikcaenkkhaaDoor.configPlaces
open Go.ChangeShapes Go.WideShapes Go.ChangeAt Go.RowKit

set_option maxHeartbeats 4000000 in
theorem dead0 (x0 x1 x2 x3 x4 x5 x6 x7 x8 x9 x10 x11 x12 x13 : Int) (B : Bd x0 x1 x2 x3 x4 x5 x6 x7 x8 x9 x10 x11 x12 x13) (y0 y1 y2 y3 y4 y5 y6 y7 : Int) (_e0 : y0 = x10) (_e1 : y1 = (0 : Int)) (_e2 : y2 = x7) (_e3 : y3 = x9) (_e4 : y4 = x8) (_e5 : y5 = (y3 - y4 + 9223372036854775808) % 18446744073709551616 - 9223372036854775808) (_e6 : y6 = (1 : Int)) (_e7 : y7 = (y5 - y6 + 9223372036854775808) % 18446744073709551616 - 9223372036854775808) (_h0 : y0 = y1) (_h1 : y1 ≤ y2) (_h2 : y5 ≤ y2) (_h3 : y2 ≤ y7) : False := by
  obtain ⟨_l0, _u0, _l1, _u1, _l2, _u2, _l3, _u3, _l4, _u4, _l5, _u5, _l6, _u6, _l7, _u7, _l8, _u8, _l9, _u9, _l10, _u10, _l11, _u11, _l12, _u12, _l13, _u13, _g0⟩ := B
  omega
set_option maxHeartbeats 4000000 in
theorem dead1 (x0 x1 x2 x3 x4 x5 x6 x7 x8 x9 x10 x11 x12 x13 : Int) (B : Bd x0 x1 x2 x3 x4 x5 x6 x7 x8 x9 x10 x11 x12 x13) (y0 y1 y2 y3 y4 y5 y6 y7 : Int) (_e0 : y0 = x10) (_e1 : y1 = (0 : Int)) (_e2 : y2 = x7) (_e3 : y3 = x9) (_e4 : y4 = x8) (_e5 : y5 = (y3 - y4 + 9223372036854775808) % 18446744073709551616 - 9223372036854775808) (_e6 : y6 = (1 : Int)) (_e7 : y7 = (y5 - y6 + 9223372036854775808) % 18446744073709551616 - 9223372036854775808) (_h0 : y0 = y1) (_h1 : y1 ≤ y2) (_h2 : ¬ (y5 ≤ y2)) (_h3 : ¬ (y2 ≤ y7)) : False := by
  obtain ⟨_l0, _u0, _l1, _u1, _l2, _u2, _l3, _u3, _l4, _u4, _l5, _u5, _l6, _u6, _l7, _u7, _l8, _u8, _l9, _u9, _l10, _u10, _l11, _u11, _l12, _u12, _l13, _u13, _g0⟩ := B
  omega

end Go.Proofs.YtffaikcaenkkhaaDoor.configPlaces
