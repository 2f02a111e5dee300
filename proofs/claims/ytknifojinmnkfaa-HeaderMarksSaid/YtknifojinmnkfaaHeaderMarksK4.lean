/-
  'shunterlaw04.HeaderMarksK': each way that is left: the evaluator finds it true. No project text.
-/
import Derived.Test.YtknifojinmnkfaaHeaderMarksK1
namespace Go.Proofs.Ytknifojinmnkfaa.headerMarksK
open Go.ChangeShapes Go.WideShapes Go.ChangeAt Go.RowKit

set_option maxRecDepth 1000000 in
theorem run0_49 : Ev.run ⟨Try.prog, Ev.mkTT Try.prog, Ev.mkFT Try.prog, [⟨true, n9, n12, true⟩, ⟨false, n1, n2, true⟩, ⟨false, n0, n1, true⟩], Qs, Cs⟩ 100000 3 [Ev.inp .i64 0, .int .i64 49] = some true := by kernel_rfl
set_option maxRecDepth 1000000 in
theorem run0_50 : Ev.run ⟨Try.prog, Ev.mkTT Try.prog, Ev.mkFT Try.prog, [⟨true, n9, n12, true⟩, ⟨false, n1, n2, true⟩, ⟨false, n0, n1, true⟩], Qs, Cs⟩ 100000 3 [Ev.inp .i64 0, .int .i64 50] = some true := by kernel_rfl
set_option maxRecDepth 1000000 in
theorem run0_51 : Ev.run ⟨Try.prog, Ev.mkTT Try.prog, Ev.mkFT Try.prog, [⟨true, n9, n12, true⟩, ⟨false, n1, n2, true⟩, ⟨false, n0, n1, true⟩], Qs, Cs⟩ 100000 3 [Ev.inp .i64 0, .int .i64 51] = some true := by kernel_rfl
set_option maxRecDepth 1000000 in
theorem run0_52 : Ev.run ⟨Try.prog, Ev.mkTT Try.prog, Ev.mkFT Try.prog, [⟨true, n9, n12, true⟩, ⟨false, n1, n2, true⟩, ⟨false, n0, n1, true⟩], Qs, Cs⟩ 100000 3 [Ev.inp .i64 0, .int .i64 52] = some true := by kernel_rfl
set_option maxRecDepth 1000000 in
theorem run0_53 : Ev.run ⟨Try.prog, Ev.mkTT Try.prog, Ev.mkFT Try.prog, [⟨true, n9, n12, true⟩, ⟨false, n1, n2, true⟩, ⟨false, n0, n1, true⟩], Qs, Cs⟩ 100000 3 [Ev.inp .i64 0, .int .i64 53] = some true := by kernel_rfl
set_option maxRecDepth 1000000 in
theorem run0_54 : Ev.run ⟨Try.prog, Ev.mkTT Try.prog, Ev.mkFT Try.prog, [⟨true, n9, n12, true⟩, ⟨false, n1, n2, true⟩, ⟨false, n0, n1, true⟩], Qs, Cs⟩ 100000 3 [Ev.inp .i64 0, .int .i64 54] = some true := by kernel_rfl
set_option maxRecDepth 1000000 in
theorem run0_55 : Ev.run ⟨Try.prog, Ev.mkTT Try.prog, Ev.mkFT Try.prog, [⟨true, n9, n12, true⟩, ⟨false, n1, n2, true⟩, ⟨false, n0, n1, true⟩], Qs, Cs⟩ 100000 3 [Ev.inp .i64 0, .int .i64 55] = some true := by kernel_rfl
set_option maxRecDepth 1000000 in
theorem run0_56 : Ev.run ⟨Try.prog, Ev.mkTT Try.prog, Ev.mkFT Try.prog, [⟨true, n9, n12, true⟩, ⟨false, n1, n2, true⟩, ⟨false, n0, n1, true⟩], Qs, Cs⟩ 100000 3 [Ev.inp .i64 0, .int .i64 56] = some true := by kernel_rfl
set_option maxRecDepth 1000000 in
theorem run0_57 : Ev.run ⟨Try.prog, Ev.mkTT Try.prog, Ev.mkFT Try.prog, [⟨true, n9, n12, true⟩, ⟨false, n1, n2, true⟩, ⟨false, n0, n1, true⟩], Qs, Cs⟩ 100000 3 [Ev.inp .i64 0, .int .i64 57] = some true := by kernel_rfl
set_option maxRecDepth 1000000 in
theorem run0_58 : Ev.run ⟨Try.prog, Ev.mkTT Try.prog, Ev.mkFT Try.prog, [⟨true, n9, n12, true⟩, ⟨false, n1, n2, true⟩, ⟨false, n0, n1, true⟩], Qs, Cs⟩ 100000 3 [Ev.inp .i64 0, .int .i64 58] = some true := by kernel_rfl
set_option maxRecDepth 1000000 in
theorem run0_59 : Ev.run ⟨Try.prog, Ev.mkTT Try.prog, Ev.mkFT Try.prog, [⟨true, n9, n12, true⟩, ⟨false, n1, n2, true⟩, ⟨false, n0, n1, true⟩], Qs, Cs⟩ 100000 3 [Ev.inp .i64 0, .int .i64 59] = some true := by kernel_rfl
set_option maxRecDepth 1000000 in
theorem run0_60 : Ev.run ⟨Try.prog, Ev.mkTT Try.prog, Ev.mkFT Try.prog, [⟨true, n9, n12, true⟩, ⟨false, n1, n2, true⟩, ⟨false, n0, n1, true⟩], Qs, Cs⟩ 100000 3 [Ev.inp .i64 0, .int .i64 60] = some true := by kernel_rfl
set_option maxRecDepth 1000000 in
theorem run0_61 : Ev.run ⟨Try.prog, Ev.mkTT Try.prog, Ev.mkFT Try.prog, [⟨true, n9, n12, true⟩, ⟨false, n1, n2, true⟩, ⟨false, n0, n1, true⟩], Qs, Cs⟩ 100000 3 [Ev.inp .i64 0, .int .i64 61] = some true := by kernel_rfl
set_option maxRecDepth 1000000 in
theorem run0_62 : Ev.run ⟨Try.prog, Ev.mkTT Try.prog, Ev.mkFT Try.prog, [⟨true, n9, n12, true⟩, ⟨false, n1, n2, true⟩, ⟨false, n0, n1, true⟩], Qs, Cs⟩ 100000 3 [Ev.inp .i64 0, .int .i64 62] = some true := by kernel_rfl
set_option maxRecDepth 1000000 in
theorem run0_63 : Ev.run ⟨Try.prog, Ev.mkTT Try.prog, Ev.mkFT Try.prog, [⟨true, n9, n12, true⟩, ⟨false, n1, n2, true⟩, ⟨false, n0, n1, true⟩], Qs, Cs⟩ 100000 3 [Ev.inp .i64 0, .int .i64 63] = some true := by kernel_rfl
set_option maxRecDepth 1000000 in
theorem run0_64 : Ev.run ⟨Try.prog, Ev.mkTT Try.prog, Ev.mkFT Try.prog, [⟨true, n9, n12, true⟩, ⟨false, n1, n2, true⟩, ⟨false, n0, n1, true⟩], Qs, Cs⟩ 100000 3 [Ev.inp .i64 0, .int .i64 64] = some true := by kernel_rfl
set_option maxRecDepth 1000000 in
theorem run1_1 : Ev.run ⟨Try.prog, Ev.mkTT Try.prog, Ev.mkFT Try.prog, [⟨false, n1, n2, false⟩, ⟨false, n0, n1, true⟩], Qs, Cs⟩ 100000 3 [Ev.inp .i64 0, .int .i64 1] = some true := by kernel_rfl
set_option maxRecDepth 1000000 in
theorem run1_2 : Ev.run ⟨Try.prog, Ev.mkTT Try.prog, Ev.mkFT Try.prog, [⟨false, n1, n2, false⟩, ⟨false, n0, n1, true⟩], Qs, Cs⟩ 100000 3 [Ev.inp .i64 0, .int .i64 2] = some true := by kernel_rfl
set_option maxRecDepth 1000000 in
theorem run1_3 : Ev.run ⟨Try.prog, Ev.mkTT Try.prog, Ev.mkFT Try.prog, [⟨false, n1, n2, false⟩, ⟨false, n0, n1, true⟩], Qs, Cs⟩ 100000 3 [Ev.inp .i64 0, .int .i64 3] = some true := by kernel_rfl
set_option maxRecDepth 1000000 in
theorem run1_4 : Ev.run ⟨Try.prog, Ev.mkTT Try.prog, Ev.mkFT Try.prog, [⟨false, n1, n2, false⟩, ⟨false, n0, n1, true⟩], Qs, Cs⟩ 100000 3 [Ev.inp .i64 0, .int .i64 4] = some true := by kernel_rfl
set_option maxRecDepth 1000000 in
theorem run1_5 : Ev.run ⟨Try.prog, Ev.mkTT Try.prog, Ev.mkFT Try.prog, [⟨false, n1, n2, false⟩, ⟨false, n0, n1, true⟩], Qs, Cs⟩ 100000 3 [Ev.inp .i64 0, .int .i64 5] = some true := by kernel_rfl
set_option maxRecDepth 1000000 in
theorem run1_6 : Ev.run ⟨Try.prog, Ev.mkTT Try.prog, Ev.mkFT Try.prog, [⟨false, n1, n2, false⟩, ⟨false, n0, n1, true⟩], Qs, Cs⟩ 100000 3 [Ev.inp .i64 0, .int .i64 6] = some true := by kernel_rfl
set_option maxRecDepth 1000000 in
theorem run1_7 : Ev.run ⟨Try.prog, Ev.mkTT Try.prog, Ev.mkFT Try.prog, [⟨false, n1, n2, false⟩, ⟨false, n0, n1, true⟩], Qs, Cs⟩ 100000 3 [Ev.inp .i64 0, .int .i64 7] = some true := by kernel_rfl
set_option maxRecDepth 1000000 in
theorem run1_8 : Ev.run ⟨Try.prog, Ev.mkTT Try.prog, Ev.mkFT Try.prog, [⟨false, n1, n2, false⟩, ⟨false, n0, n1, true⟩], Qs, Cs⟩ 100000 3 [Ev.inp .i64 0, .int .i64 8] = some true := by kernel_rfl
set_option maxRecDepth 1000000 in
theorem run1_9 : Ev.run ⟨Try.prog, Ev.mkTT Try.prog, Ev.mkFT Try.prog, [⟨false, n1, n2, false⟩, ⟨false, n0, n1, true⟩], Qs, Cs⟩ 100000 3 [Ev.inp .i64 0, .int .i64 9] = some true := by kernel_rfl
set_option maxRecDepth 1000000 in
theorem run1_10 : Ev.run ⟨Try.prog, Ev.mkTT Try.prog, Ev.mkFT Try.prog, [⟨false, n1, n2, false⟩, ⟨false, n0, n1, true⟩], Qs, Cs⟩ 100000 3 [Ev.inp .i64 0, .int .i64 10] = some true := by kernel_rfl
set_option maxRecDepth 1000000 in
theorem run1_11 : Ev.run ⟨Try.prog, Ev.mkTT Try.prog, Ev.mkFT Try.prog, [⟨false, n1, n2, false⟩, ⟨false, n0, n1, true⟩], Qs, Cs⟩ 100000 3 [Ev.inp .i64 0, .int .i64 11] = some true := by kernel_rfl
set_option maxRecDepth 1000000 in
theorem run1_12 : Ev.run ⟨Try.prog, Ev.mkTT Try.prog, Ev.mkFT Try.prog, [⟨false, n1, n2, false⟩, ⟨false, n0, n1, true⟩], Qs, Cs⟩ 100000 3 [Ev.inp .i64 0, .int .i64 12] = some true := by kernel_rfl
set_option maxRecDepth 1000000 in
theorem run1_13 : Ev.run ⟨Try.prog, Ev.mkTT Try.prog, Ev.mkFT Try.prog, [⟨false, n1, n2, false⟩, ⟨false, n0, n1, true⟩], Qs, Cs⟩ 100000 3 [Ev.inp .i64 0, .int .i64 13] = some true := by kernel_rfl
set_option maxRecDepth 1000000 in
theorem run1_14 : Ev.run ⟨Try.prog, Ev.mkTT Try.prog, Ev.mkFT Try.prog, [⟨false, n1, n2, false⟩, ⟨false, n0, n1, true⟩], Qs, Cs⟩ 100000 3 [Ev.inp .i64 0, .int .i64 14] = some true := by kernel_rfl
set_option maxRecDepth 1000000 in
theorem run1_15 : Ev.run ⟨Try.prog, Ev.mkTT Try.prog, Ev.mkFT Try.prog, [⟨false, n1, n2, false⟩, ⟨false, n0, n1, true⟩], Qs, Cs⟩ 100000 3 [Ev.inp .i64 0, .int .i64 15] = some true := by kernel_rfl
set_option maxRecDepth 1000000 in
theorem run1_16 : Ev.run ⟨Try.prog, Ev.mkTT Try.prog, Ev.mkFT Try.prog, [⟨false, n1, n2, false⟩, ⟨false, n0, n1, true⟩], Qs, Cs⟩ 100000 3 [Ev.inp .i64 0, .int .i64 16] = some true := by kernel_rfl
set_option maxRecDepth 1000000 in
theorem run1_17 : Ev.run ⟨Try.prog, Ev.mkTT Try.prog, Ev.mkFT Try.prog, [⟨false, n1, n2, false⟩, ⟨false, n0, n1, true⟩], Qs, Cs⟩ 100000 3 [Ev.inp .i64 0, .int .i64 17] = some true := by kernel_rfl
set_option maxRecDepth 1000000 in
theorem run1_18 : Ev.run ⟨Try.prog, Ev.mkTT Try.prog, Ev.mkFT Try.prog, [⟨false, n1, n2, false⟩, ⟨false, n0, n1, true⟩], Qs, Cs⟩ 100000 3 [Ev.inp .i64 0, .int .i64 18] = some true := by kernel_rfl
set_option maxRecDepth 1000000 in
theorem run1_19 : Ev.run ⟨Try.prog, Ev.mkTT Try.prog, Ev.mkFT Try.prog, [⟨false, n1, n2, false⟩, ⟨false, n0, n1, true⟩], Qs, Cs⟩ 100000 3 [Ev.inp .i64 0, .int .i64 19] = some true := by kernel_rfl
set_option maxRecDepth 1000000 in
theorem run1_20 : Ev.run ⟨Try.prog, Ev.mkTT Try.prog, Ev.mkFT Try.prog, [⟨false, n1, n2, false⟩, ⟨false, n0, n1, true⟩], Qs, Cs⟩ 100000 3 [Ev.inp .i64 0, .int .i64 20] = some true := by kernel_rfl
set_option maxRecDepth 1000000 in
theorem run1_21 : Ev.run ⟨Try.prog, Ev.mkTT Try.prog, Ev.mkFT Try.prog, [⟨false, n1, n2, false⟩, ⟨false, n0, n1, true⟩], Qs, Cs⟩ 100000 3 [Ev.inp .i64 0, .int .i64 21] = some true := by kernel_rfl
set_option maxRecDepth 1000000 in
theorem run1_22 : Ev.run ⟨Try.prog, Ev.mkTT Try.prog, Ev.mkFT Try.prog, [⟨false, n1, n2, false⟩, ⟨false, n0, n1, true⟩], Qs, Cs⟩ 100000 3 [Ev.inp .i64 0, .int .i64 22] = some true := by kernel_rfl
set_option maxRecDepth 1000000 in
theorem run1_23 : Ev.run ⟨Try.prog, Ev.mkTT Try.prog, Ev.mkFT Try.prog, [⟨false, n1, n2, false⟩, ⟨false, n0, n1, true⟩], Qs, Cs⟩ 100000 3 [Ev.inp .i64 0, .int .i64 23] = some true := by kernel_rfl
set_option maxRecDepth 1000000 in
theorem run1_24 : Ev.run ⟨Try.prog, Ev.mkTT Try.prog, Ev.mkFT Try.prog, [⟨false, n1, n2, false⟩, ⟨false, n0, n1, true⟩], Qs, Cs⟩ 100000 3 [Ev.inp .i64 0, .int .i64 24] = some true := by kernel_rfl
set_option maxRecDepth 1000000 in
theorem run1_25 : Ev.run ⟨Try.prog, Ev.mkTT Try.prog, Ev.mkFT Try.prog, [⟨false, n1, n2, false⟩, ⟨false, n0, n1, true⟩], Qs, Cs⟩ 100000 3 [Ev.inp .i64 0, .int .i64 25] = some true := by kernel_rfl
set_option maxRecDepth 1000000 in
theorem run1_26 : Ev.run ⟨Try.prog, Ev.mkTT Try.prog, Ev.mkFT Try.prog, [⟨false, n1, n2, false⟩, ⟨false, n0, n1, true⟩], Qs, Cs⟩ 100000 3 [Ev.inp .i64 0, .int .i64 26] = some true := by kernel_rfl
set_option maxRecDepth 1000000 in
theorem run1_27 : Ev.run ⟨Try.prog, Ev.mkTT Try.prog, Ev.mkFT Try.prog, [⟨false, n1, n2, false⟩, ⟨false, n0, n1, true⟩], Qs, Cs⟩ 100000 3 [Ev.inp .i64 0, .int .i64 27] = some true := by kernel_rfl
set_option maxRecDepth 1000000 in
theorem run1_28 : Ev.run ⟨Try.prog, Ev.mkTT Try.prog, Ev.mkFT Try.prog, [⟨false, n1, n2, false⟩, ⟨false, n0, n1, true⟩], Qs, Cs⟩ 100000 3 [Ev.inp .i64 0, .int .i64 28] = some true := by kernel_rfl
set_option maxRecDepth 1000000 in
theorem run1_29 : Ev.run ⟨Try.prog, Ev.mkTT Try.prog, Ev.mkFT Try.prog, [⟨false, n1, n2, false⟩, ⟨false, n0, n1, true⟩], Qs, Cs⟩ 100000 3 [Ev.inp .i64 0, .int .i64 29] = some true := by kernel_rfl
set_option maxRecDepth 1000000 in
theorem run1_30 : Ev.run ⟨Try.prog, Ev.mkTT Try.prog, Ev.mkFT Try.prog, [⟨false, n1, n2, false⟩, ⟨false, n0, n1, true⟩], Qs, Cs⟩ 100000 3 [Ev.inp .i64 0, .int .i64 30] = some true := by kernel_rfl
set_option maxRecDepth 1000000 in
theorem run1_31 : Ev.run ⟨Try.prog, Ev.mkTT Try.prog, Ev.mkFT Try.prog, [⟨false, n1, n2, false⟩, ⟨false, n0, n1, true⟩], Qs, Cs⟩ 100000 3 [Ev.inp .i64 0, .int .i64 31] = some true := by kernel_rfl
set_option maxRecDepth 1000000 in
theorem run1_32 : Ev.run ⟨Try.prog, Ev.mkTT Try.prog, Ev.mkFT Try.prog, [⟨false, n1, n2, false⟩, ⟨false, n0, n1, true⟩], Qs, Cs⟩ 100000 3 [Ev.inp .i64 0, .int .i64 32] = some true := by kernel_rfl

end Go.Proofs.Ytknifojinmnkfaa.headerMarksK
