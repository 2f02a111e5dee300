/-
  'shunterlaw04.HeaderMarksK': each way that is left: the evaluator finds it true. No project text.
-/
import Derived.Test.YtknifojinmnkfaaHeaderMarksK1
namespace Go.Proofs.Ytknifojinmnkfaa.headerMarksK
open Go.ChangeShapes Go.WideShapes Go.ChangeAt Go.RowKit

set_option maxRecDepth 1000000 in
theorem run0_1 : Ev.run ⟨Try.prog, Ev.mkTT Try.prog, Ev.mkFT Try.prog, [⟨true, n9, n12, true⟩, ⟨false, n1, n2, true⟩, ⟨false, n0, n1, true⟩], Qs, Cs⟩ 100000 3 [Ev.inp .i64 0, .int .i64 1] = some true := by kernel_rfl
set_option maxRecDepth 1000000 in
theorem run0_2 : Ev.run ⟨Try.prog, Ev.mkTT Try.prog, Ev.mkFT Try.prog, [⟨true, n9, n12, true⟩, ⟨false, n1, n2, true⟩, ⟨false, n0, n1, true⟩], Qs, Cs⟩ 100000 3 [Ev.inp .i64 0, .int .i64 2] = some true := by kernel_rfl
set_option maxRecDepth 1000000 in
theorem run0_3 : Ev.run ⟨Try.prog, Ev.mkTT Try.prog, Ev.mkFT Try.prog, [⟨true, n9, n12, true⟩, ⟨false, n1, n2, true⟩, ⟨false, n0, n1, true⟩], Qs, Cs⟩ 100000 3 [Ev.inp .i64 0, .int .i64 3] = some true := by kernel_rfl
set_option maxRecDepth 1000000 in
theorem run0_4 : Ev.run ⟨Try.prog, Ev.mkTT Try.prog, Ev.mkFT Try.prog, [⟨true, n9, n12, true⟩, ⟨false, n1, n2, true⟩, ⟨false, n0, n1, true⟩], Qs, Cs⟩ 100000 3 [Ev.inp .i64 0, .int .i64 4] = some true := by kernel_rfl
set_option maxRecDepth 1000000 in
theorem run0_5 : Ev.run ⟨Try.prog, Ev.mkTT Try.prog, Ev.mkFT Try.prog, [⟨true, n9, n12, true⟩, ⟨false, n1, n2, true⟩, ⟨false, n0, n1, true⟩], Qs, Cs⟩ 100000 3 [Ev.inp .i64 0, .int .i64 5] = some true := by kernel_rfl
set_option maxRecDepth 1000000 in
theorem run0_6 : Ev.run ⟨Try.prog, Ev.mkTT Try.prog, Ev.mkFT Try.prog, [⟨true, n9, n12, true⟩, ⟨false, n1, n2, true⟩, ⟨false, n0, n1, true⟩], Qs, Cs⟩ 100000 3 [Ev.inp .i64 0, .int .i64 6] = some true := by kernel_rfl
set_option maxRecDepth 1000000 in
theorem run0_7 : Ev.run ⟨Try.prog, Ev.mkTT Try.prog, Ev.mkFT Try.prog, [⟨true, n9, n12, true⟩, ⟨false, n1, n2, true⟩, ⟨false, n0, n1, true⟩], Qs, Cs⟩ 100000 3 [Ev.inp .i64 0, .int .i64 7] = some true := by kernel_rfl
set_option maxRecDepth 1000000 in
theorem run0_8 : Ev.run ⟨Try.prog, Ev.mkTT Try.prog, Ev.mkFT Try.prog, [⟨true, n9, n12, true⟩, ⟨false, n1, n2, true⟩, ⟨false, n0, n1, true⟩], Qs, Cs⟩ 100000 3 [Ev.inp .i64 0, .int .i64 8] = some true := by kernel_rfl
set_option maxRecDepth 1000000 in
theorem run0_9 : Ev.run ⟨Try.prog, Ev.mkTT Try.prog, Ev.mkFT Try.prog, [⟨true, n9, n12, true⟩, ⟨false, n1, n2, true⟩, ⟨false, n0, n1, true⟩], Qs, Cs⟩ 100000 3 [Ev.inp .i64 0, .int .i64 9] = some true := by kernel_rfl
set_option maxRecDepth 1000000 in
theorem run0_10 : Ev.run ⟨Try.prog, Ev.mkTT Try.prog, Ev.mkFT Try.prog, [⟨true, n9, n12, true⟩, ⟨false, n1, n2, true⟩, ⟨false, n0, n1, true⟩], Qs, Cs⟩ 100000 3 [Ev.inp .i64 0, .int .i64 10] = some true := by kernel_rfl
set_option maxRecDepth 1000000 in
theorem run0_11 : Ev.run ⟨Try.prog, Ev.mkTT Try.prog, Ev.mkFT Try.prog, [⟨true, n9, n12, true⟩, ⟨false, n1, n2, true⟩, ⟨false, n0, n1, true⟩], Qs, Cs⟩ 100000 3 [Ev.inp .i64 0, .int .i64 11] = some true := by kernel_rfl
set_option maxRecDepth 1000000 in
theorem run0_12 : Ev.run ⟨Try.prog, Ev.mkTT Try.prog, Ev.mkFT Try.prog, [⟨true, n9, n12, true⟩, ⟨false, n1, n2, true⟩, ⟨false, n0, n1, true⟩], Qs, Cs⟩ 100000 3 [Ev.inp .i64 0, .int .i64 12] = some true := by kernel_rfl
set_option maxRecDepth 1000000 in
theorem run0_13 : Ev.run ⟨Try.prog, Ev.mkTT Try.prog, Ev.mkFT Try.prog, [⟨true, n9, n12, true⟩, ⟨false, n1, n2, true⟩, ⟨false, n0, n1, true⟩], Qs, Cs⟩ 100000 3 [Ev.inp .i64 0, .int .i64 13] = some true := by kernel_rfl
set_option maxRecDepth 1000000 in
theorem run0_14 : Ev.run ⟨Try.prog, Ev.mkTT Try.prog, Ev.mkFT Try.prog, [⟨true, n9, n12, true⟩, ⟨false, n1, n2, true⟩, ⟨false, n0, n1, true⟩], Qs, Cs⟩ 100000 3 [Ev.inp .i64 0, .int .i64 14] = some true := by kernel_rfl
set_option maxRecDepth 1000000 in
theorem run0_15 : Ev.run ⟨Try.prog, Ev.mkTT Try.prog, Ev.mkFT Try.prog, [⟨true, n9, n12, true⟩, ⟨false, n1, n2, true⟩, ⟨false, n0, n1, true⟩], Qs, Cs⟩ 100000 3 [Ev.inp .i64 0, .int .i64 15] = some true := by kernel_rfl
set_option maxRecDepth 1000000 in
theorem run0_16 : Ev.run ⟨Try.prog, Ev.mkTT Try.prog, Ev.mkFT Try.prog, [⟨true, n9, n12, true⟩, ⟨false, n1, n2, true⟩, ⟨false, n0, n1, true⟩], Qs, Cs⟩ 100000 3 [Ev.inp .i64 0, .int .i64 16] = some true := by kernel_rfl
set_option maxRecDepth 1000000 in
theorem run0_17 : Ev.run ⟨Try.prog, Ev.mkTT Try.prog, Ev.mkFT Try.prog, [⟨true, n9, n12, true⟩, ⟨false, n1, n2, true⟩, ⟨false, n0, n1, true⟩], Qs, Cs⟩ 100000 3 [Ev.inp .i64 0, .int .i64 17] = some true := by kernel_rfl
set_option maxRecDepth 1000000 in
theorem run0_18 : Ev.run ⟨Try.prog, Ev.mkTT Try.prog, Ev.mkFT Try.prog, [⟨true, n9, n12, true⟩, ⟨false, n1, n2, true⟩, ⟨false, n0, n1, true⟩], Qs, Cs⟩ 100000 3 [Ev.inp .i64 0, .int .i64 18] = some true := by kernel_rfl
set_option maxRecDepth 1000000 in
theorem run0_19 : Ev.run ⟨Try.prog, Ev.mkTT Try.prog, Ev.mkFT Try.prog, [⟨true, n9, n12, true⟩, ⟨false, n1, n2, true⟩, ⟨false, n0, n1, true⟩], Qs, Cs⟩ 100000 3 [Ev.inp .i64 0, .int .i64 19] = some true := by kernel_rfl
set_option maxRecDepth 1000000 in
theorem run0_20 : Ev.run ⟨Try.prog, Ev.mkTT Try.prog, Ev.mkFT Try.prog, [⟨true, n9, n12, true⟩, ⟨false, n1, n2, true⟩, ⟨false, n0, n1, true⟩], Qs, Cs⟩ 100000 3 [Ev.inp .i64 0, .int .i64 20] = some true := by kernel_rfl
set_option maxRecDepth 1000000 in
theorem run0_21 : Ev.run ⟨Try.prog, Ev.mkTT Try.prog, Ev.mkFT Try.prog, [⟨true, n9, n12, true⟩, ⟨false, n1, n2, true⟩, ⟨false, n0, n1, true⟩], Qs, Cs⟩ 100000 3 [Ev.inp .i64 0, .int .i64 21] = some true := by kernel_rfl
set_option maxRecDepth 1000000 in
theorem run0_22 : Ev.run ⟨Try.prog, Ev.mkTT Try.prog, Ev.mkFT Try.prog, [⟨true, n9, n12, true⟩, ⟨false, n1, n2, true⟩, ⟨false, n0, n1, true⟩], Qs, Cs⟩ 100000 3 [Ev.inp .i64 0, .int .i64 22] = some true := by kernel_rfl
set_option maxRecDepth 1000000 in
theorem run0_23 : Ev.run ⟨Try.prog, Ev.mkTT Try.prog, Ev.mkFT Try.prog, [⟨true, n9, n12, true⟩, ⟨false, n1, n2, true⟩, ⟨false, n0, n1, true⟩], Qs, Cs⟩ 100000 3 [Ev.inp .i64 0, .int .i64 23] = some true := by kernel_rfl
set_option maxRecDepth 1000000 in
theorem run0_24 : Ev.run ⟨Try.prog, Ev.mkTT Try.prog, Ev.mkFT Try.prog, [⟨true, n9, n12, true⟩, ⟨false, n1, n2, true⟩, ⟨false, n0, n1, true⟩], Qs, Cs⟩ 100000 3 [Ev.inp .i64 0, .int .i64 24] = some true := by kernel_rfl
set_option maxRecDepth 1000000 in
theorem run0_25 : Ev.run ⟨Try.prog, Ev.mkTT Try.prog, Ev.mkFT Try.prog, [⟨true, n9, n12, true⟩, ⟨false, n1, n2, true⟩, ⟨false, n0, n1, true⟩], Qs, Cs⟩ 100000 3 [Ev.inp .i64 0, .int .i64 25] = some true := by kernel_rfl
set_option maxRecDepth 1000000 in
theorem run0_26 : Ev.run ⟨Try.prog, Ev.mkTT Try.prog, Ev.mkFT Try.prog, [⟨true, n9, n12, true⟩, ⟨false, n1, n2, true⟩, ⟨false, n0, n1, true⟩], Qs, Cs⟩ 100000 3 [Ev.inp .i64 0, .int .i64 26] = some true := by kernel_rfl
set_option maxRecDepth 1000000 in
theorem run0_27 : Ev.run ⟨Try.prog, Ev.mkTT Try.prog, Ev.mkFT Try.prog, [⟨true, n9, n12, true⟩, ⟨false, n1, n2, true⟩, ⟨false, n0, n1, true⟩], Qs, Cs⟩ 100000 3 [Ev.inp .i64 0, .int .i64 27] = some true := by kernel_rfl
set_option maxRecDepth 1000000 in
theorem run0_28 : Ev.run ⟨Try.prog, Ev.mkTT Try.prog, Ev.mkFT Try.prog, [⟨true, n9, n12, true⟩, ⟨false, n1, n2, true⟩, ⟨false, n0, n1, true⟩], Qs, Cs⟩ 100000 3 [Ev.inp .i64 0, .int .i64 28] = some true := by kernel_rfl
set_option maxRecDepth 1000000 in
theorem run0_29 : Ev.run ⟨Try.prog, Ev.mkTT Try.prog, Ev.mkFT Try.prog, [⟨true, n9, n12, true⟩, ⟨false, n1, n2, true⟩, ⟨false, n0, n1, true⟩], Qs, Cs⟩ 100000 3 [Ev.inp .i64 0, .int .i64 29] = some true := by kernel_rfl
set_option maxRecDepth 1000000 in
theorem run0_30 : Ev.run ⟨Try.prog, Ev.mkTT Try.prog, Ev.mkFT Try.prog, [⟨true, n9, n12, true⟩, ⟨false, n1, n2, true⟩, ⟨false, n0, n1, true⟩], Qs, Cs⟩ 100000 3 [Ev.inp .i64 0, .int .i64 30] = some true := by kernel_rfl
set_option maxRecDepth 1000000 in
theorem run0_31 : Ev.run ⟨Try.prog, Ev.mkTT Try.prog, Ev.mkFT Try.prog, [⟨true, n9, n12, true⟩, ⟨false, n1, n2, true⟩, ⟨false, n0, n1, true⟩], Qs, Cs⟩ 100000 3 [Ev.inp .i64 0, .int .i64 31] = some true := by kernel_rfl
set_option maxRecDepth 1000000 in
theorem run0_32 : Ev.run ⟨Try.prog, Ev.mkTT Try.prog, Ev.mkFT Try.prog, [⟨true, n9, n12, true⟩, ⟨false, n1, n2, true⟩, ⟨false, n0, n1, true⟩], Qs, Cs⟩ 100000 3 [Ev.inp .i64 0, .int .i64 32] = some true := by kernel_rfl
set_option maxRecDepth 1000000 in
theorem run0_33 : Ev.run ⟨Try.prog, Ev.mkTT Try.prog, Ev.mkFT Try.prog, [⟨true, n9, n12, true⟩, ⟨false, n1, n2, true⟩, ⟨false, n0, n1, true⟩], Qs, Cs⟩ 100000 3 [Ev.inp .i64 0, .int .i64 33] = some true := by kernel_rfl
set_option maxRecDepth 1000000 in
theorem run0_34 : Ev.run ⟨Try.prog, Ev.mkTT Try.prog, Ev.mkFT Try.prog, [⟨true, n9, n12, true⟩, ⟨false, n1, n2, true⟩, ⟨false, n0, n1, true⟩], Qs, Cs⟩ 100000 3 [Ev.inp .i64 0, .int .i64 34] = some true := by kernel_rfl
set_option maxRecDepth 1000000 in
theorem run0_35 : Ev.run ⟨Try.prog, Ev.mkTT Try.prog, Ev.mkFT Try.prog, [⟨true, n9, n12, true⟩, ⟨false, n1, n2, true⟩, ⟨false, n0, n1, true⟩], Qs, Cs⟩ 100000 3 [Ev.inp .i64 0, .int .i64 35] = some true := by kernel_rfl
set_option maxRecDepth 1000000 in
theorem run0_36 : Ev.run ⟨Try.prog, Ev.mkTT Try.prog, Ev.mkFT Try.prog, [⟨true, n9, n12, true⟩, ⟨false, n1, n2, true⟩, ⟨false, n0, n1, true⟩], Qs, Cs⟩ 100000 3 [Ev.inp .i64 0, .int .i64 36] = some true := by kernel_rfl
set_option maxRecDepth 1000000 in
theorem run0_37 : Ev.run ⟨Try.prog, Ev.mkTT Try.prog, Ev.mkFT Try.prog, [⟨true, n9, n12, true⟩, ⟨false, n1, n2, true⟩, ⟨false, n0, n1, true⟩], Qs, Cs⟩ 100000 3 [Ev.inp .i64 0, .int .i64 37] = some true := by kernel_rfl
set_option maxRecDepth 1000000 in
theorem run0_38 : Ev.run ⟨Try.prog, Ev.mkTT Try.prog, Ev.mkFT Try.prog, [⟨true, n9, n12, true⟩, ⟨false, n1, n2, true⟩, ⟨false, n0, n1, true⟩], Qs, Cs⟩ 100000 3 [Ev.inp .i64 0, .int .i64 38] = some true := by kernel_rfl
set_option maxRecDepth 1000000 in
theorem run0_39 : Ev.run ⟨Try.prog, Ev.mkTT Try.prog, Ev.mkFT Try.prog, [⟨true, n9, n12, true⟩, ⟨false, n1, n2, true⟩, ⟨false, n0, n1, true⟩], Qs, Cs⟩ 100000 3 [Ev.inp .i64 0, .int .i64 39] = some true := by kernel_rfl
set_option maxRecDepth 1000000 in
theorem run0_40 : Ev.run ⟨Try.prog, Ev.mkTT Try.prog, Ev.mkFT Try.prog, [⟨true, n9, n12, true⟩, ⟨false, n1, n2, true⟩, ⟨false, n0, n1, true⟩], Qs, Cs⟩ 100000 3 [Ev.inp .i64 0, .int .i64 40] = some true := by kernel_rfl
set_option maxRecDepth 1000000 in
theorem run0_41 : Ev.run ⟨Try.prog, Ev.mkTT Try.prog, Ev.mkFT Try.prog, [⟨true, n9, n12, true⟩, ⟨false, n1, n2, true⟩, ⟨false, n0, n1, true⟩], Qs, Cs⟩ 100000 3 [Ev.inp .i64 0, .int .i64 41] = some true := by kernel_rfl
set_option maxRecDepth 1000000 in
theorem run0_42 : Ev.run ⟨Try.prog, Ev.mkTT Try.prog, Ev.mkFT Try.prog, [⟨true, n9, n12, true⟩, ⟨false, n1, n2, true⟩, ⟨false, n0, n1, true⟩], Qs, Cs⟩ 100000 3 [Ev.inp .i64 0, .int .i64 42] = some true := by kernel_rfl
set_option maxRecDepth 1000000 in
theorem run0_43 : Ev.run ⟨Try.prog, Ev.mkTT Try.prog, Ev.mkFT Try.prog, [⟨true, n9, n12, true⟩, ⟨false, n1, n2, true⟩, ⟨false, n0, n1, true⟩], Qs, Cs⟩ 100000 3 [Ev.inp .i64 0, .int .i64 43] = some true := by kernel_rfl
set_option maxRecDepth 1000000 in
theorem run0_44 : Ev.run ⟨Try.prog, Ev.mkTT Try.prog, Ev.mkFT Try.prog, [⟨true, n9, n12, true⟩, ⟨false, n1, n2, true⟩, ⟨false, n0, n1, true⟩], Qs, Cs⟩ 100000 3 [Ev.inp .i64 0, .int .i64 44] = some true := by kernel_rfl
set_option maxRecDepth 1000000 in
theorem run0_45 : Ev.run ⟨Try.prog, Ev.mkTT Try.prog, Ev.mkFT Try.prog, [⟨true, n9, n12, true⟩, ⟨false, n1, n2, true⟩, ⟨false, n0, n1, true⟩], Qs, Cs⟩ 100000 3 [Ev.inp .i64 0, .int .i64 45] = some true := by kernel_rfl
set_option maxRecDepth 1000000 in
theorem run0_46 : Ev.run ⟨Try.prog, Ev.mkTT Try.prog, Ev.mkFT Try.prog, [⟨true, n9, n12, true⟩, ⟨false, n1, n2, true⟩, ⟨false, n0, n1, true⟩], Qs, Cs⟩ 100000 3 [Ev.inp .i64 0, .int .i64 46] = some true := by kernel_rfl
set_option maxRecDepth 1000000 in
theorem run0_47 : Ev.run ⟨Try.prog, Ev.mkTT Try.prog, Ev.mkFT Try.prog, [⟨true, n9, n12, true⟩, ⟨false, n1, n2, true⟩, ⟨false, n0, n1, true⟩], Qs, Cs⟩ 100000 3 [Ev.inp .i64 0, .int .i64 47] = some true := by kernel_rfl
set_option maxRecDepth 1000000 in
theorem run0_48 : Ev.run ⟨Try.prog, Ev.mkTT Try.prog, Ev.mkFT Try.prog, [⟨true, n9, n12, true⟩, ⟨false, n1, n2, true⟩, ⟨false, n0, n1, true⟩], Qs, Cs⟩ 100000 3 [Ev.inp .i64 0, .int .i64 48] = some true := by kernel_rfl

end Go.Proofs.Ytknifojinmnkfaa.headerMarksK
