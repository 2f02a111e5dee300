/-
  'shunterlaw04.HeaderMarksK': each way that is left: the evaluator finds it true. No project text.
-/
import Derived.Test.YtknifojinmnkfaaHeaderMarksK1
namespace Go.Proofs.Ytknifojinmnkfaa.headerMarksK
open Go.ChangeShapes Go.WideShapes Go.ChangeAt Go.RowKit

set_option maxRecDepth 1000000 in
theorem run1_33 : Ev.run ⟨Try.prog, Ev.mkTT Try.prog, Ev.mkFT Try.prog, [⟨false, n1, n2, false⟩, ⟨false, n0, n1, true⟩], Qs, Cs⟩ 100000 3 [Ev.inp .i64 0, .int .i64 33] = some true := by kernel_rfl
set_option maxRecDepth 1000000 in
theorem run1_34 : Ev.run ⟨Try.prog, Ev.mkTT Try.prog, Ev.mkFT Try.prog, [⟨false, n1, n2, false⟩, ⟨false, n0, n1, true⟩], Qs, Cs⟩ 100000 3 [Ev.inp .i64 0, .int .i64 34] = some true := by kernel_rfl
set_option maxRecDepth 1000000 in
theorem run1_35 : Ev.run ⟨Try.prog, Ev.mkTT Try.prog, Ev.mkFT Try.prog, [⟨false, n1, n2, false⟩, ⟨false, n0, n1, true⟩], Qs, Cs⟩ 100000 3 [Ev.inp .i64 0, .int .i64 35] = some true := by kernel_rfl
set_option maxRecDepth 1000000 in
theorem run1_36 : Ev.run ⟨Try.prog, Ev.mkTT Try.prog, Ev.mkFT Try.prog, [⟨false, n1, n2, false⟩, ⟨false, n0, n1, true⟩], Qs, Cs⟩ 100000 3 [Ev.inp .i64 0, .int .i64 36] = some true := by kernel_rfl
set_option maxRecDepth 1000000 in
theorem run1_37 : Ev.run ⟨Try.prog, Ev.mkTT Try.prog, Ev.mkFT Try.prog, [⟨false, n1, n2, false⟩, ⟨false, n0, n1, true⟩], Qs, Cs⟩ 100000 3 [Ev.inp .i64 0, .int .i64 37] = some true := by kernel_rfl
set_option maxRecDepth 1000000 in
theorem run1_38 : Ev.run ⟨Try.prog, Ev.mkTT Try.prog, Ev.mkFT Try.prog, [⟨false, n1, n2, false⟩, ⟨false, n0, n1, true⟩], Qs, Cs⟩ 100000 3 [Ev.inp .i64 0, .int .i64 38] = some true := by kernel_rfl
set_option maxRecDepth 1000000 in
theorem run1_39 : Ev.run ⟨Try.prog, Ev.mkTT Try.prog, Ev.mkFT Try.prog, [⟨false, n1, n2, false⟩, ⟨false, n0, n1, true⟩], Qs, Cs⟩ 100000 3 [Ev.inp .i64 0, .int .i64 39] = some true := by kernel_rfl
set_option maxRecDepth 1000000 in
theorem run1_40 : Ev.run ⟨Try.prog, Ev.mkTT Try.prog, Ev.mkFT Try.prog, [⟨false, n1, n2, false⟩, ⟨false, n0, n1, true⟩], Qs, Cs⟩ 100000 3 [Ev.inp .i64 0, .int .i64 40] = some true := by kernel_rfl
set_option maxRecDepth 1000000 in
theorem run1_41 : Ev.run ⟨Try.prog, Ev.mkTT Try.prog, Ev.mkFT Try.prog, [⟨false, n1, n2, false⟩, ⟨false, n0, n1, true⟩], Qs, Cs⟩ 100000 3 [Ev.inp .i64 0, .int .i64 41] = some true := by kernel_rfl
set_option maxRecDepth 1000000 in
theorem run1_42 : Ev.run ⟨Try.prog, Ev.mkTT Try.prog, Ev.mkFT Try.prog, [⟨false, n1, n2, false⟩, ⟨false, n0, n1, true⟩], Qs, Cs⟩ 100000 3 [Ev.inp .i64 0, .int .i64 42] = some true := by kernel_rfl
set_option maxRecDepth 1000000 in
theorem run1_43 : Ev.run ⟨Try.prog, Ev.mkTT Try.prog, Ev.mkFT Try.prog, [⟨false, n1, n2, false⟩, ⟨false, n0, n1, true⟩], Qs, Cs⟩ 100000 3 [Ev.inp .i64 0, .int .i64 43] = some true := by kernel_rfl
set_option maxRecDepth 1000000 in
theorem run1_44 : Ev.run ⟨Try.prog, Ev.mkTT Try.prog, Ev.mkFT Try.prog, [⟨false, n1, n2, false⟩, ⟨false, n0, n1, true⟩], Qs, Cs⟩ 100000 3 [Ev.inp .i64 0, .int .i64 44] = some true := by kernel_rfl
set_option maxRecDepth 1000000 in
theorem run1_45 : Ev.run ⟨Try.prog, Ev.mkTT Try.prog, Ev.mkFT Try.prog, [⟨false, n1, n2, false⟩, ⟨false, n0, n1, true⟩], Qs, Cs⟩ 100000 3 [Ev.inp .i64 0, .int .i64 45] = some true := by kernel_rfl
set_option maxRecDepth 1000000 in
theorem run1_46 : Ev.run ⟨Try.prog, Ev.mkTT Try.prog, Ev.mkFT Try.prog, [⟨false, n1, n2, false⟩, ⟨false, n0, n1, true⟩], Qs, Cs⟩ 100000 3 [Ev.inp .i64 0, .int .i64 46] = some true := by kernel_rfl
set_option maxRecDepth 1000000 in
theorem run1_47 : Ev.run ⟨Try.prog, Ev.mkTT Try.prog, Ev.mkFT Try.prog, [⟨false, n1, n2, false⟩, ⟨false, n0, n1, true⟩], Qs, Cs⟩ 100000 3 [Ev.inp .i64 0, .int .i64 47] = some true := by kernel_rfl
set_option maxRecDepth 1000000 in
theorem run1_48 : Ev.run ⟨Try.prog, Ev.mkTT Try.prog, Ev.mkFT Try.prog, [⟨false, n1, n2, false⟩, ⟨false, n0, n1, true⟩], Qs, Cs⟩ 100000 3 [Ev.inp .i64 0, .int .i64 48] = some true := by kernel_rfl
set_option maxRecDepth 1000000 in
theorem run1_49 : Ev.run ⟨Try.prog, Ev.mkTT Try.prog, Ev.mkFT Try.prog, [⟨false, n1, n2, false⟩, ⟨false, n0, n1, true⟩], Qs, Cs⟩ 100000 3 [Ev.inp .i64 0, .int .i64 49] = some true := by kernel_rfl
set_option maxRecDepth 1000000 in
theorem run1_50 : Ev.run ⟨Try.prog, Ev.mkTT Try.prog, Ev.mkFT Try.prog, [⟨false, n1, n2, false⟩, ⟨false, n0, n1, true⟩], Qs, Cs⟩ 100000 3 [Ev.inp .i64 0, .int .i64 50] = some true := by kernel_rfl
set_option maxRecDepth 1000000 in
theorem run1_51 : Ev.run ⟨Try.prog, Ev.mkTT Try.prog, Ev.mkFT Try.prog, [⟨false, n1, n2, false⟩, ⟨false, n0, n1, true⟩], Qs, Cs⟩ 100000 3 [Ev.inp .i64 0, .int .i64 51] = some true := by kernel_rfl
set_option maxRecDepth 1000000 in
theorem run1_52 : Ev.run ⟨Try.prog, Ev.mkTT Try.prog, Ev.mkFT Try.prog, [⟨false, n1, n2, false⟩, ⟨false, n0, n1, true⟩], Qs, Cs⟩ 100000 3 [Ev.inp .i64 0, .int .i64 52] = some true := by kernel_rfl
set_option maxRecDepth 1000000 in
theorem run1_53 : Ev.run ⟨Try.prog, Ev.mkTT Try.prog, Ev.mkFT Try.prog, [⟨false, n1, n2, false⟩, ⟨false, n0, n1, true⟩], Qs, Cs⟩ 100000 3 [Ev.inp .i64 0, .int .i64 53] = some true := by kernel_rfl
set_option maxRecDepth 1000000 in
theorem run1_54 : Ev.run ⟨Try.prog, Ev.mkTT Try.prog, Ev.mkFT Try.prog, [⟨false, n1, n2, false⟩, ⟨false, n0, n1, true⟩], Qs, Cs⟩ 100000 3 [Ev.inp .i64 0, .int .i64 54] = some true := by kernel_rfl
set_option maxRecDepth 1000000 in
theorem run1_55 : Ev.run ⟨Try.prog, Ev.mkTT Try.prog, Ev.mkFT Try.prog, [⟨false, n1, n2, false⟩, ⟨false, n0, n1, true⟩], Qs, Cs⟩ 100000 3 [Ev.inp .i64 0, .int .i64 55] = some true := by kernel_rfl
set_option maxRecDepth 1000000 in
theorem run1_56 : Ev.run ⟨Try.prog, Ev.mkTT Try.prog, Ev.mkFT Try.prog, [⟨false, n1, n2, false⟩, ⟨false, n0, n1, true⟩], Qs, Cs⟩ 100000 3 [Ev.inp .i64 0, .int .i64 56] = some true := by kernel_rfl
set_option maxRecDepth 1000000 in
theorem run1_57 : Ev.run ⟨Try.prog, Ev.mkTT Try.prog, Ev.mkFT Try.prog, [⟨false, n1, n2, false⟩, ⟨false, n0, n1, true⟩], Qs, Cs⟩ 100000 3 [Ev.inp .i64 0, .int .i64 57] = some true := by kernel_rfl
set_option maxRecDepth 1000000 in
theorem run1_58 : Ev.run ⟨Try.prog, Ev.mkTT Try.prog, Ev.mkFT Try.prog, [⟨false, n1, n2, false⟩, ⟨false, n0, n1, true⟩], Qs, Cs⟩ 100000 3 [Ev.inp .i64 0, .int .i64 58] = some true := by kernel_rfl
set_option maxRecDepth 1000000 in
theorem run1_59 : Ev.run ⟨Try.prog, Ev.mkTT Try.prog, Ev.mkFT Try.prog, [⟨false, n1, n2, false⟩, ⟨false, n0, n1, true⟩], Qs, Cs⟩ 100000 3 [Ev.inp .i64 0, .int .i64 59] = some true := by kernel_rfl
set_option maxRecDepth 1000000 in
theorem run1_60 : Ev.run ⟨Try.prog, Ev.mkTT Try.prog, Ev.mkFT Try.prog, [⟨false, n1, n2, false⟩, ⟨false, n0, n1, true⟩], Qs, Cs⟩ 100000 3 [Ev.inp .i64 0, .int .i64 60] = some true := by kernel_rfl
set_option maxRecDepth 1000000 in
theorem run1_61 : Ev.run ⟨Try.prog, Ev.mkTT Try.prog, Ev.mkFT Try.prog, [⟨false, n1, n2, false⟩, ⟨false, n0, n1, true⟩], Qs, Cs⟩ 100000 3 [Ev.inp .i64 0, .int .i64 61] = some true := by kernel_rfl
set_option maxRecDepth 1000000 in
theorem run1_62 : Ev.run ⟨Try.prog, Ev.mkTT Try.prog, Ev.mkFT Try.prog, [⟨false, n1, n2, false⟩, ⟨false, n0, n1, true⟩], Qs, Cs⟩ 100000 3 [Ev.inp .i64 0, .int .i64 62] = some true := by kernel_rfl
set_option maxRecDepth 1000000 in
theorem run1_63 : Ev.run ⟨Try.prog, Ev.mkTT Try.prog, Ev.mkFT Try.prog, [⟨false, n1, n2, false⟩, ⟨false, n0, n1, true⟩], Qs, Cs⟩ 100000 3 [Ev.inp .i64 0, .int .i64 63] = some true := by kernel_rfl
set_option maxRecDepth 1000000 in
theorem run1_64 : Ev.run ⟨Try.prog, Ev.mkTT Try.prog, Ev.mkFT Try.prog, [⟨false, n1, n2, false⟩, ⟨false, n0, n1, true⟩], Qs, Cs⟩ 100000 3 [Ev.inp .i64 0, .int .i64 64] = some true := by kernel_rfl
set_option maxRecDepth 1000000 in
theorem run2_1 : Ev.run ⟨Try.prog, Ev.mkTT Try.prog, Ev.mkFT Try.prog, [⟨false, n0, n1, false⟩], Qs, Cs⟩ 100000 3 [Ev.inp .i64 0, .int .i64 1] = some true := by kernel_rfl
set_option maxRecDepth 1000000 in
theorem run2_2 : Ev.run ⟨Try.prog, Ev.mkTT Try.prog, Ev.mkFT Try.prog, [⟨false, n0, n1, false⟩], Qs, Cs⟩ 100000 3 [Ev.inp .i64 0, .int .i64 2] = some true := by kernel_rfl
set_option maxRecDepth 1000000 in
theorem run2_3 : Ev.run ⟨Try.prog, Ev.mkTT Try.prog, Ev.mkFT Try.prog, [⟨false, n0, n1, false⟩], Qs, Cs⟩ 100000 3 [Ev.inp .i64 0, .int .i64 3] = some true := by kernel_rfl
set_option maxRecDepth 1000000 in
theorem run2_4 : Ev.run ⟨Try.prog, Ev.mkTT Try.prog, Ev.mkFT Try.prog, [⟨false, n0, n1, false⟩], Qs, Cs⟩ 100000 3 [Ev.inp .i64 0, .int .i64 4] = some true := by kernel_rfl
set_option maxRecDepth 1000000 in
theorem run2_5 : Ev.run ⟨Try.prog, Ev.mkTT Try.prog, Ev.mkFT Try.prog, [⟨false, n0, n1, false⟩], Qs, Cs⟩ 100000 3 [Ev.inp .i64 0, .int .i64 5] = some true := by kernel_rfl
set_option maxRecDepth 1000000 in
theorem run2_6 : Ev.run ⟨Try.prog, Ev.mkTT Try.prog, Ev.mkFT Try.prog, [⟨false, n0, n1, false⟩], Qs, Cs⟩ 100000 3 [Ev.inp .i64 0, .int .i64 6] = some true := by kernel_rfl
set_option maxRecDepth 1000000 in
theorem run2_7 : Ev.run ⟨Try.prog, Ev.mkTT Try.prog, Ev.mkFT Try.prog, [⟨false, n0, n1, false⟩], Qs, Cs⟩ 100000 3 [Ev.inp .i64 0, .int .i64 7] = some true := by kernel_rfl
set_option maxRecDepth 1000000 in
theorem run2_8 : Ev.run ⟨Try.prog, Ev.mkTT Try.prog, Ev.mkFT Try.prog, [⟨false, n0, n1, false⟩], Qs, Cs⟩ 100000 3 [Ev.inp .i64 0, .int .i64 8] = some true := by kernel_rfl
set_option maxRecDepth 1000000 in
theorem run2_9 : Ev.run ⟨Try.prog, Ev.mkTT Try.prog, Ev.mkFT Try.prog, [⟨false, n0, n1, false⟩], Qs, Cs⟩ 100000 3 [Ev.inp .i64 0, .int .i64 9] = some true := by kernel_rfl
set_option maxRecDepth 1000000 in
theorem run2_10 : Ev.run ⟨Try.prog, Ev.mkTT Try.prog, Ev.mkFT Try.prog, [⟨false, n0, n1, false⟩], Qs, Cs⟩ 100000 3 [Ev.inp .i64 0, .int .i64 10] = some true := by kernel_rfl
set_option maxRecDepth 1000000 in
theorem run2_11 : Ev.run ⟨Try.prog, Ev.mkTT Try.prog, Ev.mkFT Try.prog, [⟨false, n0, n1, false⟩], Qs, Cs⟩ 100000 3 [Ev.inp .i64 0, .int .i64 11] = some true := by kernel_rfl
set_option maxRecDepth 1000000 in
theorem run2_12 : Ev.run ⟨Try.prog, Ev.mkTT Try.prog, Ev.mkFT Try.prog, [⟨false, n0, n1, false⟩], Qs, Cs⟩ 100000 3 [Ev.inp .i64 0, .int .i64 12] = some true := by kernel_rfl
set_option maxRecDepth 1000000 in
theorem run2_13 : Ev.run ⟨Try.prog, Ev.mkTT Try.prog, Ev.mkFT Try.prog, [⟨false, n0, n1, false⟩], Qs, Cs⟩ 100000 3 [Ev.inp .i64 0, .int .i64 13] = some true := by kernel_rfl
set_option maxRecDepth 1000000 in
theorem run2_14 : Ev.run ⟨Try.prog, Ev.mkTT Try.prog, Ev.mkFT Try.prog, [⟨false, n0, n1, false⟩], Qs, Cs⟩ 100000 3 [Ev.inp .i64 0, .int .i64 14] = some true := by kernel_rfl
set_option maxRecDepth 1000000 in
theorem run2_15 : Ev.run ⟨Try.prog, Ev.mkTT Try.prog, Ev.mkFT Try.prog, [⟨false, n0, n1, false⟩], Qs, Cs⟩ 100000 3 [Ev.inp .i64 0, .int .i64 15] = some true := by kernel_rfl
set_option maxRecDepth 1000000 in
theorem run2_16 : Ev.run ⟨Try.prog, Ev.mkTT Try.prog, Ev.mkFT Try.prog, [⟨false, n0, n1, false⟩], Qs, Cs⟩ 100000 3 [Ev.inp .i64 0, .int .i64 16] = some true := by kernel_rfl

end Go.Proofs.Ytknifojinmnkfaa.headerMarksK
