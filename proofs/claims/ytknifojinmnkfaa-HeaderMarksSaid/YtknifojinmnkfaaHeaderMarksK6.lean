/-
  'shunterlaw04.HeaderMarksK': each way that is left: the evaluator finds it true. No project text.
-/
import Derived.Test.YtknifojinmnkfaaHeaderMarksK1
namespace Go.Proofs.Ytknifojinmnkfaa.headerMarksK
open Go.ChangeShapes Go.WideShapes Go.ChangeAt Go.RowKit

set_option maxRecDepth 1000000 in
theorem run2_17 : Ev.run ⟨Try.prog, Ev.mkTT Try.prog, Ev.mkFT Try.prog, [⟨false, n0, n1, false⟩], Qs, Cs⟩ 100000 3 [Ev.inp .i64 0, .int .i64 17] = some true := by kernel_rfl
set_option maxRecDepth 1000000 in
theorem run2_18 : Ev.run ⟨Try.prog, Ev.mkTT Try.prog, Ev.mkFT Try.prog, [⟨false, n0, n1, false⟩], Qs, Cs⟩ 100000 3 [Ev.inp .i64 0, .int .i64 18] = some true := by kernel_rfl
set_option maxRecDepth 1000000 in
theorem run2_19 : Ev.run ⟨Try.prog, Ev.mkTT Try.prog, Ev.mkFT Try.prog, [⟨false, n0, n1, false⟩], Qs, Cs⟩ 100000 3 [Ev.inp .i64 0, .int .i64 19] = some true := by kernel_rfl
set_option maxRecDepth 1000000 in
theorem run2_20 : Ev.run ⟨Try.prog, Ev.mkTT Try.prog, Ev.mkFT Try.prog, [⟨false, n0, n1, false⟩], Qs, Cs⟩ 100000 3 [Ev.inp .i64 0, .int .i64 20] = some true := by kernel_rfl
set_option maxRecDepth 1000000 in
theorem run2_21 : Ev.run ⟨Try.prog, Ev.mkTT Try.prog, Ev.mkFT Try.prog, [⟨false, n0, n1, false⟩], Qs, Cs⟩ 100000 3 [Ev.inp .i64 0, .int .i64 21] = some true := by kernel_rfl
set_option maxRecDepth 1000000 in
theorem run2_22 : Ev.run ⟨Try.prog, Ev.mkTT Try.prog, Ev.mkFT Try.prog, [⟨false, n0, n1, false⟩], Qs, Cs⟩ 100000 3 [Ev.inp .i64 0, .int .i64 22] = some true := by kernel_rfl
set_option maxRecDepth 1000000 in
theorem run2_23 : Ev.run ⟨Try.prog, Ev.mkTT Try.prog, Ev.mkFT Try.prog, [⟨false, n0, n1, false⟩], Qs, Cs⟩ 100000 3 [Ev.inp .i64 0, .int .i64 23] = some true := by kernel_rfl
set_option maxRecDepth 1000000 in
theorem run2_24 : Ev.run ⟨Try.prog, Ev.mkTT Try.prog, Ev.mkFT Try.prog, [⟨false, n0, n1, false⟩], Qs, Cs⟩ 100000 3 [Ev.inp .i64 0, .int .i64 24] = some true := by kernel_rfl
set_option maxRecDepth 1000000 in
theorem run2_25 : Ev.run ⟨Try.prog, Ev.mkTT Try.prog, Ev.mkFT Try.prog, [⟨false, n0, n1, false⟩], Qs, Cs⟩ 100000 3 [Ev.inp .i64 0, .int .i64 25] = some true := by kernel_rfl
set_option maxRecDepth 1000000 in
theorem run2_26 : Ev.run ⟨Try.prog, Ev.mkTT Try.prog, Ev.mkFT Try.prog, [⟨false, n0, n1, false⟩], Qs, Cs⟩ 100000 3 [Ev.inp .i64 0, .int .i64 26] = some true := by kernel_rfl
set_option maxRecDepth 1000000 in
theorem run2_27 : Ev.run ⟨Try.prog, Ev.mkTT Try.prog, Ev.mkFT Try.prog, [⟨false, n0, n1, false⟩], Qs, Cs⟩ 100000 3 [Ev.inp .i64 0, .int .i64 27] = some true := by kernel_rfl
set_option maxRecDepth 1000000 in
theorem run2_28 : Ev.run ⟨Try.prog, Ev.mkTT Try.prog, Ev.mkFT Try.prog, [⟨false, n0, n1, false⟩], Qs, Cs⟩ 100000 3 [Ev.inp .i64 0, .int .i64 28] = some true := by kernel_rfl
set_option maxRecDepth 1000000 in
theorem run2_29 : Ev.run ⟨Try.prog, Ev.mkTT Try.prog, Ev.mkFT Try.prog, [⟨false, n0, n1, false⟩], Qs, Cs⟩ 100000 3 [Ev.inp .i64 0, .int .i64 29] = some true := by kernel_rfl
set_option maxRecDepth 1000000 in
theorem run2_30 : Ev.run ⟨Try.prog, Ev.mkTT Try.prog, Ev.mkFT Try.prog, [⟨false, n0, n1, false⟩], Qs, Cs⟩ 100000 3 [Ev.inp .i64 0, .int .i64 30] = some true := by kernel_rfl
set_option maxRecDepth 1000000 in
theorem run2_31 : Ev.run ⟨Try.prog, Ev.mkTT Try.prog, Ev.mkFT Try.prog, [⟨false, n0, n1, false⟩], Qs, Cs⟩ 100000 3 [Ev.inp .i64 0, .int .i64 31] = some true := by kernel_rfl
set_option maxRecDepth 1000000 in
theorem run2_32 : Ev.run ⟨Try.prog, Ev.mkTT Try.prog, Ev.mkFT Try.prog, [⟨false, n0, n1, false⟩], Qs, Cs⟩ 100000 3 [Ev.inp .i64 0, .int .i64 32] = some true := by kernel_rfl
set_option maxRecDepth 1000000 in
theorem run2_33 : Ev.run ⟨Try.prog, Ev.mkTT Try.prog, Ev.mkFT Try.prog, [⟨false, n0, n1, false⟩], Qs, Cs⟩ 100000 3 [Ev.inp .i64 0, .int .i64 33] = some true := by kernel_rfl
set_option maxRecDepth 1000000 in
theorem run2_34 : Ev.run ⟨Try.prog, Ev.mkTT Try.prog, Ev.mkFT Try.prog, [⟨false, n0, n1, false⟩], Qs, Cs⟩ 100000 3 [Ev.inp .i64 0, .int .i64 34] = some true := by kernel_rfl
set_option maxRecDepth 1000000 in
theorem run2_35 : Ev.run ⟨Try.prog, Ev.mkTT Try.prog, Ev.mkFT Try.prog, [⟨false, n0, n1, false⟩], Qs, Cs⟩ 100000 3 [Ev.inp .i64 0, .int .i64 35] = some true := by kernel_rfl
set_option maxRecDepth 1000000 in
theorem run2_36 : Ev.run ⟨Try.prog, Ev.mkTT Try.prog, Ev.mkFT Try.prog, [⟨false, n0, n1, false⟩], Qs, Cs⟩ 100000 3 [Ev.inp .i64 0, .int .i64 36] = some true := by kernel_rfl
set_option maxRecDepth 1000000 in
theorem run2_37 : Ev.run ⟨Try.prog, Ev.mkTT Try.prog, Ev.mkFT Try.prog, [⟨false, n0, n1, false⟩], Qs, Cs⟩ 100000 3 [Ev.inp .i64 0, .int .i64 37] = some true := by kernel_rfl
set_option maxRecDepth 1000000 in
theorem run2_38 : Ev.run ⟨Try.prog, Ev.mkTT Try.prog, Ev.mkFT Try.prog, [⟨false, n0, n1, false⟩], Qs, Cs⟩ 100000 3 [Ev.inp .i64 0, .int .i64 38] = some true := by kernel_rfl
set_option maxRecDepth 1000000 in
theorem run2_39 : Ev.run ⟨Try.prog, Ev.mkTT Try.prog, Ev.mkFT Try.prog, [⟨false, n0, n1, false⟩], Qs, Cs⟩ 100000 3 [Ev.inp .i64 0, .int .i64 39] = some true := by kernel_rfl
set_option maxRecDepth 1000000 in
theorem run2_40 : Ev.run ⟨Try.prog, Ev.mkTT Try.prog, Ev.mkFT Try.prog, [⟨false, n0, n1, false⟩], Qs, Cs⟩ 100000 3 [Ev.inp .i64 0, .int .i64 40] = some true := by kernel_rfl
set_option maxRecDepth 1000000 in
theorem run2_41 : Ev.run ⟨Try.prog, Ev.mkTT Try.prog, Ev.mkFT Try.prog, [⟨false, n0, n1, false⟩], Qs, Cs⟩ 100000 3 [Ev.inp .i64 0, .int .i64 41] = some true := by kernel_rfl
set_option maxRecDepth 1000000 in
theorem run2_42 : Ev.run ⟨Try.prog, Ev.mkTT Try.prog, Ev.mkFT Try.prog, [⟨false, n0, n1, false⟩], Qs, Cs⟩ 100000 3 [Ev.inp .i64 0, .int .i64 42] = some true := by kernel_rfl
set_option maxRecDepth 1000000 in
theorem run2_43 : Ev.run ⟨Try.prog, Ev.mkTT Try.prog, Ev.mkFT Try.prog, [⟨false, n0, n1, false⟩], Qs, Cs⟩ 100000 3 [Ev.inp .i64 0, .int .i64 43] = some true := by kernel_rfl
set_option maxRecDepth 1000000 in
theorem run2_44 : Ev.run ⟨Try.prog, Ev.mkTT Try.prog, Ev.mkFT Try.prog, [⟨false, n0, n1, false⟩], Qs, Cs⟩ 100000 3 [Ev.inp .i64 0, .int .i64 44] = some true := by kernel_rfl
set_option maxRecDepth 1000000 in
theorem run2_45 : Ev.run ⟨Try.prog, Ev.mkTT Try.prog, Ev.mkFT Try.prog, [⟨false, n0, n1, false⟩], Qs, Cs⟩ 100000 3 [Ev.inp .i64 0, .int .i64 45] = some true := by kernel_rfl
set_option maxRecDepth 1000000 in
theorem run2_46 : Ev.run ⟨Try.prog, Ev.mkTT Try.prog, Ev.mkFT Try.prog, [⟨false, n0, n1, false⟩], Qs, Cs⟩ 100000 3 [Ev.inp .i64 0, .int .i64 46] = some true := by kernel_rfl
set_option maxRecDepth 1000000 in
theorem run2_47 : Ev.run ⟨Try.prog, Ev.mkTT Try.prog, Ev.mkFT Try.prog, [⟨false, n0, n1, false⟩], Qs, Cs⟩ 100000 3 [Ev.inp .i64 0, .int .i64 47] = some true := by kernel_rfl
set_option maxRecDepth 1000000 in
theorem run2_48 : Ev.run ⟨Try.prog, Ev.mkTT Try.prog, Ev.mkFT Try.prog, [⟨false, n0, n1, false⟩], Qs, Cs⟩ 100000 3 [Ev.inp .i64 0, .int .i64 48] = some true := by kernel_rfl
set_option maxRecDepth 1000000 in
theorem run2_49 : Ev.run ⟨Try.prog, Ev.mkTT Try.prog, Ev.mkFT Try.prog, [⟨false, n0, n1, false⟩], Qs, Cs⟩ 100000 3 [Ev.inp .i64 0, .int .i64 49] = some true := by kernel_rfl
set_option maxRecDepth 1000000 in
theorem run2_50 : Ev.run ⟨Try.prog, Ev.mkTT Try.prog, Ev.mkFT Try.prog, [⟨false, n0, n1, false⟩], Qs, Cs⟩ 100000 3 [Ev.inp .i64 0, .int .i64 50] = some true := by kernel_rfl
set_option maxRecDepth 1000000 in
theorem run2_51 : Ev.run ⟨Try.prog, Ev.mkTT Try.prog, Ev.mkFT Try.prog, [⟨false, n0, n1, false⟩], Qs, Cs⟩ 100000 3 [Ev.inp .i64 0, .int .i64 51] = some true := by kernel_rfl
set_option maxRecDepth 1000000 in
theorem run2_52 : Ev.run ⟨Try.prog, Ev.mkTT Try.prog, Ev.mkFT Try.prog, [⟨false, n0, n1, false⟩], Qs, Cs⟩ 100000 3 [Ev.inp .i64 0, .int .i64 52] = some true := by kernel_rfl
set_option maxRecDepth 1000000 in
theorem run2_53 : Ev.run ⟨Try.prog, Ev.mkTT Try.prog, Ev.mkFT Try.prog, [⟨false, n0, n1, false⟩], Qs, Cs⟩ 100000 3 [Ev.inp .i64 0, .int .i64 53] = some true := by kernel_rfl
set_option maxRecDepth 1000000 in
theorem run2_54 : Ev.run ⟨Try.prog, Ev.mkTT Try.prog, Ev.mkFT Try.prog, [⟨false, n0, n1, false⟩], Qs, Cs⟩ 100000 3 [Ev.inp .i64 0, .int .i64 54] = some true := by kernel_rfl
set_option maxRecDepth 1000000 in
theorem run2_55 : Ev.run ⟨Try.prog, Ev.mkTT Try.prog, Ev.mkFT Try.prog, [⟨false, n0, n1, false⟩], Qs, Cs⟩ 100000 3 [Ev.inp .i64 0, .int .i64 55] = some true := by kernel_rfl
set_option maxRecDepth 1000000 in
theorem run2_56 : Ev.run ⟨Try.prog, Ev.mkTT Try.prog, Ev.mkFT Try.prog, [⟨false, n0, n1, false⟩], Qs, Cs⟩ 100000 3 [Ev.inp .i64 0, .int .i64 56] = some true := by kernel_rfl
set_option maxRecDepth 1000000 in
theorem run2_57 : Ev.run ⟨Try.prog, Ev.mkTT Try.prog, Ev.mkFT Try.prog, [⟨false, n0, n1, false⟩], Qs, Cs⟩ 100000 3 [Ev.inp .i64 0, .int .i64 57] = some true := by kernel_rfl
set_option maxRecDepth 1000000 in
theorem run2_58 : Ev.run ⟨Try.prog, Ev.mkTT Try.prog, Ev.mkFT Try.prog, [⟨false, n0, n1, false⟩], Qs, Cs⟩ 100000 3 [Ev.inp .i64 0, .int .i64 58] = some true := by kernel_rfl
set_option maxRecDepth 1000000 in
theorem run2_59 : Ev.run ⟨Try.prog, Ev.mkTT Try.prog, Ev.mkFT Try.prog, [⟨false, n0, n1, false⟩], Qs, Cs⟩ 100000 3 [Ev.inp .i64 0, .int .i64 59] = some true := by kernel_rfl
set_option maxRecDepth 1000000 in
theorem run2_60 : Ev.run ⟨Try.prog, Ev.mkTT Try.prog, Ev.mkFT Try.prog, [⟨false, n0, n1, false⟩], Qs, Cs⟩ 100000 3 [Ev.inp .i64 0, .int .i64 60] = some true := by kernel_rfl
set_option maxRecDepth 1000000 in
theorem run2_61 : Ev.run ⟨Try.prog, Ev.mkTT Try.prog, Ev.mkFT Try.prog, [⟨false, n0, n1, false⟩], Qs, Cs⟩ 100000 3 [Ev.inp .i64 0, .int .i64 61] = some true := by kernel_rfl
set_option maxRecDepth 1000000 in
theorem run2_62 : Ev.run ⟨Try.prog, Ev.mkTT Try.prog, Ev.mkFT Try.prog, [⟨false, n0, n1, false⟩], Qs, Cs⟩ 100000 3 [Ev.inp .i64 0, .int .i64 62] = some true := by kernel_rfl
set_option maxRecDepth 1000000 in
theorem run2_63 : Ev.run ⟨Try.prog, Ev.mkTT Try.prog, Ev.mkFT Try.prog, [⟨false, n0, n1, false⟩], Qs, Cs⟩ 100000 3 [Ev.inp .i64 0, .int .i64 63] = some true := by kernel_rfl
set_option maxRecDepth 1000000 in
theorem run2_64 : Ev.run ⟨Try.prog, Ev.mkTT Try.prog, Ev.mkFT Try.prog, [⟨false, n0, n1, false⟩], Qs, Cs⟩ 100000 3 [Ev.inp .i64 0, .int .i64 64] = some true := by kernel_rfl

end Go.Proofs.Ytknifojinmnkfaa.headerMarksK
