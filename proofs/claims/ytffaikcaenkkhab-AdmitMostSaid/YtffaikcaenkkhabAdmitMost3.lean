/-
  'shunterlaw26.AdmitMost': each way that is left: the evaluator finds it true. No project text.
-/
import Derived.Test.YtffaikcaenkkhabAdmitMost1
namespace Go.Proofs.Ytffaikcaenkkhab.admitMost
open Go.ChangeShapes Go.WideShapes Go.ChangeAt Go.RowKit

set_option maxRecDepth 1000000 in
theorem run0 : Ev.run ⟨Try.prog, Ev.mkTT Try.prog, Ev.mkFT Try.prog, [⟨true, n20, n12, false⟩, ⟨false, n24, n16, false⟩, ⟨false, n22, n8, true⟩, ⟨false, n22, n12, true⟩, ⟨false, n21, n22, true⟩, ⟨false, n20, n1, true⟩, ⟨false, n6, n9, true⟩, ⟨false, n8, n6, true⟩, ⟨false, n1, n8, true⟩, ⟨false, n2, n7, true⟩, ⟨false, n1, n2, true⟩, ⟨true, n0, n1, true⟩], Qs, Cs⟩ 100000 7 [.agg ⟨[Ev.inp .i64 0, Ev.inp .i64 1, Ev.inp .i64 2, Ev.inp .i64 3, Ev.inp .i64 4]⟩, .agg ⟨[Ev.inp .i64 5, Ev.inp .i64 6]⟩] = some true := by kernel_rfl
set_option maxRecDepth 1000000 in
theorem run1 : Ev.run ⟨Try.prog, Ev.mkTT Try.prog, Ev.mkFT Try.prog, [⟨true, n20, n12, false⟩, ⟨false, n22, n8, false⟩, ⟨false, n22, n12, true⟩, ⟨false, n21, n22, true⟩, ⟨false, n20, n1, true⟩, ⟨false, n6, n9, true⟩, ⟨false, n8, n6, true⟩, ⟨false, n1, n8, true⟩, ⟨false, n2, n7, true⟩, ⟨false, n1, n2, true⟩, ⟨true, n0, n1, true⟩], Qs, Cs⟩ 100000 7 [.agg ⟨[Ev.inp .i64 0, Ev.inp .i64 1, Ev.inp .i64 2, Ev.inp .i64 3, Ev.inp .i64 4]⟩, .agg ⟨[Ev.inp .i64 5, Ev.inp .i64 6]⟩] = some true := by kernel_rfl
set_option maxRecDepth 1000000 in
theorem run2 : Ev.run ⟨Try.prog, Ev.mkTT Try.prog, Ev.mkFT Try.prog, [⟨true, n20, n12, false⟩, ⟨false, n24, n16, false⟩, ⟨false, n22, n8, true⟩, ⟨false, n22, n12, true⟩, ⟨false, n21, n22, true⟩, ⟨false, n26, n16, true⟩, ⟨false, n20, n8, true⟩, ⟨false, n20, n12, true⟩, ⟨false, n21, n20, true⟩, ⟨false, n20, n1, false⟩, ⟨false, n6, n9, true⟩, ⟨false, n8, n6, true⟩, ⟨false, n1, n8, true⟩, ⟨false, n2, n7, true⟩, ⟨false, n1, n2, true⟩, ⟨true, n0, n1, true⟩], Qs, Cs⟩ 100000 7 [.agg ⟨[Ev.inp .i64 0, Ev.inp .i64 1, Ev.inp .i64 2, Ev.inp .i64 3, Ev.inp .i64 4]⟩, .agg ⟨[Ev.inp .i64 5, Ev.inp .i64 6]⟩] = some true := by kernel_rfl
set_option maxRecDepth 1000000 in
theorem run3 : Ev.run ⟨Try.prog, Ev.mkTT Try.prog, Ev.mkFT Try.prog, [⟨true, n20, n12, false⟩, ⟨false, n22, n8, false⟩, ⟨false, n22, n12, true⟩, ⟨false, n21, n22, true⟩, ⟨false, n26, n16, true⟩, ⟨false, n20, n8, true⟩, ⟨false, n20, n12, true⟩, ⟨false, n21, n20, true⟩, ⟨false, n20, n1, false⟩, ⟨false, n6, n9, true⟩, ⟨false, n8, n6, true⟩, ⟨false, n1, n8, true⟩, ⟨false, n2, n7, true⟩, ⟨false, n1, n2, true⟩, ⟨true, n0, n1, true⟩], Qs, Cs⟩ 100000 7 [.agg ⟨[Ev.inp .i64 0, Ev.inp .i64 1, Ev.inp .i64 2, Ev.inp .i64 3, Ev.inp .i64 4]⟩, .agg ⟨[Ev.inp .i64 5, Ev.inp .i64 6]⟩] = some true := by kernel_rfl
set_option maxRecDepth 1000000 in
theorem run4 : Ev.run ⟨Try.prog, Ev.mkTT Try.prog, Ev.mkFT Try.prog, [⟨true, n20, n12, true⟩, ⟨false, n22, n12, false⟩, ⟨false, n21, n22, true⟩, ⟨false, n26, n16, true⟩, ⟨false, n20, n8, true⟩, ⟨false, n20, n12, true⟩, ⟨false, n21, n20, true⟩, ⟨false, n20, n1, false⟩, ⟨false, n6, n9, true⟩, ⟨false, n8, n6, true⟩, ⟨false, n1, n8, true⟩, ⟨false, n2, n7, true⟩, ⟨false, n1, n2, true⟩, ⟨true, n0, n1, true⟩], Qs, Cs⟩ 100000 7 [.agg ⟨[Ev.inp .i64 0, Ev.inp .i64 1, Ev.inp .i64 2, Ev.inp .i64 3, Ev.inp .i64 4]⟩, .agg ⟨[Ev.inp .i64 5, Ev.inp .i64 6]⟩] = some true := by kernel_rfl
set_option maxRecDepth 1000000 in
theorem run5 : Ev.run ⟨Try.prog, Ev.mkTT Try.prog, Ev.mkFT Try.prog, [⟨false, n6, n9, false⟩, ⟨false, n8, n6, true⟩, ⟨false, n1, n8, true⟩, ⟨false, n2, n7, true⟩, ⟨false, n1, n2, true⟩, ⟨true, n0, n1, true⟩], Qs, Cs⟩ 100000 7 [.agg ⟨[Ev.inp .i64 0, Ev.inp .i64 1, Ev.inp .i64 2, Ev.inp .i64 3, Ev.inp .i64 4]⟩, .agg ⟨[Ev.inp .i64 5, Ev.inp .i64 6]⟩] = some true := by kernel_rfl
set_option maxRecDepth 1000000 in
theorem run6 : Ev.run ⟨Try.prog, Ev.mkTT Try.prog, Ev.mkFT Try.prog, [⟨false, n8, n6, false⟩, ⟨false, n1, n8, true⟩, ⟨false, n2, n7, true⟩, ⟨false, n1, n2, true⟩, ⟨true, n0, n1, true⟩], Qs, Cs⟩ 100000 7 [.agg ⟨[Ev.inp .i64 0, Ev.inp .i64 1, Ev.inp .i64 2, Ev.inp .i64 3, Ev.inp .i64 4]⟩, .agg ⟨[Ev.inp .i64 5, Ev.inp .i64 6]⟩] = some true := by kernel_rfl
set_option maxRecDepth 1000000 in
theorem run7 : Ev.run ⟨Try.prog, Ev.mkTT Try.prog, Ev.mkFT Try.prog, [⟨false, n1, n8, false⟩, ⟨false, n2, n7, true⟩, ⟨false, n1, n2, true⟩, ⟨true, n0, n1, true⟩], Qs, Cs⟩ 100000 7 [.agg ⟨[Ev.inp .i64 0, Ev.inp .i64 1, Ev.inp .i64 2, Ev.inp .i64 3, Ev.inp .i64 4]⟩, .agg ⟨[Ev.inp .i64 5, Ev.inp .i64 6]⟩] = some true := by kernel_rfl
set_option maxRecDepth 1000000 in
theorem run8 : Ev.run ⟨Try.prog, Ev.mkTT Try.prog, Ev.mkFT Try.prog, [⟨false, n2, n7, false⟩, ⟨false, n1, n2, true⟩, ⟨true, n0, n1, true⟩], Qs, Cs⟩ 100000 7 [.agg ⟨[Ev.inp .i64 0, Ev.inp .i64 1, Ev.inp .i64 2, Ev.inp .i64 3, Ev.inp .i64 4]⟩, .agg ⟨[Ev.inp .i64 5, Ev.inp .i64 6]⟩] = some true := by kernel_rfl
set_option maxRecDepth 1000000 in
theorem run9 : Ev.run ⟨Try.prog, Ev.mkTT Try.prog, Ev.mkFT Try.prog, [⟨false, n1, n2, false⟩, ⟨true, n0, n1, true⟩], Qs, Cs⟩ 100000 7 [.agg ⟨[Ev.inp .i64 0, Ev.inp .i64 1, Ev.inp .i64 2, Ev.inp .i64 3, Ev.inp .i64 4]⟩, .agg ⟨[Ev.inp .i64 5, Ev.inp .i64 6]⟩] = some true := by kernel_rfl
set_option maxRecDepth 1000000 in
theorem run10 : Ev.run ⟨Try.prog, Ev.mkTT Try.prog, Ev.mkFT Try.prog, [⟨true, n0, n1, false⟩], Qs, Cs⟩ 100000 7 [.agg ⟨[Ev.inp .i64 0, Ev.inp .i64 1, Ev.inp .i64 2, Ev.inp .i64 3, Ev.inp .i64 4]⟩, .agg ⟨[Ev.inp .i64 5, Ev.inp .i64 6]⟩] = some true := by kernel_rfl

end Go.Proofs.Ytffaikcaenkkhab.admitMost
