/-
  'shunterlaw04.HeaderMarksA': each way that is left: the evaluator finds it true. No project text.
-/
import Derived.Test.YtknifojinmnkfaaHeaderMarksA1
namespace Go.Proofs.Ytknifojinmnkfaa.headerMarksA
open Go.ChangeShapes Go.WideShapes Go.ChangeAt Go.RowKit

set_option maxRecDepth 1000000 in
theorem run0 : Ev.run ⟨Try.prog, Ev.mkTT Try.prog, Ev.mkFT Try.prog, [⟨true, n10, n13, true⟩, ⟨false, n0, n3, false⟩, ⟨false, n1, n2, true⟩, ⟨false, n0, n1, true⟩], Qs, Cs⟩ 100000 3 [Ev.inp .i64 0, Ev.inp .i64 1] = some true := by kernel_rfl
set_option maxRecDepth 1000000 in
theorem run1 : Ev.run ⟨Try.prog, Ev.mkTT Try.prog, Ev.mkFT Try.prog, [⟨false, n0, n3, false⟩, ⟨false, n1, n2, false⟩, ⟨false, n0, n1, true⟩], Qs, Cs⟩ 100000 3 [Ev.inp .i64 0, Ev.inp .i64 1] = some true := by kernel_rfl
set_option maxRecDepth 1000000 in
theorem run2 : Ev.run ⟨Try.prog, Ev.mkTT Try.prog, Ev.mkFT Try.prog, [⟨false, n0, n3, false⟩, ⟨false, n0, n1, false⟩], Qs, Cs⟩ 100000 3 [Ev.inp .i64 0, Ev.inp .i64 1] = some true := by kernel_rfl

end Go.Proofs.Ytknifojinmnkfaa.headerMarksA
