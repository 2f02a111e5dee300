/-
  'shunterlaw04.CForward': each way that is left: the evaluator finds it true. No project text.
-/
import Derived.Test.YtknifojinmnkfaaCForward1
namespace Go.Proofs.Ytknifojinmnkfaa.cForward
open Go.ChangeShapes Go.WideShapes Go.ChangeAt Go.RowKit

set_option maxRecDepth 1000000 in
theorem run0 : Ev.runV ⟨Try.prog, Ev.mkTT Try.prog, Ev.mkFT Try.prog, [⟨false, n1, n2, true⟩, ⟨false, n0, n1, true⟩], Qs, Cs⟩ 100000 12 [Ev.inp .i64 0] = some (.tuple ⟨[n9, n10]⟩) := by kernel_rfl
set_option maxRecDepth 1000000 in
theorem run1 : Ev.runV ⟨Try.prog, Ev.mkTT Try.prog, Ev.mkFT Try.prog, [⟨false, n1, n2, false⟩, ⟨false, n0, n1, true⟩], Qs, Cs⟩ 100000 12 [Ev.inp .i64 0] = some (.tuple ⟨[n3, n11]⟩) := by kernel_rfl
set_option maxRecDepth 1000000 in
theorem run2 : Ev.runV ⟨Try.prog, Ev.mkTT Try.prog, Ev.mkFT Try.prog, [⟨false, n0, n1, false⟩], Qs, Cs⟩ 100000 12 [Ev.inp .i64 0] = some (.tuple ⟨[n3, n11]⟩) := by kernel_rfl

end Go.Proofs.Ytknifojinmnkfaa.cForward
