/-
  'shunterlaw04.CPack': each way that is left: the evaluator finds it true. No project text.
-/
import Derived.Test.YtknifojinmnkfaaCPack1
namespace Go.Proofs.Ytknifojinmnkfaa.cPack
open Go.ChangeShapes Go.WideShapes Go.ChangeAt Go.RowKit

set_option maxRecDepth 1000000 in
theorem run0 : Ev.runV ⟨Try.prog, Ev.mkTT Try.prog, Ev.mkFT Try.prog, [⟨false, n3, n1, true⟩, ⟨false, n0, n2, true⟩, ⟨false, n0, n1, true⟩], Qs, Cs⟩ 100000 17 [.agg ⟨[Ev.inp .i64 0, Ev.inp .i64 1]⟩] = some (.tuple ⟨[n4, n5]⟩) := by kernel_rfl
set_option maxRecDepth 1000000 in
theorem run1 : Ev.runV ⟨Try.prog, Ev.mkTT Try.prog, Ev.mkFT Try.prog, [⟨false, n3, n2, true⟩, ⟨false, n3, n1, false⟩, ⟨false, n0, n2, true⟩, ⟨false, n0, n1, true⟩], Qs, Cs⟩ 100000 17 [.agg ⟨[Ev.inp .i64 0, Ev.inp .i64 1]⟩] = some (.tuple ⟨[n4, n5]⟩) := by kernel_rfl
set_option maxRecDepth 1000000 in
theorem run2 : Ev.runV ⟨Try.prog, Ev.mkTT Try.prog, Ev.mkFT Try.prog, [⟨false, n8, n3, true⟩, ⟨false, n3, n2, false⟩, ⟨false, n3, n1, false⟩, ⟨false, n0, n2, true⟩, ⟨false, n0, n1, true⟩], Qs, Cs⟩ 100000 17 [.agg ⟨[Ev.inp .i64 0, Ev.inp .i64 1]⟩] = some (.tuple ⟨[n18, n0]⟩) := by kernel_rfl
set_option maxRecDepth 1000000 in
theorem run3 : Ev.runV ⟨Try.prog, Ev.mkTT Try.prog, Ev.mkFT Try.prog, [⟨false, n8, n3, false⟩, ⟨false, n3, n2, false⟩, ⟨false, n3, n1, false⟩, ⟨false, n0, n2, true⟩, ⟨false, n0, n1, true⟩], Qs, Cs⟩ 100000 17 [.agg ⟨[Ev.inp .i64 0, Ev.inp .i64 1]⟩] = some (.tuple ⟨[n4, n5]⟩) := by kernel_rfl
set_option maxRecDepth 1000000 in
theorem run4 : Ev.runV ⟨Try.prog, Ev.mkTT Try.prog, Ev.mkFT Try.prog, [⟨false, n0, n2, false⟩, ⟨false, n0, n1, true⟩], Qs, Cs⟩ 100000 17 [.agg ⟨[Ev.inp .i64 0, Ev.inp .i64 1]⟩] = some (.tuple ⟨[n4, n19]⟩) := by kernel_rfl
set_option maxRecDepth 1000000 in
theorem run5 : Ev.runV ⟨Try.prog, Ev.mkTT Try.prog, Ev.mkFT Try.prog, [⟨false, n0, n1, false⟩], Qs, Cs⟩ 100000 17 [.agg ⟨[Ev.inp .i64 0, Ev.inp .i64 1]⟩] = some (.tuple ⟨[n4, n19]⟩) := by kernel_rfl

end Go.Proofs.Ytknifojinmnkfaa.cPack
