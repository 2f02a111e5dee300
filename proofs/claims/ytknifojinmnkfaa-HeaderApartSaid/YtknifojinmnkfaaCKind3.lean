/-
  'shunterlaw04.CKind': each way that is left: the evaluator finds it true. No project text.
-/
import Derived.Test.YtknifojinmnkfaaCKind1
namespace Go.Proofs.Ytknifojinmnkfaa.cKind
open Go.ChangeShapes Go.WideShapes Go.ChangeAt Go.RowKit

set_option maxRecDepth 1000000 in
theorem run0 : Ev.runV ⟨Try.prog, Ev.mkTT Try.prog, Ev.mkFT Try.prog, [⟨true, n2, n7, false⟩, ⟨false, n4, n6, true⟩, ⟨true, n2, n3, true⟩], Qs, Cs⟩ 100000 19 [Ev.inp .u64 0] = some (n8) := by kernel_rfl
set_option maxRecDepth 1000000 in
theorem run1 : Ev.runV ⟨Try.prog, Ev.mkTT Try.prog, Ev.mkFT Try.prog, [⟨true, n2, n7, false⟩, ⟨false, n14, n12, true⟩, ⟨false, n8, n13, true⟩, ⟨false, n8, n12, true⟩, ⟨false, n4, n6, false⟩, ⟨true, n2, n3, true⟩], Qs, Cs⟩ 100000 19 [Ev.inp .u64 0] = some (n8) := by kernel_rfl
set_option maxRecDepth 1000000 in
theorem run2 : Ev.runV ⟨Try.prog, Ev.mkTT Try.prog, Ev.mkFT Try.prog, [⟨false, n17, n14, true⟩, ⟨false, n14, n13, false⟩, ⟨false, n14, n12, false⟩, ⟨false, n8, n13, true⟩, ⟨false, n8, n12, true⟩, ⟨false, n4, n6, false⟩, ⟨true, n2, n3, true⟩], Qs, Cs⟩ 100000 19 [Ev.inp .u64 0] = some (n15) := by kernel_rfl
set_option maxRecDepth 1000000 in
theorem run3 : Ev.runV ⟨Try.prog, Ev.mkTT Try.prog, Ev.mkFT Try.prog, [⟨true, n2, n7, false⟩, ⟨false, n17, n14, false⟩, ⟨false, n14, n13, false⟩, ⟨false, n14, n12, false⟩, ⟨false, n8, n13, true⟩, ⟨false, n8, n12, true⟩, ⟨false, n4, n6, false⟩, ⟨true, n2, n3, true⟩], Qs, Cs⟩ 100000 19 [Ev.inp .u64 0] = some (n8) := by kernel_rfl
set_option maxRecDepth 1000000 in
theorem run4 : Ev.runV ⟨Try.prog, Ev.mkTT Try.prog, Ev.mkFT Try.prog, [⟨false, n10, n18, true⟩, ⟨false, n3, n10, true⟩, ⟨true, n2, n7, true⟩, ⟨true, n2, n3, false⟩], Qs, Cs⟩ 100000 19 [Ev.inp .u64 0] = some (n19) := by kernel_rfl
set_option maxRecDepth 1000000 in
theorem run5 : Ev.runV ⟨Try.prog, Ev.mkTT Try.prog, Ev.mkFT Try.prog, [⟨false, n10, n18, false⟩, ⟨false, n3, n10, true⟩, ⟨true, n2, n7, true⟩, ⟨true, n2, n3, false⟩], Qs, Cs⟩ 100000 19 [Ev.inp .u64 0] = some (n8) := by kernel_rfl
set_option maxRecDepth 1000000 in
theorem run6 : Ev.runV ⟨Try.prog, Ev.mkTT Try.prog, Ev.mkFT Try.prog, [⟨false, n3, n10, false⟩, ⟨true, n2, n7, true⟩, ⟨true, n2, n3, false⟩], Qs, Cs⟩ 100000 19 [Ev.inp .u64 0] = some (n8) := by kernel_rfl
set_option maxRecDepth 1000000 in
theorem run7 : Ev.runV ⟨Try.prog, Ev.mkTT Try.prog, Ev.mkFT Try.prog, [⟨true, n2, n7, false⟩, ⟨true, n2, n3, false⟩], Qs, Cs⟩ 100000 19 [Ev.inp .u64 0] = some (n8) := by kernel_rfl

end Go.Proofs.Ytknifojinmnkfaa.cKind
