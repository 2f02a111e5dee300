/-
  'shunterlaw26.CAft': each way that is left: the evaluator finds it true. No project text.
-/
import Derived.Test.YtffaikcaenkkhabCAft1
namespace Go.Proofs.Ytffaikcaenkkhab.cAft
open Go.ChangeShapes Go.WideShapes Go.ChangeAt Go.RowKit

set_option maxRecDepth 1000000 in
theorem run0 : Ev.runV ⟨Try.prog, Ev.mkTT Try.prog, Ev.mkFT Try.prog, [⟨false, n16, n19, true⟩, ⟨false, n11, n8, true⟩, ⟨false, n11, n14, true⟩, ⟨false, n10, n11, true⟩, ⟨false, n6, n9, true⟩, ⟨false, n8, n6, true⟩, ⟨false, n1, n8, true⟩, ⟨false, n2, n7, true⟩, ⟨false, n1, n2, true⟩, ⟨true, n0, n1, true⟩], Qs, Cs, none⟩ 100000 22 [.agg ⟨[Ev.inp .i64 0, Ev.inp .i64 1, Ev.inp .i64 2, Ev.inp .i64 3, Ev.inp .i64 4]⟩, Ev.inp .i64 5, Ev.inp .i64 6, Ev.inp .i64 7] = some (n1) := by kernel_rfl
set_option maxRecDepth 1000000 in
theorem run1 : Ev.runV ⟨Try.prog, Ev.mkTT Try.prog, Ev.mkFT Try.prog, [⟨false, n16, n19, false⟩, ⟨false, n11, n8, true⟩, ⟨false, n11, n14, true⟩, ⟨false, n10, n11, true⟩, ⟨false, n6, n9, true⟩, ⟨false, n8, n6, true⟩, ⟨false, n1, n8, true⟩, ⟨false, n2, n7, true⟩, ⟨false, n1, n2, true⟩, ⟨true, n0, n1, true⟩], Qs, Cs, none⟩ 100000 22 [.agg ⟨[Ev.inp .i64 0, Ev.inp .i64 1, Ev.inp .i64 2, Ev.inp .i64 3, Ev.inp .i64 4]⟩, Ev.inp .i64 5, Ev.inp .i64 6, Ev.inp .i64 7] = some (n20) := by kernel_rfl
set_option maxRecDepth 1000000 in
theorem run2 : Ev.runV ⟨Try.prog, Ev.mkTT Try.prog, Ev.mkFT Try.prog, [⟨false, n11, n8, false⟩, ⟨false, n11, n14, true⟩, ⟨false, n10, n11, true⟩, ⟨false, n6, n9, true⟩, ⟨false, n8, n6, true⟩, ⟨false, n1, n8, true⟩, ⟨false, n2, n7, true⟩, ⟨false, n1, n2, true⟩, ⟨true, n0, n1, true⟩], Qs, Cs, none⟩ 100000 22 [.agg ⟨[Ev.inp .i64 0, Ev.inp .i64 1, Ev.inp .i64 2, Ev.inp .i64 3, Ev.inp .i64 4]⟩, Ev.inp .i64 5, Ev.inp .i64 6, Ev.inp .i64 7] = some (n20) := by kernel_rfl
set_option maxRecDepth 1000000 in
theorem run3 : Ev.runV ⟨Try.prog, Ev.mkTT Try.prog, Ev.mkFT Try.prog, [⟨false, n11, n14, false⟩, ⟨false, n10, n11, true⟩, ⟨false, n6, n9, true⟩, ⟨false, n8, n6, true⟩, ⟨false, n1, n8, true⟩, ⟨false, n2, n7, true⟩, ⟨false, n1, n2, true⟩, ⟨true, n0, n1, true⟩], Qs, Cs, none⟩ 100000 22 [.agg ⟨[Ev.inp .i64 0, Ev.inp .i64 1, Ev.inp .i64 2, Ev.inp .i64 3, Ev.inp .i64 4]⟩, Ev.inp .i64 5, Ev.inp .i64 6, Ev.inp .i64 7] = some (n21) := by kernel_rfl
set_option maxRecDepth 1000000 in
theorem run4 : Ev.runV ⟨Try.prog, Ev.mkTT Try.prog, Ev.mkFT Try.prog, [⟨false, n10, n11, false⟩, ⟨false, n6, n9, true⟩, ⟨false, n8, n6, true⟩, ⟨false, n1, n8, true⟩, ⟨false, n2, n7, true⟩, ⟨false, n1, n2, true⟩, ⟨true, n0, n1, true⟩], Qs, Cs, none⟩ 100000 22 [.agg ⟨[Ev.inp .i64 0, Ev.inp .i64 1, Ev.inp .i64 2, Ev.inp .i64 3, Ev.inp .i64 4]⟩, Ev.inp .i64 5, Ev.inp .i64 6, Ev.inp .i64 7] = some (n22) := by kernel_rfl
set_option maxRecDepth 1000000 in
theorem run5 : Ev.runV ⟨Try.prog, Ev.mkTT Try.prog, Ev.mkFT Try.prog, [⟨false, n6, n9, false⟩, ⟨false, n8, n6, true⟩, ⟨false, n1, n8, true⟩, ⟨false, n2, n7, true⟩, ⟨false, n1, n2, true⟩, ⟨true, n0, n1, true⟩], Qs, Cs, none⟩ 100000 22 [.agg ⟨[Ev.inp .i64 0, Ev.inp .i64 1, Ev.inp .i64 2, Ev.inp .i64 3, Ev.inp .i64 4]⟩, Ev.inp .i64 5, Ev.inp .i64 6, Ev.inp .i64 7] = some (n22) := by kernel_rfl
set_option maxRecDepth 1000000 in
theorem run6 : Ev.runV ⟨Try.prog, Ev.mkTT Try.prog, Ev.mkFT Try.prog, [⟨false, n8, n6, false⟩, ⟨false, n1, n8, true⟩, ⟨false, n2, n7, true⟩, ⟨false, n1, n2, true⟩, ⟨true, n0, n1, true⟩], Qs, Cs, none⟩ 100000 22 [.agg ⟨[Ev.inp .i64 0, Ev.inp .i64 1, Ev.inp .i64 2, Ev.inp .i64 3, Ev.inp .i64 4]⟩, Ev.inp .i64 5, Ev.inp .i64 6, Ev.inp .i64 7] = some (n22) := by kernel_rfl
set_option maxRecDepth 1000000 in
theorem run7 : Ev.runV ⟨Try.prog, Ev.mkTT Try.prog, Ev.mkFT Try.prog, [⟨false, n1, n8, false⟩, ⟨false, n2, n7, true⟩, ⟨false, n1, n2, true⟩, ⟨true, n0, n1, true⟩], Qs, Cs, none⟩ 100000 22 [.agg ⟨[Ev.inp .i64 0, Ev.inp .i64 1, Ev.inp .i64 2, Ev.inp .i64 3, Ev.inp .i64 4]⟩, Ev.inp .i64 5, Ev.inp .i64 6, Ev.inp .i64 7] = some (n22) := by kernel_rfl
set_option maxRecDepth 1000000 in
theorem run8 : Ev.runV ⟨Try.prog, Ev.mkTT Try.prog, Ev.mkFT Try.prog, [⟨false, n2, n7, false⟩, ⟨false, n1, n2, true⟩, ⟨true, n0, n1, true⟩], Qs, Cs, none⟩ 100000 22 [.agg ⟨[Ev.inp .i64 0, Ev.inp .i64 1, Ev.inp .i64 2, Ev.inp .i64 3, Ev.inp .i64 4]⟩, Ev.inp .i64 5, Ev.inp .i64 6, Ev.inp .i64 7] = some (n22) := by kernel_rfl
set_option maxRecDepth 1000000 in
theorem run9 : Ev.runV ⟨Try.prog, Ev.mkTT Try.prog, Ev.mkFT Try.prog, [⟨false, n1, n2, false⟩, ⟨true, n0, n1, true⟩], Qs, Cs, none⟩ 100000 22 [.agg ⟨[Ev.inp .i64 0, Ev.inp .i64 1, Ev.inp .i64 2, Ev.inp .i64 3, Ev.inp .i64 4]⟩, Ev.inp .i64 5, Ev.inp .i64 6, Ev.inp .i64 7] = some (n22) := by kernel_rfl
set_option maxRecDepth 1000000 in
theorem run10 : Ev.runV ⟨Try.prog, Ev.mkTT Try.prog, Ev.mkFT Try.prog, [⟨true, n0, n1, false⟩], Qs, Cs, none⟩ 100000 22 [.agg ⟨[Ev.inp .i64 0, Ev.inp .i64 1, Ev.inp .i64 2, Ev.inp .i64 3, Ev.inp .i64 4]⟩, Ev.inp .i64 5, Ev.inp .i64 6, Ev.inp .i64 7] = some (n0) := by kernel_rfl

end Go.Proofs.Ytffaikcaenkkhab.cAft
