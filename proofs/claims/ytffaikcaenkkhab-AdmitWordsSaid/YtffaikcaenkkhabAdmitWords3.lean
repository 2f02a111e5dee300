/-
  'shunterlaw26.AdmitWords': each way that is left: the evaluator finds it true. No project text.
-/
import Derived.Test.YtffaikcaenkkhabAdmitWords1
namespace Go.Proofs.Ytffaikcaenkkhab.admitWords
open Go.ChangeShapes Go.WideShapes Go.ChangeAt Go.RowKit

set_option maxRecDepth 1000000 in
theorem run0 : Ev.run ⟨Try.prog, Ev.mkTT Try.prog, Ev.mkFT Try.prog, [⟨true, n4, n1, false⟩, ⟨true, n1, n22, true⟩, ⟨true, n20, n21, true⟩, ⟨false, n6, n9, true⟩, ⟨false, n8, n6, true⟩, ⟨false, n1, n8, true⟩, ⟨false, n2, n7, true⟩, ⟨false, n1, n2, true⟩, ⟨true, n0, n1, true⟩], Qs, Cs, none⟩ 100000 3 [.agg ⟨[Ev.inp .i64 0, Ev.inp .i64 1, Ev.inp .i64 2, Ev.inp .i64 3, Ev.inp .i64 4]⟩, .agg ⟨[Ev.inp .i64 5, Ev.inp .i64 6]⟩] = some true := by kernel_rfl
set_option maxRecDepth 1000000 in
theorem run1 : Ev.run ⟨Try.prog, Ev.mkTT Try.prog, Ev.mkFT Try.prog, [⟨true, n4, n1, false⟩, ⟨true, n23, n22, true⟩, ⟨true, n1, n21, true⟩, ⟨false, n6, n9, false⟩, ⟨false, n8, n6, true⟩, ⟨false, n1, n8, true⟩, ⟨false, n2, n7, true⟩, ⟨false, n1, n2, true⟩, ⟨true, n0, n1, true⟩], Qs, Cs, none⟩ 100000 3 [.agg ⟨[Ev.inp .i64 0, Ev.inp .i64 1, Ev.inp .i64 2, Ev.inp .i64 3, Ev.inp .i64 4]⟩, .agg ⟨[Ev.inp .i64 5, Ev.inp .i64 6]⟩] = some true := by kernel_rfl
set_option maxRecDepth 1000000 in
theorem run2 : Ev.run ⟨Try.prog, Ev.mkTT Try.prog, Ev.mkFT Try.prog, [⟨true, n4, n1, false⟩, ⟨true, n23, n22, true⟩, ⟨true, n1, n21, true⟩, ⟨false, n8, n6, false⟩, ⟨false, n1, n8, true⟩, ⟨false, n2, n7, true⟩, ⟨false, n1, n2, true⟩, ⟨true, n0, n1, true⟩], Qs, Cs, none⟩ 100000 3 [.agg ⟨[Ev.inp .i64 0, Ev.inp .i64 1, Ev.inp .i64 2, Ev.inp .i64 3, Ev.inp .i64 4]⟩, .agg ⟨[Ev.inp .i64 5, Ev.inp .i64 6]⟩] = some true := by kernel_rfl
set_option maxRecDepth 1000000 in
theorem run3 : Ev.run ⟨Try.prog, Ev.mkTT Try.prog, Ev.mkFT Try.prog, [⟨true, n4, n1, false⟩, ⟨true, n23, n22, true⟩, ⟨true, n1, n21, true⟩, ⟨false, n1, n8, false⟩, ⟨false, n2, n7, true⟩, ⟨false, n1, n2, true⟩, ⟨true, n0, n1, true⟩], Qs, Cs, none⟩ 100000 3 [.agg ⟨[Ev.inp .i64 0, Ev.inp .i64 1, Ev.inp .i64 2, Ev.inp .i64 3, Ev.inp .i64 4]⟩, .agg ⟨[Ev.inp .i64 5, Ev.inp .i64 6]⟩] = some true := by kernel_rfl
set_option maxRecDepth 1000000 in
theorem run4 : Ev.run ⟨Try.prog, Ev.mkTT Try.prog, Ev.mkFT Try.prog, [⟨true, n23, n22, true⟩, ⟨true, n1, n21, true⟩, ⟨false, n2, n7, false⟩, ⟨false, n1, n2, true⟩, ⟨true, n0, n1, true⟩], Qs, Cs, none⟩ 100000 3 [.agg ⟨[Ev.inp .i64 0, Ev.inp .i64 1, Ev.inp .i64 2, Ev.inp .i64 3, Ev.inp .i64 4]⟩, .agg ⟨[Ev.inp .i64 5, Ev.inp .i64 6]⟩] = some true := by kernel_rfl
set_option maxRecDepth 1000000 in
theorem run5 : Ev.run ⟨Try.prog, Ev.mkTT Try.prog, Ev.mkFT Try.prog, [⟨true, n23, n22, true⟩, ⟨true, n1, n21, true⟩, ⟨false, n1, n2, false⟩, ⟨true, n0, n1, true⟩], Qs, Cs, none⟩ 100000 3 [.agg ⟨[Ev.inp .i64 0, Ev.inp .i64 1, Ev.inp .i64 2, Ev.inp .i64 3, Ev.inp .i64 4]⟩, .agg ⟨[Ev.inp .i64 5, Ev.inp .i64 6]⟩] = some true := by kernel_rfl
set_option maxRecDepth 1000000 in
theorem run6 : Ev.run ⟨Try.prog, Ev.mkTT Try.prog, Ev.mkFT Try.prog, [⟨true, n0, n22, true⟩, ⟨true, n1, n21, true⟩, ⟨true, n0, n1, false⟩], Qs, Cs, none⟩ 100000 3 [.agg ⟨[Ev.inp .i64 0, Ev.inp .i64 1, Ev.inp .i64 2, Ev.inp .i64 3, Ev.inp .i64 4]⟩, .agg ⟨[Ev.inp .i64 5, Ev.inp .i64 6]⟩] = some true := by kernel_rfl

end Go.Proofs.Ytffaikcaenkkhab.admitWords
