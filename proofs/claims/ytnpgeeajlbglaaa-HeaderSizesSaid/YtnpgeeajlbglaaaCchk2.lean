/-
  'shunterconfig.Cchk': each way that is left: the evaluator finds it true. No project text.
-/
import Derived.Test.YtnpgeeajlbglaaaCchk1
namespace Go.Proofs.Ytnpgeeajlbglaaa.cchk
open Go.ChangeShapes Go.WideShapes Go.ChangeAt Go.RowKit

set_option maxRecDepth 1000000 in
theorem run0 : Ev.runV ⟨Try.prog, Ev.mkTT Try.prog, Ev.mkFT Try.prog, [⟨true, n22, n18, true⟩, ⟨true, n17, n14, true⟩, ⟨true, n13, n10, true⟩, ⟨true, n9, n5, true⟩, ⟨true, n4, n0, true⟩], Qs, Cs, none⟩ 100000 78 [.agg ⟨[Ev.inp .i64 0, Ev.inp .i64 1, Ev.inp .i64 2, Ev.inp .i64 3, Ev.inp .i64 4]⟩] = some (n23) := by kernel_rfl
set_option maxRecDepth 1000000 in
theorem run1 : Ev.runV ⟨Try.prog, Ev.mkTT Try.prog, Ev.mkFT Try.prog, [⟨true, n22, n18, false⟩, ⟨true, n17, n14, true⟩, ⟨true, n13, n10, true⟩, ⟨true, n9, n5, true⟩, ⟨true, n4, n0, true⟩], Qs, Cs, none⟩ 100000 78 [.agg ⟨[Ev.inp .i64 0, Ev.inp .i64 1, Ev.inp .i64 2, Ev.inp .i64 3, Ev.inp .i64 4]⟩] = some (n6) := by kernel_rfl
set_option maxRecDepth 1000000 in
theorem run2 : Ev.runV ⟨Try.prog, Ev.mkTT Try.prog, Ev.mkFT Try.prog, [⟨true, n22, n18, true⟩, ⟨true, n17, n14, false⟩, ⟨true, n13, n10, true⟩, ⟨true, n9, n5, true⟩, ⟨true, n4, n0, true⟩], Qs, Cs, none⟩ 100000 78 [.agg ⟨[Ev.inp .i64 0, Ev.inp .i64 1, Ev.inp .i64 2, Ev.inp .i64 3, Ev.inp .i64 4]⟩] = some (n6) := by kernel_rfl
set_option maxRecDepth 1000000 in
theorem run3 : Ev.runV ⟨Try.prog, Ev.mkTT Try.prog, Ev.mkFT Try.prog, [⟨true, n22, n18, false⟩, ⟨true, n17, n14, false⟩, ⟨true, n13, n10, true⟩, ⟨true, n9, n5, true⟩, ⟨true, n4, n0, true⟩], Qs, Cs, none⟩ 100000 78 [.agg ⟨[Ev.inp .i64 0, Ev.inp .i64 1, Ev.inp .i64 2, Ev.inp .i64 3, Ev.inp .i64 4]⟩] = some (n6) := by kernel_rfl
set_option maxRecDepth 1000000 in
theorem run4 : Ev.runV ⟨Try.prog, Ev.mkTT Try.prog, Ev.mkFT Try.prog, [⟨true, n22, n18, true⟩, ⟨true, n17, n14, true⟩, ⟨true, n13, n10, false⟩, ⟨true, n9, n5, true⟩, ⟨true, n4, n0, true⟩], Qs, Cs, none⟩ 100000 78 [.agg ⟨[Ev.inp .i64 0, Ev.inp .i64 1, Ev.inp .i64 2, Ev.inp .i64 3, Ev.inp .i64 4]⟩] = some (n6) := by kernel_rfl
set_option maxRecDepth 1000000 in
theorem run5 : Ev.runV ⟨Try.prog, Ev.mkTT Try.prog, Ev.mkFT Try.prog, [⟨true, n22, n18, false⟩, ⟨true, n17, n14, true⟩, ⟨true, n13, n10, false⟩, ⟨true, n9, n5, true⟩, ⟨true, n4, n0, true⟩], Qs, Cs, none⟩ 100000 78 [.agg ⟨[Ev.inp .i64 0, Ev.inp .i64 1, Ev.inp .i64 2, Ev.inp .i64 3, Ev.inp .i64 4]⟩] = some (n6) := by kernel_rfl
set_option maxRecDepth 1000000 in
theorem run6 : Ev.runV ⟨Try.prog, Ev.mkTT Try.prog, Ev.mkFT Try.prog, [⟨true, n22, n18, true⟩, ⟨true, n17, n14, false⟩, ⟨true, n13, n10, false⟩, ⟨true, n9, n5, true⟩, ⟨true, n4, n0, true⟩], Qs, Cs, none⟩ 100000 78 [.agg ⟨[Ev.inp .i64 0, Ev.inp .i64 1, Ev.inp .i64 2, Ev.inp .i64 3, Ev.inp .i64 4]⟩] = some (n6) := by kernel_rfl
set_option maxRecDepth 1000000 in
theorem run7 : Ev.runV ⟨Try.prog, Ev.mkTT Try.prog, Ev.mkFT Try.prog, [⟨true, n22, n18, false⟩, ⟨true, n17, n14, false⟩, ⟨true, n13, n10, false⟩, ⟨true, n9, n5, true⟩, ⟨true, n4, n0, true⟩], Qs, Cs, none⟩ 100000 78 [.agg ⟨[Ev.inp .i64 0, Ev.inp .i64 1, Ev.inp .i64 2, Ev.inp .i64 3, Ev.inp .i64 4]⟩] = some (n6) := by kernel_rfl
set_option maxRecDepth 1000000 in
theorem run8 : Ev.runV ⟨Try.prog, Ev.mkTT Try.prog, Ev.mkFT Try.prog, [⟨true, n22, n18, true⟩, ⟨true, n17, n14, true⟩, ⟨true, n13, n10, true⟩, ⟨true, n9, n5, false⟩, ⟨true, n4, n0, true⟩], Qs, Cs, none⟩ 100000 78 [.agg ⟨[Ev.inp .i64 0, Ev.inp .i64 1, Ev.inp .i64 2, Ev.inp .i64 3, Ev.inp .i64 4]⟩] = some (n6) := by kernel_rfl
set_option maxRecDepth 1000000 in
theorem run9 : Ev.runV ⟨Try.prog, Ev.mkTT Try.prog, Ev.mkFT Try.prog, [⟨true, n22, n18, false⟩, ⟨true, n17, n14, true⟩, ⟨true, n13, n10, true⟩, ⟨true, n9, n5, false⟩, ⟨true, n4, n0, true⟩], Qs, Cs, none⟩ 100000 78 [.agg ⟨[Ev.inp .i64 0, Ev.inp .i64 1, Ev.inp .i64 2, Ev.inp .i64 3, Ev.inp .i64 4]⟩] = some (n6) := by kernel_rfl
set_option maxRecDepth 1000000 in
theorem run10 : Ev.runV ⟨Try.prog, Ev.mkTT Try.prog, Ev.mkFT Try.prog, [⟨true, n22, n18, true⟩, ⟨true, n17, n14, false⟩, ⟨true, n13, n10, true⟩, ⟨true, n9, n5, false⟩, ⟨true, n4, n0, true⟩], Qs, Cs, none⟩ 100000 78 [.agg ⟨[Ev.inp .i64 0, Ev.inp .i64 1, Ev.inp .i64 2, Ev.inp .i64 3, Ev.inp .i64 4]⟩] = some (n6) := by kernel_rfl
set_option maxRecDepth 1000000 in
theorem run11 : Ev.runV ⟨Try.prog, Ev.mkTT Try.prog, Ev.mkFT Try.prog, [⟨true, n22, n18, false⟩, ⟨true, n17, n14, false⟩, ⟨true, n13, n10, true⟩, ⟨true, n9, n5, false⟩, ⟨true, n4, n0, true⟩], Qs, Cs, none⟩ 100000 78 [.agg ⟨[Ev.inp .i64 0, Ev.inp .i64 1, Ev.inp .i64 2, Ev.inp .i64 3, Ev.inp .i64 4]⟩] = some (n6) := by kernel_rfl
set_option maxRecDepth 1000000 in
theorem run12 : Ev.runV ⟨Try.prog, Ev.mkTT Try.prog, Ev.mkFT Try.prog, [⟨true, n22, n18, true⟩, ⟨true, n17, n14, true⟩, ⟨true, n13, n10, false⟩, ⟨true, n9, n5, false⟩, ⟨true, n4, n0, true⟩], Qs, Cs, none⟩ 100000 78 [.agg ⟨[Ev.inp .i64 0, Ev.inp .i64 1, Ev.inp .i64 2, Ev.inp .i64 3, Ev.inp .i64 4]⟩] = some (n6) := by kernel_rfl
set_option maxRecDepth 1000000 in
theorem run13 : Ev.runV ⟨Try.prog, Ev.mkTT Try.prog, Ev.mkFT Try.prog, [⟨true, n22, n18, false⟩, ⟨true, n17, n14, true⟩, ⟨true, n13, n10, false⟩, ⟨true, n9, n5, false⟩, ⟨true, n4, n0, true⟩], Qs, Cs, none⟩ 100000 78 [.agg ⟨[Ev.inp .i64 0, Ev.inp .i64 1, Ev.inp .i64 2, Ev.inp .i64 3, Ev.inp .i64 4]⟩] = some (n6) := by kernel_rfl
set_option maxRecDepth 1000000 in
theorem run14 : Ev.runV ⟨Try.prog, Ev.mkTT Try.prog, Ev.mkFT Try.prog, [⟨true, n22, n18, true⟩, ⟨true, n17, n14, false⟩, ⟨true, n13, n10, false⟩, ⟨true, n9, n5, false⟩, ⟨true, n4, n0, true⟩], Qs, Cs, none⟩ 100000 78 [.agg ⟨[Ev.inp .i64 0, Ev.inp .i64 1, Ev.inp .i64 2, Ev.inp .i64 3, Ev.inp .i64 4]⟩] = some (n6) := by kernel_rfl
set_option maxRecDepth 1000000 in
theorem run15 : Ev.runV ⟨Try.prog, Ev.mkTT Try.prog, Ev.mkFT Try.prog, [⟨true, n22, n18, false⟩, ⟨true, n17, n14, false⟩, ⟨true, n13, n10, false⟩, ⟨true, n9, n5, false⟩, ⟨true, n4, n0, true⟩], Qs, Cs, none⟩ 100000 78 [.agg ⟨[Ev.inp .i64 0, Ev.inp .i64 1, Ev.inp .i64 2, Ev.inp .i64 3, Ev.inp .i64 4]⟩] = some (n6) := by kernel_rfl
set_option maxRecDepth 1000000 in
theorem run16 : Ev.runV ⟨Try.prog, Ev.mkTT Try.prog, Ev.mkFT Try.prog, [⟨true, n22, n18, true⟩, ⟨true, n17, n14, true⟩, ⟨true, n13, n10, true⟩, ⟨true, n9, n5, true⟩, ⟨true, n4, n0, false⟩], Qs, Cs, none⟩ 100000 78 [.agg ⟨[Ev.inp .i64 0, Ev.inp .i64 1, Ev.inp .i64 2, Ev.inp .i64 3, Ev.inp .i64 4]⟩] = some (n6) := by kernel_rfl
set_option maxRecDepth 1000000 in
theorem run17 : Ev.runV ⟨Try.prog, Ev.mkTT Try.prog, Ev.mkFT Try.prog, [⟨true, n22, n18, false⟩, ⟨true, n17, n14, true⟩, ⟨true, n13, n10, true⟩, ⟨true, n9, n5, true⟩, ⟨true, n4, n0, false⟩], Qs, Cs, none⟩ 100000 78 [.agg ⟨[Ev.inp .i64 0, Ev.inp .i64 1, Ev.inp .i64 2, Ev.inp .i64 3, Ev.inp .i64 4]⟩] = some (n6) := by kernel_rfl
set_option maxRecDepth 1000000 in
theorem run18 : Ev.runV ⟨Try.prog, Ev.mkTT Try.prog, Ev.mkFT Try.prog, [⟨true, n22, n18, true⟩, ⟨true, n17, n14, false⟩, ⟨true, n13, n10, true⟩, ⟨true, n9, n5, true⟩, ⟨true, n4, n0, false⟩], Qs, Cs, none⟩ 100000 78 [.agg ⟨[Ev.inp .i64 0, Ev.inp .i64 1, Ev.inp .i64 2, Ev.inp .i64 3, Ev.inp .i64 4]⟩] = some (n6) := by kernel_rfl
set_option maxRecDepth 1000000 in
theorem run19 : Ev.runV ⟨Try.prog, Ev.mkTT Try.prog, Ev.mkFT Try.prog, [⟨true, n22, n18, false⟩, ⟨true, n17, n14, false⟩, ⟨true, n13, n10, true⟩, ⟨true, n9, n5, true⟩, ⟨true, n4, n0, false⟩], Qs, Cs, none⟩ 100000 78 [.agg ⟨[Ev.inp .i64 0, Ev.inp .i64 1, Ev.inp .i64 2, Ev.inp .i64 3, Ev.inp .i64 4]⟩] = some (n6) := by kernel_rfl
set_option maxRecDepth 1000000 in
theorem run20 : Ev.runV ⟨Try.prog, Ev.mkTT Try.prog, Ev.mkFT Try.prog, [⟨true, n22, n18, true⟩, ⟨true, n17, n14, true⟩, ⟨true, n13, n10, false⟩, ⟨true, n9, n5, true⟩, ⟨true, n4, n0, false⟩], Qs, Cs, none⟩ 100000 78 [.agg ⟨[Ev.inp .i64 0, Ev.inp .i64 1, Ev.inp .i64 2, Ev.inp .i64 3, Ev.inp .i64 4]⟩] = some (n6) := by kernel_rfl
set_option maxRecDepth 1000000 in
theorem run21 : Ev.runV ⟨Try.prog, Ev.mkTT Try.prog, Ev.mkFT Try.prog, [⟨true, n22, n18, false⟩, ⟨true, n17, n14, true⟩, ⟨true, n13, n10, false⟩, ⟨true, n9, n5, true⟩, ⟨true, n4, n0, false⟩], Qs, Cs, none⟩ 100000 78 [.agg ⟨[Ev.inp .i64 0, Ev.inp .i64 1, Ev.inp .i64 2, Ev.inp .i64 3, Ev.inp .i64 4]⟩] = some (n6) := by kernel_rfl
set_option maxRecDepth 1000000 in
theorem run22 : Ev.runV ⟨Try.prog, Ev.mkTT Try.prog, Ev.mkFT Try.prog, [⟨true, n22, n18, true⟩, ⟨true, n17, n14, false⟩, ⟨true, n13, n10, false⟩, ⟨true, n9, n5, true⟩, ⟨true, n4, n0, false⟩], Qs, Cs, none⟩ 100000 78 [.agg ⟨[Ev.inp .i64 0, Ev.inp .i64 1, Ev.inp .i64 2, Ev.inp .i64 3, Ev.inp .i64 4]⟩] = some (n6) := by kernel_rfl
set_option maxRecDepth 1000000 in
theorem run23 : Ev.runV ⟨Try.prog, Ev.mkTT Try.prog, Ev.mkFT Try.prog, [⟨true, n22, n18, false⟩, ⟨true, n17, n14, false⟩, ⟨true, n13, n10, false⟩, ⟨true, n9, n5, true⟩, ⟨true, n4, n0, false⟩], Qs, Cs, none⟩ 100000 78 [.agg ⟨[Ev.inp .i64 0, Ev.inp .i64 1, Ev.inp .i64 2, Ev.inp .i64 3, Ev.inp .i64 4]⟩] = some (n6) := by kernel_rfl
set_option maxRecDepth 1000000 in
theorem run24 : Ev.runV ⟨Try.prog, Ev.mkTT Try.prog, Ev.mkFT Try.prog, [⟨true, n22, n18, true⟩, ⟨true, n17, n14, true⟩, ⟨true, n13, n10, true⟩, ⟨true, n9, n5, false⟩, ⟨true, n4, n0, false⟩], Qs, Cs, none⟩ 100000 78 [.agg ⟨[Ev.inp .i64 0, Ev.inp .i64 1, Ev.inp .i64 2, Ev.inp .i64 3, Ev.inp .i64 4]⟩] = some (n6) := by kernel_rfl
set_option maxRecDepth 1000000 in
theorem run25 : Ev.runV ⟨Try.prog, Ev.mkTT Try.prog, Ev.mkFT Try.prog, [⟨true, n22, n18, false⟩, ⟨true, n17, n14, true⟩, ⟨true, n13, n10, true⟩, ⟨true, n9, n5, false⟩, ⟨true, n4, n0, false⟩], Qs, Cs, none⟩ 100000 78 [.agg ⟨[Ev.inp .i64 0, Ev.inp .i64 1, Ev.inp .i64 2, Ev.inp .i64 3, Ev.inp .i64 4]⟩] = some (n6) := by kernel_rfl
set_option maxRecDepth 1000000 in
theorem run26 : Ev.runV ⟨Try.prog, Ev.mkTT Try.prog, Ev.mkFT Try.prog, [⟨true, n22, n18, true⟩, ⟨true, n17, n14, false⟩, ⟨true, n13, n10, true⟩, ⟨true, n9, n5, false⟩, ⟨true, n4, n0, false⟩], Qs, Cs, none⟩ 100000 78 [.agg ⟨[Ev.inp .i64 0, Ev.inp .i64 1, Ev.inp .i64 2, Ev.inp .i64 3, Ev.inp .i64 4]⟩] = some (n6) := by kernel_rfl
set_option maxRecDepth 1000000 in
theorem run27 : Ev.runV ⟨Try.prog, Ev.mkTT Try.prog, Ev.mkFT Try.prog, [⟨true, n22, n18, false⟩, ⟨true, n17, n14, false⟩, ⟨true, n13, n10, true⟩, ⟨true, n9, n5, false⟩, ⟨true, n4, n0, false⟩], Qs, Cs, none⟩ 100000 78 [.agg ⟨[Ev.inp .i64 0, Ev.inp .i64 1, Ev.inp .i64 2, Ev.inp .i64 3, Ev.inp .i64 4]⟩] = some (n6) := by kernel_rfl
set_option maxRecDepth 1000000 in
theorem run28 : Ev.runV ⟨Try.prog, Ev.mkTT Try.prog, Ev.mkFT Try.prog, [⟨true, n22, n18, true⟩, ⟨true, n17, n14, true⟩, ⟨true, n13, n10, false⟩, ⟨true, n9, n5, false⟩, ⟨true, n4, n0, false⟩], Qs, Cs, none⟩ 100000 78 [.agg ⟨[Ev.inp .i64 0, Ev.inp .i64 1, Ev.inp .i64 2, Ev.inp .i64 3, Ev.inp .i64 4]⟩] = some (n6) := by kernel_rfl
set_option maxRecDepth 1000000 in
theorem run29 : Ev.runV ⟨Try.prog, Ev.mkTT Try.prog, Ev.mkFT Try.prog, [⟨true, n22, n18, false⟩, ⟨true, n17, n14, true⟩, ⟨true, n13, n10, false⟩, ⟨true, n9, n5, false⟩, ⟨true, n4, n0, false⟩], Qs, Cs, none⟩ 100000 78 [.agg ⟨[Ev.inp .i64 0, Ev.inp .i64 1, Ev.inp .i64 2, Ev.inp .i64 3, Ev.inp .i64 4]⟩] = some (n6) := by kernel_rfl
set_option maxRecDepth 1000000 in
theorem run30 : Ev.runV ⟨Try.prog, Ev.mkTT Try.prog, Ev.mkFT Try.prog, [⟨true, n22, n18, true⟩, ⟨true, n17, n14, false⟩, ⟨true, n13, n10, false⟩, ⟨true, n9, n5, false⟩, ⟨true, n4, n0, false⟩], Qs, Cs, none⟩ 100000 78 [.agg ⟨[Ev.inp .i64 0, Ev.inp .i64 1, Ev.inp .i64 2, Ev.inp .i64 3, Ev.inp .i64 4]⟩] = some (n6) := by kernel_rfl
set_option maxRecDepth 1000000 in
theorem run31 : Ev.runV ⟨Try.prog, Ev.mkTT Try.prog, Ev.mkFT Try.prog, [⟨true, n22, n18, false⟩, ⟨true, n17, n14, false⟩, ⟨true, n13, n10, false⟩, ⟨true, n9, n5, false⟩, ⟨true, n4, n0, false⟩], Qs, Cs, none⟩ 100000 78 [.agg ⟨[Ev.inp .i64 0, Ev.inp .i64 1, Ev.inp .i64 2, Ev.inp .i64 3, Ev.inp .i64 4]⟩] = some (n6) := by kernel_rfl

end Go.Proofs.Ytnpgeeajlbglaaa.cchk
