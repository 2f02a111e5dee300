/-
  'shunterlaw26.W31': each way that is left: the evaluator finds it true. No project text.
-/
import Derived.Test.YtffaikcaenkkhabW311
namespace Go.Proofs.Ytffaikcaenkkhab.w31
open Go.ChangeShapes Go.WideShapes Go.ChangeAt Go.RowKit

set_option maxRecDepth 1000000 in
theorem run0 : Ev.runV ⟨Try.prog, Ev.mkTT Try.prog, Ev.mkFT Try.prog, [⟨false, n7, n18, true⟩, ⟨false, n17, n7, true⟩, ⟨false, n13, n17, true⟩, ⟨false, n14, n16, true⟩, ⟨false, n13, n14, true⟩, ⟨false, n11, n12, true⟩, ⟨false, n10, n11, true⟩, ⟨false, n9, n0, true⟩, ⟨false, n8, n9, true⟩, ⟨false, n7, n2, true⟩, ⟨false, n6, n7, true⟩, ⟨false, n4, n5, true⟩, ⟨false, n3, n4, true⟩, ⟨false, n1, n2, true⟩, ⟨false, n0, n1, true⟩], Qs, Cs, none⟩ 100000 31 [.agg ⟨[Ev.inp .i64 0, Ev.inp .i64 1, Ev.inp .i64 2, Ev.inp .i64 3, Ev.inp .i64 4]⟩, Ev.inp .i64 5, Ev.inp .i64 6] = some (n13) := by kernel_rfl
set_option maxRecDepth 1000000 in
theorem run1 : Ev.runV ⟨Try.prog, Ev.mkTT Try.prog, Ev.mkFT Try.prog, [⟨false, n7, n18, false⟩, ⟨false, n17, n7, true⟩, ⟨false, n13, n17, true⟩, ⟨false, n14, n16, true⟩, ⟨false, n13, n14, true⟩, ⟨false, n11, n12, true⟩, ⟨false, n10, n11, true⟩, ⟨false, n9, n0, true⟩, ⟨false, n8, n9, true⟩, ⟨false, n7, n2, true⟩, ⟨false, n6, n7, true⟩, ⟨false, n4, n5, true⟩, ⟨false, n3, n4, true⟩, ⟨false, n1, n2, true⟩, ⟨false, n0, n1, true⟩], Qs, Cs, none⟩ 100000 31 [.agg ⟨[Ev.inp .i64 0, Ev.inp .i64 1, Ev.inp .i64 2, Ev.inp .i64 3, Ev.inp .i64 4]⟩, Ev.inp .i64 5, Ev.inp .i64 6] = some (n3) := by kernel_rfl
set_option maxRecDepth 1000000 in
theorem run2 : Ev.runV ⟨Try.prog, Ev.mkTT Try.prog, Ev.mkFT Try.prog, [⟨false, n17, n7, false⟩, ⟨false, n13, n17, true⟩, ⟨false, n14, n16, true⟩, ⟨false, n13, n14, true⟩, ⟨false, n11, n12, true⟩, ⟨false, n10, n11, true⟩, ⟨false, n9, n0, true⟩, ⟨false, n8, n9, true⟩, ⟨false, n7, n2, true⟩, ⟨false, n6, n7, true⟩, ⟨false, n4, n5, true⟩, ⟨false, n3, n4, true⟩, ⟨false, n1, n2, true⟩, ⟨false, n0, n1, true⟩], Qs, Cs, none⟩ 100000 31 [.agg ⟨[Ev.inp .i64 0, Ev.inp .i64 1, Ev.inp .i64 2, Ev.inp .i64 3, Ev.inp .i64 4]⟩, Ev.inp .i64 5, Ev.inp .i64 6] = some (n3) := by kernel_rfl
set_option maxRecDepth 1000000 in
theorem run3 : Ev.runV ⟨Try.prog, Ev.mkTT Try.prog, Ev.mkFT Try.prog, [⟨false, n13, n17, false⟩, ⟨false, n14, n16, true⟩, ⟨false, n13, n14, true⟩, ⟨false, n11, n12, true⟩, ⟨false, n10, n11, true⟩, ⟨false, n9, n0, true⟩, ⟨false, n8, n9, true⟩, ⟨false, n7, n2, true⟩, ⟨false, n6, n7, true⟩, ⟨false, n4, n5, true⟩, ⟨false, n3, n4, true⟩, ⟨false, n1, n2, true⟩, ⟨false, n0, n1, true⟩], Qs, Cs, none⟩ 100000 31 [.agg ⟨[Ev.inp .i64 0, Ev.inp .i64 1, Ev.inp .i64 2, Ev.inp .i64 3, Ev.inp .i64 4]⟩, Ev.inp .i64 5, Ev.inp .i64 6] = some (n3) := by kernel_rfl
set_option maxRecDepth 1000000 in
theorem run4 : Ev.runV ⟨Try.prog, Ev.mkTT Try.prog, Ev.mkFT Try.prog, [⟨false, n14, n16, false⟩, ⟨false, n13, n14, true⟩, ⟨false, n11, n12, true⟩, ⟨false, n10, n11, true⟩, ⟨false, n9, n0, true⟩, ⟨false, n8, n9, true⟩, ⟨false, n7, n2, true⟩, ⟨false, n6, n7, true⟩, ⟨false, n4, n5, true⟩, ⟨false, n3, n4, true⟩, ⟨false, n1, n2, true⟩, ⟨false, n0, n1, true⟩], Qs, Cs, none⟩ 100000 31 [.agg ⟨[Ev.inp .i64 0, Ev.inp .i64 1, Ev.inp .i64 2, Ev.inp .i64 3, Ev.inp .i64 4]⟩, Ev.inp .i64 5, Ev.inp .i64 6] = some (n3) := by kernel_rfl
set_option maxRecDepth 1000000 in
theorem run5 : Ev.runV ⟨Try.prog, Ev.mkTT Try.prog, Ev.mkFT Try.prog, [⟨false, n13, n14, false⟩, ⟨false, n11, n12, true⟩, ⟨false, n10, n11, true⟩, ⟨false, n9, n0, true⟩, ⟨false, n8, n9, true⟩, ⟨false, n7, n2, true⟩, ⟨false, n6, n7, true⟩, ⟨false, n4, n5, true⟩, ⟨false, n3, n4, true⟩, ⟨false, n1, n2, true⟩, ⟨false, n0, n1, true⟩], Qs, Cs, none⟩ 100000 31 [.agg ⟨[Ev.inp .i64 0, Ev.inp .i64 1, Ev.inp .i64 2, Ev.inp .i64 3, Ev.inp .i64 4]⟩, Ev.inp .i64 5, Ev.inp .i64 6] = some (n3) := by kernel_rfl
set_option maxRecDepth 1000000 in
theorem run6 : Ev.runV ⟨Try.prog, Ev.mkTT Try.prog, Ev.mkFT Try.prog, [⟨false, n11, n12, false⟩, ⟨false, n10, n11, true⟩, ⟨false, n9, n0, true⟩, ⟨false, n8, n9, true⟩, ⟨false, n7, n2, true⟩, ⟨false, n6, n7, true⟩, ⟨false, n4, n5, true⟩, ⟨false, n3, n4, true⟩, ⟨false, n1, n2, true⟩, ⟨false, n0, n1, true⟩], Qs, Cs, none⟩ 100000 31 [.agg ⟨[Ev.inp .i64 0, Ev.inp .i64 1, Ev.inp .i64 2, Ev.inp .i64 3, Ev.inp .i64 4]⟩, Ev.inp .i64 5, Ev.inp .i64 6] = some (n3) := by kernel_rfl
set_option maxRecDepth 1000000 in
theorem run7 : Ev.runV ⟨Try.prog, Ev.mkTT Try.prog, Ev.mkFT Try.prog, [⟨false, n10, n11, false⟩, ⟨false, n9, n0, true⟩, ⟨false, n8, n9, true⟩, ⟨false, n7, n2, true⟩, ⟨false, n6, n7, true⟩, ⟨false, n4, n5, true⟩, ⟨false, n3, n4, true⟩, ⟨false, n1, n2, true⟩, ⟨false, n0, n1, true⟩], Qs, Cs, none⟩ 100000 31 [.agg ⟨[Ev.inp .i64 0, Ev.inp .i64 1, Ev.inp .i64 2, Ev.inp .i64 3, Ev.inp .i64 4]⟩, Ev.inp .i64 5, Ev.inp .i64 6] = some (n3) := by kernel_rfl
set_option maxRecDepth 1000000 in
theorem run8 : Ev.runV ⟨Try.prog, Ev.mkTT Try.prog, Ev.mkFT Try.prog, [⟨false, n9, n0, false⟩, ⟨false, n8, n9, true⟩, ⟨false, n7, n2, true⟩, ⟨false, n6, n7, true⟩, ⟨false, n4, n5, true⟩, ⟨false, n3, n4, true⟩, ⟨false, n1, n2, true⟩, ⟨false, n0, n1, true⟩], Qs, Cs, none⟩ 100000 31 [.agg ⟨[Ev.inp .i64 0, Ev.inp .i64 1, Ev.inp .i64 2, Ev.inp .i64 3, Ev.inp .i64 4]⟩, Ev.inp .i64 5, Ev.inp .i64 6] = some (n3) := by kernel_rfl
set_option maxRecDepth 1000000 in
theorem run9 : Ev.runV ⟨Try.prog, Ev.mkTT Try.prog, Ev.mkFT Try.prog, [⟨false, n8, n9, false⟩, ⟨false, n7, n2, true⟩, ⟨false, n6, n7, true⟩, ⟨false, n4, n5, true⟩, ⟨false, n3, n4, true⟩, ⟨false, n1, n2, true⟩, ⟨false, n0, n1, true⟩], Qs, Cs, none⟩ 100000 31 [.agg ⟨[Ev.inp .i64 0, Ev.inp .i64 1, Ev.inp .i64 2, Ev.inp .i64 3, Ev.inp .i64 4]⟩, Ev.inp .i64 5, Ev.inp .i64 6] = some (n3) := by kernel_rfl
set_option maxRecDepth 1000000 in
theorem run10 : Ev.runV ⟨Try.prog, Ev.mkTT Try.prog, Ev.mkFT Try.prog, [⟨false, n7, n2, false⟩, ⟨false, n6, n7, true⟩, ⟨false, n4, n5, true⟩, ⟨false, n3, n4, true⟩, ⟨false, n1, n2, true⟩, ⟨false, n0, n1, true⟩], Qs, Cs, none⟩ 100000 31 [.agg ⟨[Ev.inp .i64 0, Ev.inp .i64 1, Ev.inp .i64 2, Ev.inp .i64 3, Ev.inp .i64 4]⟩, Ev.inp .i64 5, Ev.inp .i64 6] = some (n3) := by kernel_rfl
set_option maxRecDepth 1000000 in
theorem run11 : Ev.runV ⟨Try.prog, Ev.mkTT Try.prog, Ev.mkFT Try.prog, [⟨false, n6, n7, false⟩, ⟨false, n4, n5, true⟩, ⟨false, n3, n4, true⟩, ⟨false, n1, n2, true⟩, ⟨false, n0, n1, true⟩], Qs, Cs, none⟩ 100000 31 [.agg ⟨[Ev.inp .i64 0, Ev.inp .i64 1, Ev.inp .i64 2, Ev.inp .i64 3, Ev.inp .i64 4]⟩, Ev.inp .i64 5, Ev.inp .i64 6] = some (n3) := by kernel_rfl
set_option maxRecDepth 1000000 in
theorem run12 : Ev.runV ⟨Try.prog, Ev.mkTT Try.prog, Ev.mkFT Try.prog, [⟨false, n4, n5, false⟩, ⟨false, n3, n4, true⟩, ⟨false, n1, n2, true⟩, ⟨false, n0, n1, true⟩], Qs, Cs, none⟩ 100000 31 [.agg ⟨[Ev.inp .i64 0, Ev.inp .i64 1, Ev.inp .i64 2, Ev.inp .i64 3, Ev.inp .i64 4]⟩, Ev.inp .i64 5, Ev.inp .i64 6] = some (n3) := by kernel_rfl
set_option maxRecDepth 1000000 in
theorem run13 : Ev.runV ⟨Try.prog, Ev.mkTT Try.prog, Ev.mkFT Try.prog, [⟨false, n3, n4, false⟩, ⟨false, n1, n2, true⟩, ⟨false, n0, n1, true⟩], Qs, Cs, none⟩ 100000 31 [.agg ⟨[Ev.inp .i64 0, Ev.inp .i64 1, Ev.inp .i64 2, Ev.inp .i64 3, Ev.inp .i64 4]⟩, Ev.inp .i64 5, Ev.inp .i64 6] = some (n3) := by kernel_rfl
set_option maxRecDepth 1000000 in
theorem run14 : Ev.runV ⟨Try.prog, Ev.mkTT Try.prog, Ev.mkFT Try.prog, [⟨false, n1, n2, false⟩, ⟨false, n0, n1, true⟩], Qs, Cs, none⟩ 100000 31 [.agg ⟨[Ev.inp .i64 0, Ev.inp .i64 1, Ev.inp .i64 2, Ev.inp .i64 3, Ev.inp .i64 4]⟩, Ev.inp .i64 5, Ev.inp .i64 6] = some (n3) := by kernel_rfl
set_option maxRecDepth 1000000 in
theorem run15 : Ev.runV ⟨Try.prog, Ev.mkTT Try.prog, Ev.mkFT Try.prog, [⟨false, n0, n1, false⟩], Qs, Cs, none⟩ 100000 31 [.agg ⟨[Ev.inp .i64 0, Ev.inp .i64 1, Ev.inp .i64 2, Ev.inp .i64 3, Ev.inp .i64 4]⟩, Ev.inp .i64 5, Ev.inp .i64 6] = some (n3) := by kernel_rfl

end Go.Proofs.Ytffaikcaenkkhab.w31
