/-
  'shunterlaw02.RChk': each way that is left: the evaluator finds it true. No project text.
-/
import Derived.Test.YtffaikcaenkkhaaDoorRChk1
namespace Go.Proofs.YtffaikcaenkkhaaDoor.rChk
open Go.ChangeShapes Go.WideShapes Go.ChangeAt Go.RowKit

set_option maxRecDepth 1000000 in
theorem run0 : Ev.runV ⟨Tryd.prog, Ev.mkTT Tryd.prog, Ev.mkFT Tryd.prog, [⟨false, n11, n12, true⟩, ⟨false, n10, n11, true⟩, ⟨false, n9, n0, true⟩, ⟨false, n8, n9, true⟩, ⟨false, n7, n2, true⟩, ⟨false, n6, n7, true⟩, ⟨false, n4, n5, true⟩, ⟨false, n3, n4, true⟩, ⟨false, n1, n2, true⟩, ⟨false, n0, n1, true⟩], Qs, Cs, none⟩ 100000 14 [.agg ⟨[Ev.inp .i64 0, Ev.inp .i64 1, Ev.inp .i64 2, Ev.inp .i64 3, Ev.inp .i64 4]⟩] = some (n13) := by kernel_rfl
set_option maxRecDepth 1000000 in
theorem run1 : Ev.runV ⟨Tryd.prog, Ev.mkTT Tryd.prog, Ev.mkFT Tryd.prog, [⟨false, n11, n12, false⟩, ⟨false, n10, n11, true⟩, ⟨false, n9, n0, true⟩, ⟨false, n8, n9, true⟩, ⟨false, n7, n2, true⟩, ⟨false, n6, n7, true⟩, ⟨false, n4, n5, true⟩, ⟨false, n3, n4, true⟩, ⟨false, n1, n2, true⟩, ⟨false, n0, n1, true⟩], Qs, Cs, none⟩ 100000 14 [.agg ⟨[Ev.inp .i64 0, Ev.inp .i64 1, Ev.inp .i64 2, Ev.inp .i64 3, Ev.inp .i64 4]⟩] = some (n3) := by kernel_rfl
set_option maxRecDepth 1000000 in
theorem run2 : Ev.runV ⟨Tryd.prog, Ev.mkTT Tryd.prog, Ev.mkFT Tryd.prog, [⟨false, n10, n11, false⟩, ⟨false, n9, n0, true⟩, ⟨false, n8, n9, true⟩, ⟨false, n7, n2, true⟩, ⟨false, n6, n7, true⟩, ⟨false, n4, n5, true⟩, ⟨false, n3, n4, true⟩, ⟨false, n1, n2, true⟩, ⟨false, n0, n1, true⟩], Qs, Cs, none⟩ 100000 14 [.agg ⟨[Ev.inp .i64 0, Ev.inp .i64 1, Ev.inp .i64 2, Ev.inp .i64 3, Ev.inp .i64 4]⟩] = some (n3) := by kernel_rfl
set_option maxRecDepth 1000000 in
theorem run3 : Ev.runV ⟨Tryd.prog, Ev.mkTT Tryd.prog, Ev.mkFT Tryd.prog, [⟨false, n9, n0, false⟩, ⟨false, n8, n9, true⟩, ⟨false, n7, n2, true⟩, ⟨false, n6, n7, true⟩, ⟨false, n4, n5, true⟩, ⟨false, n3, n4, true⟩, ⟨false, n1, n2, true⟩, ⟨false, n0, n1, true⟩], Qs, Cs, none⟩ 100000 14 [.agg ⟨[Ev.inp .i64 0, Ev.inp .i64 1, Ev.inp .i64 2, Ev.inp .i64 3, Ev.inp .i64 4]⟩] = some (n3) := by kernel_rfl
set_option maxRecDepth 1000000 in
theorem run4 : Ev.runV ⟨Tryd.prog, Ev.mkTT Tryd.prog, Ev.mkFT Tryd.prog, [⟨false, n8, n9, false⟩, ⟨false, n7, n2, true⟩, ⟨false, n6, n7, true⟩, ⟨false, n4, n5, true⟩, ⟨false, n3, n4, true⟩, ⟨false, n1, n2, true⟩, ⟨false, n0, n1, true⟩], Qs, Cs, none⟩ 100000 14 [.agg ⟨[Ev.inp .i64 0, Ev.inp .i64 1, Ev.inp .i64 2, Ev.inp .i64 3, Ev.inp .i64 4]⟩] = some (n3) := by kernel_rfl
set_option maxRecDepth 1000000 in
theorem run5 : Ev.runV ⟨Tryd.prog, Ev.mkTT Tryd.prog, Ev.mkFT Tryd.prog, [⟨false, n7, n2, false⟩, ⟨false, n6, n7, true⟩, ⟨false, n4, n5, true⟩, ⟨false, n3, n4, true⟩, ⟨false, n1, n2, true⟩, ⟨false, n0, n1, true⟩], Qs, Cs, none⟩ 100000 14 [.agg ⟨[Ev.inp .i64 0, Ev.inp .i64 1, Ev.inp .i64 2, Ev.inp .i64 3, Ev.inp .i64 4]⟩] = some (n3) := by kernel_rfl
set_option maxRecDepth 1000000 in
theorem run6 : Ev.runV ⟨Tryd.prog, Ev.mkTT Tryd.prog, Ev.mkFT Tryd.prog, [⟨false, n6, n7, false⟩, ⟨false, n4, n5, true⟩, ⟨false, n3, n4, true⟩, ⟨false, n1, n2, true⟩, ⟨false, n0, n1, true⟩], Qs, Cs, none⟩ 100000 14 [.agg ⟨[Ev.inp .i64 0, Ev.inp .i64 1, Ev.inp .i64 2, Ev.inp .i64 3, Ev.inp .i64 4]⟩] = some (n3) := by kernel_rfl
set_option maxRecDepth 1000000 in
theorem run7 : Ev.runV ⟨Tryd.prog, Ev.mkTT Tryd.prog, Ev.mkFT Tryd.prog, [⟨false, n4, n5, false⟩, ⟨false, n3, n4, true⟩, ⟨false, n1, n2, true⟩, ⟨false, n0, n1, true⟩], Qs, Cs, none⟩ 100000 14 [.agg ⟨[Ev.inp .i64 0, Ev.inp .i64 1, Ev.inp .i64 2, Ev.inp .i64 3, Ev.inp .i64 4]⟩] = some (n3) := by kernel_rfl
set_option maxRecDepth 1000000 in
theorem run8 : Ev.runV ⟨Tryd.prog, Ev.mkTT Tryd.prog, Ev.mkFT Tryd.prog, [⟨false, n3, n4, false⟩, ⟨false, n1, n2, true⟩, ⟨false, n0, n1, true⟩], Qs, Cs, none⟩ 100000 14 [.agg ⟨[Ev.inp .i64 0, Ev.inp .i64 1, Ev.inp .i64 2, Ev.inp .i64 3, Ev.inp .i64 4]⟩] = some (n3) := by kernel_rfl
set_option maxRecDepth 1000000 in
theorem run9 : Ev.runV ⟨Tryd.prog, Ev.mkTT Tryd.prog, Ev.mkFT Tryd.prog, [⟨false, n1, n2, false⟩, ⟨false, n0, n1, true⟩], Qs, Cs, none⟩ 100000 14 [.agg ⟨[Ev.inp .i64 0, Ev.inp .i64 1, Ev.inp .i64 2, Ev.inp .i64 3, Ev.inp .i64 4]⟩] = some (n3) := by kernel_rfl
set_option maxRecDepth 1000000 in
theorem run10 : Ev.runV ⟨Tryd.prog, Ev.mkTT Tryd.prog, Ev.mkFT Tryd.prog, [⟨false, n0, n1, false⟩], Qs, Cs, none⟩ 100000 14 [.agg ⟨[Ev.inp .i64 0, Ev.inp .i64 1, Ev.inp .i64 2, Ev.inp .i64 3, Ev.inp .i64 4]⟩] = some (n3) := by kernel_rfl

end Go.Proofs.YtffaikcaenkkhaaDoor.rChk
