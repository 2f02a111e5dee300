/-
  'shunterlaw02.PSpace': each way that is left: the evaluator finds it true. No project text.
-/
import Derived.Test.YtffaikcaenkkhaaDoorPSpace1
namespace Go.Proofs.YtffaikcaenkkhaaDoor.pSpace
open Go.ChangeShapes Go.WideShapes Go.ChangeAt Go.RowKit

set_option maxRecDepth 1000000 in
theorem run0 : Ev.runV ⟨Tryd.prog, Ev.mkTT Tryd.prog, Ev.mkFT Tryd.prog, [⟨false, n4, n3, true⟩, ⟨false, n2, n3, true⟩, ⟨true, n0, n1, true⟩], Qs, Cs, none⟩ 100000 24 [.agg ⟨[Ev.inp .i64 0, Ev.inp .i64 1, Ev.inp .i64 2, Ev.inp .i64 3, Ev.inp .i64 4]⟩, Ev.inp .i64 5] = some (.tuple ⟨[n1, n1, n5]⟩) := by kernel_rfl
set_option maxRecDepth 1000000 in
theorem run1 : Ev.runV ⟨Tryd.prog, Ev.mkTT Tryd.prog, Ev.mkFT Tryd.prog, [⟨true, n3, n2, true⟩, ⟨false, n4, n3, false⟩, ⟨false, n2, n3, true⟩, ⟨true, n0, n1, true⟩], Qs, Cs, none⟩ 100000 24 [.agg ⟨[Ev.inp .i64 0, Ev.inp .i64 1, Ev.inp .i64 2, Ev.inp .i64 3, Ev.inp .i64 4]⟩, Ev.inp .i64 5] = some (.tuple ⟨[n6, n8, n1]⟩) := by kernel_rfl
set_option maxRecDepth 1000000 in
theorem run2 : Ev.runV ⟨Tryd.prog, Ev.mkTT Tryd.prog, Ev.mkFT Tryd.prog, [⟨true, n3, n2, false⟩, ⟨false, n4, n3, false⟩, ⟨false, n2, n3, true⟩, ⟨true, n0, n1, true⟩], Qs, Cs, none⟩ 100000 24 [.agg ⟨[Ev.inp .i64 0, Ev.inp .i64 1, Ev.inp .i64 2, Ev.inp .i64 3, Ev.inp .i64 4]⟩, Ev.inp .i64 5] = some (.tuple ⟨[n11, n12, n1]⟩) := by kernel_rfl
set_option maxRecDepth 1000000 in
theorem run3 : Ev.runV ⟨Tryd.prog, Ev.mkTT Tryd.prog, Ev.mkFT Tryd.prog, [⟨false, n2, n3, false⟩, ⟨true, n0, n1, true⟩], Qs, Cs, none⟩ 100000 24 [.agg ⟨[Ev.inp .i64 0, Ev.inp .i64 1, Ev.inp .i64 2, Ev.inp .i64 3, Ev.inp .i64 4]⟩, Ev.inp .i64 5] = some (.tuple ⟨[n1, n1, n5]⟩) := by kernel_rfl
set_option maxRecDepth 1000000 in
theorem run4 : Ev.runV ⟨Tryd.prog, Ev.mkTT Tryd.prog, Ev.mkFT Tryd.prog, [⟨true, n0, n1, false⟩], Qs, Cs, none⟩ 100000 24 [.agg ⟨[Ev.inp .i64 0, Ev.inp .i64 1, Ev.inp .i64 2, Ev.inp .i64 3, Ev.inp .i64 4]⟩, Ev.inp .i64 5] = some (.tuple ⟨[n1, n1, n0]⟩) := by kernel_rfl

end Go.Proofs.YtffaikcaenkkhaaDoor.pSpace
