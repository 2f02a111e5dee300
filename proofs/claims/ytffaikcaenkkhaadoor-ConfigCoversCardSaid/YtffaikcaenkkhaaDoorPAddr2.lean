/-
  'config.PAddr': each way that is left: the evaluator finds it true. No project text.
-/
import Derived.Test.YtffaikcaenkkhaaDoorPAddr1
namespace Go.Proofs.YtffaikcaenkkhaaDoor.pAddr
open Go.ChangeShapes Go.WideShapes Go.ChangeAt Go.RowKit

set_option maxRecDepth 1000000 in
theorem run0 : Ev.runV ⟨Tryd.prog, Ev.mkTT Tryd.prog, Ev.mkFT Tryd.prog, [⟨false, n5, n2, true⟩, ⟨false, n1, n2, true⟩, ⟨true, n0, n1, true⟩], Qs, Cs, none⟩ 100000 30 [.agg ⟨[Ev.inp .i64 0, Ev.inp .i64 1, Ev.inp .i64 2, Ev.inp .i64 3, Ev.inp .i64 4]⟩, Ev.inp .i64 5, Ev.inp .i64 6] = some (.tuple ⟨[n1, n6]⟩) := by kernel_rfl
set_option maxRecDepth 1000000 in
theorem run1 : Ev.runV ⟨Tryd.prog, Ev.mkTT Tryd.prog, Ev.mkFT Tryd.prog, [⟨false, n5, n2, false⟩, ⟨false, n1, n2, true⟩, ⟨true, n0, n1, true⟩], Qs, Cs, none⟩ 100000 30 [.agg ⟨[Ev.inp .i64 0, Ev.inp .i64 1, Ev.inp .i64 2, Ev.inp .i64 3, Ev.inp .i64 4]⟩, Ev.inp .i64 5, Ev.inp .i64 6] = some (.tuple ⟨[n7, n1]⟩) := by kernel_rfl
set_option maxRecDepth 1000000 in
theorem run2 : Ev.runV ⟨Tryd.prog, Ev.mkTT Tryd.prog, Ev.mkFT Tryd.prog, [⟨false, n1, n2, false⟩, ⟨true, n0, n1, true⟩], Qs, Cs, none⟩ 100000 30 [.agg ⟨[Ev.inp .i64 0, Ev.inp .i64 1, Ev.inp .i64 2, Ev.inp .i64 3, Ev.inp .i64 4]⟩, Ev.inp .i64 5, Ev.inp .i64 6] = some (.tuple ⟨[n1, n6]⟩) := by kernel_rfl
set_option maxRecDepth 1000000 in
theorem run3 : Ev.runV ⟨Tryd.prog, Ev.mkTT Tryd.prog, Ev.mkFT Tryd.prog, [⟨true, n0, n1, false⟩], Qs, Cs, none⟩ 100000 30 [.agg ⟨[Ev.inp .i64 0, Ev.inp .i64 1, Ev.inp .i64 2, Ev.inp .i64 3, Ev.inp .i64 4]⟩, Ev.inp .i64 5, Ev.inp .i64 6] = some (.tuple ⟨[n1, n0]⟩) := by kernel_rfl

end Go.Proofs.YtffaikcaenkkhaaDoor.pAddr
