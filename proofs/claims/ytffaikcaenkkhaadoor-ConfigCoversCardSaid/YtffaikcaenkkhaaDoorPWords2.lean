/-
  'shunterlaw02.PWords': each way that is left: the evaluator finds it true. No project text.
-/
import Derived.Test.YtffaikcaenkkhaaDoorPWords1
namespace Go.Proofs.YtffaikcaenkkhaaDoor.pWords
open Go.ChangeShapes Go.WideShapes Go.ChangeAt Go.RowKit

set_option maxRecDepth 1000000 in
theorem run0 : Ev.runV ⟨Tryd.prog, Ev.mkTT Tryd.prog, Ev.mkFT Tryd.prog, [⟨true, n0, n1, true⟩], Qs, Cs, none⟩ 100000 16 [.agg ⟨[Ev.inp .i64 0, Ev.inp .i64 1, Ev.inp .i64 2, Ev.inp .i64 3, Ev.inp .i64 4]⟩] = some (.tuple ⟨[n8, n1]⟩) := by kernel_rfl
set_option maxRecDepth 1000000 in
theorem run1 : Ev.runV ⟨Tryd.prog, Ev.mkTT Tryd.prog, Ev.mkFT Tryd.prog, [⟨true, n0, n1, false⟩], Qs, Cs, none⟩ 100000 16 [.agg ⟨[Ev.inp .i64 0, Ev.inp .i64 1, Ev.inp .i64 2, Ev.inp .i64 3, Ev.inp .i64 4]⟩] = some (.tuple ⟨[n1, n0]⟩) := by kernel_rfl

end Go.Proofs.YtffaikcaenkkhaaDoor.pWords
