/-
  'shunterlaw02.ConfigRoom': each way that is left: the evaluator finds it true. No project text.
-/
import Derived.Test.YtffaikcaenkkhaaDoorConfigRoom1
namespace Go.Proofs.YtffaikcaenkkhaaDoor.configRoom
open Go.ChangeShapes Go.WideShapes Go.ChangeAt Go.RowKit

set_option maxRecDepth 1000000 in
theorem run0 : Ev.run ⟨Tryd.prog, Ev.mkTT Tryd.prog, Ev.mkFT Tryd.prog, [⟨false, n18, n4, true⟩, ⟨false, n3, n7, true⟩, ⟨false, n17, n8, true⟩, ⟨false, n13, n16, true⟩, ⟨false, n4, n13, true⟩, ⟨false, n9, n8, false⟩, ⟨false, n2, n9, true⟩, ⟨false, n2, n8, true⟩, ⟨false, n3, n8, true⟩, ⟨false, n2, n3, true⟩, ⟨true, n0, n1, true⟩], Qs, Cs, none⟩ 100000 8 [.agg ⟨[Ev.inp .i64 0, Ev.inp .i64 1, Ev.inp .i64 2, Ev.inp .i64 3, Ev.inp .i64 4]⟩, Ev.inp .i64 5] = some true := by kernel_rfl
set_option maxRecDepth 1000000 in
theorem run1 : Ev.run ⟨Tryd.prog, Ev.mkTT Tryd.prog, Ev.mkFT Tryd.prog, [⟨false, n17, n8, true⟩, ⟨false, n13, n16, true⟩, ⟨false, n4, n13, true⟩, ⟨false, n9, n8, false⟩, ⟨false, n2, n9, true⟩, ⟨false, n2, n8, true⟩, ⟨false, n3, n8, false⟩, ⟨false, n2, n3, true⟩, ⟨true, n0, n1, true⟩], Qs, Cs, none⟩ 100000 8 [.agg ⟨[Ev.inp .i64 0, Ev.inp .i64 1, Ev.inp .i64 2, Ev.inp .i64 3, Ev.inp .i64 4]⟩, Ev.inp .i64 5] = some true := by kernel_rfl
set_option maxRecDepth 1000000 in
theorem run2 : Ev.run ⟨Tryd.prog, Ev.mkTT Tryd.prog, Ev.mkFT Tryd.prog, [⟨false, n17, n8, true⟩, ⟨false, n13, n16, true⟩, ⟨false, n4, n13, true⟩, ⟨false, n9, n8, false⟩, ⟨false, n2, n9, true⟩, ⟨false, n2, n8, true⟩, ⟨false, n2, n3, false⟩, ⟨true, n0, n1, true⟩], Qs, Cs, none⟩ 100000 8 [.agg ⟨[Ev.inp .i64 0, Ev.inp .i64 1, Ev.inp .i64 2, Ev.inp .i64 3, Ev.inp .i64 4]⟩, Ev.inp .i64 5] = some true := by kernel_rfl
set_option maxRecDepth 1000000 in
theorem run3 : Ev.run ⟨Tryd.prog, Ev.mkTT Tryd.prog, Ev.mkFT Tryd.prog, [⟨true, n0, n1, false⟩], Qs, Cs, none⟩ 100000 8 [.agg ⟨[Ev.inp .i64 0, Ev.inp .i64 1, Ev.inp .i64 2, Ev.inp .i64 3, Ev.inp .i64 4]⟩, Ev.inp .i64 5] = some true := by kernel_rfl

end Go.Proofs.YtffaikcaenkkhaaDoor.configRoom
