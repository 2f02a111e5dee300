/-
  'shunterlaw02.ConfigGrows': each way that is left: the evaluator finds it true. No project text.
-/
import Derived.Test.YtffaikcaenkkhaaDoorConfigGrows1
namespace Go.Proofs.YtffaikcaenkkhaaDoor.configGrows
open Go.ChangeShapes Go.WideShapes Go.ChangeAt Go.RowKit

set_option maxRecDepth 1000000 in
theorem run0 : Ev.run ⟨Tryd.prog, Ev.mkTT Tryd.prog, Ev.mkFT Tryd.prog, [⟨true, n30, n31, true⟩, ⟨true, n27, n1, true⟩, ⟨false, n23, n26, false⟩, ⟨true, n16, n19, true⟩, ⟨true, n10, n13, true⟩, ⟨true, n2, n1, true⟩, ⟨true, n0, n1, true⟩], Qs, Cs, none⟩ 100000 9 [.agg ⟨[Ev.inp .i64 0, Ev.inp .i64 1, Ev.inp .i64 2, Ev.inp .i64 3, Ev.inp .i64 4]⟩] = some true := by kernel_rfl
set_option maxRecDepth 1000000 in
theorem run1 : Ev.run ⟨Tryd.prog, Ev.mkTT Tryd.prog, Ev.mkFT Tryd.prog, [⟨true, n4, n32, true⟩, ⟨true, n27, n1, false⟩, ⟨false, n23, n26, false⟩, ⟨true, n16, n19, true⟩, ⟨true, n10, n13, true⟩, ⟨true, n2, n1, true⟩, ⟨true, n0, n1, true⟩], Qs, Cs, none⟩ 100000 9 [.agg ⟨[Ev.inp .i64 0, Ev.inp .i64 1, Ev.inp .i64 2, Ev.inp .i64 3, Ev.inp .i64 4]⟩] = some true := by kernel_rfl
set_option maxRecDepth 1000000 in
theorem run2 : Ev.run ⟨Tryd.prog, Ev.mkTT Tryd.prog, Ev.mkFT Tryd.prog, [⟨true, n30, n31, true⟩, ⟨true, n27, n1, true⟩, ⟨true, n6, n33, true⟩, ⟨true, n2, n1, false⟩, ⟨true, n0, n1, true⟩], Qs, Cs, none⟩ 100000 9 [.agg ⟨[Ev.inp .i64 0, Ev.inp .i64 1, Ev.inp .i64 2, Ev.inp .i64 3, Ev.inp .i64 4]⟩] = some true := by kernel_rfl
set_option maxRecDepth 1000000 in
theorem run3 : Ev.run ⟨Tryd.prog, Ev.mkTT Tryd.prog, Ev.mkFT Tryd.prog, [⟨true, n4, n32, true⟩, ⟨true, n27, n1, false⟩, ⟨true, n6, n33, true⟩, ⟨true, n2, n1, false⟩, ⟨true, n0, n1, true⟩], Qs, Cs, none⟩ 100000 9 [.agg ⟨[Ev.inp .i64 0, Ev.inp .i64 1, Ev.inp .i64 2, Ev.inp .i64 3, Ev.inp .i64 4]⟩] = some true := by kernel_rfl
set_option maxRecDepth 1000000 in
theorem run4 : Ev.run ⟨Tryd.prog, Ev.mkTT Tryd.prog, Ev.mkFT Tryd.prog, [⟨true, n0, n1, false⟩], Qs, Cs, none⟩ 100000 9 [.agg ⟨[Ev.inp .i64 0, Ev.inp .i64 1, Ev.inp .i64 2, Ev.inp .i64 3, Ev.inp .i64 4]⟩] = some true := by kernel_rfl

end Go.Proofs.YtffaikcaenkkhaaDoor.configGrows
