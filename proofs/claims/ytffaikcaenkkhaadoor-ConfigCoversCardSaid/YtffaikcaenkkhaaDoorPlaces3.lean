/-
  What 'Place' returns, where it is asked outside of the arena, and the project's own one. CONDITIONS: numbers are of their kinds. No project text.
-/
import Derived.Test.YtffaikcaenkkhaaDoorPlaces2
import Derived.Test.YtffaikcaenkkhaaDoorPWords
import Derived.Deep.QuietTactic
import Derived.BigQuiet
namespace Go.Proofs.YtffaikcaenkkhaaDoor.Places
open Go.ChangeShapes Go.WideShapes Go.ChangeAt Go.RowKit Go.Proofs.YtffaikcaenkkhaaDoor.Good

section
variable {x0 x1 x2 x3 x4 : Int}
abbrev Wd (f : FuncId) (x0 x1 x2 x3 x4 n c : Int) : Prop := ∀ w, Calls Tryd.prog f #[.agg #[.int .i64 x0, .int .i64 x1, .int .i64 x2, .int .i64 x3, .int .i64 x4]] w fun e w' => e = .returned (.tuple #[.int .i64 n, .int .i64 c]) ∧ Below w.heap.size w w'
abbrev Pl (f : FuncId) (x0 x1 x2 x3 x4 a p q e : Int) (w : World) : Prop := Calls Tryd.prog f #[.agg #[.int .i64 x0, .int .i64 x1, .int .i64 x2, .int .i64 x3, .int .i64 x4], .int .i64 a] w fun e' w' => e' = .returned (.tuple #[.int .i64 p, .int .i64 q, .int .i64 e]) ∧ Below w.heap.size w w'
set_option maxRecDepth 100000 in
set_option maxHeartbeats 4000000 in
theorem rplace_err {a c : Int} (HW : Hid (Wd 17 x0 x1 x2 x3 x4 0 c)) (hne : (c == 0) = false) (hne' : (c != 0) = true) (w : World) : Pl 29 x0 x1 x2 x3 x4 a 0 0 c w := by
  go_enter Tryd.func29, Tryd.ntmps29
  go_wp2_with fail
  refine (HW.out _).mono ?_
  rintro e w1 ⟨rfl, hB⟩
  have HB : Hid (Below (w.heap.size + 1) (w.alloc (.cells #[.int .i64 x0, .int .i64 x1, .int .i64 x2, .int .i64 x3, .int .i64 x4] 23)) w1) := Lib.hid (by simpa using hB)
  clear hB
  go_wp2
  go_returns
  exact ⟨rfl, fin HB.out⟩
set_option maxRecDepth 100000 in
set_option maxHeartbeats 4000000 in
theorem rplace_out {a n : Int} (HW : Hid (Wd 17 x0 x1 x2 x3 x4 n 0)) (n0 : 0 ≤ n) (n1 : n ≤ 2000) (ho : ¬ (1 ≤ a ∧ a < n)) (w : World) : Pl 29 x0 x1 x2 x3 x4 a 0 0 7 w := by
  have hf : (false : Bool) = decide (1 ≤ a ∧ a ≤ n - 1) := by rw [eq_comm, decide_eq_false_iff_not]; omega
  have HI := Lib.hid (fun w => in37 a 1 (n - 1) false hf w)
  clear hf ho
  go_enter Tryd.func29, Tryd.ntmps29
  go_wp2_with fail
  refine (HW.out _).mono ?_
  rintro e w1 ⟨rfl, hB⟩
  have HB : Hid (Below (w.heap.size + 1) (w.alloc (.cells #[.int .i64 x0, .int .i64 x1, .int .i64 x2, .int .i64 x3, .int .i64 x4] 23)) w1) := Lib.hid (by simpa using hB)
  clear hB
  go_wp2_with fail
  refine (HI.out _).mono ?_
  rintro e w2 ⟨rfl, rfl⟩
  go_wp2
  go_returns
  exact ⟨rfl, fin HB.out⟩
set_option maxRecDepth 100000 in
set_option maxHeartbeats 4000000 in
theorem pplace_err {a c : Int} (HW : Hid (Wd 16 x0 x1 x2 x3 x4 0 c)) (hne' : (c != 0) = true) (w : World) : Pl 28 x0 x1 x2 x3 x4 a 0 0 c w := by
  go_enter Tryd.func28, Tryd.ntmps28
  go_wp2_with fail
  refine (HW.out _).mono ?_
  rintro e w1 ⟨rfl, hB⟩
  have HB : Hid (Below (w.heap.size + 1) (w.alloc (.cells #[.int .i64 x0, .int .i64 x1, .int .i64 x2, .int .i64 x3, .int .i64 x4] 23)) w1) := Lib.hid (by simpa using hB)
  clear hB
  go_wp2
  go_returns
  exact ⟨rfl, fin HB.out⟩
set_option maxRecDepth 100000 in
set_option maxHeartbeats 4000000 in
theorem pplace_out {a n : Int} (HW : Hid (Wd 16 x0 x1 x2 x3 x4 n 0)) (ho : ¬ (1 ≤ a ∧ a < n)) (w : World) : Pl 28 x0 x1 x2 x3 x4 a 0 0 7 w := by
  by_cases h1 : 1 ≤ a
  · have h2 : n ≤ a := by omega
    clear ho
    go_enter Tryd.func28, Tryd.ntmps28
    go_wp2_with fail
    refine (HW.out _).mono ?_
    rintro e w1 ⟨rfl, hB⟩
    have HB : Hid (Below (w.heap.size + 1) (w.alloc (.cells #[.int .i64 x0, .int .i64 x1, .int .i64 x2, .int .i64 x3, .int .i64 x4] 23)) w1) := Lib.hid (by simpa using hB)
    clear hB
    go_wp2
    go_returns
    exact ⟨rfl, fin HB.out⟩
  · clear ho
    go_enter Tryd.func28, Tryd.ntmps28
    go_wp2_with fail
    refine (HW.out _).mono ?_
    rintro e w1 ⟨rfl, hB⟩
    have HB : Hid (Below (w.heap.size + 1) (w.alloc (.cells #[.int .i64 x0, .int .i64 x1, .int .i64 x2, .int .i64 x3, .int .i64 x4] 23)) w1) := Lib.hid (by simpa using hB)
    clear hB
    go_wp2
    go_returns
    exact ⟨rfl, fin HB.out⟩
set_option maxRecDepth 100000 in
set_option maxHeartbeats 4000000 in
theorem pplace_low {a n : Int} (HW : Hid (Wd 16 x0 x1 x2 x3 x4 n 0)) (h1 : 1 ≤ a) (h2 : a < n) (h3 : a ≤ x2) (h4 : x2 ≤ 64) (w : World) : Pl 28 x0 x1 x2 x3 x4 a (-1) (a - 1) 0 w := by
  go_enter Tryd.func28, Tryd.ntmps28
  go_wp2_with fail
  refine (HW.out _).mono ?_
  rintro e w1 ⟨rfl, hB⟩
  have HB : Hid (Below (w.heap.size + 1) (w.alloc (.cells #[.int .i64 x0, .int .i64 x1, .int .i64 x2, .int .i64 x3, .int .i64 x4] 23)) w1) := Lib.hid (by simpa using hB)
  clear hB
  obtain ⟨q0, q1, q2, q3, q4⟩ := cells HB.out
  go_wp2
  go_returns
  exact ⟨rfl, fin HB.out⟩
set_option maxRecDepth 100000 in
set_option maxHeartbeats 4000000 in
theorem pplace_high {a n : Int} (HW : Hid (Wd 16 x0 x1 x2 x3 x4 n 0)) (h1 : 1 ≤ a) (h2 : a < n) (h3 : x2 < a) (h4 : n ≤ 2000) (h5 : 4 ≤ x2) (h6 : 8 ≤ x0) (h7 : x0 ≤ 64) (w : World) : Pl 28 x0 x1 x2 x3 x4 a ((a - 1 - x2) / x0) ((a - 1 - x2) % x0) 0 w := by
  go_enter Tryd.func28, Tryd.ntmps28
  go_wp2_with fail
  refine (HW.out _).mono ?_
  rintro e w1 ⟨rfl, hB⟩
  have HB : Hid (Below (w.heap.size + 1) (w.alloc (.cells #[.int .i64 x0, .int .i64 x1, .int .i64 x2, .int .i64 x3, .int .i64 x4] 23)) w1) := Lib.hid (by simpa using hB)
  clear hB
  obtain ⟨q0, q1, q2, q3, q4⟩ := cells HB.out
  go_wp2
  go_quiet (fail)
  go_wp2
  go_returns
  exact ⟨rfl, (fin HB.out).trans ⟨rfl, rfl, rfl, Nat.le_refl _, fun _ _ => rfl⟩⟩
end
end Go.Proofs.YtffaikcaenkkhaaDoor.Places
