/-
  'shunterlaw04.HeaderMarksK' returns true for every input: the evaluator goes through its text with the numbers left open; each comparison parts the ways. CONDITIONS: none but those of the row.
-/
import Derived.Test.YtknifojinmnkfaaHeaderMarksK1
import Derived.Test.YtknifojinmnkfaaHeaderMarksK2
import Derived.Test.YtknifojinmnkfaaHeaderMarksK3
import Derived.Test.YtknifojinmnkfaaHeaderMarksK4
import Derived.Test.YtknifojinmnkfaaHeaderMarksK5
import Derived.Test.YtknifojinmnkfaaHeaderMarksK6
import Derived.Lib.SmallJoins
namespace Go.Proofs.Ytknifojinmnkfaa.headerMarksK
open Go.ChangeShapes Go.WideShapes Go.ChangeAt Go.RowKit Go.Joins

section
variable [Inhabited Ev.Val]
theorem agg2 {S : Ev.Sig} {l l' : List Value} (h : Ev.LR S l l') : Ev.VR S (.agg ⟨l⟩) (.agg ⟨l'⟩) := .agg h.1 h.2
theorem fin_1 {x0 : Int} (I : In x0) {A : List Ev.As} (hA : ∀ a ∈ A, Ev.AsOk a) (hr : Ev.run ⟨Try.prog, Ev.mkTT Try.prog, Ev.mkFT Try.prog, A, Qs, Cs⟩ 100000 3 [Ev.inp .i64 0, .int .i64 1] = some true) (w : World) :
    Calls Try.prog 3 #[.int .i64 x0, .int .i64 1] w fun e w' => e = .returned (.bool true) ∧ Below w.heap.size w w' :=
  Ev.run_calls (Ev.envOkA Try.prog A Qs Cs hA qs cs) mixed hr (.cons (.sym I.i0) (.cons (.int _ _) .nil)) w

set_option maxRecDepth 100000 in
set_option maxHeartbeats 4000000 in
theorem main_1 {x0 : Int} (I : In x0) (B : Bd x0) (w : World) :
    Calls Try.prog 3 #[.int .i64 x0, .int .i64 1] w fun e w' => e = .returned (.bool true) ∧ Below w.heap.size w w' := by
  by_cases h0 : z0 x0 ≤ z1 x0
  · have a0 := Ev.asOk_cons (Ev.asOk_le (is0 I) (is1 I) (Ev.dt h0)) Ev.asOk_nil
    by_cases h1 : z1 x0 ≤ z2 x0
    · have a1 := Ev.asOk_cons (Ev.asOk_le (is1 I) (is2 I) (Ev.dt h1)) a0
      by_cases h2 : z9 x0 = z12 x0
      · have a2 := Ev.asOk_cons (Ev.asOk_eq (is9 I) (is12 I) (Ev.dt h2)) a1
        exact fin_1 I a2 run0_1 w
      · exact (dead0 x0 B (z0 x0) (z1 x0) (z2 x0) (z3 x0) (z4 x0) (z5 x0) (z6 x0) (z7 x0) (z8 x0) (z9 x0) (z10 x0) (z11 x0) (z12 x0) rfl rfl rfl rfl rfl rfl rfl rfl rfl rfl rfl rfl rfl h0 h1 h2).elim
    · have a1 := Ev.asOk_cons (Ev.asOk_le (is1 I) (is2 I) (Ev.df h1)) a0
      exact fin_1 I a1 run1_1 w
  · have a0 := Ev.asOk_cons (Ev.asOk_le (is0 I) (is1 I) (Ev.df h0)) Ev.asOk_nil
    exact fin_1 I a0 run2_1 w
theorem fin_2 {x0 : Int} (I : In x0) {A : List Ev.As} (hA : ∀ a ∈ A, Ev.AsOk a) (hr : Ev.run ⟨Try.prog, Ev.mkTT Try.prog, Ev.mkFT Try.prog, A, Qs, Cs⟩ 100000 3 [Ev.inp .i64 0, .int .i64 2] = some true) (w : World) :
    Calls Try.prog 3 #[.int .i64 x0, .int .i64 2] w fun e w' => e = .returned (.bool true) ∧ Below w.heap.size w w' :=
  Ev.run_calls (Ev.envOkA Try.prog A Qs Cs hA qs cs) mixed hr (.cons (.sym I.i0) (.cons (.int _ _) .nil)) w

set_option maxRecDepth 100000 in
set_option maxHeartbeats 4000000 in
theorem main_2 {x0 : Int} (I : In x0) (B : Bd x0) (w : World) :
    Calls Try.prog 3 #[.int .i64 x0, .int .i64 2] w fun e w' => e = .returned (.bool true) ∧ Below w.heap.size w w' := by
  by_cases h0 : z0 x0 ≤ z1 x0
  · have a0 := Ev.asOk_cons (Ev.asOk_le (is0 I) (is1 I) (Ev.dt h0)) Ev.asOk_nil
    by_cases h1 : z1 x0 ≤ z2 x0
    · have a1 := Ev.asOk_cons (Ev.asOk_le (is1 I) (is2 I) (Ev.dt h1)) a0
      by_cases h2 : z9 x0 = z12 x0
      · have a2 := Ev.asOk_cons (Ev.asOk_eq (is9 I) (is12 I) (Ev.dt h2)) a1
        exact fin_2 I a2 run0_2 w
      · exact (dead0 x0 B (z0 x0) (z1 x0) (z2 x0) (z3 x0) (z4 x0) (z5 x0) (z6 x0) (z7 x0) (z8 x0) (z9 x0) (z10 x0) (z11 x0) (z12 x0) rfl rfl rfl rfl rfl rfl rfl rfl rfl rfl rfl rfl rfl h0 h1 h2).elim
    · have a1 := Ev.asOk_cons (Ev.asOk_le (is1 I) (is2 I) (Ev.df h1)) a0
      exact fin_2 I a1 run1_2 w
  · have a0 := Ev.asOk_cons (Ev.asOk_le (is0 I) (is1 I) (Ev.df h0)) Ev.asOk_nil
    exact fin_2 I a0 run2_2 w
theorem fin_3 {x0 : Int} (I : In x0) {A : List Ev.As} (hA : ∀ a ∈ A, Ev.AsOk a) (hr : Ev.run ⟨Try.prog, Ev.mkTT Try.prog, Ev.mkFT Try.prog, A, Qs, Cs⟩ 100000 3 [Ev.inp .i64 0, .int .i64 3] = some true) (w : World) :
    Calls Try.prog 3 #[.int .i64 x0, .int .i64 3] w fun e w' => e = .returned (.bool true) ∧ Below w.heap.size w w' :=
  Ev.run_calls (Ev.envOkA Try.prog A Qs Cs hA qs cs) mixed hr (.cons (.sym I.i0) (.cons (.int _ _) .nil)) w

set_option maxRecDepth 100000 in
set_option maxHeartbeats 4000000 in
theorem main_3 {x0 : Int} (I : In x0) (B : Bd x0) (w : World) :
    Calls Try.prog 3 #[.int .i64 x0, .int .i64 3] w fun e w' => e = .returned (.bool true) ∧ Below w.heap.size w w' := by
  by_cases h0 : z0 x0 ≤ z1 x0
  · have a0 := Ev.asOk_cons (Ev.asOk_le (is0 I) (is1 I) (Ev.dt h0)) Ev.asOk_nil
    by_cases h1 : z1 x0 ≤ z2 x0
    · have a1 := Ev.asOk_cons (Ev.asOk_le (is1 I) (is2 I) (Ev.dt h1)) a0
      by_cases h2 : z9 x0 = z12 x0
      · have a2 := Ev.asOk_cons (Ev.asOk_eq (is9 I) (is12 I) (Ev.dt h2)) a1
        exact fin_3 I a2 run0_3 w
      · exact (dead0 x0 B (z0 x0) (z1 x0) (z2 x0) (z3 x0) (z4 x0) (z5 x0) (z6 x0) (z7 x0) (z8 x0) (z9 x0) (z10 x0) (z11 x0) (z12 x0) rfl rfl rfl rfl rfl rfl rfl rfl rfl rfl rfl rfl rfl h0 h1 h2).elim
    · have a1 := Ev.asOk_cons (Ev.asOk_le (is1 I) (is2 I) (Ev.df h1)) a0
      exact fin_3 I a1 run1_3 w
  · have a0 := Ev.asOk_cons (Ev.asOk_le (is0 I) (is1 I) (Ev.df h0)) Ev.asOk_nil
    exact fin_3 I a0 run2_3 w
theorem fin_4 {x0 : Int} (I : In x0) {A : List Ev.As} (hA : ∀ a ∈ A, Ev.AsOk a) (hr : Ev.run ⟨Try.prog, Ev.mkTT Try.prog, Ev.mkFT Try.prog, A, Qs, Cs⟩ 100000 3 [Ev.inp .i64 0, .int .i64 4] = some true) (w : World) :
    Calls Try.prog 3 #[.int .i64 x0, .int .i64 4] w fun e w' => e = .returned (.bool true) ∧ Below w.heap.size w w' :=
  Ev.run_calls (Ev.envOkA Try.prog A Qs Cs hA qs cs) mixed hr (.cons (.sym I.i0) (.cons (.int _ _) .nil)) w

set_option maxRecDepth 100000 in
set_option maxHeartbeats 4000000 in
theorem main_4 {x0 : Int} (I : In x0) (B : Bd x0) (w : World) :
    Calls Try.prog 3 #[.int .i64 x0, .int .i64 4] w fun e w' => e = .returned (.bool true) ∧ Below w.heap.size w w' := by
  by_cases h0 : z0 x0 ≤ z1 x0
  · have a0 := Ev.asOk_cons (Ev.asOk_le (is0 I) (is1 I) (Ev.dt h0)) Ev.asOk_nil
    by_cases h1 : z1 x0 ≤ z2 x0
    · have a1 := Ev.asOk_cons (Ev.asOk_le (is1 I) (is2 I) (Ev.dt h1)) a0
      by_cases h2 : z9 x0 = z12 x0
      · have a2 := Ev.asOk_cons (Ev.asOk_eq (is9 I) (is12 I) (Ev.dt h2)) a1
        exact fin_4 I a2 run0_4 w
      · exact (dead0 x0 B (z0 x0) (z1 x0) (z2 x0) (z3 x0) (z4 x0) (z5 x0) (z6 x0) (z7 x0) (z8 x0) (z9 x0) (z10 x0) (z11 x0) (z12 x0) rfl rfl rfl rfl rfl rfl rfl rfl rfl rfl rfl rfl rfl h0 h1 h2).elim
    · have a1 := Ev.asOk_cons (Ev.asOk_le (is1 I) (is2 I) (Ev.df h1)) a0
      exact fin_4 I a1 run1_4 w
  · have a0 := Ev.asOk_cons (Ev.asOk_le (is0 I) (is1 I) (Ev.df h0)) Ev.asOk_nil
    exact fin_4 I a0 run2_4 w
theorem fin_5 {x0 : Int} (I : In x0) {A : List Ev.As} (hA : ∀ a ∈ A, Ev.AsOk a) (hr : Ev.run ⟨Try.prog, Ev.mkTT Try.prog, Ev.mkFT Try.prog, A, Qs, Cs⟩ 100000 3 [Ev.inp .i64 0, .int .i64 5] = some true) (w : World) :
    Calls Try.prog 3 #[.int .i64 x0, .int .i64 5] w fun e w' => e = .returned (.bool true) ∧ Below w.heap.size w w' :=
  Ev.run_calls (Ev.envOkA Try.prog A Qs Cs hA qs cs) mixed hr (.cons (.sym I.i0) (.cons (.int _ _) .nil)) w

set_option maxRecDepth 100000 in
set_option maxHeartbeats 4000000 in
theorem main_5 {x0 : Int} (I : In x0) (B : Bd x0) (w : World) :
    Calls Try.prog 3 #[.int .i64 x0, .int .i64 5] w fun e w' => e = .returned (.bool true) ∧ Below w.heap.size w w' := by
  by_cases h0 : z0 x0 ≤ z1 x0
  · have a0 := Ev.asOk_cons (Ev.asOk_le (is0 I) (is1 I) (Ev.dt h0)) Ev.asOk_nil
    by_cases h1 : z1 x0 ≤ z2 x0
    · have a1 := Ev.asOk_cons (Ev.asOk_le (is1 I) (is2 I) (Ev.dt h1)) a0
      by_cases h2 : z9 x0 = z12 x0
      · have a2 := Ev.asOk_cons (Ev.asOk_eq (is9 I) (is12 I) (Ev.dt h2)) a1
        exact fin_5 I a2 run0_5 w
      · exact (dead0 x0 B (z0 x0) (z1 x0) (z2 x0) (z3 x0) (z4 x0) (z5 x0) (z6 x0) (z7 x0) (z8 x0) (z9 x0) (z10 x0) (z11 x0) (z12 x0) rfl rfl rfl rfl rfl rfl rfl rfl rfl rfl rfl rfl rfl h0 h1 h2).elim
    · have a1 := Ev.asOk_cons (Ev.asOk_le (is1 I) (is2 I) (Ev.df h1)) a0
      exact fin_5 I a1 run1_5 w
  · have a0 := Ev.asOk_cons (Ev.asOk_le (is0 I) (is1 I) (Ev.df h0)) Ev.asOk_nil
    exact fin_5 I a0 run2_5 w
theorem fin_6 {x0 : Int} (I : In x0) {A : List Ev.As} (hA : ∀ a ∈ A, Ev.AsOk a) (hr : Ev.run ⟨Try.prog, Ev.mkTT Try.prog, Ev.mkFT Try.prog, A, Qs, Cs⟩ 100000 3 [Ev.inp .i64 0, .int .i64 6] = some true) (w : World) :
    Calls Try.prog 3 #[.int .i64 x0, .int .i64 6] w fun e w' => e = .returned (.bool true) ∧ Below w.heap.size w w' :=
  Ev.run_calls (Ev.envOkA Try.prog A Qs Cs hA qs cs) mixed hr (.cons (.sym I.i0) (.cons (.int _ _) .nil)) w

set_option maxRecDepth 100000 in
set_option maxHeartbeats 4000000 in
theorem main_6 {x0 : Int} (I : In x0) (B : Bd x0) (w : World) :
    Calls Try.prog 3 #[.int .i64 x0, .int .i64 6] w fun e w' => e = .returned (.bool true) ∧ Below w.heap.size w w' := by
  by_cases h0 : z0 x0 ≤ z1 x0
  · have a0 := Ev.asOk_cons (Ev.asOk_le (is0 I) (is1 I) (Ev.dt h0)) Ev.asOk_nil
    by_cases h1 : z1 x0 ≤ z2 x0
    · have a1 := Ev.asOk_cons (Ev.asOk_le (is1 I) (is2 I) (Ev.dt h1)) a0
      by_cases h2 : z9 x0 = z12 x0
      · have a2 := Ev.asOk_cons (Ev.asOk_eq (is9 I) (is12 I) (Ev.dt h2)) a1
        exact fin_6 I a2 run0_6 w
      · exact (dead0 x0 B (z0 x0) (z1 x0) (z2 x0) (z3 x0) (z4 x0) (z5 x0) (z6 x0) (z7 x0) (z8 x0) (z9 x0) (z10 x0) (z11 x0) (z12 x0) rfl rfl rfl rfl rfl rfl rfl rfl rfl rfl rfl rfl rfl h0 h1 h2).elim
    · have a1 := Ev.asOk_cons (Ev.asOk_le (is1 I) (is2 I) (Ev.df h1)) a0
      exact fin_6 I a1 run1_6 w
  · have a0 := Ev.asOk_cons (Ev.asOk_le (is0 I) (is1 I) (Ev.df h0)) Ev.asOk_nil
    exact fin_6 I a0 run2_6 w
theorem fin_7 {x0 : Int} (I : In x0) {A : List Ev.As} (hA : ∀ a ∈ A, Ev.AsOk a) (hr : Ev.run ⟨Try.prog, Ev.mkTT Try.prog, Ev.mkFT Try.prog, A, Qs, Cs⟩ 100000 3 [Ev.inp .i64 0, .int .i64 7] = some true) (w : World) :
    Calls Try.prog 3 #[.int .i64 x0, .int .i64 7] w fun e w' => e = .returned (.bool true) ∧ Below w.heap.size w w' :=
  Ev.run_calls (Ev.envOkA Try.prog A Qs Cs hA qs cs) mixed hr (.cons (.sym I.i0) (.cons (.int _ _) .nil)) w

set_option maxRecDepth 100000 in
set_option maxHeartbeats 4000000 in
theorem main_7 {x0 : Int} (I : In x0) (B : Bd x0) (w : World) :
    Calls Try.prog 3 #[.int .i64 x0, .int .i64 7] w fun e w' => e = .returned (.bool true) ∧ Below w.heap.size w w' := by
  by_cases h0 : z0 x0 ≤ z1 x0
  · have a0 := Ev.asOk_cons (Ev.asOk_le (is0 I) (is1 I) (Ev.dt h0)) Ev.asOk_nil
    by_cases h1 : z1 x0 ≤ z2 x0
    · have a1 := Ev.asOk_cons (Ev.asOk_le (is1 I) (is2 I) (Ev.dt h1)) a0
      by_cases h2 : z9 x0 = z12 x0
      · have a2 := Ev.asOk_cons (Ev.asOk_eq (is9 I) (is12 I) (Ev.dt h2)) a1
        exact fin_7 I a2 run0_7 w
      · exact (dead0 x0 B (z0 x0) (z1 x0) (z2 x0) (z3 x0) (z4 x0) (z5 x0) (z6 x0) (z7 x0) (z8 x0) (z9 x0) (z10 x0) (z11 x0) (z12 x0) rfl rfl rfl rfl rfl rfl rfl rfl rfl rfl rfl rfl rfl h0 h1 h2).elim
    · have a1 := Ev.asOk_cons (Ev.asOk_le (is1 I) (is2 I) (Ev.df h1)) a0
      exact fin_7 I a1 run1_7 w
  · have a0 := Ev.asOk_cons (Ev.asOk_le (is0 I) (is1 I) (Ev.df h0)) Ev.asOk_nil
    exact fin_7 I a0 run2_7 w
theorem fin_8 {x0 : Int} (I : In x0) {A : List Ev.As} (hA : ∀ a ∈ A, Ev.AsOk a) (hr : Ev.run ⟨Try.prog, Ev.mkTT Try.prog, Ev.mkFT Try.prog, A, Qs, Cs⟩ 100000 3 [Ev.inp .i64 0, .int .i64 8] = some true) (w : World) :
    Calls Try.prog 3 #[.int .i64 x0, .int .i64 8] w fun e w' => e = .returned (.bool true) ∧ Below w.heap.size w w' :=
  Ev.run_calls (Ev.envOkA Try.prog A Qs Cs hA qs cs) mixed hr (.cons (.sym I.i0) (.cons (.int _ _) .nil)) w

set_option maxRecDepth 100000 in
set_option maxHeartbeats 4000000 in
theorem main_8 {x0 : Int} (I : In x0) (B : Bd x0) (w : World) :
    Calls Try.prog 3 #[.int .i64 x0, .int .i64 8] w fun e w' => e = .returned (.bool true) ∧ Below w.heap.size w w' := by
  by_cases h0 : z0 x0 ≤ z1 x0
  · have a0 := Ev.asOk_cons (Ev.asOk_le (is0 I) (is1 I) (Ev.dt h0)) Ev.asOk_nil
    by_cases h1 : z1 x0 ≤ z2 x0
    · have a1 := Ev.asOk_cons (Ev.asOk_le (is1 I) (is2 I) (Ev.dt h1)) a0
      by_cases h2 : z9 x0 = z12 x0
      · have a2 := Ev.asOk_cons (Ev.asOk_eq (is9 I) (is12 I) (Ev.dt h2)) a1
        exact fin_8 I a2 run0_8 w
      · exact (dead0 x0 B (z0 x0) (z1 x0) (z2 x0) (z3 x0) (z4 x0) (z5 x0) (z6 x0) (z7 x0) (z8 x0) (z9 x0) (z10 x0) (z11 x0) (z12 x0) rfl rfl rfl rfl rfl rfl rfl rfl rfl rfl rfl rfl rfl h0 h1 h2).elim
    · have a1 := Ev.asOk_cons (Ev.asOk_le (is1 I) (is2 I) (Ev.df h1)) a0
      exact fin_8 I a1 run1_8 w
  · have a0 := Ev.asOk_cons (Ev.asOk_le (is0 I) (is1 I) (Ev.df h0)) Ev.asOk_nil
    exact fin_8 I a0 run2_8 w
theorem fin_9 {x0 : Int} (I : In x0) {A : List Ev.As} (hA : ∀ a ∈ A, Ev.AsOk a) (hr : Ev.run ⟨Try.prog, Ev.mkTT Try.prog, Ev.mkFT Try.prog, A, Qs, Cs⟩ 100000 3 [Ev.inp .i64 0, .int .i64 9] = some true) (w : World) :
    Calls Try.prog 3 #[.int .i64 x0, .int .i64 9] w fun e w' => e = .returned (.bool true) ∧ Below w.heap.size w w' :=
  Ev.run_calls (Ev.envOkA Try.prog A Qs Cs hA qs cs) mixed hr (.cons (.sym I.i0) (.cons (.int _ _) .nil)) w

set_option maxRecDepth 100000 in
set_option maxHeartbeats 4000000 in
theorem main_9 {x0 : Int} (I : In x0) (B : Bd x0) (w : World) :
    Calls Try.prog 3 #[.int .i64 x0, .int .i64 9] w fun e w' => e = .returned (.bool true) ∧ Below w.heap.size w w' := by
  by_cases h0 : z0 x0 ≤ z1 x0
  · have a0 := Ev.asOk_cons (Ev.asOk_le (is0 I) (is1 I) (Ev.dt h0)) Ev.asOk_nil
    by_cases h1 : z1 x0 ≤ z2 x0
    · have a1 := Ev.asOk_cons (Ev.asOk_le (is1 I) (is2 I) (Ev.dt h1)) a0
      by_cases h2 : z9 x0 = z12 x0
      · have a2 := Ev.asOk_cons (Ev.asOk_eq (is9 I) (is12 I) (Ev.dt h2)) a1
        exact fin_9 I a2 run0_9 w
      · exact (dead0 x0 B (z0 x0) (z1 x0) (z2 x0) (z3 x0) (z4 x0) (z5 x0) (z6 x0) (z7 x0) (z8 x0) (z9 x0) (z10 x0) (z11 x0) (z12 x0) rfl rfl rfl rfl rfl rfl rfl rfl rfl rfl rfl rfl rfl h0 h1 h2).elim
    · have a1 := Ev.asOk_cons (Ev.asOk_le (is1 I) (is2 I) (Ev.df h1)) a0
      exact fin_9 I a1 run1_9 w
  · have a0 := Ev.asOk_cons (Ev.asOk_le (is0 I) (is1 I) (Ev.df h0)) Ev.asOk_nil
    exact fin_9 I a0 run2_9 w
theorem fin_10 {x0 : Int} (I : In x0) {A : List Ev.As} (hA : ∀ a ∈ A, Ev.AsOk a) (hr : Ev.run ⟨Try.prog, Ev.mkTT Try.prog, Ev.mkFT Try.prog, A, Qs, Cs⟩ 100000 3 [Ev.inp .i64 0, .int .i64 10] = some true) (w : World) :
    Calls Try.prog 3 #[.int .i64 x0, .int .i64 10] w fun e w' => e = .returned (.bool true) ∧ Below w.heap.size w w' :=
  Ev.run_calls (Ev.envOkA Try.prog A Qs Cs hA qs cs) mixed hr (.cons (.sym I.i0) (.cons (.int _ _) .nil)) w

set_option maxRecDepth 100000 in
set_option maxHeartbeats 4000000 in
theorem main_10 {x0 : Int} (I : In x0) (B : Bd x0) (w : World) :
    Calls Try.prog 3 #[.int .i64 x0, .int .i64 10] w fun e w' => e = .returned (.bool true) ∧ Below w.heap.size w w' := by
  by_cases h0 : z0 x0 ≤ z1 x0
  · have a0 := Ev.asOk_cons (Ev.asOk_le (is0 I) (is1 I) (Ev.dt h0)) Ev.asOk_nil
    by_cases h1 : z1 x0 ≤ z2 x0
    · have a1 := Ev.asOk_cons (Ev.asOk_le (is1 I) (is2 I) (Ev.dt h1)) a0
      by_cases h2 : z9 x0 = z12 x0
      · have a2 := Ev.asOk_cons (Ev.asOk_eq (is9 I) (is12 I) (Ev.dt h2)) a1
        exact fin_10 I a2 run0_10 w
      · exact (dead0 x0 B (z0 x0) (z1 x0) (z2 x0) (z3 x0) (z4 x0) (z5 x0) (z6 x0) (z7 x0) (z8 x0) (z9 x0) (z10 x0) (z11 x0) (z12 x0) rfl rfl rfl rfl rfl rfl rfl rfl rfl rfl rfl rfl rfl h0 h1 h2).elim
    · have a1 := Ev.asOk_cons (Ev.asOk_le (is1 I) (is2 I) (Ev.df h1)) a0
      exact fin_10 I a1 run1_10 w
  · have a0 := Ev.asOk_cons (Ev.asOk_le (is0 I) (is1 I) (Ev.df h0)) Ev.asOk_nil
    exact fin_10 I a0 run2_10 w
theorem fin_11 {x0 : Int} (I : In x0) {A : List Ev.As} (hA : ∀ a ∈ A, Ev.AsOk a) (hr : Ev.run ⟨Try.prog, Ev.mkTT Try.prog, Ev.mkFT Try.prog, A, Qs, Cs⟩ 100000 3 [Ev.inp .i64 0, .int .i64 11] = some true) (w : World) :
    Calls Try.prog 3 #[.int .i64 x0, .int .i64 11] w fun e w' => e = .returned (.bool true) ∧ Below w.heap.size w w' :=
  Ev.run_calls (Ev.envOkA Try.prog A Qs Cs hA qs cs) mixed hr (.cons (.sym I.i0) (.cons (.int _ _) .nil)) w

set_option maxRecDepth 100000 in
set_option maxHeartbeats 4000000 in
theorem main_11 {x0 : Int} (I : In x0) (B : Bd x0) (w : World) :
    Calls Try.prog 3 #[.int .i64 x0, .int .i64 11] w fun e w' => e = .returned (.bool true) ∧ Below w.heap.size w w' := by
  by_cases h0 : z0 x0 ≤ z1 x0
  · have a0 := Ev.asOk_cons (Ev.asOk_le (is0 I) (is1 I) (Ev.dt h0)) Ev.asOk_nil
    by_cases h1 : z1 x0 ≤ z2 x0
    · have a1 := Ev.asOk_cons (Ev.asOk_le (is1 I) (is2 I) (Ev.dt h1)) a0
      by_cases h2 : z9 x0 = z12 x0
      · have a2 := Ev.asOk_cons (Ev.asOk_eq (is9 I) (is12 I) (Ev.dt h2)) a1
        exact fin_11 I a2 run0_11 w
      · exact (dead0 x0 B (z0 x0) (z1 x0) (z2 x0) (z3 x0) (z4 x0) (z5 x0) (z6 x0) (z7 x0) (z8 x0) (z9 x0) (z10 x0) (z11 x0) (z12 x0) rfl rfl rfl rfl rfl rfl rfl rfl rfl rfl rfl rfl rfl h0 h1 h2).elim
    · have a1 := Ev.asOk_cons (Ev.asOk_le (is1 I) (is2 I) (Ev.df h1)) a0
      exact fin_11 I a1 run1_11 w
  · have a0 := Ev.asOk_cons (Ev.asOk_le (is0 I) (is1 I) (Ev.df h0)) Ev.asOk_nil
    exact fin_11 I a0 run2_11 w
theorem fin_12 {x0 : Int} (I : In x0) {A : List Ev.As} (hA : ∀ a ∈ A, Ev.AsOk a) (hr : Ev.run ⟨Try.prog, Ev.mkTT Try.prog, Ev.mkFT Try.prog, A, Qs, Cs⟩ 100000 3 [Ev.inp .i64 0, .int .i64 12] = some true) (w : World) :
    Calls Try.prog 3 #[.int .i64 x0, .int .i64 12] w fun e w' => e = .returned (.bool true) ∧ Below w.heap.size w w' :=
  Ev.run_calls (Ev.envOkA Try.prog A Qs Cs hA qs cs) mixed hr (.cons (.sym I.i0) (.cons (.int _ _) .nil)) w

set_option maxRecDepth 100000 in
set_option maxHeartbeats 4000000 in
theorem main_12 {x0 : Int} (I : In x0) (B : Bd x0) (w : World) :
    Calls Try.prog 3 #[.int .i64 x0, .int .i64 12] w fun e w' => e = .returned (.bool true) ∧ Below w.heap.size w w' := by
  by_cases h0 : z0 x0 ≤ z1 x0
  · have a0 := Ev.asOk_cons (Ev.asOk_le (is0 I) (is1 I) (Ev.dt h0)) Ev.asOk_nil
    by_cases h1 : z1 x0 ≤ z2 x0
    · have a1 := Ev.asOk_cons (Ev.asOk_le (is1 I) (is2 I) (Ev.dt h1)) a0
      by_cases h2 : z9 x0 = z12 x0
      · have a2 := Ev.asOk_cons (Ev.asOk_eq (is9 I) (is12 I) (Ev.dt h2)) a1
        exact fin_12 I a2 run0_12 w
      · exact (dead0 x0 B (z0 x0) (z1 x0) (z2 x0) (z3 x0) (z4 x0) (z5 x0) (z6 x0) (z7 x0) (z8 x0) (z9 x0) (z10 x0) (z11 x0) (z12 x0) rfl rfl rfl rfl rfl rfl rfl rfl rfl rfl rfl rfl rfl h0 h1 h2).elim
    · have a1 := Ev.asOk_cons (Ev.asOk_le (is1 I) (is2 I) (Ev.df h1)) a0
      exact fin_12 I a1 run1_12 w
  · have a0 := Ev.asOk_cons (Ev.asOk_le (is0 I) (is1 I) (Ev.df h0)) Ev.asOk_nil
    exact fin_12 I a0 run2_12 w
theorem fin_13 {x0 : Int} (I : In x0) {A : List Ev.As} (hA : ∀ a ∈ A, Ev.AsOk a) (hr : Ev.run ⟨Try.prog, Ev.mkTT Try.prog, Ev.mkFT Try.prog, A, Qs, Cs⟩ 100000 3 [Ev.inp .i64 0, .int .i64 13] = some true) (w : World) :
    Calls Try.prog 3 #[.int .i64 x0, .int .i64 13] w fun e w' => e = .returned (.bool true) ∧ Below w.heap.size w w' :=
  Ev.run_calls (Ev.envOkA Try.prog A Qs Cs hA qs cs) mixed hr (.cons (.sym I.i0) (.cons (.int _ _) .nil)) w

set_option maxRecDepth 100000 in
set_option maxHeartbeats 4000000 in
theorem main_13 {x0 : Int} (I : In x0) (B : Bd x0) (w : World) :
    Calls Try.prog 3 #[.int .i64 x0, .int .i64 13] w fun e w' => e = .returned (.bool true) ∧ Below w.heap.size w w' := by
  by_cases h0 : z0 x0 ≤ z1 x0
  · have a0 := Ev.asOk_cons (Ev.asOk_le (is0 I) (is1 I) (Ev.dt h0)) Ev.asOk_nil
    by_cases h1 : z1 x0 ≤ z2 x0
    · have a1 := Ev.asOk_cons (Ev.asOk_le (is1 I) (is2 I) (Ev.dt h1)) a0
      by_cases h2 : z9 x0 = z12 x0
      · have a2 := Ev.asOk_cons (Ev.asOk_eq (is9 I) (is12 I) (Ev.dt h2)) a1
        exact fin_13 I a2 run0_13 w
      · exact (dead0 x0 B (z0 x0) (z1 x0) (z2 x0) (z3 x0) (z4 x0) (z5 x0) (z6 x0) (z7 x0) (z8 x0) (z9 x0) (z10 x0) (z11 x0) (z12 x0) rfl rfl rfl rfl rfl rfl rfl rfl rfl rfl rfl rfl rfl h0 h1 h2).elim
    · have a1 := Ev.asOk_cons (Ev.asOk_le (is1 I) (is2 I) (Ev.df h1)) a0
      exact fin_13 I a1 run1_13 w
  · have a0 := Ev.asOk_cons (Ev.asOk_le (is0 I) (is1 I) (Ev.df h0)) Ev.asOk_nil
    exact fin_13 I a0 run2_13 w
theorem fin_14 {x0 : Int} (I : In x0) {A : List Ev.As} (hA : ∀ a ∈ A, Ev.AsOk a) (hr : Ev.run ⟨Try.prog, Ev.mkTT Try.prog, Ev.mkFT Try.prog, A, Qs, Cs⟩ 100000 3 [Ev.inp .i64 0, .int .i64 14] = some true) (w : World) :
    Calls Try.prog 3 #[.int .i64 x0, .int .i64 14] w fun e w' => e = .returned (.bool true) ∧ Below w.heap.size w w' :=
  Ev.run_calls (Ev.envOkA Try.prog A Qs Cs hA qs cs) mixed hr (.cons (.sym I.i0) (.cons (.int _ _) .nil)) w

set_option maxRecDepth 100000 in
set_option maxHeartbeats 4000000 in
theorem main_14 {x0 : Int} (I : In x0) (B : Bd x0) (w : World) :
    Calls Try.prog 3 #[.int .i64 x0, .int .i64 14] w fun e w' => e = .returned (.bool true) ∧ Below w.heap.size w w' := by
  by_cases h0 : z0 x0 ≤ z1 x0
  · have a0 := Ev.asOk_cons (Ev.asOk_le (is0 I) (is1 I) (Ev.dt h0)) Ev.asOk_nil
    by_cases h1 : z1 x0 ≤ z2 x0
    · have a1 := Ev.asOk_cons (Ev.asOk_le (is1 I) (is2 I) (Ev.dt h1)) a0
      by_cases h2 : z9 x0 = z12 x0
      · have a2 := Ev.asOk_cons (Ev.asOk_eq (is9 I) (is12 I) (Ev.dt h2)) a1
        exact fin_14 I a2 run0_14 w
      · exact (dead0 x0 B (z0 x0) (z1 x0) (z2 x0) (z3 x0) (z4 x0) (z5 x0) (z6 x0) (z7 x0) (z8 x0) (z9 x0) (z10 x0) (z11 x0) (z12 x0) rfl rfl rfl rfl rfl rfl rfl rfl rfl rfl rfl rfl rfl h0 h1 h2).elim
    · have a1 := Ev.asOk_cons (Ev.asOk_le (is1 I) (is2 I) (Ev.df h1)) a0
      exact fin_14 I a1 run1_14 w
  · have a0 := Ev.asOk_cons (Ev.asOk_le (is0 I) (is1 I) (Ev.df h0)) Ev.asOk_nil
    exact fin_14 I a0 run2_14 w
theorem fin_15 {x0 : Int} (I : In x0) {A : List Ev.As} (hA : ∀ a ∈ A, Ev.AsOk a) (hr : Ev.run ⟨Try.prog, Ev.mkTT Try.prog, Ev.mkFT Try.prog, A, Qs, Cs⟩ 100000 3 [Ev.inp .i64 0, .int .i64 15] = some true) (w : World) :
    Calls Try.prog 3 #[.int .i64 x0, .int .i64 15] w fun e w' => e = .returned (.bool true) ∧ Below w.heap.size w w' :=
  Ev.run_calls (Ev.envOkA Try.prog A Qs Cs hA qs cs) mixed hr (.cons (.sym I.i0) (.cons (.int _ _) .nil)) w

set_option maxRecDepth 100000 in
set_option maxHeartbeats 4000000 in
theorem main_15 {x0 : Int} (I : In x0) (B : Bd x0) (w : World) :
    Calls Try.prog 3 #[.int .i64 x0, .int .i64 15] w fun e w' => e = .returned (.bool true) ∧ Below w.heap.size w w' := by
  by_cases h0 : z0 x0 ≤ z1 x0
  · have a0 := Ev.asOk_cons (Ev.asOk_le (is0 I) (is1 I) (Ev.dt h0)) Ev.asOk_nil
    by_cases h1 : z1 x0 ≤ z2 x0
    · have a1 := Ev.asOk_cons (Ev.asOk_le (is1 I) (is2 I) (Ev.dt h1)) a0
      by_cases h2 : z9 x0 = z12 x0
      · have a2 := Ev.asOk_cons (Ev.asOk_eq (is9 I) (is12 I) (Ev.dt h2)) a1
        exact fin_15 I a2 run0_15 w
      · exact (dead0 x0 B (z0 x0) (z1 x0) (z2 x0) (z3 x0) (z4 x0) (z5 x0) (z6 x0) (z7 x0) (z8 x0) (z9 x0) (z10 x0) (z11 x0) (z12 x0) rfl rfl rfl rfl rfl rfl rfl rfl rfl rfl rfl rfl rfl h0 h1 h2).elim
    · have a1 := Ev.asOk_cons (Ev.asOk_le (is1 I) (is2 I) (Ev.df h1)) a0
      exact fin_15 I a1 run1_15 w
  · have a0 := Ev.asOk_cons (Ev.asOk_le (is0 I) (is1 I) (Ev.df h0)) Ev.asOk_nil
    exact fin_15 I a0 run2_15 w
theorem fin_16 {x0 : Int} (I : In x0) {A : List Ev.As} (hA : ∀ a ∈ A, Ev.AsOk a) (hr : Ev.run ⟨Try.prog, Ev.mkTT Try.prog, Ev.mkFT Try.prog, A, Qs, Cs⟩ 100000 3 [Ev.inp .i64 0, .int .i64 16] = some true) (w : World) :
    Calls Try.prog 3 #[.int .i64 x0, .int .i64 16] w fun e w' => e = .returned (.bool true) ∧ Below w.heap.size w w' :=
  Ev.run_calls (Ev.envOkA Try.prog A Qs Cs hA qs cs) mixed hr (.cons (.sym I.i0) (.cons (.int _ _) .nil)) w

set_option maxRecDepth 100000 in
set_option maxHeartbeats 4000000 in
theorem main_16 {x0 : Int} (I : In x0) (B : Bd x0) (w : World) :
    Calls Try.prog 3 #[.int .i64 x0, .int .i64 16] w fun e w' => e = .returned (.bool true) ∧ Below w.heap.size w w' := by
  by_cases h0 : z0 x0 ≤ z1 x0
  · have a0 := Ev.asOk_cons (Ev.asOk_le (is0 I) (is1 I) (Ev.dt h0)) Ev.asOk_nil
    by_cases h1 : z1 x0 ≤ z2 x0
    · have a1 := Ev.asOk_cons (Ev.asOk_le (is1 I) (is2 I) (Ev.dt h1)) a0
      by_cases h2 : z9 x0 = z12 x0
      · have a2 := Ev.asOk_cons (Ev.asOk_eq (is9 I) (is12 I) (Ev.dt h2)) a1
        exact fin_16 I a2 run0_16 w
      · exact (dead0 x0 B (z0 x0) (z1 x0) (z2 x0) (z3 x0) (z4 x0) (z5 x0) (z6 x0) (z7 x0) (z8 x0) (z9 x0) (z10 x0) (z11 x0) (z12 x0) rfl rfl rfl rfl rfl rfl rfl rfl rfl rfl rfl rfl rfl h0 h1 h2).elim
    · have a1 := Ev.asOk_cons (Ev.asOk_le (is1 I) (is2 I) (Ev.df h1)) a0
      exact fin_16 I a1 run1_16 w
  · have a0 := Ev.asOk_cons (Ev.asOk_le (is0 I) (is1 I) (Ev.df h0)) Ev.asOk_nil
    exact fin_16 I a0 run2_16 w
theorem fin_17 {x0 : Int} (I : In x0) {A : List Ev.As} (hA : ∀ a ∈ A, Ev.AsOk a) (hr : Ev.run ⟨Try.prog, Ev.mkTT Try.prog, Ev.mkFT Try.prog, A, Qs, Cs⟩ 100000 3 [Ev.inp .i64 0, .int .i64 17] = some true) (w : World) :
    Calls Try.prog 3 #[.int .i64 x0, .int .i64 17] w fun e w' => e = .returned (.bool true) ∧ Below w.heap.size w w' :=
  Ev.run_calls (Ev.envOkA Try.prog A Qs Cs hA qs cs) mixed hr (.cons (.sym I.i0) (.cons (.int _ _) .nil)) w

set_option maxRecDepth 100000 in
set_option maxHeartbeats 4000000 in
theorem main_17 {x0 : Int} (I : In x0) (B : Bd x0) (w : World) :
    Calls Try.prog 3 #[.int .i64 x0, .int .i64 17] w fun e w' => e = .returned (.bool true) ∧ Below w.heap.size w w' := by
  by_cases h0 : z0 x0 ≤ z1 x0
  · have a0 := Ev.asOk_cons (Ev.asOk_le (is0 I) (is1 I) (Ev.dt h0)) Ev.asOk_nil
    by_cases h1 : z1 x0 ≤ z2 x0
    · have a1 := Ev.asOk_cons (Ev.asOk_le (is1 I) (is2 I) (Ev.dt h1)) a0
      by_cases h2 : z9 x0 = z12 x0
      · have a2 := Ev.asOk_cons (Ev.asOk_eq (is9 I) (is12 I) (Ev.dt h2)) a1
        exact fin_17 I a2 run0_17 w
      · exact (dead0 x0 B (z0 x0) (z1 x0) (z2 x0) (z3 x0) (z4 x0) (z5 x0) (z6 x0) (z7 x0) (z8 x0) (z9 x0) (z10 x0) (z11 x0) (z12 x0) rfl rfl rfl rfl rfl rfl rfl rfl rfl rfl rfl rfl rfl h0 h1 h2).elim
    · have a1 := Ev.asOk_cons (Ev.asOk_le (is1 I) (is2 I) (Ev.df h1)) a0
      exact fin_17 I a1 run1_17 w
  · have a0 := Ev.asOk_cons (Ev.asOk_le (is0 I) (is1 I) (Ev.df h0)) Ev.asOk_nil
    exact fin_17 I a0 run2_17 w
theorem fin_18 {x0 : Int} (I : In x0) {A : List Ev.As} (hA : ∀ a ∈ A, Ev.AsOk a) (hr : Ev.run ⟨Try.prog, Ev.mkTT Try.prog, Ev.mkFT Try.prog, A, Qs, Cs⟩ 100000 3 [Ev.inp .i64 0, .int .i64 18] = some true) (w : World) :
    Calls Try.prog 3 #[.int .i64 x0, .int .i64 18] w fun e w' => e = .returned (.bool true) ∧ Below w.heap.size w w' :=
  Ev.run_calls (Ev.envOkA Try.prog A Qs Cs hA qs cs) mixed hr (.cons (.sym I.i0) (.cons (.int _ _) .nil)) w

set_option maxRecDepth 100000 in
set_option maxHeartbeats 4000000 in
theorem main_18 {x0 : Int} (I : In x0) (B : Bd x0) (w : World) :
    Calls Try.prog 3 #[.int .i64 x0, .int .i64 18] w fun e w' => e = .returned (.bool true) ∧ Below w.heap.size w w' := by
  by_cases h0 : z0 x0 ≤ z1 x0
  · have a0 := Ev.asOk_cons (Ev.asOk_le (is0 I) (is1 I) (Ev.dt h0)) Ev.asOk_nil
    by_cases h1 : z1 x0 ≤ z2 x0
    · have a1 := Ev.asOk_cons (Ev.asOk_le (is1 I) (is2 I) (Ev.dt h1)) a0
      by_cases h2 : z9 x0 = z12 x0
      · have a2 := Ev.asOk_cons (Ev.asOk_eq (is9 I) (is12 I) (Ev.dt h2)) a1
        exact fin_18 I a2 run0_18 w
      · exact (dead0 x0 B (z0 x0) (z1 x0) (z2 x0) (z3 x0) (z4 x0) (z5 x0) (z6 x0) (z7 x0) (z8 x0) (z9 x0) (z10 x0) (z11 x0) (z12 x0) rfl rfl rfl rfl rfl rfl rfl rfl rfl rfl rfl rfl rfl h0 h1 h2).elim
    · have a1 := Ev.asOk_cons (Ev.asOk_le (is1 I) (is2 I) (Ev.df h1)) a0
      exact fin_18 I a1 run1_18 w
  · have a0 := Ev.asOk_cons (Ev.asOk_le (is0 I) (is1 I) (Ev.df h0)) Ev.asOk_nil
    exact fin_18 I a0 run2_18 w
theorem fin_19 {x0 : Int} (I : In x0) {A : List Ev.As} (hA : ∀ a ∈ A, Ev.AsOk a) (hr : Ev.run ⟨Try.prog, Ev.mkTT Try.prog, Ev.mkFT Try.prog, A, Qs, Cs⟩ 100000 3 [Ev.inp .i64 0, .int .i64 19] = some true) (w : World) :
    Calls Try.prog 3 #[.int .i64 x0, .int .i64 19] w fun e w' => e = .returned (.bool true) ∧ Below w.heap.size w w' :=
  Ev.run_calls (Ev.envOkA Try.prog A Qs Cs hA qs cs) mixed hr (.cons (.sym I.i0) (.cons (.int _ _) .nil)) w

set_option maxRecDepth 100000 in
set_option maxHeartbeats 4000000 in
theorem main_19 {x0 : Int} (I : In x0) (B : Bd x0) (w : World) :
    Calls Try.prog 3 #[.int .i64 x0, .int .i64 19] w fun e w' => e = .returned (.bool true) ∧ Below w.heap.size w w' := by
  by_cases h0 : z0 x0 ≤ z1 x0
  · have a0 := Ev.asOk_cons (Ev.asOk_le (is0 I) (is1 I) (Ev.dt h0)) Ev.asOk_nil
    by_cases h1 : z1 x0 ≤ z2 x0
    · have a1 := Ev.asOk_cons (Ev.asOk_le (is1 I) (is2 I) (Ev.dt h1)) a0
      by_cases h2 : z9 x0 = z12 x0
      · have a2 := Ev.asOk_cons (Ev.asOk_eq (is9 I) (is12 I) (Ev.dt h2)) a1
        exact fin_19 I a2 run0_19 w
      · exact (dead0 x0 B (z0 x0) (z1 x0) (z2 x0) (z3 x0) (z4 x0) (z5 x0) (z6 x0) (z7 x0) (z8 x0) (z9 x0) (z10 x0) (z11 x0) (z12 x0) rfl rfl rfl rfl rfl rfl rfl rfl rfl rfl rfl rfl rfl h0 h1 h2).elim
    · have a1 := Ev.asOk_cons (Ev.asOk_le (is1 I) (is2 I) (Ev.df h1)) a0
      exact fin_19 I a1 run1_19 w
  · have a0 := Ev.asOk_cons (Ev.asOk_le (is0 I) (is1 I) (Ev.df h0)) Ev.asOk_nil
    exact fin_19 I a0 run2_19 w
theorem fin_20 {x0 : Int} (I : In x0) {A : List Ev.As} (hA : ∀ a ∈ A, Ev.AsOk a) (hr : Ev.run ⟨Try.prog, Ev.mkTT Try.prog, Ev.mkFT Try.prog, A, Qs, Cs⟩ 100000 3 [Ev.inp .i64 0, .int .i64 20] = some true) (w : World) :
    Calls Try.prog 3 #[.int .i64 x0, .int .i64 20] w fun e w' => e = .returned (.bool true) ∧ Below w.heap.size w w' :=
  Ev.run_calls (Ev.envOkA Try.prog A Qs Cs hA qs cs) mixed hr (.cons (.sym I.i0) (.cons (.int _ _) .nil)) w

set_option maxRecDepth 100000 in
set_option maxHeartbeats 4000000 in
theorem main_20 {x0 : Int} (I : In x0) (B : Bd x0) (w : World) :
    Calls Try.prog 3 #[.int .i64 x0, .int .i64 20] w fun e w' => e = .returned (.bool true) ∧ Below w.heap.size w w' := by
  by_cases h0 : z0 x0 ≤ z1 x0
  · have a0 := Ev.asOk_cons (Ev.asOk_le (is0 I) (is1 I) (Ev.dt h0)) Ev.asOk_nil
    by_cases h1 : z1 x0 ≤ z2 x0
    · have a1 := Ev.asOk_cons (Ev.asOk_le (is1 I) (is2 I) (Ev.dt h1)) a0
      by_cases h2 : z9 x0 = z12 x0
      · have a2 := Ev.asOk_cons (Ev.asOk_eq (is9 I) (is12 I) (Ev.dt h2)) a1
        exact fin_20 I a2 run0_20 w
      · exact (dead0 x0 B (z0 x0) (z1 x0) (z2 x0) (z3 x0) (z4 x0) (z5 x0) (z6 x0) (z7 x0) (z8 x0) (z9 x0) (z10 x0) (z11 x0) (z12 x0) rfl rfl rfl rfl rfl rfl rfl rfl rfl rfl rfl rfl rfl h0 h1 h2).elim
    · have a1 := Ev.asOk_cons (Ev.asOk_le (is1 I) (is2 I) (Ev.df h1)) a0
      exact fin_20 I a1 run1_20 w
  · have a0 := Ev.asOk_cons (Ev.asOk_le (is0 I) (is1 I) (Ev.df h0)) Ev.asOk_nil
    exact fin_20 I a0 run2_20 w
theorem fin_21 {x0 : Int} (I : In x0) {A : List Ev.As} (hA : ∀ a ∈ A, Ev.AsOk a) (hr : Ev.run ⟨Try.prog, Ev.mkTT Try.prog, Ev.mkFT Try.prog, A, Qs, Cs⟩ 100000 3 [Ev.inp .i64 0, .int .i64 21] = some true) (w : World) :
    Calls Try.prog 3 #[.int .i64 x0, .int .i64 21] w fun e w' => e = .returned (.bool true) ∧ Below w.heap.size w w' :=
  Ev.run_calls (Ev.envOkA Try.prog A Qs Cs hA qs cs) mixed hr (.cons (.sym I.i0) (.cons (.int _ _) .nil)) w

set_option maxRecDepth 100000 in
set_option maxHeartbeats 4000000 in
theorem main_21 {x0 : Int} (I : In x0) (B : Bd x0) (w : World) :
    Calls Try.prog 3 #[.int .i64 x0, .int .i64 21] w fun e w' => e = .returned (.bool true) ∧ Below w.heap.size w w' := by
  by_cases h0 : z0 x0 ≤ z1 x0
  · have a0 := Ev.asOk_cons (Ev.asOk_le (is0 I) (is1 I) (Ev.dt h0)) Ev.asOk_nil
    by_cases h1 : z1 x0 ≤ z2 x0
    · have a1 := Ev.asOk_cons (Ev.asOk_le (is1 I) (is2 I) (Ev.dt h1)) a0
      by_cases h2 : z9 x0 = z12 x0
      · have a2 := Ev.asOk_cons (Ev.asOk_eq (is9 I) (is12 I) (Ev.dt h2)) a1
        exact fin_21 I a2 run0_21 w
      · exact (dead0 x0 B (z0 x0) (z1 x0) (z2 x0) (z3 x0) (z4 x0) (z5 x0) (z6 x0) (z7 x0) (z8 x0) (z9 x0) (z10 x0) (z11 x0) (z12 x0) rfl rfl rfl rfl rfl rfl rfl rfl rfl rfl rfl rfl rfl h0 h1 h2).elim
    · have a1 := Ev.asOk_cons (Ev.asOk_le (is1 I) (is2 I) (Ev.df h1)) a0
      exact fin_21 I a1 run1_21 w
  · have a0 := Ev.asOk_cons (Ev.asOk_le (is0 I) (is1 I) (Ev.df h0)) Ev.asOk_nil
    exact fin_21 I a0 run2_21 w
theorem fin_22 {x0 : Int} (I : In x0) {A : List Ev.As} (hA : ∀ a ∈ A, Ev.AsOk a) (hr : Ev.run ⟨Try.prog, Ev.mkTT Try.prog, Ev.mkFT Try.prog, A, Qs, Cs⟩ 100000 3 [Ev.inp .i64 0, .int .i64 22] = some true) (w : World) :
    Calls Try.prog 3 #[.int .i64 x0, .int .i64 22] w fun e w' => e = .returned (.bool true) ∧ Below w.heap.size w w' :=
  Ev.run_calls (Ev.envOkA Try.prog A Qs Cs hA qs cs) mixed hr (.cons (.sym I.i0) (.cons (.int _ _) .nil)) w

set_option maxRecDepth 100000 in
set_option maxHeartbeats 4000000 in
theorem main_22 {x0 : Int} (I : In x0) (B : Bd x0) (w : World) :
    Calls Try.prog 3 #[.int .i64 x0, .int .i64 22] w fun e w' => e = .returned (.bool true) ∧ Below w.heap.size w w' := by
  by_cases h0 : z0 x0 ≤ z1 x0
  · have a0 := Ev.asOk_cons (Ev.asOk_le (is0 I) (is1 I) (Ev.dt h0)) Ev.asOk_nil
    by_cases h1 : z1 x0 ≤ z2 x0
    · have a1 := Ev.asOk_cons (Ev.asOk_le (is1 I) (is2 I) (Ev.dt h1)) a0
      by_cases h2 : z9 x0 = z12 x0
      · have a2 := Ev.asOk_cons (Ev.asOk_eq (is9 I) (is12 I) (Ev.dt h2)) a1
        exact fin_22 I a2 run0_22 w
      · exact (dead0 x0 B (z0 x0) (z1 x0) (z2 x0) (z3 x0) (z4 x0) (z5 x0) (z6 x0) (z7 x0) (z8 x0) (z9 x0) (z10 x0) (z11 x0) (z12 x0) rfl rfl rfl rfl rfl rfl rfl rfl rfl rfl rfl rfl rfl h0 h1 h2).elim
    · have a1 := Ev.asOk_cons (Ev.asOk_le (is1 I) (is2 I) (Ev.df h1)) a0
      exact fin_22 I a1 run1_22 w
  · have a0 := Ev.asOk_cons (Ev.asOk_le (is0 I) (is1 I) (Ev.df h0)) Ev.asOk_nil
    exact fin_22 I a0 run2_22 w
theorem fin_23 {x0 : Int} (I : In x0) {A : List Ev.As} (hA : ∀ a ∈ A, Ev.AsOk a) (hr : Ev.run ⟨Try.prog, Ev.mkTT Try.prog, Ev.mkFT Try.prog, A, Qs, Cs⟩ 100000 3 [Ev.inp .i64 0, .int .i64 23] = some true) (w : World) :
    Calls Try.prog 3 #[.int .i64 x0, .int .i64 23] w fun e w' => e = .returned (.bool true) ∧ Below w.heap.size w w' :=
  Ev.run_calls (Ev.envOkA Try.prog A Qs Cs hA qs cs) mixed hr (.cons (.sym I.i0) (.cons (.int _ _) .nil)) w

set_option maxRecDepth 100000 in
set_option maxHeartbeats 4000000 in
theorem main_23 {x0 : Int} (I : In x0) (B : Bd x0) (w : World) :
    Calls Try.prog 3 #[.int .i64 x0, .int .i64 23] w fun e w' => e = .returned (.bool true) ∧ Below w.heap.size w w' := by
  by_cases h0 : z0 x0 ≤ z1 x0
  · have a0 := Ev.asOk_cons (Ev.asOk_le (is0 I) (is1 I) (Ev.dt h0)) Ev.asOk_nil
    by_cases h1 : z1 x0 ≤ z2 x0
    · have a1 := Ev.asOk_cons (Ev.asOk_le (is1 I) (is2 I) (Ev.dt h1)) a0
      by_cases h2 : z9 x0 = z12 x0
      · have a2 := Ev.asOk_cons (Ev.asOk_eq (is9 I) (is12 I) (Ev.dt h2)) a1
        exact fin_23 I a2 run0_23 w
      · exact (dead0 x0 B (z0 x0) (z1 x0) (z2 x0) (z3 x0) (z4 x0) (z5 x0) (z6 x0) (z7 x0) (z8 x0) (z9 x0) (z10 x0) (z11 x0) (z12 x0) rfl rfl rfl rfl rfl rfl rfl rfl rfl rfl rfl rfl rfl h0 h1 h2).elim
    · have a1 := Ev.asOk_cons (Ev.asOk_le (is1 I) (is2 I) (Ev.df h1)) a0
      exact fin_23 I a1 run1_23 w
  · have a0 := Ev.asOk_cons (Ev.asOk_le (is0 I) (is1 I) (Ev.df h0)) Ev.asOk_nil
    exact fin_23 I a0 run2_23 w
theorem fin_24 {x0 : Int} (I : In x0) {A : List Ev.As} (hA : ∀ a ∈ A, Ev.AsOk a) (hr : Ev.run ⟨Try.prog, Ev.mkTT Try.prog, Ev.mkFT Try.prog, A, Qs, Cs⟩ 100000 3 [Ev.inp .i64 0, .int .i64 24] = some true) (w : World) :
    Calls Try.prog 3 #[.int .i64 x0, .int .i64 24] w fun e w' => e = .returned (.bool true) ∧ Below w.heap.size w w' :=
  Ev.run_calls (Ev.envOkA Try.prog A Qs Cs hA qs cs) mixed hr (.cons (.sym I.i0) (.cons (.int _ _) .nil)) w

set_option maxRecDepth 100000 in
set_option maxHeartbeats 4000000 in
theorem main_24 {x0 : Int} (I : In x0) (B : Bd x0) (w : World) :
    Calls Try.prog 3 #[.int .i64 x0, .int .i64 24] w fun e w' => e = .returned (.bool true) ∧ Below w.heap.size w w' := by
  by_cases h0 : z0 x0 ≤ z1 x0
  · have a0 := Ev.asOk_cons (Ev.asOk_le (is0 I) (is1 I) (Ev.dt h0)) Ev.asOk_nil
    by_cases h1 : z1 x0 ≤ z2 x0
    · have a1 := Ev.asOk_cons (Ev.asOk_le (is1 I) (is2 I) (Ev.dt h1)) a0
      by_cases h2 : z9 x0 = z12 x0
      · have a2 := Ev.asOk_cons (Ev.asOk_eq (is9 I) (is12 I) (Ev.dt h2)) a1
        exact fin_24 I a2 run0_24 w
      · exact (dead0 x0 B (z0 x0) (z1 x0) (z2 x0) (z3 x0) (z4 x0) (z5 x0) (z6 x0) (z7 x0) (z8 x0) (z9 x0) (z10 x0) (z11 x0) (z12 x0) rfl rfl rfl rfl rfl rfl rfl rfl rfl rfl rfl rfl rfl h0 h1 h2).elim
    · have a1 := Ev.asOk_cons (Ev.asOk_le (is1 I) (is2 I) (Ev.df h1)) a0
      exact fin_24 I a1 run1_24 w
  · have a0 := Ev.asOk_cons (Ev.asOk_le (is0 I) (is1 I) (Ev.df h0)) Ev.asOk_nil
    exact fin_24 I a0 run2_24 w
theorem fin_25 {x0 : Int} (I : In x0) {A : List Ev.As} (hA : ∀ a ∈ A, Ev.AsOk a) (hr : Ev.run ⟨Try.prog, Ev.mkTT Try.prog, Ev.mkFT Try.prog, A, Qs, Cs⟩ 100000 3 [Ev.inp .i64 0, .int .i64 25] = some true) (w : World) :
    Calls Try.prog 3 #[.int .i64 x0, .int .i64 25] w fun e w' => e = .returned (.bool true) ∧ Below w.heap.size w w' :=
  Ev.run_calls (Ev.envOkA Try.prog A Qs Cs hA qs cs) mixed hr (.cons (.sym I.i0) (.cons (.int _ _) .nil)) w

set_option maxRecDepth 100000 in
set_option maxHeartbeats 4000000 in
theorem main_25 {x0 : Int} (I : In x0) (B : Bd x0) (w : World) :
    Calls Try.prog 3 #[.int .i64 x0, .int .i64 25] w fun e w' => e = .returned (.bool true) ∧ Below w.heap.size w w' := by
  by_cases h0 : z0 x0 ≤ z1 x0
  · have a0 := Ev.asOk_cons (Ev.asOk_le (is0 I) (is1 I) (Ev.dt h0)) Ev.asOk_nil
    by_cases h1 : z1 x0 ≤ z2 x0
    · have a1 := Ev.asOk_cons (Ev.asOk_le (is1 I) (is2 I) (Ev.dt h1)) a0
      by_cases h2 : z9 x0 = z12 x0
      · have a2 := Ev.asOk_cons (Ev.asOk_eq (is9 I) (is12 I) (Ev.dt h2)) a1
        exact fin_25 I a2 run0_25 w
      · exact (dead0 x0 B (z0 x0) (z1 x0) (z2 x0) (z3 x0) (z4 x0) (z5 x0) (z6 x0) (z7 x0) (z8 x0) (z9 x0) (z10 x0) (z11 x0) (z12 x0) rfl rfl rfl rfl rfl rfl rfl rfl rfl rfl rfl rfl rfl h0 h1 h2).elim
    · have a1 := Ev.asOk_cons (Ev.asOk_le (is1 I) (is2 I) (Ev.df h1)) a0
      exact fin_25 I a1 run1_25 w
  · have a0 := Ev.asOk_cons (Ev.asOk_le (is0 I) (is1 I) (Ev.df h0)) Ev.asOk_nil
    exact fin_25 I a0 run2_25 w
theorem fin_26 {x0 : Int} (I : In x0) {A : List Ev.As} (hA : ∀ a ∈ A, Ev.AsOk a) (hr : Ev.run ⟨Try.prog, Ev.mkTT Try.prog, Ev.mkFT Try.prog, A, Qs, Cs⟩ 100000 3 [Ev.inp .i64 0, .int .i64 26] = some true) (w : World) :
    Calls Try.prog 3 #[.int .i64 x0, .int .i64 26] w fun e w' => e = .returned (.bool true) ∧ Below w.heap.size w w' :=
  Ev.run_calls (Ev.envOkA Try.prog A Qs Cs hA qs cs) mixed hr (.cons (.sym I.i0) (.cons (.int _ _) .nil)) w

set_option maxRecDepth 100000 in
set_option maxHeartbeats 4000000 in
theorem main_26 {x0 : Int} (I : In x0) (B : Bd x0) (w : World) :
    Calls Try.prog 3 #[.int .i64 x0, .int .i64 26] w fun e w' => e = .returned (.bool true) ∧ Below w.heap.size w w' := by
  by_cases h0 : z0 x0 ≤ z1 x0
  · have a0 := Ev.asOk_cons (Ev.asOk_le (is0 I) (is1 I) (Ev.dt h0)) Ev.asOk_nil
    by_cases h1 : z1 x0 ≤ z2 x0
    · have a1 := Ev.asOk_cons (Ev.asOk_le (is1 I) (is2 I) (Ev.dt h1)) a0
      by_cases h2 : z9 x0 = z12 x0
      · have a2 := Ev.asOk_cons (Ev.asOk_eq (is9 I) (is12 I) (Ev.dt h2)) a1
        exact fin_26 I a2 run0_26 w
      · exact (dead0 x0 B (z0 x0) (z1 x0) (z2 x0) (z3 x0) (z4 x0) (z5 x0) (z6 x0) (z7 x0) (z8 x0) (z9 x0) (z10 x0) (z11 x0) (z12 x0) rfl rfl rfl rfl rfl rfl rfl rfl rfl rfl rfl rfl rfl h0 h1 h2).elim
    · have a1 := Ev.asOk_cons (Ev.asOk_le (is1 I) (is2 I) (Ev.df h1)) a0
      exact fin_26 I a1 run1_26 w
  · have a0 := Ev.asOk_cons (Ev.asOk_le (is0 I) (is1 I) (Ev.df h0)) Ev.asOk_nil
    exact fin_26 I a0 run2_26 w
theorem fin_27 {x0 : Int} (I : In x0) {A : List Ev.As} (hA : ∀ a ∈ A, Ev.AsOk a) (hr : Ev.run ⟨Try.prog, Ev.mkTT Try.prog, Ev.mkFT Try.prog, A, Qs, Cs⟩ 100000 3 [Ev.inp .i64 0, .int .i64 27] = some true) (w : World) :
    Calls Try.prog 3 #[.int .i64 x0, .int .i64 27] w fun e w' => e = .returned (.bool true) ∧ Below w.heap.size w w' :=
  Ev.run_calls (Ev.envOkA Try.prog A Qs Cs hA qs cs) mixed hr (.cons (.sym I.i0) (.cons (.int _ _) .nil)) w

set_option maxRecDepth 100000 in
set_option maxHeartbeats 4000000 in
theorem main_27 {x0 : Int} (I : In x0) (B : Bd x0) (w : World) :
    Calls Try.prog 3 #[.int .i64 x0, .int .i64 27] w fun e w' => e = .returned (.bool true) ∧ Below w.heap.size w w' := by
  by_cases h0 : z0 x0 ≤ z1 x0
  · have a0 := Ev.asOk_cons (Ev.asOk_le (is0 I) (is1 I) (Ev.dt h0)) Ev.asOk_nil
    by_cases h1 : z1 x0 ≤ z2 x0
    · have a1 := Ev.asOk_cons (Ev.asOk_le (is1 I) (is2 I) (Ev.dt h1)) a0
      by_cases h2 : z9 x0 = z12 x0
      · have a2 := Ev.asOk_cons (Ev.asOk_eq (is9 I) (is12 I) (Ev.dt h2)) a1
        exact fin_27 I a2 run0_27 w
      · exact (dead0 x0 B (z0 x0) (z1 x0) (z2 x0) (z3 x0) (z4 x0) (z5 x0) (z6 x0) (z7 x0) (z8 x0) (z9 x0) (z10 x0) (z11 x0) (z12 x0) rfl rfl rfl rfl rfl rfl rfl rfl rfl rfl rfl rfl rfl h0 h1 h2).elim
    · have a1 := Ev.asOk_cons (Ev.asOk_le (is1 I) (is2 I) (Ev.df h1)) a0
      exact fin_27 I a1 run1_27 w
  · have a0 := Ev.asOk_cons (Ev.asOk_le (is0 I) (is1 I) (Ev.df h0)) Ev.asOk_nil
    exact fin_27 I a0 run2_27 w
theorem fin_28 {x0 : Int} (I : In x0) {A : List Ev.As} (hA : ∀ a ∈ A, Ev.AsOk a) (hr : Ev.run ⟨Try.prog, Ev.mkTT Try.prog, Ev.mkFT Try.prog, A, Qs, Cs⟩ 100000 3 [Ev.inp .i64 0, .int .i64 28] = some true) (w : World) :
    Calls Try.prog 3 #[.int .i64 x0, .int .i64 28] w fun e w' => e = .returned (.bool true) ∧ Below w.heap.size w w' :=
  Ev.run_calls (Ev.envOkA Try.prog A Qs Cs hA qs cs) mixed hr (.cons (.sym I.i0) (.cons (.int _ _) .nil)) w

set_option maxRecDepth 100000 in
set_option maxHeartbeats 4000000 in
theorem main_28 {x0 : Int} (I : In x0) (B : Bd x0) (w : World) :
    Calls Try.prog 3 #[.int .i64 x0, .int .i64 28] w fun e w' => e = .returned (.bool true) ∧ Below w.heap.size w w' := by
  by_cases h0 : z0 x0 ≤ z1 x0
  · have a0 := Ev.asOk_cons (Ev.asOk_le (is0 I) (is1 I) (Ev.dt h0)) Ev.asOk_nil
    by_cases h1 : z1 x0 ≤ z2 x0
    · have a1 := Ev.asOk_cons (Ev.asOk_le (is1 I) (is2 I) (Ev.dt h1)) a0
      by_cases h2 : z9 x0 = z12 x0
      · have a2 := Ev.asOk_cons (Ev.asOk_eq (is9 I) (is12 I) (Ev.dt h2)) a1
        exact fin_28 I a2 run0_28 w
      · exact (dead0 x0 B (z0 x0) (z1 x0) (z2 x0) (z3 x0) (z4 x0) (z5 x0) (z6 x0) (z7 x0) (z8 x0) (z9 x0) (z10 x0) (z11 x0) (z12 x0) rfl rfl rfl rfl rfl rfl rfl rfl rfl rfl rfl rfl rfl h0 h1 h2).elim
    · have a1 := Ev.asOk_cons (Ev.asOk_le (is1 I) (is2 I) (Ev.df h1)) a0
      exact fin_28 I a1 run1_28 w
  · have a0 := Ev.asOk_cons (Ev.asOk_le (is0 I) (is1 I) (Ev.df h0)) Ev.asOk_nil
    exact fin_28 I a0 run2_28 w
theorem fin_29 {x0 : Int} (I : In x0) {A : List Ev.As} (hA : ∀ a ∈ A, Ev.AsOk a) (hr : Ev.run ⟨Try.prog, Ev.mkTT Try.prog, Ev.mkFT Try.prog, A, Qs, Cs⟩ 100000 3 [Ev.inp .i64 0, .int .i64 29] = some true) (w : World) :
    Calls Try.prog 3 #[.int .i64 x0, .int .i64 29] w fun e w' => e = .returned (.bool true) ∧ Below w.heap.size w w' :=
  Ev.run_calls (Ev.envOkA Try.prog A Qs Cs hA qs cs) mixed hr (.cons (.sym I.i0) (.cons (.int _ _) .nil)) w

set_option maxRecDepth 100000 in
set_option maxHeartbeats 4000000 in
theorem main_29 {x0 : Int} (I : In x0) (B : Bd x0) (w : World) :
    Calls Try.prog 3 #[.int .i64 x0, .int .i64 29] w fun e w' => e = .returned (.bool true) ∧ Below w.heap.size w w' := by
  by_cases h0 : z0 x0 ≤ z1 x0
  · have a0 := Ev.asOk_cons (Ev.asOk_le (is0 I) (is1 I) (Ev.dt h0)) Ev.asOk_nil
    by_cases h1 : z1 x0 ≤ z2 x0
    · have a1 := Ev.asOk_cons (Ev.asOk_le (is1 I) (is2 I) (Ev.dt h1)) a0
      by_cases h2 : z9 x0 = z12 x0
      · have a2 := Ev.asOk_cons (Ev.asOk_eq (is9 I) (is12 I) (Ev.dt h2)) a1
        exact fin_29 I a2 run0_29 w
      · exact (dead0 x0 B (z0 x0) (z1 x0) (z2 x0) (z3 x0) (z4 x0) (z5 x0) (z6 x0) (z7 x0) (z8 x0) (z9 x0) (z10 x0) (z11 x0) (z12 x0) rfl rfl rfl rfl rfl rfl rfl rfl rfl rfl rfl rfl rfl h0 h1 h2).elim
    · have a1 := Ev.asOk_cons (Ev.asOk_le (is1 I) (is2 I) (Ev.df h1)) a0
      exact fin_29 I a1 run1_29 w
  · have a0 := Ev.asOk_cons (Ev.asOk_le (is0 I) (is1 I) (Ev.df h0)) Ev.asOk_nil
    exact fin_29 I a0 run2_29 w
theorem fin_30 {x0 : Int} (I : In x0) {A : List Ev.As} (hA : ∀ a ∈ A, Ev.AsOk a) (hr : Ev.run ⟨Try.prog, Ev.mkTT Try.prog, Ev.mkFT Try.prog, A, Qs, Cs⟩ 100000 3 [Ev.inp .i64 0, .int .i64 30] = some true) (w : World) :
    Calls Try.prog 3 #[.int .i64 x0, .int .i64 30] w fun e w' => e = .returned (.bool true) ∧ Below w.heap.size w w' :=
  Ev.run_calls (Ev.envOkA Try.prog A Qs Cs hA qs cs) mixed hr (.cons (.sym I.i0) (.cons (.int _ _) .nil)) w

set_option maxRecDepth 100000 in
set_option maxHeartbeats 4000000 in
theorem main_30 {x0 : Int} (I : In x0) (B : Bd x0) (w : World) :
    Calls Try.prog 3 #[.int .i64 x0, .int .i64 30] w fun e w' => e = .returned (.bool true) ∧ Below w.heap.size w w' := by
  by_cases h0 : z0 x0 ≤ z1 x0
  · have a0 := Ev.asOk_cons (Ev.asOk_le (is0 I) (is1 I) (Ev.dt h0)) Ev.asOk_nil
    by_cases h1 : z1 x0 ≤ z2 x0
    · have a1 := Ev.asOk_cons (Ev.asOk_le (is1 I) (is2 I) (Ev.dt h1)) a0
      by_cases h2 : z9 x0 = z12 x0
      · have a2 := Ev.asOk_cons (Ev.asOk_eq (is9 I) (is12 I) (Ev.dt h2)) a1
        exact fin_30 I a2 run0_30 w
      · exact (dead0 x0 B (z0 x0) (z1 x0) (z2 x0) (z3 x0) (z4 x0) (z5 x0) (z6 x0) (z7 x0) (z8 x0) (z9 x0) (z10 x0) (z11 x0) (z12 x0) rfl rfl rfl rfl rfl rfl rfl rfl rfl rfl rfl rfl rfl h0 h1 h2).elim
    · have a1 := Ev.asOk_cons (Ev.asOk_le (is1 I) (is2 I) (Ev.df h1)) a0
      exact fin_30 I a1 run1_30 w
  · have a0 := Ev.asOk_cons (Ev.asOk_le (is0 I) (is1 I) (Ev.df h0)) Ev.asOk_nil
    exact fin_30 I a0 run2_30 w
theorem fin_31 {x0 : Int} (I : In x0) {A : List Ev.As} (hA : ∀ a ∈ A, Ev.AsOk a) (hr : Ev.run ⟨Try.prog, Ev.mkTT Try.prog, Ev.mkFT Try.prog, A, Qs, Cs⟩ 100000 3 [Ev.inp .i64 0, .int .i64 31] = some true) (w : World) :
    Calls Try.prog 3 #[.int .i64 x0, .int .i64 31] w fun e w' => e = .returned (.bool true) ∧ Below w.heap.size w w' :=
  Ev.run_calls (Ev.envOkA Try.prog A Qs Cs hA qs cs) mixed hr (.cons (.sym I.i0) (.cons (.int _ _) .nil)) w

set_option maxRecDepth 100000 in
set_option maxHeartbeats 4000000 in
theorem main_31 {x0 : Int} (I : In x0) (B : Bd x0) (w : World) :
    Calls Try.prog 3 #[.int .i64 x0, .int .i64 31] w fun e w' => e = .returned (.bool true) ∧ Below w.heap.size w w' := by
  by_cases h0 : z0 x0 ≤ z1 x0
  · have a0 := Ev.asOk_cons (Ev.asOk_le (is0 I) (is1 I) (Ev.dt h0)) Ev.asOk_nil
    by_cases h1 : z1 x0 ≤ z2 x0
    · have a1 := Ev.asOk_cons (Ev.asOk_le (is1 I) (is2 I) (Ev.dt h1)) a0
      by_cases h2 : z9 x0 = z12 x0
      · have a2 := Ev.asOk_cons (Ev.asOk_eq (is9 I) (is12 I) (Ev.dt h2)) a1
        exact fin_31 I a2 run0_31 w
      · exact (dead0 x0 B (z0 x0) (z1 x0) (z2 x0) (z3 x0) (z4 x0) (z5 x0) (z6 x0) (z7 x0) (z8 x0) (z9 x0) (z10 x0) (z11 x0) (z12 x0) rfl rfl rfl rfl rfl rfl rfl rfl rfl rfl rfl rfl rfl h0 h1 h2).elim
    · have a1 := Ev.asOk_cons (Ev.asOk_le (is1 I) (is2 I) (Ev.df h1)) a0
      exact fin_31 I a1 run1_31 w
  · have a0 := Ev.asOk_cons (Ev.asOk_le (is0 I) (is1 I) (Ev.df h0)) Ev.asOk_nil
    exact fin_31 I a0 run2_31 w
theorem fin_32 {x0 : Int} (I : In x0) {A : List Ev.As} (hA : ∀ a ∈ A, Ev.AsOk a) (hr : Ev.run ⟨Try.prog, Ev.mkTT Try.prog, Ev.mkFT Try.prog, A, Qs, Cs⟩ 100000 3 [Ev.inp .i64 0, .int .i64 32] = some true) (w : World) :
    Calls Try.prog 3 #[.int .i64 x0, .int .i64 32] w fun e w' => e = .returned (.bool true) ∧ Below w.heap.size w w' :=
  Ev.run_calls (Ev.envOkA Try.prog A Qs Cs hA qs cs) mixed hr (.cons (.sym I.i0) (.cons (.int _ _) .nil)) w

set_option maxRecDepth 100000 in
set_option maxHeartbeats 4000000 in
theorem main_32 {x0 : Int} (I : In x0) (B : Bd x0) (w : World) :
    Calls Try.prog 3 #[.int .i64 x0, .int .i64 32] w fun e w' => e = .returned (.bool true) ∧ Below w.heap.size w w' := by
  by_cases h0 : z0 x0 ≤ z1 x0
  · have a0 := Ev.asOk_cons (Ev.asOk_le (is0 I) (is1 I) (Ev.dt h0)) Ev.asOk_nil
    by_cases h1 : z1 x0 ≤ z2 x0
    · have a1 := Ev.asOk_cons (Ev.asOk_le (is1 I) (is2 I) (Ev.dt h1)) a0
      by_cases h2 : z9 x0 = z12 x0
      · have a2 := Ev.asOk_cons (Ev.asOk_eq (is9 I) (is12 I) (Ev.dt h2)) a1
        exact fin_32 I a2 run0_32 w
      · exact (dead0 x0 B (z0 x0) (z1 x0) (z2 x0) (z3 x0) (z4 x0) (z5 x0) (z6 x0) (z7 x0) (z8 x0) (z9 x0) (z10 x0) (z11 x0) (z12 x0) rfl rfl rfl rfl rfl rfl rfl rfl rfl rfl rfl rfl rfl h0 h1 h2).elim
    · have a1 := Ev.asOk_cons (Ev.asOk_le (is1 I) (is2 I) (Ev.df h1)) a0
      exact fin_32 I a1 run1_32 w
  · have a0 := Ev.asOk_cons (Ev.asOk_le (is0 I) (is1 I) (Ev.df h0)) Ev.asOk_nil
    exact fin_32 I a0 run2_32 w
theorem fin_33 {x0 : Int} (I : In x0) {A : List Ev.As} (hA : ∀ a ∈ A, Ev.AsOk a) (hr : Ev.run ⟨Try.prog, Ev.mkTT Try.prog, Ev.mkFT Try.prog, A, Qs, Cs⟩ 100000 3 [Ev.inp .i64 0, .int .i64 33] = some true) (w : World) :
    Calls Try.prog 3 #[.int .i64 x0, .int .i64 33] w fun e w' => e = .returned (.bool true) ∧ Below w.heap.size w w' :=
  Ev.run_calls (Ev.envOkA Try.prog A Qs Cs hA qs cs) mixed hr (.cons (.sym I.i0) (.cons (.int _ _) .nil)) w

set_option maxRecDepth 100000 in
set_option maxHeartbeats 4000000 in
theorem main_33 {x0 : Int} (I : In x0) (B : Bd x0) (w : World) :
    Calls Try.prog 3 #[.int .i64 x0, .int .i64 33] w fun e w' => e = .returned (.bool true) ∧ Below w.heap.size w w' := by
  by_cases h0 : z0 x0 ≤ z1 x0
  · have a0 := Ev.asOk_cons (Ev.asOk_le (is0 I) (is1 I) (Ev.dt h0)) Ev.asOk_nil
    by_cases h1 : z1 x0 ≤ z2 x0
    · have a1 := Ev.asOk_cons (Ev.asOk_le (is1 I) (is2 I) (Ev.dt h1)) a0
      by_cases h2 : z9 x0 = z12 x0
      · have a2 := Ev.asOk_cons (Ev.asOk_eq (is9 I) (is12 I) (Ev.dt h2)) a1
        exact fin_33 I a2 run0_33 w
      · exact (dead0 x0 B (z0 x0) (z1 x0) (z2 x0) (z3 x0) (z4 x0) (z5 x0) (z6 x0) (z7 x0) (z8 x0) (z9 x0) (z10 x0) (z11 x0) (z12 x0) rfl rfl rfl rfl rfl rfl rfl rfl rfl rfl rfl rfl rfl h0 h1 h2).elim
    · have a1 := Ev.asOk_cons (Ev.asOk_le (is1 I) (is2 I) (Ev.df h1)) a0
      exact fin_33 I a1 run1_33 w
  · have a0 := Ev.asOk_cons (Ev.asOk_le (is0 I) (is1 I) (Ev.df h0)) Ev.asOk_nil
    exact fin_33 I a0 run2_33 w
theorem fin_34 {x0 : Int} (I : In x0) {A : List Ev.As} (hA : ∀ a ∈ A, Ev.AsOk a) (hr : Ev.run ⟨Try.prog, Ev.mkTT Try.prog, Ev.mkFT Try.prog, A, Qs, Cs⟩ 100000 3 [Ev.inp .i64 0, .int .i64 34] = some true) (w : World) :
    Calls Try.prog 3 #[.int .i64 x0, .int .i64 34] w fun e w' => e = .returned (.bool true) ∧ Below w.heap.size w w' :=
  Ev.run_calls (Ev.envOkA Try.prog A Qs Cs hA qs cs) mixed hr (.cons (.sym I.i0) (.cons (.int _ _) .nil)) w

set_option maxRecDepth 100000 in
set_option maxHeartbeats 4000000 in
theorem main_34 {x0 : Int} (I : In x0) (B : Bd x0) (w : World) :
    Calls Try.prog 3 #[.int .i64 x0, .int .i64 34] w fun e w' => e = .returned (.bool true) ∧ Below w.heap.size w w' := by
  by_cases h0 : z0 x0 ≤ z1 x0
  · have a0 := Ev.asOk_cons (Ev.asOk_le (is0 I) (is1 I) (Ev.dt h0)) Ev.asOk_nil
    by_cases h1 : z1 x0 ≤ z2 x0
    · have a1 := Ev.asOk_cons (Ev.asOk_le (is1 I) (is2 I) (Ev.dt h1)) a0
      by_cases h2 : z9 x0 = z12 x0
      · have a2 := Ev.asOk_cons (Ev.asOk_eq (is9 I) (is12 I) (Ev.dt h2)) a1
        exact fin_34 I a2 run0_34 w
      · exact (dead0 x0 B (z0 x0) (z1 x0) (z2 x0) (z3 x0) (z4 x0) (z5 x0) (z6 x0) (z7 x0) (z8 x0) (z9 x0) (z10 x0) (z11 x0) (z12 x0) rfl rfl rfl rfl rfl rfl rfl rfl rfl rfl rfl rfl rfl h0 h1 h2).elim
    · have a1 := Ev.asOk_cons (Ev.asOk_le (is1 I) (is2 I) (Ev.df h1)) a0
      exact fin_34 I a1 run1_34 w
  · have a0 := Ev.asOk_cons (Ev.asOk_le (is0 I) (is1 I) (Ev.df h0)) Ev.asOk_nil
    exact fin_34 I a0 run2_34 w
theorem fin_35 {x0 : Int} (I : In x0) {A : List Ev.As} (hA : ∀ a ∈ A, Ev.AsOk a) (hr : Ev.run ⟨Try.prog, Ev.mkTT Try.prog, Ev.mkFT Try.prog, A, Qs, Cs⟩ 100000 3 [Ev.inp .i64 0, .int .i64 35] = some true) (w : World) :
    Calls Try.prog 3 #[.int .i64 x0, .int .i64 35] w fun e w' => e = .returned (.bool true) ∧ Below w.heap.size w w' :=
  Ev.run_calls (Ev.envOkA Try.prog A Qs Cs hA qs cs) mixed hr (.cons (.sym I.i0) (.cons (.int _ _) .nil)) w

set_option maxRecDepth 100000 in
set_option maxHeartbeats 4000000 in
theorem main_35 {x0 : Int} (I : In x0) (B : Bd x0) (w : World) :
    Calls Try.prog 3 #[.int .i64 x0, .int .i64 35] w fun e w' => e = .returned (.bool true) ∧ Below w.heap.size w w' := by
  by_cases h0 : z0 x0 ≤ z1 x0
  · have a0 := Ev.asOk_cons (Ev.asOk_le (is0 I) (is1 I) (Ev.dt h0)) Ev.asOk_nil
    by_cases h1 : z1 x0 ≤ z2 x0
    · have a1 := Ev.asOk_cons (Ev.asOk_le (is1 I) (is2 I) (Ev.dt h1)) a0
      by_cases h2 : z9 x0 = z12 x0
      · have a2 := Ev.asOk_cons (Ev.asOk_eq (is9 I) (is12 I) (Ev.dt h2)) a1
        exact fin_35 I a2 run0_35 w
      · exact (dead0 x0 B (z0 x0) (z1 x0) (z2 x0) (z3 x0) (z4 x0) (z5 x0) (z6 x0) (z7 x0) (z8 x0) (z9 x0) (z10 x0) (z11 x0) (z12 x0) rfl rfl rfl rfl rfl rfl rfl rfl rfl rfl rfl rfl rfl h0 h1 h2).elim
    · have a1 := Ev.asOk_cons (Ev.asOk_le (is1 I) (is2 I) (Ev.df h1)) a0
      exact fin_35 I a1 run1_35 w
  · have a0 := Ev.asOk_cons (Ev.asOk_le (is0 I) (is1 I) (Ev.df h0)) Ev.asOk_nil
    exact fin_35 I a0 run2_35 w
theorem fin_36 {x0 : Int} (I : In x0) {A : List Ev.As} (hA : ∀ a ∈ A, Ev.AsOk a) (hr : Ev.run ⟨Try.prog, Ev.mkTT Try.prog, Ev.mkFT Try.prog, A, Qs, Cs⟩ 100000 3 [Ev.inp .i64 0, .int .i64 36] = some true) (w : World) :
    Calls Try.prog 3 #[.int .i64 x0, .int .i64 36] w fun e w' => e = .returned (.bool true) ∧ Below w.heap.size w w' :=
  Ev.run_calls (Ev.envOkA Try.prog A Qs Cs hA qs cs) mixed hr (.cons (.sym I.i0) (.cons (.int _ _) .nil)) w

set_option maxRecDepth 100000 in
set_option maxHeartbeats 4000000 in
theorem main_36 {x0 : Int} (I : In x0) (B : Bd x0) (w : World) :
    Calls Try.prog 3 #[.int .i64 x0, .int .i64 36] w fun e w' => e = .returned (.bool true) ∧ Below w.heap.size w w' := by
  by_cases h0 : z0 x0 ≤ z1 x0
  · have a0 := Ev.asOk_cons (Ev.asOk_le (is0 I) (is1 I) (Ev.dt h0)) Ev.asOk_nil
    by_cases h1 : z1 x0 ≤ z2 x0
    · have a1 := Ev.asOk_cons (Ev.asOk_le (is1 I) (is2 I) (Ev.dt h1)) a0
      by_cases h2 : z9 x0 = z12 x0
      · have a2 := Ev.asOk_cons (Ev.asOk_eq (is9 I) (is12 I) (Ev.dt h2)) a1
        exact fin_36 I a2 run0_36 w
      · exact (dead0 x0 B (z0 x0) (z1 x0) (z2 x0) (z3 x0) (z4 x0) (z5 x0) (z6 x0) (z7 x0) (z8 x0) (z9 x0) (z10 x0) (z11 x0) (z12 x0) rfl rfl rfl rfl rfl rfl rfl rfl rfl rfl rfl rfl rfl h0 h1 h2).elim
    · have a1 := Ev.asOk_cons (Ev.asOk_le (is1 I) (is2 I) (Ev.df h1)) a0
      exact fin_36 I a1 run1_36 w
  · have a0 := Ev.asOk_cons (Ev.asOk_le (is0 I) (is1 I) (Ev.df h0)) Ev.asOk_nil
    exact fin_36 I a0 run2_36 w
theorem fin_37 {x0 : Int} (I : In x0) {A : List Ev.As} (hA : ∀ a ∈ A, Ev.AsOk a) (hr : Ev.run ⟨Try.prog, Ev.mkTT Try.prog, Ev.mkFT Try.prog, A, Qs, Cs⟩ 100000 3 [Ev.inp .i64 0, .int .i64 37] = some true) (w : World) :
    Calls Try.prog 3 #[.int .i64 x0, .int .i64 37] w fun e w' => e = .returned (.bool true) ∧ Below w.heap.size w w' :=
  Ev.run_calls (Ev.envOkA Try.prog A Qs Cs hA qs cs) mixed hr (.cons (.sym I.i0) (.cons (.int _ _) .nil)) w

set_option maxRecDepth 100000 in
set_option maxHeartbeats 4000000 in
theorem main_37 {x0 : Int} (I : In x0) (B : Bd x0) (w : World) :
    Calls Try.prog 3 #[.int .i64 x0, .int .i64 37] w fun e w' => e = .returned (.bool true) ∧ Below w.heap.size w w' := by
  by_cases h0 : z0 x0 ≤ z1 x0
  · have a0 := Ev.asOk_cons (Ev.asOk_le (is0 I) (is1 I) (Ev.dt h0)) Ev.asOk_nil
    by_cases h1 : z1 x0 ≤ z2 x0
    · have a1 := Ev.asOk_cons (Ev.asOk_le (is1 I) (is2 I) (Ev.dt h1)) a0
      by_cases h2 : z9 x0 = z12 x0
      · have a2 := Ev.asOk_cons (Ev.asOk_eq (is9 I) (is12 I) (Ev.dt h2)) a1
        exact fin_37 I a2 run0_37 w
      · exact (dead0 x0 B (z0 x0) (z1 x0) (z2 x0) (z3 x0) (z4 x0) (z5 x0) (z6 x0) (z7 x0) (z8 x0) (z9 x0) (z10 x0) (z11 x0) (z12 x0) rfl rfl rfl rfl rfl rfl rfl rfl rfl rfl rfl rfl rfl h0 h1 h2).elim
    · have a1 := Ev.asOk_cons (Ev.asOk_le (is1 I) (is2 I) (Ev.df h1)) a0
      exact fin_37 I a1 run1_37 w
  · have a0 := Ev.asOk_cons (Ev.asOk_le (is0 I) (is1 I) (Ev.df h0)) Ev.asOk_nil
    exact fin_37 I a0 run2_37 w
theorem fin_38 {x0 : Int} (I : In x0) {A : List Ev.As} (hA : ∀ a ∈ A, Ev.AsOk a) (hr : Ev.run ⟨Try.prog, Ev.mkTT Try.prog, Ev.mkFT Try.prog, A, Qs, Cs⟩ 100000 3 [Ev.inp .i64 0, .int .i64 38] = some true) (w : World) :
    Calls Try.prog 3 #[.int .i64 x0, .int .i64 38] w fun e w' => e = .returned (.bool true) ∧ Below w.heap.size w w' :=
  Ev.run_calls (Ev.envOkA Try.prog A Qs Cs hA qs cs) mixed hr (.cons (.sym I.i0) (.cons (.int _ _) .nil)) w

set_option maxRecDepth 100000 in
set_option maxHeartbeats 4000000 in
theorem main_38 {x0 : Int} (I : In x0) (B : Bd x0) (w : World) :
    Calls Try.prog 3 #[.int .i64 x0, .int .i64 38] w fun e w' => e = .returned (.bool true) ∧ Below w.heap.size w w' := by
  by_cases h0 : z0 x0 ≤ z1 x0
  · have a0 := Ev.asOk_cons (Ev.asOk_le (is0 I) (is1 I) (Ev.dt h0)) Ev.asOk_nil
    by_cases h1 : z1 x0 ≤ z2 x0
    · have a1 := Ev.asOk_cons (Ev.asOk_le (is1 I) (is2 I) (Ev.dt h1)) a0
      by_cases h2 : z9 x0 = z12 x0
      · have a2 := Ev.asOk_cons (Ev.asOk_eq (is9 I) (is12 I) (Ev.dt h2)) a1
        exact fin_38 I a2 run0_38 w
      · exact (dead0 x0 B (z0 x0) (z1 x0) (z2 x0) (z3 x0) (z4 x0) (z5 x0) (z6 x0) (z7 x0) (z8 x0) (z9 x0) (z10 x0) (z11 x0) (z12 x0) rfl rfl rfl rfl rfl rfl rfl rfl rfl rfl rfl rfl rfl h0 h1 h2).elim
    · have a1 := Ev.asOk_cons (Ev.asOk_le (is1 I) (is2 I) (Ev.df h1)) a0
      exact fin_38 I a1 run1_38 w
  · have a0 := Ev.asOk_cons (Ev.asOk_le (is0 I) (is1 I) (Ev.df h0)) Ev.asOk_nil
    exact fin_38 I a0 run2_38 w
theorem fin_39 {x0 : Int} (I : In x0) {A : List Ev.As} (hA : ∀ a ∈ A, Ev.AsOk a) (hr : Ev.run ⟨Try.prog, Ev.mkTT Try.prog, Ev.mkFT Try.prog, A, Qs, Cs⟩ 100000 3 [Ev.inp .i64 0, .int .i64 39] = some true) (w : World) :
    Calls Try.prog 3 #[.int .i64 x0, .int .i64 39] w fun e w' => e = .returned (.bool true) ∧ Below w.heap.size w w' :=
  Ev.run_calls (Ev.envOkA Try.prog A Qs Cs hA qs cs) mixed hr (.cons (.sym I.i0) (.cons (.int _ _) .nil)) w

set_option maxRecDepth 100000 in
set_option maxHeartbeats 4000000 in
theorem main_39 {x0 : Int} (I : In x0) (B : Bd x0) (w : World) :
    Calls Try.prog 3 #[.int .i64 x0, .int .i64 39] w fun e w' => e = .returned (.bool true) ∧ Below w.heap.size w w' := by
  by_cases h0 : z0 x0 ≤ z1 x0
  · have a0 := Ev.asOk_cons (Ev.asOk_le (is0 I) (is1 I) (Ev.dt h0)) Ev.asOk_nil
    by_cases h1 : z1 x0 ≤ z2 x0
    · have a1 := Ev.asOk_cons (Ev.asOk_le (is1 I) (is2 I) (Ev.dt h1)) a0
      by_cases h2 : z9 x0 = z12 x0
      · have a2 := Ev.asOk_cons (Ev.asOk_eq (is9 I) (is12 I) (Ev.dt h2)) a1
        exact fin_39 I a2 run0_39 w
      · exact (dead0 x0 B (z0 x0) (z1 x0) (z2 x0) (z3 x0) (z4 x0) (z5 x0) (z6 x0) (z7 x0) (z8 x0) (z9 x0) (z10 x0) (z11 x0) (z12 x0) rfl rfl rfl rfl rfl rfl rfl rfl rfl rfl rfl rfl rfl h0 h1 h2).elim
    · have a1 := Ev.asOk_cons (Ev.asOk_le (is1 I) (is2 I) (Ev.df h1)) a0
      exact fin_39 I a1 run1_39 w
  · have a0 := Ev.asOk_cons (Ev.asOk_le (is0 I) (is1 I) (Ev.df h0)) Ev.asOk_nil
    exact fin_39 I a0 run2_39 w
theorem fin_40 {x0 : Int} (I : In x0) {A : List Ev.As} (hA : ∀ a ∈ A, Ev.AsOk a) (hr : Ev.run ⟨Try.prog, Ev.mkTT Try.prog, Ev.mkFT Try.prog, A, Qs, Cs⟩ 100000 3 [Ev.inp .i64 0, .int .i64 40] = some true) (w : World) :
    Calls Try.prog 3 #[.int .i64 x0, .int .i64 40] w fun e w' => e = .returned (.bool true) ∧ Below w.heap.size w w' :=
  Ev.run_calls (Ev.envOkA Try.prog A Qs Cs hA qs cs) mixed hr (.cons (.sym I.i0) (.cons (.int _ _) .nil)) w

set_option maxRecDepth 100000 in
set_option maxHeartbeats 4000000 in
theorem main_40 {x0 : Int} (I : In x0) (B : Bd x0) (w : World) :
    Calls Try.prog 3 #[.int .i64 x0, .int .i64 40] w fun e w' => e = .returned (.bool true) ∧ Below w.heap.size w w' := by
  by_cases h0 : z0 x0 ≤ z1 x0
  · have a0 := Ev.asOk_cons (Ev.asOk_le (is0 I) (is1 I) (Ev.dt h0)) Ev.asOk_nil
    by_cases h1 : z1 x0 ≤ z2 x0
    · have a1 := Ev.asOk_cons (Ev.asOk_le (is1 I) (is2 I) (Ev.dt h1)) a0
      by_cases h2 : z9 x0 = z12 x0
      · have a2 := Ev.asOk_cons (Ev.asOk_eq (is9 I) (is12 I) (Ev.dt h2)) a1
        exact fin_40 I a2 run0_40 w
      · exact (dead0 x0 B (z0 x0) (z1 x0) (z2 x0) (z3 x0) (z4 x0) (z5 x0) (z6 x0) (z7 x0) (z8 x0) (z9 x0) (z10 x0) (z11 x0) (z12 x0) rfl rfl rfl rfl rfl rfl rfl rfl rfl rfl rfl rfl rfl h0 h1 h2).elim
    · have a1 := Ev.asOk_cons (Ev.asOk_le (is1 I) (is2 I) (Ev.df h1)) a0
      exact fin_40 I a1 run1_40 w
  · have a0 := Ev.asOk_cons (Ev.asOk_le (is0 I) (is1 I) (Ev.df h0)) Ev.asOk_nil
    exact fin_40 I a0 run2_40 w
theorem fin_41 {x0 : Int} (I : In x0) {A : List Ev.As} (hA : ∀ a ∈ A, Ev.AsOk a) (hr : Ev.run ⟨Try.prog, Ev.mkTT Try.prog, Ev.mkFT Try.prog, A, Qs, Cs⟩ 100000 3 [Ev.inp .i64 0, .int .i64 41] = some true) (w : World) :
    Calls Try.prog 3 #[.int .i64 x0, .int .i64 41] w fun e w' => e = .returned (.bool true) ∧ Below w.heap.size w w' :=
  Ev.run_calls (Ev.envOkA Try.prog A Qs Cs hA qs cs) mixed hr (.cons (.sym I.i0) (.cons (.int _ _) .nil)) w

set_option maxRecDepth 100000 in
set_option maxHeartbeats 4000000 in
theorem main_41 {x0 : Int} (I : In x0) (B : Bd x0) (w : World) :
    Calls Try.prog 3 #[.int .i64 x0, .int .i64 41] w fun e w' => e = .returned (.bool true) ∧ Below w.heap.size w w' := by
  by_cases h0 : z0 x0 ≤ z1 x0
  · have a0 := Ev.asOk_cons (Ev.asOk_le (is0 I) (is1 I) (Ev.dt h0)) Ev.asOk_nil
    by_cases h1 : z1 x0 ≤ z2 x0
    · have a1 := Ev.asOk_cons (Ev.asOk_le (is1 I) (is2 I) (Ev.dt h1)) a0
      by_cases h2 : z9 x0 = z12 x0
      · have a2 := Ev.asOk_cons (Ev.asOk_eq (is9 I) (is12 I) (Ev.dt h2)) a1
        exact fin_41 I a2 run0_41 w
      · exact (dead0 x0 B (z0 x0) (z1 x0) (z2 x0) (z3 x0) (z4 x0) (z5 x0) (z6 x0) (z7 x0) (z8 x0) (z9 x0) (z10 x0) (z11 x0) (z12 x0) rfl rfl rfl rfl rfl rfl rfl rfl rfl rfl rfl rfl rfl h0 h1 h2).elim
    · have a1 := Ev.asOk_cons (Ev.asOk_le (is1 I) (is2 I) (Ev.df h1)) a0
      exact fin_41 I a1 run1_41 w
  · have a0 := Ev.asOk_cons (Ev.asOk_le (is0 I) (is1 I) (Ev.df h0)) Ev.asOk_nil
    exact fin_41 I a0 run2_41 w
theorem fin_42 {x0 : Int} (I : In x0) {A : List Ev.As} (hA : ∀ a ∈ A, Ev.AsOk a) (hr : Ev.run ⟨Try.prog, Ev.mkTT Try.prog, Ev.mkFT Try.prog, A, Qs, Cs⟩ 100000 3 [Ev.inp .i64 0, .int .i64 42] = some true) (w : World) :
    Calls Try.prog 3 #[.int .i64 x0, .int .i64 42] w fun e w' => e = .returned (.bool true) ∧ Below w.heap.size w w' :=
  Ev.run_calls (Ev.envOkA Try.prog A Qs Cs hA qs cs) mixed hr (.cons (.sym I.i0) (.cons (.int _ _) .nil)) w

set_option maxRecDepth 100000 in
set_option maxHeartbeats 4000000 in
theorem main_42 {x0 : Int} (I : In x0) (B : Bd x0) (w : World) :
    Calls Try.prog 3 #[.int .i64 x0, .int .i64 42] w fun e w' => e = .returned (.bool true) ∧ Below w.heap.size w w' := by
  by_cases h0 : z0 x0 ≤ z1 x0
  · have a0 := Ev.asOk_cons (Ev.asOk_le (is0 I) (is1 I) (Ev.dt h0)) Ev.asOk_nil
    by_cases h1 : z1 x0 ≤ z2 x0
    · have a1 := Ev.asOk_cons (Ev.asOk_le (is1 I) (is2 I) (Ev.dt h1)) a0
      by_cases h2 : z9 x0 = z12 x0
      · have a2 := Ev.asOk_cons (Ev.asOk_eq (is9 I) (is12 I) (Ev.dt h2)) a1
        exact fin_42 I a2 run0_42 w
      · exact (dead0 x0 B (z0 x0) (z1 x0) (z2 x0) (z3 x0) (z4 x0) (z5 x0) (z6 x0) (z7 x0) (z8 x0) (z9 x0) (z10 x0) (z11 x0) (z12 x0) rfl rfl rfl rfl rfl rfl rfl rfl rfl rfl rfl rfl rfl h0 h1 h2).elim
    · have a1 := Ev.asOk_cons (Ev.asOk_le (is1 I) (is2 I) (Ev.df h1)) a0
      exact fin_42 I a1 run1_42 w
  · have a0 := Ev.asOk_cons (Ev.asOk_le (is0 I) (is1 I) (Ev.df h0)) Ev.asOk_nil
    exact fin_42 I a0 run2_42 w
theorem fin_43 {x0 : Int} (I : In x0) {A : List Ev.As} (hA : ∀ a ∈ A, Ev.AsOk a) (hr : Ev.run ⟨Try.prog, Ev.mkTT Try.prog, Ev.mkFT Try.prog, A, Qs, Cs⟩ 100000 3 [Ev.inp .i64 0, .int .i64 43] = some true) (w : World) :
    Calls Try.prog 3 #[.int .i64 x0, .int .i64 43] w fun e w' => e = .returned (.bool true) ∧ Below w.heap.size w w' :=
  Ev.run_calls (Ev.envOkA Try.prog A Qs Cs hA qs cs) mixed hr (.cons (.sym I.i0) (.cons (.int _ _) .nil)) w

set_option maxRecDepth 100000 in
set_option maxHeartbeats 4000000 in
theorem main_43 {x0 : Int} (I : In x0) (B : Bd x0) (w : World) :
    Calls Try.prog 3 #[.int .i64 x0, .int .i64 43] w fun e w' => e = .returned (.bool true) ∧ Below w.heap.size w w' := by
  by_cases h0 : z0 x0 ≤ z1 x0
  · have a0 := Ev.asOk_cons (Ev.asOk_le (is0 I) (is1 I) (Ev.dt h0)) Ev.asOk_nil
    by_cases h1 : z1 x0 ≤ z2 x0
    · have a1 := Ev.asOk_cons (Ev.asOk_le (is1 I) (is2 I) (Ev.dt h1)) a0
      by_cases h2 : z9 x0 = z12 x0
      · have a2 := Ev.asOk_cons (Ev.asOk_eq (is9 I) (is12 I) (Ev.dt h2)) a1
        exact fin_43 I a2 run0_43 w
      · exact (dead0 x0 B (z0 x0) (z1 x0) (z2 x0) (z3 x0) (z4 x0) (z5 x0) (z6 x0) (z7 x0) (z8 x0) (z9 x0) (z10 x0) (z11 x0) (z12 x0) rfl rfl rfl rfl rfl rfl rfl rfl rfl rfl rfl rfl rfl h0 h1 h2).elim
    · have a1 := Ev.asOk_cons (Ev.asOk_le (is1 I) (is2 I) (Ev.df h1)) a0
      exact fin_43 I a1 run1_43 w
  · have a0 := Ev.asOk_cons (Ev.asOk_le (is0 I) (is1 I) (Ev.df h0)) Ev.asOk_nil
    exact fin_43 I a0 run2_43 w
theorem fin_44 {x0 : Int} (I : In x0) {A : List Ev.As} (hA : ∀ a ∈ A, Ev.AsOk a) (hr : Ev.run ⟨Try.prog, Ev.mkTT Try.prog, Ev.mkFT Try.prog, A, Qs, Cs⟩ 100000 3 [Ev.inp .i64 0, .int .i64 44] = some true) (w : World) :
    Calls Try.prog 3 #[.int .i64 x0, .int .i64 44] w fun e w' => e = .returned (.bool true) ∧ Below w.heap.size w w' :=
  Ev.run_calls (Ev.envOkA Try.prog A Qs Cs hA qs cs) mixed hr (.cons (.sym I.i0) (.cons (.int _ _) .nil)) w

set_option maxRecDepth 100000 in
set_option maxHeartbeats 4000000 in
theorem main_44 {x0 : Int} (I : In x0) (B : Bd x0) (w : World) :
    Calls Try.prog 3 #[.int .i64 x0, .int .i64 44] w fun e w' => e = .returned (.bool true) ∧ Below w.heap.size w w' := by
  by_cases h0 : z0 x0 ≤ z1 x0
  · have a0 := Ev.asOk_cons (Ev.asOk_le (is0 I) (is1 I) (Ev.dt h0)) Ev.asOk_nil
    by_cases h1 : z1 x0 ≤ z2 x0
    · have a1 := Ev.asOk_cons (Ev.asOk_le (is1 I) (is2 I) (Ev.dt h1)) a0
      by_cases h2 : z9 x0 = z12 x0
      · have a2 := Ev.asOk_cons (Ev.asOk_eq (is9 I) (is12 I) (Ev.dt h2)) a1
        exact fin_44 I a2 run0_44 w
      · exact (dead0 x0 B (z0 x0) (z1 x0) (z2 x0) (z3 x0) (z4 x0) (z5 x0) (z6 x0) (z7 x0) (z8 x0) (z9 x0) (z10 x0) (z11 x0) (z12 x0) rfl rfl rfl rfl rfl rfl rfl rfl rfl rfl rfl rfl rfl h0 h1 h2).elim
    · have a1 := Ev.asOk_cons (Ev.asOk_le (is1 I) (is2 I) (Ev.df h1)) a0
      exact fin_44 I a1 run1_44 w
  · have a0 := Ev.asOk_cons (Ev.asOk_le (is0 I) (is1 I) (Ev.df h0)) Ev.asOk_nil
    exact fin_44 I a0 run2_44 w
theorem fin_45 {x0 : Int} (I : In x0) {A : List Ev.As} (hA : ∀ a ∈ A, Ev.AsOk a) (hr : Ev.run ⟨Try.prog, Ev.mkTT Try.prog, Ev.mkFT Try.prog, A, Qs, Cs⟩ 100000 3 [Ev.inp .i64 0, .int .i64 45] = some true) (w : World) :
    Calls Try.prog 3 #[.int .i64 x0, .int .i64 45] w fun e w' => e = .returned (.bool true) ∧ Below w.heap.size w w' :=
  Ev.run_calls (Ev.envOkA Try.prog A Qs Cs hA qs cs) mixed hr (.cons (.sym I.i0) (.cons (.int _ _) .nil)) w

set_option maxRecDepth 100000 in
set_option maxHeartbeats 4000000 in
theorem main_45 {x0 : Int} (I : In x0) (B : Bd x0) (w : World) :
    Calls Try.prog 3 #[.int .i64 x0, .int .i64 45] w fun e w' => e = .returned (.bool true) ∧ Below w.heap.size w w' := by
  by_cases h0 : z0 x0 ≤ z1 x0
  · have a0 := Ev.asOk_cons (Ev.asOk_le (is0 I) (is1 I) (Ev.dt h0)) Ev.asOk_nil
    by_cases h1 : z1 x0 ≤ z2 x0
    · have a1 := Ev.asOk_cons (Ev.asOk_le (is1 I) (is2 I) (Ev.dt h1)) a0
      by_cases h2 : z9 x0 = z12 x0
      · have a2 := Ev.asOk_cons (Ev.asOk_eq (is9 I) (is12 I) (Ev.dt h2)) a1
        exact fin_45 I a2 run0_45 w
      · exact (dead0 x0 B (z0 x0) (z1 x0) (z2 x0) (z3 x0) (z4 x0) (z5 x0) (z6 x0) (z7 x0) (z8 x0) (z9 x0) (z10 x0) (z11 x0) (z12 x0) rfl rfl rfl rfl rfl rfl rfl rfl rfl rfl rfl rfl rfl h0 h1 h2).elim
    · have a1 := Ev.asOk_cons (Ev.asOk_le (is1 I) (is2 I) (Ev.df h1)) a0
      exact fin_45 I a1 run1_45 w
  · have a0 := Ev.asOk_cons (Ev.asOk_le (is0 I) (is1 I) (Ev.df h0)) Ev.asOk_nil
    exact fin_45 I a0 run2_45 w
theorem fin_46 {x0 : Int} (I : In x0) {A : List Ev.As} (hA : ∀ a ∈ A, Ev.AsOk a) (hr : Ev.run ⟨Try.prog, Ev.mkTT Try.prog, Ev.mkFT Try.prog, A, Qs, Cs⟩ 100000 3 [Ev.inp .i64 0, .int .i64 46] = some true) (w : World) :
    Calls Try.prog 3 #[.int .i64 x0, .int .i64 46] w fun e w' => e = .returned (.bool true) ∧ Below w.heap.size w w' :=
  Ev.run_calls (Ev.envOkA Try.prog A Qs Cs hA qs cs) mixed hr (.cons (.sym I.i0) (.cons (.int _ _) .nil)) w

set_option maxRecDepth 100000 in
set_option maxHeartbeats 4000000 in
theorem main_46 {x0 : Int} (I : In x0) (B : Bd x0) (w : World) :
    Calls Try.prog 3 #[.int .i64 x0, .int .i64 46] w fun e w' => e = .returned (.bool true) ∧ Below w.heap.size w w' := by
  by_cases h0 : z0 x0 ≤ z1 x0
  · have a0 := Ev.asOk_cons (Ev.asOk_le (is0 I) (is1 I) (Ev.dt h0)) Ev.asOk_nil
    by_cases h1 : z1 x0 ≤ z2 x0
    · have a1 := Ev.asOk_cons (Ev.asOk_le (is1 I) (is2 I) (Ev.dt h1)) a0
      by_cases h2 : z9 x0 = z12 x0
      · have a2 := Ev.asOk_cons (Ev.asOk_eq (is9 I) (is12 I) (Ev.dt h2)) a1
        exact fin_46 I a2 run0_46 w
      · exact (dead0 x0 B (z0 x0) (z1 x0) (z2 x0) (z3 x0) (z4 x0) (z5 x0) (z6 x0) (z7 x0) (z8 x0) (z9 x0) (z10 x0) (z11 x0) (z12 x0) rfl rfl rfl rfl rfl rfl rfl rfl rfl rfl rfl rfl rfl h0 h1 h2).elim
    · have a1 := Ev.asOk_cons (Ev.asOk_le (is1 I) (is2 I) (Ev.df h1)) a0
      exact fin_46 I a1 run1_46 w
  · have a0 := Ev.asOk_cons (Ev.asOk_le (is0 I) (is1 I) (Ev.df h0)) Ev.asOk_nil
    exact fin_46 I a0 run2_46 w
theorem fin_47 {x0 : Int} (I : In x0) {A : List Ev.As} (hA : ∀ a ∈ A, Ev.AsOk a) (hr : Ev.run ⟨Try.prog, Ev.mkTT Try.prog, Ev.mkFT Try.prog, A, Qs, Cs⟩ 100000 3 [Ev.inp .i64 0, .int .i64 47] = some true) (w : World) :
    Calls Try.prog 3 #[.int .i64 x0, .int .i64 47] w fun e w' => e = .returned (.bool true) ∧ Below w.heap.size w w' :=
  Ev.run_calls (Ev.envOkA Try.prog A Qs Cs hA qs cs) mixed hr (.cons (.sym I.i0) (.cons (.int _ _) .nil)) w

set_option maxRecDepth 100000 in
set_option maxHeartbeats 4000000 in
theorem main_47 {x0 : Int} (I : In x0) (B : Bd x0) (w : World) :
    Calls Try.prog 3 #[.int .i64 x0, .int .i64 47] w fun e w' => e = .returned (.bool true) ∧ Below w.heap.size w w' := by
  by_cases h0 : z0 x0 ≤ z1 x0
  · have a0 := Ev.asOk_cons (Ev.asOk_le (is0 I) (is1 I) (Ev.dt h0)) Ev.asOk_nil
    by_cases h1 : z1 x0 ≤ z2 x0
    · have a1 := Ev.asOk_cons (Ev.asOk_le (is1 I) (is2 I) (Ev.dt h1)) a0
      by_cases h2 : z9 x0 = z12 x0
      · have a2 := Ev.asOk_cons (Ev.asOk_eq (is9 I) (is12 I) (Ev.dt h2)) a1
        exact fin_47 I a2 run0_47 w
      · exact (dead0 x0 B (z0 x0) (z1 x0) (z2 x0) (z3 x0) (z4 x0) (z5 x0) (z6 x0) (z7 x0) (z8 x0) (z9 x0) (z10 x0) (z11 x0) (z12 x0) rfl rfl rfl rfl rfl rfl rfl rfl rfl rfl rfl rfl rfl h0 h1 h2).elim
    · have a1 := Ev.asOk_cons (Ev.asOk_le (is1 I) (is2 I) (Ev.df h1)) a0
      exact fin_47 I a1 run1_47 w
  · have a0 := Ev.asOk_cons (Ev.asOk_le (is0 I) (is1 I) (Ev.df h0)) Ev.asOk_nil
    exact fin_47 I a0 run2_47 w
theorem fin_48 {x0 : Int} (I : In x0) {A : List Ev.As} (hA : ∀ a ∈ A, Ev.AsOk a) (hr : Ev.run ⟨Try.prog, Ev.mkTT Try.prog, Ev.mkFT Try.prog, A, Qs, Cs⟩ 100000 3 [Ev.inp .i64 0, .int .i64 48] = some true) (w : World) :
    Calls Try.prog 3 #[.int .i64 x0, .int .i64 48] w fun e w' => e = .returned (.bool true) ∧ Below w.heap.size w w' :=
  Ev.run_calls (Ev.envOkA Try.prog A Qs Cs hA qs cs) mixed hr (.cons (.sym I.i0) (.cons (.int _ _) .nil)) w

set_option maxRecDepth 100000 in
set_option maxHeartbeats 4000000 in
theorem main_48 {x0 : Int} (I : In x0) (B : Bd x0) (w : World) :
    Calls Try.prog 3 #[.int .i64 x0, .int .i64 48] w fun e w' => e = .returned (.bool true) ∧ Below w.heap.size w w' := by
  by_cases h0 : z0 x0 ≤ z1 x0
  · have a0 := Ev.asOk_cons (Ev.asOk_le (is0 I) (is1 I) (Ev.dt h0)) Ev.asOk_nil
    by_cases h1 : z1 x0 ≤ z2 x0
    · have a1 := Ev.asOk_cons (Ev.asOk_le (is1 I) (is2 I) (Ev.dt h1)) a0
      by_cases h2 : z9 x0 = z12 x0
      · have a2 := Ev.asOk_cons (Ev.asOk_eq (is9 I) (is12 I) (Ev.dt h2)) a1
        exact fin_48 I a2 run0_48 w
      · exact (dead0 x0 B (z0 x0) (z1 x0) (z2 x0) (z3 x0) (z4 x0) (z5 x0) (z6 x0) (z7 x0) (z8 x0) (z9 x0) (z10 x0) (z11 x0) (z12 x0) rfl rfl rfl rfl rfl rfl rfl rfl rfl rfl rfl rfl rfl h0 h1 h2).elim
    · have a1 := Ev.asOk_cons (Ev.asOk_le (is1 I) (is2 I) (Ev.df h1)) a0
      exact fin_48 I a1 run1_48 w
  · have a0 := Ev.asOk_cons (Ev.asOk_le (is0 I) (is1 I) (Ev.df h0)) Ev.asOk_nil
    exact fin_48 I a0 run2_48 w
theorem fin_49 {x0 : Int} (I : In x0) {A : List Ev.As} (hA : ∀ a ∈ A, Ev.AsOk a) (hr : Ev.run ⟨Try.prog, Ev.mkTT Try.prog, Ev.mkFT Try.prog, A, Qs, Cs⟩ 100000 3 [Ev.inp .i64 0, .int .i64 49] = some true) (w : World) :
    Calls Try.prog 3 #[.int .i64 x0, .int .i64 49] w fun e w' => e = .returned (.bool true) ∧ Below w.heap.size w w' :=
  Ev.run_calls (Ev.envOkA Try.prog A Qs Cs hA qs cs) mixed hr (.cons (.sym I.i0) (.cons (.int _ _) .nil)) w

set_option maxRecDepth 100000 in
set_option maxHeartbeats 4000000 in
theorem main_49 {x0 : Int} (I : In x0) (B : Bd x0) (w : World) :
    Calls Try.prog 3 #[.int .i64 x0, .int .i64 49] w fun e w' => e = .returned (.bool true) ∧ Below w.heap.size w w' := by
  by_cases h0 : z0 x0 ≤ z1 x0
  · have a0 := Ev.asOk_cons (Ev.asOk_le (is0 I) (is1 I) (Ev.dt h0)) Ev.asOk_nil
    by_cases h1 : z1 x0 ≤ z2 x0
    · have a1 := Ev.asOk_cons (Ev.asOk_le (is1 I) (is2 I) (Ev.dt h1)) a0
      by_cases h2 : z9 x0 = z12 x0
      · have a2 := Ev.asOk_cons (Ev.asOk_eq (is9 I) (is12 I) (Ev.dt h2)) a1
        exact fin_49 I a2 run0_49 w
      · exact (dead0 x0 B (z0 x0) (z1 x0) (z2 x0) (z3 x0) (z4 x0) (z5 x0) (z6 x0) (z7 x0) (z8 x0) (z9 x0) (z10 x0) (z11 x0) (z12 x0) rfl rfl rfl rfl rfl rfl rfl rfl rfl rfl rfl rfl rfl h0 h1 h2).elim
    · have a1 := Ev.asOk_cons (Ev.asOk_le (is1 I) (is2 I) (Ev.df h1)) a0
      exact fin_49 I a1 run1_49 w
  · have a0 := Ev.asOk_cons (Ev.asOk_le (is0 I) (is1 I) (Ev.df h0)) Ev.asOk_nil
    exact fin_49 I a0 run2_49 w
theorem fin_50 {x0 : Int} (I : In x0) {A : List Ev.As} (hA : ∀ a ∈ A, Ev.AsOk a) (hr : Ev.run ⟨Try.prog, Ev.mkTT Try.prog, Ev.mkFT Try.prog, A, Qs, Cs⟩ 100000 3 [Ev.inp .i64 0, .int .i64 50] = some true) (w : World) :
    Calls Try.prog 3 #[.int .i64 x0, .int .i64 50] w fun e w' => e = .returned (.bool true) ∧ Below w.heap.size w w' :=
  Ev.run_calls (Ev.envOkA Try.prog A Qs Cs hA qs cs) mixed hr (.cons (.sym I.i0) (.cons (.int _ _) .nil)) w

set_option maxRecDepth 100000 in
set_option maxHeartbeats 4000000 in
theorem main_50 {x0 : Int} (I : In x0) (B : Bd x0) (w : World) :
    Calls Try.prog 3 #[.int .i64 x0, .int .i64 50] w fun e w' => e = .returned (.bool true) ∧ Below w.heap.size w w' := by
  by_cases h0 : z0 x0 ≤ z1 x0
  · have a0 := Ev.asOk_cons (Ev.asOk_le (is0 I) (is1 I) (Ev.dt h0)) Ev.asOk_nil
    by_cases h1 : z1 x0 ≤ z2 x0
    · have a1 := Ev.asOk_cons (Ev.asOk_le (is1 I) (is2 I) (Ev.dt h1)) a0
      by_cases h2 : z9 x0 = z12 x0
      · have a2 := Ev.asOk_cons (Ev.asOk_eq (is9 I) (is12 I) (Ev.dt h2)) a1
        exact fin_50 I a2 run0_50 w
      · exact (dead0 x0 B (z0 x0) (z1 x0) (z2 x0) (z3 x0) (z4 x0) (z5 x0) (z6 x0) (z7 x0) (z8 x0) (z9 x0) (z10 x0) (z11 x0) (z12 x0) rfl rfl rfl rfl rfl rfl rfl rfl rfl rfl rfl rfl rfl h0 h1 h2).elim
    · have a1 := Ev.asOk_cons (Ev.asOk_le (is1 I) (is2 I) (Ev.df h1)) a0
      exact fin_50 I a1 run1_50 w
  · have a0 := Ev.asOk_cons (Ev.asOk_le (is0 I) (is1 I) (Ev.df h0)) Ev.asOk_nil
    exact fin_50 I a0 run2_50 w
theorem fin_51 {x0 : Int} (I : In x0) {A : List Ev.As} (hA : ∀ a ∈ A, Ev.AsOk a) (hr : Ev.run ⟨Try.prog, Ev.mkTT Try.prog, Ev.mkFT Try.prog, A, Qs, Cs⟩ 100000 3 [Ev.inp .i64 0, .int .i64 51] = some true) (w : World) :
    Calls Try.prog 3 #[.int .i64 x0, .int .i64 51] w fun e w' => e = .returned (.bool true) ∧ Below w.heap.size w w' :=
  Ev.run_calls (Ev.envOkA Try.prog A Qs Cs hA qs cs) mixed hr (.cons (.sym I.i0) (.cons (.int _ _) .nil)) w

set_option maxRecDepth 100000 in
set_option maxHeartbeats 4000000 in
theorem main_51 {x0 : Int} (I : In x0) (B : Bd x0) (w : World) :
    Calls Try.prog 3 #[.int .i64 x0, .int .i64 51] w fun e w' => e = .returned (.bool true) ∧ Below w.heap.size w w' := by
  by_cases h0 : z0 x0 ≤ z1 x0
  · have a0 := Ev.asOk_cons (Ev.asOk_le (is0 I) (is1 I) (Ev.dt h0)) Ev.asOk_nil
    by_cases h1 : z1 x0 ≤ z2 x0
    · have a1 := Ev.asOk_cons (Ev.asOk_le (is1 I) (is2 I) (Ev.dt h1)) a0
      by_cases h2 : z9 x0 = z12 x0
      · have a2 := Ev.asOk_cons (Ev.asOk_eq (is9 I) (is12 I) (Ev.dt h2)) a1
        exact fin_51 I a2 run0_51 w
      · exact (dead0 x0 B (z0 x0) (z1 x0) (z2 x0) (z3 x0) (z4 x0) (z5 x0) (z6 x0) (z7 x0) (z8 x0) (z9 x0) (z10 x0) (z11 x0) (z12 x0) rfl rfl rfl rfl rfl rfl rfl rfl rfl rfl rfl rfl rfl h0 h1 h2).elim
    · have a1 := Ev.asOk_cons (Ev.asOk_le (is1 I) (is2 I) (Ev.df h1)) a0
      exact fin_51 I a1 run1_51 w
  · have a0 := Ev.asOk_cons (Ev.asOk_le (is0 I) (is1 I) (Ev.df h0)) Ev.asOk_nil
    exact fin_51 I a0 run2_51 w
theorem fin_52 {x0 : Int} (I : In x0) {A : List Ev.As} (hA : ∀ a ∈ A, Ev.AsOk a) (hr : Ev.run ⟨Try.prog, Ev.mkTT Try.prog, Ev.mkFT Try.prog, A, Qs, Cs⟩ 100000 3 [Ev.inp .i64 0, .int .i64 52] = some true) (w : World) :
    Calls Try.prog 3 #[.int .i64 x0, .int .i64 52] w fun e w' => e = .returned (.bool true) ∧ Below w.heap.size w w' :=
  Ev.run_calls (Ev.envOkA Try.prog A Qs Cs hA qs cs) mixed hr (.cons (.sym I.i0) (.cons (.int _ _) .nil)) w

set_option maxRecDepth 100000 in
set_option maxHeartbeats 4000000 in
theorem main_52 {x0 : Int} (I : In x0) (B : Bd x0) (w : World) :
    Calls Try.prog 3 #[.int .i64 x0, .int .i64 52] w fun e w' => e = .returned (.bool true) ∧ Below w.heap.size w w' := by
  by_cases h0 : z0 x0 ≤ z1 x0
  · have a0 := Ev.asOk_cons (Ev.asOk_le (is0 I) (is1 I) (Ev.dt h0)) Ev.asOk_nil
    by_cases h1 : z1 x0 ≤ z2 x0
    · have a1 := Ev.asOk_cons (Ev.asOk_le (is1 I) (is2 I) (Ev.dt h1)) a0
      by_cases h2 : z9 x0 = z12 x0
      · have a2 := Ev.asOk_cons (Ev.asOk_eq (is9 I) (is12 I) (Ev.dt h2)) a1
        exact fin_52 I a2 run0_52 w
      · exact (dead0 x0 B (z0 x0) (z1 x0) (z2 x0) (z3 x0) (z4 x0) (z5 x0) (z6 x0) (z7 x0) (z8 x0) (z9 x0) (z10 x0) (z11 x0) (z12 x0) rfl rfl rfl rfl rfl rfl rfl rfl rfl rfl rfl rfl rfl h0 h1 h2).elim
    · have a1 := Ev.asOk_cons (Ev.asOk_le (is1 I) (is2 I) (Ev.df h1)) a0
      exact fin_52 I a1 run1_52 w
  · have a0 := Ev.asOk_cons (Ev.asOk_le (is0 I) (is1 I) (Ev.df h0)) Ev.asOk_nil
    exact fin_52 I a0 run2_52 w
theorem fin_53 {x0 : Int} (I : In x0) {A : List Ev.As} (hA : ∀ a ∈ A, Ev.AsOk a) (hr : Ev.run ⟨Try.prog, Ev.mkTT Try.prog, Ev.mkFT Try.prog, A, Qs, Cs⟩ 100000 3 [Ev.inp .i64 0, .int .i64 53] = some true) (w : World) :
    Calls Try.prog 3 #[.int .i64 x0, .int .i64 53] w fun e w' => e = .returned (.bool true) ∧ Below w.heap.size w w' :=
  Ev.run_calls (Ev.envOkA Try.prog A Qs Cs hA qs cs) mixed hr (.cons (.sym I.i0) (.cons (.int _ _) .nil)) w

set_option maxRecDepth 100000 in
set_option maxHeartbeats 4000000 in
theorem main_53 {x0 : Int} (I : In x0) (B : Bd x0) (w : World) :
    Calls Try.prog 3 #[.int .i64 x0, .int .i64 53] w fun e w' => e = .returned (.bool true) ∧ Below w.heap.size w w' := by
  by_cases h0 : z0 x0 ≤ z1 x0
  · have a0 := Ev.asOk_cons (Ev.asOk_le (is0 I) (is1 I) (Ev.dt h0)) Ev.asOk_nil
    by_cases h1 : z1 x0 ≤ z2 x0
    · have a1 := Ev.asOk_cons (Ev.asOk_le (is1 I) (is2 I) (Ev.dt h1)) a0
      by_cases h2 : z9 x0 = z12 x0
      · have a2 := Ev.asOk_cons (Ev.asOk_eq (is9 I) (is12 I) (Ev.dt h2)) a1
        exact fin_53 I a2 run0_53 w
      · exact (dead0 x0 B (z0 x0) (z1 x0) (z2 x0) (z3 x0) (z4 x0) (z5 x0) (z6 x0) (z7 x0) (z8 x0) (z9 x0) (z10 x0) (z11 x0) (z12 x0) rfl rfl rfl rfl rfl rfl rfl rfl rfl rfl rfl rfl rfl h0 h1 h2).elim
    · have a1 := Ev.asOk_cons (Ev.asOk_le (is1 I) (is2 I) (Ev.df h1)) a0
      exact fin_53 I a1 run1_53 w
  · have a0 := Ev.asOk_cons (Ev.asOk_le (is0 I) (is1 I) (Ev.df h0)) Ev.asOk_nil
    exact fin_53 I a0 run2_53 w
theorem fin_54 {x0 : Int} (I : In x0) {A : List Ev.As} (hA : ∀ a ∈ A, Ev.AsOk a) (hr : Ev.run ⟨Try.prog, Ev.mkTT Try.prog, Ev.mkFT Try.prog, A, Qs, Cs⟩ 100000 3 [Ev.inp .i64 0, .int .i64 54] = some true) (w : World) :
    Calls Try.prog 3 #[.int .i64 x0, .int .i64 54] w fun e w' => e = .returned (.bool true) ∧ Below w.heap.size w w' :=
  Ev.run_calls (Ev.envOkA Try.prog A Qs Cs hA qs cs) mixed hr (.cons (.sym I.i0) (.cons (.int _ _) .nil)) w

set_option maxRecDepth 100000 in
set_option maxHeartbeats 4000000 in
theorem main_54 {x0 : Int} (I : In x0) (B : Bd x0) (w : World) :
    Calls Try.prog 3 #[.int .i64 x0, .int .i64 54] w fun e w' => e = .returned (.bool true) ∧ Below w.heap.size w w' := by
  by_cases h0 : z0 x0 ≤ z1 x0
  · have a0 := Ev.asOk_cons (Ev.asOk_le (is0 I) (is1 I) (Ev.dt h0)) Ev.asOk_nil
    by_cases h1 : z1 x0 ≤ z2 x0
    · have a1 := Ev.asOk_cons (Ev.asOk_le (is1 I) (is2 I) (Ev.dt h1)) a0
      by_cases h2 : z9 x0 = z12 x0
      · have a2 := Ev.asOk_cons (Ev.asOk_eq (is9 I) (is12 I) (Ev.dt h2)) a1
        exact fin_54 I a2 run0_54 w
      · exact (dead0 x0 B (z0 x0) (z1 x0) (z2 x0) (z3 x0) (z4 x0) (z5 x0) (z6 x0) (z7 x0) (z8 x0) (z9 x0) (z10 x0) (z11 x0) (z12 x0) rfl rfl rfl rfl rfl rfl rfl rfl rfl rfl rfl rfl rfl h0 h1 h2).elim
    · have a1 := Ev.asOk_cons (Ev.asOk_le (is1 I) (is2 I) (Ev.df h1)) a0
      exact fin_54 I a1 run1_54 w
  · have a0 := Ev.asOk_cons (Ev.asOk_le (is0 I) (is1 I) (Ev.df h0)) Ev.asOk_nil
    exact fin_54 I a0 run2_54 w
theorem fin_55 {x0 : Int} (I : In x0) {A : List Ev.As} (hA : ∀ a ∈ A, Ev.AsOk a) (hr : Ev.run ⟨Try.prog, Ev.mkTT Try.prog, Ev.mkFT Try.prog, A, Qs, Cs⟩ 100000 3 [Ev.inp .i64 0, .int .i64 55] = some true) (w : World) :
    Calls Try.prog 3 #[.int .i64 x0, .int .i64 55] w fun e w' => e = .returned (.bool true) ∧ Below w.heap.size w w' :=
  Ev.run_calls (Ev.envOkA Try.prog A Qs Cs hA qs cs) mixed hr (.cons (.sym I.i0) (.cons (.int _ _) .nil)) w

set_option maxRecDepth 100000 in
set_option maxHeartbeats 4000000 in
theorem main_55 {x0 : Int} (I : In x0) (B : Bd x0) (w : World) :
    Calls Try.prog 3 #[.int .i64 x0, .int .i64 55] w fun e w' => e = .returned (.bool true) ∧ Below w.heap.size w w' := by
  by_cases h0 : z0 x0 ≤ z1 x0
  · have a0 := Ev.asOk_cons (Ev.asOk_le (is0 I) (is1 I) (Ev.dt h0)) Ev.asOk_nil
    by_cases h1 : z1 x0 ≤ z2 x0
    · have a1 := Ev.asOk_cons (Ev.asOk_le (is1 I) (is2 I) (Ev.dt h1)) a0
      by_cases h2 : z9 x0 = z12 x0
      · have a2 := Ev.asOk_cons (Ev.asOk_eq (is9 I) (is12 I) (Ev.dt h2)) a1
        exact fin_55 I a2 run0_55 w
      · exact (dead0 x0 B (z0 x0) (z1 x0) (z2 x0) (z3 x0) (z4 x0) (z5 x0) (z6 x0) (z7 x0) (z8 x0) (z9 x0) (z10 x0) (z11 x0) (z12 x0) rfl rfl rfl rfl rfl rfl rfl rfl rfl rfl rfl rfl rfl h0 h1 h2).elim
    · have a1 := Ev.asOk_cons (Ev.asOk_le (is1 I) (is2 I) (Ev.df h1)) a0
      exact fin_55 I a1 run1_55 w
  · have a0 := Ev.asOk_cons (Ev.asOk_le (is0 I) (is1 I) (Ev.df h0)) Ev.asOk_nil
    exact fin_55 I a0 run2_55 w
theorem fin_56 {x0 : Int} (I : In x0) {A : List Ev.As} (hA : ∀ a ∈ A, Ev.AsOk a) (hr : Ev.run ⟨Try.prog, Ev.mkTT Try.prog, Ev.mkFT Try.prog, A, Qs, Cs⟩ 100000 3 [Ev.inp .i64 0, .int .i64 56] = some true) (w : World) :
    Calls Try.prog 3 #[.int .i64 x0, .int .i64 56] w fun e w' => e = .returned (.bool true) ∧ Below w.heap.size w w' :=
  Ev.run_calls (Ev.envOkA Try.prog A Qs Cs hA qs cs) mixed hr (.cons (.sym I.i0) (.cons (.int _ _) .nil)) w

set_option maxRecDepth 100000 in
set_option maxHeartbeats 4000000 in
theorem main_56 {x0 : Int} (I : In x0) (B : Bd x0) (w : World) :
    Calls Try.prog 3 #[.int .i64 x0, .int .i64 56] w fun e w' => e = .returned (.bool true) ∧ Below w.heap.size w w' := by
  by_cases h0 : z0 x0 ≤ z1 x0
  · have a0 := Ev.asOk_cons (Ev.asOk_le (is0 I) (is1 I) (Ev.dt h0)) Ev.asOk_nil
    by_cases h1 : z1 x0 ≤ z2 x0
    · have a1 := Ev.asOk_cons (Ev.asOk_le (is1 I) (is2 I) (Ev.dt h1)) a0
      by_cases h2 : z9 x0 = z12 x0
      · have a2 := Ev.asOk_cons (Ev.asOk_eq (is9 I) (is12 I) (Ev.dt h2)) a1
        exact fin_56 I a2 run0_56 w
      · exact (dead0 x0 B (z0 x0) (z1 x0) (z2 x0) (z3 x0) (z4 x0) (z5 x0) (z6 x0) (z7 x0) (z8 x0) (z9 x0) (z10 x0) (z11 x0) (z12 x0) rfl rfl rfl rfl rfl rfl rfl rfl rfl rfl rfl rfl rfl h0 h1 h2).elim
    · have a1 := Ev.asOk_cons (Ev.asOk_le (is1 I) (is2 I) (Ev.df h1)) a0
      exact fin_56 I a1 run1_56 w
  · have a0 := Ev.asOk_cons (Ev.asOk_le (is0 I) (is1 I) (Ev.df h0)) Ev.asOk_nil
    exact fin_56 I a0 run2_56 w
theorem fin_57 {x0 : Int} (I : In x0) {A : List Ev.As} (hA : ∀ a ∈ A, Ev.AsOk a) (hr : Ev.run ⟨Try.prog, Ev.mkTT Try.prog, Ev.mkFT Try.prog, A, Qs, Cs⟩ 100000 3 [Ev.inp .i64 0, .int .i64 57] = some true) (w : World) :
    Calls Try.prog 3 #[.int .i64 x0, .int .i64 57] w fun e w' => e = .returned (.bool true) ∧ Below w.heap.size w w' :=
  Ev.run_calls (Ev.envOkA Try.prog A Qs Cs hA qs cs) mixed hr (.cons (.sym I.i0) (.cons (.int _ _) .nil)) w

set_option maxRecDepth 100000 in
set_option maxHeartbeats 4000000 in
theorem main_57 {x0 : Int} (I : In x0) (B : Bd x0) (w : World) :
    Calls Try.prog 3 #[.int .i64 x0, .int .i64 57] w fun e w' => e = .returned (.bool true) ∧ Below w.heap.size w w' := by
  by_cases h0 : z0 x0 ≤ z1 x0
  · have a0 := Ev.asOk_cons (Ev.asOk_le (is0 I) (is1 I) (Ev.dt h0)) Ev.asOk_nil
    by_cases h1 : z1 x0 ≤ z2 x0
    · have a1 := Ev.asOk_cons (Ev.asOk_le (is1 I) (is2 I) (Ev.dt h1)) a0
      by_cases h2 : z9 x0 = z12 x0
      · have a2 := Ev.asOk_cons (Ev.asOk_eq (is9 I) (is12 I) (Ev.dt h2)) a1
        exact fin_57 I a2 run0_57 w
      · exact (dead0 x0 B (z0 x0) (z1 x0) (z2 x0) (z3 x0) (z4 x0) (z5 x0) (z6 x0) (z7 x0) (z8 x0) (z9 x0) (z10 x0) (z11 x0) (z12 x0) rfl rfl rfl rfl rfl rfl rfl rfl rfl rfl rfl rfl rfl h0 h1 h2).elim
    · have a1 := Ev.asOk_cons (Ev.asOk_le (is1 I) (is2 I) (Ev.df h1)) a0
      exact fin_57 I a1 run1_57 w
  · have a0 := Ev.asOk_cons (Ev.asOk_le (is0 I) (is1 I) (Ev.df h0)) Ev.asOk_nil
    exact fin_57 I a0 run2_57 w
theorem fin_58 {x0 : Int} (I : In x0) {A : List Ev.As} (hA : ∀ a ∈ A, Ev.AsOk a) (hr : Ev.run ⟨Try.prog, Ev.mkTT Try.prog, Ev.mkFT Try.prog, A, Qs, Cs⟩ 100000 3 [Ev.inp .i64 0, .int .i64 58] = some true) (w : World) :
    Calls Try.prog 3 #[.int .i64 x0, .int .i64 58] w fun e w' => e = .returned (.bool true) ∧ Below w.heap.size w w' :=
  Ev.run_calls (Ev.envOkA Try.prog A Qs Cs hA qs cs) mixed hr (.cons (.sym I.i0) (.cons (.int _ _) .nil)) w

set_option maxRecDepth 100000 in
set_option maxHeartbeats 4000000 in
theorem main_58 {x0 : Int} (I : In x0) (B : Bd x0) (w : World) :
    Calls Try.prog 3 #[.int .i64 x0, .int .i64 58] w fun e w' => e = .returned (.bool true) ∧ Below w.heap.size w w' := by
  by_cases h0 : z0 x0 ≤ z1 x0
  · have a0 := Ev.asOk_cons (Ev.asOk_le (is0 I) (is1 I) (Ev.dt h0)) Ev.asOk_nil
    by_cases h1 : z1 x0 ≤ z2 x0
    · have a1 := Ev.asOk_cons (Ev.asOk_le (is1 I) (is2 I) (Ev.dt h1)) a0
      by_cases h2 : z9 x0 = z12 x0
      · have a2 := Ev.asOk_cons (Ev.asOk_eq (is9 I) (is12 I) (Ev.dt h2)) a1
        exact fin_58 I a2 run0_58 w
      · exact (dead0 x0 B (z0 x0) (z1 x0) (z2 x0) (z3 x0) (z4 x0) (z5 x0) (z6 x0) (z7 x0) (z8 x0) (z9 x0) (z10 x0) (z11 x0) (z12 x0) rfl rfl rfl rfl rfl rfl rfl rfl rfl rfl rfl rfl rfl h0 h1 h2).elim
    · have a1 := Ev.asOk_cons (Ev.asOk_le (is1 I) (is2 I) (Ev.df h1)) a0
      exact fin_58 I a1 run1_58 w
  · have a0 := Ev.asOk_cons (Ev.asOk_le (is0 I) (is1 I) (Ev.df h0)) Ev.asOk_nil
    exact fin_58 I a0 run2_58 w
theorem fin_59 {x0 : Int} (I : In x0) {A : List Ev.As} (hA : ∀ a ∈ A, Ev.AsOk a) (hr : Ev.run ⟨Try.prog, Ev.mkTT Try.prog, Ev.mkFT Try.prog, A, Qs, Cs⟩ 100000 3 [Ev.inp .i64 0, .int .i64 59] = some true) (w : World) :
    Calls Try.prog 3 #[.int .i64 x0, .int .i64 59] w fun e w' => e = .returned (.bool true) ∧ Below w.heap.size w w' :=
  Ev.run_calls (Ev.envOkA Try.prog A Qs Cs hA qs cs) mixed hr (.cons (.sym I.i0) (.cons (.int _ _) .nil)) w

set_option maxRecDepth 100000 in
set_option maxHeartbeats 4000000 in
theorem main_59 {x0 : Int} (I : In x0) (B : Bd x0) (w : World) :
    Calls Try.prog 3 #[.int .i64 x0, .int .i64 59] w fun e w' => e = .returned (.bool true) ∧ Below w.heap.size w w' := by
  by_cases h0 : z0 x0 ≤ z1 x0
  · have a0 := Ev.asOk_cons (Ev.asOk_le (is0 I) (is1 I) (Ev.dt h0)) Ev.asOk_nil
    by_cases h1 : z1 x0 ≤ z2 x0
    · have a1 := Ev.asOk_cons (Ev.asOk_le (is1 I) (is2 I) (Ev.dt h1)) a0
      by_cases h2 : z9 x0 = z12 x0
      · have a2 := Ev.asOk_cons (Ev.asOk_eq (is9 I) (is12 I) (Ev.dt h2)) a1
        exact fin_59 I a2 run0_59 w
      · exact (dead0 x0 B (z0 x0) (z1 x0) (z2 x0) (z3 x0) (z4 x0) (z5 x0) (z6 x0) (z7 x0) (z8 x0) (z9 x0) (z10 x0) (z11 x0) (z12 x0) rfl rfl rfl rfl rfl rfl rfl rfl rfl rfl rfl rfl rfl h0 h1 h2).elim
    · have a1 := Ev.asOk_cons (Ev.asOk_le (is1 I) (is2 I) (Ev.df h1)) a0
      exact fin_59 I a1 run1_59 w
  · have a0 := Ev.asOk_cons (Ev.asOk_le (is0 I) (is1 I) (Ev.df h0)) Ev.asOk_nil
    exact fin_59 I a0 run2_59 w
theorem fin_60 {x0 : Int} (I : In x0) {A : List Ev.As} (hA : ∀ a ∈ A, Ev.AsOk a) (hr : Ev.run ⟨Try.prog, Ev.mkTT Try.prog, Ev.mkFT Try.prog, A, Qs, Cs⟩ 100000 3 [Ev.inp .i64 0, .int .i64 60] = some true) (w : World) :
    Calls Try.prog 3 #[.int .i64 x0, .int .i64 60] w fun e w' => e = .returned (.bool true) ∧ Below w.heap.size w w' :=
  Ev.run_calls (Ev.envOkA Try.prog A Qs Cs hA qs cs) mixed hr (.cons (.sym I.i0) (.cons (.int _ _) .nil)) w

set_option maxRecDepth 100000 in
set_option maxHeartbeats 4000000 in
theorem main_60 {x0 : Int} (I : In x0) (B : Bd x0) (w : World) :
    Calls Try.prog 3 #[.int .i64 x0, .int .i64 60] w fun e w' => e = .returned (.bool true) ∧ Below w.heap.size w w' := by
  by_cases h0 : z0 x0 ≤ z1 x0
  · have a0 := Ev.asOk_cons (Ev.asOk_le (is0 I) (is1 I) (Ev.dt h0)) Ev.asOk_nil
    by_cases h1 : z1 x0 ≤ z2 x0
    · have a1 := Ev.asOk_cons (Ev.asOk_le (is1 I) (is2 I) (Ev.dt h1)) a0
      by_cases h2 : z9 x0 = z12 x0
      · have a2 := Ev.asOk_cons (Ev.asOk_eq (is9 I) (is12 I) (Ev.dt h2)) a1
        exact fin_60 I a2 run0_60 w
      · exact (dead0 x0 B (z0 x0) (z1 x0) (z2 x0) (z3 x0) (z4 x0) (z5 x0) (z6 x0) (z7 x0) (z8 x0) (z9 x0) (z10 x0) (z11 x0) (z12 x0) rfl rfl rfl rfl rfl rfl rfl rfl rfl rfl rfl rfl rfl h0 h1 h2).elim
    · have a1 := Ev.asOk_cons (Ev.asOk_le (is1 I) (is2 I) (Ev.df h1)) a0
      exact fin_60 I a1 run1_60 w
  · have a0 := Ev.asOk_cons (Ev.asOk_le (is0 I) (is1 I) (Ev.df h0)) Ev.asOk_nil
    exact fin_60 I a0 run2_60 w
theorem fin_61 {x0 : Int} (I : In x0) {A : List Ev.As} (hA : ∀ a ∈ A, Ev.AsOk a) (hr : Ev.run ⟨Try.prog, Ev.mkTT Try.prog, Ev.mkFT Try.prog, A, Qs, Cs⟩ 100000 3 [Ev.inp .i64 0, .int .i64 61] = some true) (w : World) :
    Calls Try.prog 3 #[.int .i64 x0, .int .i64 61] w fun e w' => e = .returned (.bool true) ∧ Below w.heap.size w w' :=
  Ev.run_calls (Ev.envOkA Try.prog A Qs Cs hA qs cs) mixed hr (.cons (.sym I.i0) (.cons (.int _ _) .nil)) w

set_option maxRecDepth 100000 in
set_option maxHeartbeats 4000000 in
theorem main_61 {x0 : Int} (I : In x0) (B : Bd x0) (w : World) :
    Calls Try.prog 3 #[.int .i64 x0, .int .i64 61] w fun e w' => e = .returned (.bool true) ∧ Below w.heap.size w w' := by
  by_cases h0 : z0 x0 ≤ z1 x0
  · have a0 := Ev.asOk_cons (Ev.asOk_le (is0 I) (is1 I) (Ev.dt h0)) Ev.asOk_nil
    by_cases h1 : z1 x0 ≤ z2 x0
    · have a1 := Ev.asOk_cons (Ev.asOk_le (is1 I) (is2 I) (Ev.dt h1)) a0
      by_cases h2 : z9 x0 = z12 x0
      · have a2 := Ev.asOk_cons (Ev.asOk_eq (is9 I) (is12 I) (Ev.dt h2)) a1
        exact fin_61 I a2 run0_61 w
      · exact (dead0 x0 B (z0 x0) (z1 x0) (z2 x0) (z3 x0) (z4 x0) (z5 x0) (z6 x0) (z7 x0) (z8 x0) (z9 x0) (z10 x0) (z11 x0) (z12 x0) rfl rfl rfl rfl rfl rfl rfl rfl rfl rfl rfl rfl rfl h0 h1 h2).elim
    · have a1 := Ev.asOk_cons (Ev.asOk_le (is1 I) (is2 I) (Ev.df h1)) a0
      exact fin_61 I a1 run1_61 w
  · have a0 := Ev.asOk_cons (Ev.asOk_le (is0 I) (is1 I) (Ev.df h0)) Ev.asOk_nil
    exact fin_61 I a0 run2_61 w
theorem fin_62 {x0 : Int} (I : In x0) {A : List Ev.As} (hA : ∀ a ∈ A, Ev.AsOk a) (hr : Ev.run ⟨Try.prog, Ev.mkTT Try.prog, Ev.mkFT Try.prog, A, Qs, Cs⟩ 100000 3 [Ev.inp .i64 0, .int .i64 62] = some true) (w : World) :
    Calls Try.prog 3 #[.int .i64 x0, .int .i64 62] w fun e w' => e = .returned (.bool true) ∧ Below w.heap.size w w' :=
  Ev.run_calls (Ev.envOkA Try.prog A Qs Cs hA qs cs) mixed hr (.cons (.sym I.i0) (.cons (.int _ _) .nil)) w

set_option maxRecDepth 100000 in
set_option maxHeartbeats 4000000 in
theorem main_62 {x0 : Int} (I : In x0) (B : Bd x0) (w : World) :
    Calls Try.prog 3 #[.int .i64 x0, .int .i64 62] w fun e w' => e = .returned (.bool true) ∧ Below w.heap.size w w' := by
  by_cases h0 : z0 x0 ≤ z1 x0
  · have a0 := Ev.asOk_cons (Ev.asOk_le (is0 I) (is1 I) (Ev.dt h0)) Ev.asOk_nil
    by_cases h1 : z1 x0 ≤ z2 x0
    · have a1 := Ev.asOk_cons (Ev.asOk_le (is1 I) (is2 I) (Ev.dt h1)) a0
      by_cases h2 : z9 x0 = z12 x0
      · have a2 := Ev.asOk_cons (Ev.asOk_eq (is9 I) (is12 I) (Ev.dt h2)) a1
        exact fin_62 I a2 run0_62 w
      · exact (dead0 x0 B (z0 x0) (z1 x0) (z2 x0) (z3 x0) (z4 x0) (z5 x0) (z6 x0) (z7 x0) (z8 x0) (z9 x0) (z10 x0) (z11 x0) (z12 x0) rfl rfl rfl rfl rfl rfl rfl rfl rfl rfl rfl rfl rfl h0 h1 h2).elim
    · have a1 := Ev.asOk_cons (Ev.asOk_le (is1 I) (is2 I) (Ev.df h1)) a0
      exact fin_62 I a1 run1_62 w
  · have a0 := Ev.asOk_cons (Ev.asOk_le (is0 I) (is1 I) (Ev.df h0)) Ev.asOk_nil
    exact fin_62 I a0 run2_62 w
theorem fin_63 {x0 : Int} (I : In x0) {A : List Ev.As} (hA : ∀ a ∈ A, Ev.AsOk a) (hr : Ev.run ⟨Try.prog, Ev.mkTT Try.prog, Ev.mkFT Try.prog, A, Qs, Cs⟩ 100000 3 [Ev.inp .i64 0, .int .i64 63] = some true) (w : World) :
    Calls Try.prog 3 #[.int .i64 x0, .int .i64 63] w fun e w' => e = .returned (.bool true) ∧ Below w.heap.size w w' :=
  Ev.run_calls (Ev.envOkA Try.prog A Qs Cs hA qs cs) mixed hr (.cons (.sym I.i0) (.cons (.int _ _) .nil)) w

set_option maxRecDepth 100000 in
set_option maxHeartbeats 4000000 in
theorem main_63 {x0 : Int} (I : In x0) (B : Bd x0) (w : World) :
    Calls Try.prog 3 #[.int .i64 x0, .int .i64 63] w fun e w' => e = .returned (.bool true) ∧ Below w.heap.size w w' := by
  by_cases h0 : z0 x0 ≤ z1 x0
  · have a0 := Ev.asOk_cons (Ev.asOk_le (is0 I) (is1 I) (Ev.dt h0)) Ev.asOk_nil
    by_cases h1 : z1 x0 ≤ z2 x0
    · have a1 := Ev.asOk_cons (Ev.asOk_le (is1 I) (is2 I) (Ev.dt h1)) a0
      by_cases h2 : z9 x0 = z12 x0
      · have a2 := Ev.asOk_cons (Ev.asOk_eq (is9 I) (is12 I) (Ev.dt h2)) a1
        exact fin_63 I a2 run0_63 w
      · exact (dead0 x0 B (z0 x0) (z1 x0) (z2 x0) (z3 x0) (z4 x0) (z5 x0) (z6 x0) (z7 x0) (z8 x0) (z9 x0) (z10 x0) (z11 x0) (z12 x0) rfl rfl rfl rfl rfl rfl rfl rfl rfl rfl rfl rfl rfl h0 h1 h2).elim
    · have a1 := Ev.asOk_cons (Ev.asOk_le (is1 I) (is2 I) (Ev.df h1)) a0
      exact fin_63 I a1 run1_63 w
  · have a0 := Ev.asOk_cons (Ev.asOk_le (is0 I) (is1 I) (Ev.df h0)) Ev.asOk_nil
    exact fin_63 I a0 run2_63 w
theorem fin_64 {x0 : Int} (I : In x0) {A : List Ev.As} (hA : ∀ a ∈ A, Ev.AsOk a) (hr : Ev.run ⟨Try.prog, Ev.mkTT Try.prog, Ev.mkFT Try.prog, A, Qs, Cs⟩ 100000 3 [Ev.inp .i64 0, .int .i64 64] = some true) (w : World) :
    Calls Try.prog 3 #[.int .i64 x0, .int .i64 64] w fun e w' => e = .returned (.bool true) ∧ Below w.heap.size w w' :=
  Ev.run_calls (Ev.envOkA Try.prog A Qs Cs hA qs cs) mixed hr (.cons (.sym I.i0) (.cons (.int _ _) .nil)) w

set_option maxRecDepth 100000 in
set_option maxHeartbeats 4000000 in
theorem main_64 {x0 : Int} (I : In x0) (B : Bd x0) (w : World) :
    Calls Try.prog 3 #[.int .i64 x0, .int .i64 64] w fun e w' => e = .returned (.bool true) ∧ Below w.heap.size w w' := by
  by_cases h0 : z0 x0 ≤ z1 x0
  · have a0 := Ev.asOk_cons (Ev.asOk_le (is0 I) (is1 I) (Ev.dt h0)) Ev.asOk_nil
    by_cases h1 : z1 x0 ≤ z2 x0
    · have a1 := Ev.asOk_cons (Ev.asOk_le (is1 I) (is2 I) (Ev.dt h1)) a0
      by_cases h2 : z9 x0 = z12 x0
      · have a2 := Ev.asOk_cons (Ev.asOk_eq (is9 I) (is12 I) (Ev.dt h2)) a1
        exact fin_64 I a2 run0_64 w
      · exact (dead0 x0 B (z0 x0) (z1 x0) (z2 x0) (z3 x0) (z4 x0) (z5 x0) (z6 x0) (z7 x0) (z8 x0) (z9 x0) (z10 x0) (z11 x0) (z12 x0) rfl rfl rfl rfl rfl rfl rfl rfl rfl rfl rfl rfl rfl h0 h1 h2).elim
    · have a1 := Ev.asOk_cons (Ev.asOk_le (is1 I) (is2 I) (Ev.df h1)) a0
      exact fin_64 I a1 run1_64 w
  · have a0 := Ev.asOk_cons (Ev.asOk_le (is0 I) (is1 I) (Ev.df h0)) Ev.asOk_nil
    exact fin_64 I a0 run2_64 w
end

theorem walk_1 (x0 : Int) (B : Bd x0) (w : World) :
    Calls Try.prog 3 #[.int .i64 x0, .int .i64 1] w fun e w' => e = .returned (.bool true) ∧ Below w.heap.size w w' := by
  letI : Inhabited Ev.Val := ⟨⟨fun j => match j with | 0 => .int .i64 x0 | _ => .nilIface⟩⟩
  have I : In x0 := ⟨⟨1, rfl⟩⟩
  exact main_1 I B w
theorem walk_2 (x0 : Int) (B : Bd x0) (w : World) :
    Calls Try.prog 3 #[.int .i64 x0, .int .i64 2] w fun e w' => e = .returned (.bool true) ∧ Below w.heap.size w w' := by
  letI : Inhabited Ev.Val := ⟨⟨fun j => match j with | 0 => .int .i64 x0 | _ => .nilIface⟩⟩
  have I : In x0 := ⟨⟨1, rfl⟩⟩
  exact main_2 I B w
theorem walk_3 (x0 : Int) (B : Bd x0) (w : World) :
    Calls Try.prog 3 #[.int .i64 x0, .int .i64 3] w fun e w' => e = .returned (.bool true) ∧ Below w.heap.size w w' := by
  letI : Inhabited Ev.Val := ⟨⟨fun j => match j with | 0 => .int .i64 x0 | _ => .nilIface⟩⟩
  have I : In x0 := ⟨⟨1, rfl⟩⟩
  exact main_3 I B w
theorem walk_4 (x0 : Int) (B : Bd x0) (w : World) :
    Calls Try.prog 3 #[.int .i64 x0, .int .i64 4] w fun e w' => e = .returned (.bool true) ∧ Below w.heap.size w w' := by
  letI : Inhabited Ev.Val := ⟨⟨fun j => match j with | 0 => .int .i64 x0 | _ => .nilIface⟩⟩
  have I : In x0 := ⟨⟨1, rfl⟩⟩
  exact main_4 I B w
theorem walk_5 (x0 : Int) (B : Bd x0) (w : World) :
    Calls Try.prog 3 #[.int .i64 x0, .int .i64 5] w fun e w' => e = .returned (.bool true) ∧ Below w.heap.size w w' := by
  letI : Inhabited Ev.Val := ⟨⟨fun j => match j with | 0 => .int .i64 x0 | _ => .nilIface⟩⟩
  have I : In x0 := ⟨⟨1, rfl⟩⟩
  exact main_5 I B w
theorem walk_6 (x0 : Int) (B : Bd x0) (w : World) :
    Calls Try.prog 3 #[.int .i64 x0, .int .i64 6] w fun e w' => e = .returned (.bool true) ∧ Below w.heap.size w w' := by
  letI : Inhabited Ev.Val := ⟨⟨fun j => match j with | 0 => .int .i64 x0 | _ => .nilIface⟩⟩
  have I : In x0 := ⟨⟨1, rfl⟩⟩
  exact main_6 I B w
theorem walk_7 (x0 : Int) (B : Bd x0) (w : World) :
    Calls Try.prog 3 #[.int .i64 x0, .int .i64 7] w fun e w' => e = .returned (.bool true) ∧ Below w.heap.size w w' := by
  letI : Inhabited Ev.Val := ⟨⟨fun j => match j with | 0 => .int .i64 x0 | _ => .nilIface⟩⟩
  have I : In x0 := ⟨⟨1, rfl⟩⟩
  exact main_7 I B w
theorem walk_8 (x0 : Int) (B : Bd x0) (w : World) :
    Calls Try.prog 3 #[.int .i64 x0, .int .i64 8] w fun e w' => e = .returned (.bool true) ∧ Below w.heap.size w w' := by
  letI : Inhabited Ev.Val := ⟨⟨fun j => match j with | 0 => .int .i64 x0 | _ => .nilIface⟩⟩
  have I : In x0 := ⟨⟨1, rfl⟩⟩
  exact main_8 I B w
theorem walk_9 (x0 : Int) (B : Bd x0) (w : World) :
    Calls Try.prog 3 #[.int .i64 x0, .int .i64 9] w fun e w' => e = .returned (.bool true) ∧ Below w.heap.size w w' := by
  letI : Inhabited Ev.Val := ⟨⟨fun j => match j with | 0 => .int .i64 x0 | _ => .nilIface⟩⟩
  have I : In x0 := ⟨⟨1, rfl⟩⟩
  exact main_9 I B w
theorem walk_10 (x0 : Int) (B : Bd x0) (w : World) :
    Calls Try.prog 3 #[.int .i64 x0, .int .i64 10] w fun e w' => e = .returned (.bool true) ∧ Below w.heap.size w w' := by
  letI : Inhabited Ev.Val := ⟨⟨fun j => match j with | 0 => .int .i64 x0 | _ => .nilIface⟩⟩
  have I : In x0 := ⟨⟨1, rfl⟩⟩
  exact main_10 I B w
theorem walk_11 (x0 : Int) (B : Bd x0) (w : World) :
    Calls Try.prog 3 #[.int .i64 x0, .int .i64 11] w fun e w' => e = .returned (.bool true) ∧ Below w.heap.size w w' := by
  letI : Inhabited Ev.Val := ⟨⟨fun j => match j with | 0 => .int .i64 x0 | _ => .nilIface⟩⟩
  have I : In x0 := ⟨⟨1, rfl⟩⟩
  exact main_11 I B w
theorem walk_12 (x0 : Int) (B : Bd x0) (w : World) :
    Calls Try.prog 3 #[.int .i64 x0, .int .i64 12] w fun e w' => e = .returned (.bool true) ∧ Below w.heap.size w w' := by
  letI : Inhabited Ev.Val := ⟨⟨fun j => match j with | 0 => .int .i64 x0 | _ => .nilIface⟩⟩
  have I : In x0 := ⟨⟨1, rfl⟩⟩
  exact main_12 I B w
theorem walk_13 (x0 : Int) (B : Bd x0) (w : World) :
    Calls Try.prog 3 #[.int .i64 x0, .int .i64 13] w fun e w' => e = .returned (.bool true) ∧ Below w.heap.size w w' := by
  letI : Inhabited Ev.Val := ⟨⟨fun j => match j with | 0 => .int .i64 x0 | _ => .nilIface⟩⟩
  have I : In x0 := ⟨⟨1, rfl⟩⟩
  exact main_13 I B w
theorem walk_14 (x0 : Int) (B : Bd x0) (w : World) :
    Calls Try.prog 3 #[.int .i64 x0, .int .i64 14] w fun e w' => e = .returned (.bool true) ∧ Below w.heap.size w w' := by
  letI : Inhabited Ev.Val := ⟨⟨fun j => match j with | 0 => .int .i64 x0 | _ => .nilIface⟩⟩
  have I : In x0 := ⟨⟨1, rfl⟩⟩
  exact main_14 I B w
theorem walk_15 (x0 : Int) (B : Bd x0) (w : World) :
    Calls Try.prog 3 #[.int .i64 x0, .int .i64 15] w fun e w' => e = .returned (.bool true) ∧ Below w.heap.size w w' := by
  letI : Inhabited Ev.Val := ⟨⟨fun j => match j with | 0 => .int .i64 x0 | _ => .nilIface⟩⟩
  have I : In x0 := ⟨⟨1, rfl⟩⟩
  exact main_15 I B w
theorem walk_16 (x0 : Int) (B : Bd x0) (w : World) :
    Calls Try.prog 3 #[.int .i64 x0, .int .i64 16] w fun e w' => e = .returned (.bool true) ∧ Below w.heap.size w w' := by
  letI : Inhabited Ev.Val := ⟨⟨fun j => match j with | 0 => .int .i64 x0 | _ => .nilIface⟩⟩
  have I : In x0 := ⟨⟨1, rfl⟩⟩
  exact main_16 I B w
theorem walk_17 (x0 : Int) (B : Bd x0) (w : World) :
    Calls Try.prog 3 #[.int .i64 x0, .int .i64 17] w fun e w' => e = .returned (.bool true) ∧ Below w.heap.size w w' := by
  letI : Inhabited Ev.Val := ⟨⟨fun j => match j with | 0 => .int .i64 x0 | _ => .nilIface⟩⟩
  have I : In x0 := ⟨⟨1, rfl⟩⟩
  exact main_17 I B w
theorem walk_18 (x0 : Int) (B : Bd x0) (w : World) :
    Calls Try.prog 3 #[.int .i64 x0, .int .i64 18] w fun e w' => e = .returned (.bool true) ∧ Below w.heap.size w w' := by
  letI : Inhabited Ev.Val := ⟨⟨fun j => match j with | 0 => .int .i64 x0 | _ => .nilIface⟩⟩
  have I : In x0 := ⟨⟨1, rfl⟩⟩
  exact main_18 I B w
theorem walk_19 (x0 : Int) (B : Bd x0) (w : World) :
    Calls Try.prog 3 #[.int .i64 x0, .int .i64 19] w fun e w' => e = .returned (.bool true) ∧ Below w.heap.size w w' := by
  letI : Inhabited Ev.Val := ⟨⟨fun j => match j with | 0 => .int .i64 x0 | _ => .nilIface⟩⟩
  have I : In x0 := ⟨⟨1, rfl⟩⟩
  exact main_19 I B w
theorem walk_20 (x0 : Int) (B : Bd x0) (w : World) :
    Calls Try.prog 3 #[.int .i64 x0, .int .i64 20] w fun e w' => e = .returned (.bool true) ∧ Below w.heap.size w w' := by
  letI : Inhabited Ev.Val := ⟨⟨fun j => match j with | 0 => .int .i64 x0 | _ => .nilIface⟩⟩
  have I : In x0 := ⟨⟨1, rfl⟩⟩
  exact main_20 I B w
theorem walk_21 (x0 : Int) (B : Bd x0) (w : World) :
    Calls Try.prog 3 #[.int .i64 x0, .int .i64 21] w fun e w' => e = .returned (.bool true) ∧ Below w.heap.size w w' := by
  letI : Inhabited Ev.Val := ⟨⟨fun j => match j with | 0 => .int .i64 x0 | _ => .nilIface⟩⟩
  have I : In x0 := ⟨⟨1, rfl⟩⟩
  exact main_21 I B w
theorem walk_22 (x0 : Int) (B : Bd x0) (w : World) :
    Calls Try.prog 3 #[.int .i64 x0, .int .i64 22] w fun e w' => e = .returned (.bool true) ∧ Below w.heap.size w w' := by
  letI : Inhabited Ev.Val := ⟨⟨fun j => match j with | 0 => .int .i64 x0 | _ => .nilIface⟩⟩
  have I : In x0 := ⟨⟨1, rfl⟩⟩
  exact main_22 I B w
theorem walk_23 (x0 : Int) (B : Bd x0) (w : World) :
    Calls Try.prog 3 #[.int .i64 x0, .int .i64 23] w fun e w' => e = .returned (.bool true) ∧ Below w.heap.size w w' := by
  letI : Inhabited Ev.Val := ⟨⟨fun j => match j with | 0 => .int .i64 x0 | _ => .nilIface⟩⟩
  have I : In x0 := ⟨⟨1, rfl⟩⟩
  exact main_23 I B w
theorem walk_24 (x0 : Int) (B : Bd x0) (w : World) :
    Calls Try.prog 3 #[.int .i64 x0, .int .i64 24] w fun e w' => e = .returned (.bool true) ∧ Below w.heap.size w w' := by
  letI : Inhabited Ev.Val := ⟨⟨fun j => match j with | 0 => .int .i64 x0 | _ => .nilIface⟩⟩
  have I : In x0 := ⟨⟨1, rfl⟩⟩
  exact main_24 I B w
theorem walk_25 (x0 : Int) (B : Bd x0) (w : World) :
    Calls Try.prog 3 #[.int .i64 x0, .int .i64 25] w fun e w' => e = .returned (.bool true) ∧ Below w.heap.size w w' := by
  letI : Inhabited Ev.Val := ⟨⟨fun j => match j with | 0 => .int .i64 x0 | _ => .nilIface⟩⟩
  have I : In x0 := ⟨⟨1, rfl⟩⟩
  exact main_25 I B w
theorem walk_26 (x0 : Int) (B : Bd x0) (w : World) :
    Calls Try.prog 3 #[.int .i64 x0, .int .i64 26] w fun e w' => e = .returned (.bool true) ∧ Below w.heap.size w w' := by
  letI : Inhabited Ev.Val := ⟨⟨fun j => match j with | 0 => .int .i64 x0 | _ => .nilIface⟩⟩
  have I : In x0 := ⟨⟨1, rfl⟩⟩
  exact main_26 I B w
theorem walk_27 (x0 : Int) (B : Bd x0) (w : World) :
    Calls Try.prog 3 #[.int .i64 x0, .int .i64 27] w fun e w' => e = .returned (.bool true) ∧ Below w.heap.size w w' := by
  letI : Inhabited Ev.Val := ⟨⟨fun j => match j with | 0 => .int .i64 x0 | _ => .nilIface⟩⟩
  have I : In x0 := ⟨⟨1, rfl⟩⟩
  exact main_27 I B w
theorem walk_28 (x0 : Int) (B : Bd x0) (w : World) :
    Calls Try.prog 3 #[.int .i64 x0, .int .i64 28] w fun e w' => e = .returned (.bool true) ∧ Below w.heap.size w w' := by
  letI : Inhabited Ev.Val := ⟨⟨fun j => match j with | 0 => .int .i64 x0 | _ => .nilIface⟩⟩
  have I : In x0 := ⟨⟨1, rfl⟩⟩
  exact main_28 I B w
theorem walk_29 (x0 : Int) (B : Bd x0) (w : World) :
    Calls Try.prog 3 #[.int .i64 x0, .int .i64 29] w fun e w' => e = .returned (.bool true) ∧ Below w.heap.size w w' := by
  letI : Inhabited Ev.Val := ⟨⟨fun j => match j with | 0 => .int .i64 x0 | _ => .nilIface⟩⟩
  have I : In x0 := ⟨⟨1, rfl⟩⟩
  exact main_29 I B w
theorem walk_30 (x0 : Int) (B : Bd x0) (w : World) :
    Calls Try.prog 3 #[.int .i64 x0, .int .i64 30] w fun e w' => e = .returned (.bool true) ∧ Below w.heap.size w w' := by
  letI : Inhabited Ev.Val := ⟨⟨fun j => match j with | 0 => .int .i64 x0 | _ => .nilIface⟩⟩
  have I : In x0 := ⟨⟨1, rfl⟩⟩
  exact main_30 I B w
theorem walk_31 (x0 : Int) (B : Bd x0) (w : World) :
    Calls Try.prog 3 #[.int .i64 x0, .int .i64 31] w fun e w' => e = .returned (.bool true) ∧ Below w.heap.size w w' := by
  letI : Inhabited Ev.Val := ⟨⟨fun j => match j with | 0 => .int .i64 x0 | _ => .nilIface⟩⟩
  have I : In x0 := ⟨⟨1, rfl⟩⟩
  exact main_31 I B w
theorem walk_32 (x0 : Int) (B : Bd x0) (w : World) :
    Calls Try.prog 3 #[.int .i64 x0, .int .i64 32] w fun e w' => e = .returned (.bool true) ∧ Below w.heap.size w w' := by
  letI : Inhabited Ev.Val := ⟨⟨fun j => match j with | 0 => .int .i64 x0 | _ => .nilIface⟩⟩
  have I : In x0 := ⟨⟨1, rfl⟩⟩
  exact main_32 I B w
theorem walk_33 (x0 : Int) (B : Bd x0) (w : World) :
    Calls Try.prog 3 #[.int .i64 x0, .int .i64 33] w fun e w' => e = .returned (.bool true) ∧ Below w.heap.size w w' := by
  letI : Inhabited Ev.Val := ⟨⟨fun j => match j with | 0 => .int .i64 x0 | _ => .nilIface⟩⟩
  have I : In x0 := ⟨⟨1, rfl⟩⟩
  exact main_33 I B w
theorem walk_34 (x0 : Int) (B : Bd x0) (w : World) :
    Calls Try.prog 3 #[.int .i64 x0, .int .i64 34] w fun e w' => e = .returned (.bool true) ∧ Below w.heap.size w w' := by
  letI : Inhabited Ev.Val := ⟨⟨fun j => match j with | 0 => .int .i64 x0 | _ => .nilIface⟩⟩
  have I : In x0 := ⟨⟨1, rfl⟩⟩
  exact main_34 I B w
theorem walk_35 (x0 : Int) (B : Bd x0) (w : World) :
    Calls Try.prog 3 #[.int .i64 x0, .int .i64 35] w fun e w' => e = .returned (.bool true) ∧ Below w.heap.size w w' := by
  letI : Inhabited Ev.Val := ⟨⟨fun j => match j with | 0 => .int .i64 x0 | _ => .nilIface⟩⟩
  have I : In x0 := ⟨⟨1, rfl⟩⟩
  exact main_35 I B w
theorem walk_36 (x0 : Int) (B : Bd x0) (w : World) :
    Calls Try.prog 3 #[.int .i64 x0, .int .i64 36] w fun e w' => e = .returned (.bool true) ∧ Below w.heap.size w w' := by
  letI : Inhabited Ev.Val := ⟨⟨fun j => match j with | 0 => .int .i64 x0 | _ => .nilIface⟩⟩
  have I : In x0 := ⟨⟨1, rfl⟩⟩
  exact main_36 I B w
theorem walk_37 (x0 : Int) (B : Bd x0) (w : World) :
    Calls Try.prog 3 #[.int .i64 x0, .int .i64 37] w fun e w' => e = .returned (.bool true) ∧ Below w.heap.size w w' := by
  letI : Inhabited Ev.Val := ⟨⟨fun j => match j with | 0 => .int .i64 x0 | _ => .nilIface⟩⟩
  have I : In x0 := ⟨⟨1, rfl⟩⟩
  exact main_37 I B w
theorem walk_38 (x0 : Int) (B : Bd x0) (w : World) :
    Calls Try.prog 3 #[.int .i64 x0, .int .i64 38] w fun e w' => e = .returned (.bool true) ∧ Below w.heap.size w w' := by
  letI : Inhabited Ev.Val := ⟨⟨fun j => match j with | 0 => .int .i64 x0 | _ => .nilIface⟩⟩
  have I : In x0 := ⟨⟨1, rfl⟩⟩
  exact main_38 I B w
theorem walk_39 (x0 : Int) (B : Bd x0) (w : World) :
    Calls Try.prog 3 #[.int .i64 x0, .int .i64 39] w fun e w' => e = .returned (.bool true) ∧ Below w.heap.size w w' := by
  letI : Inhabited Ev.Val := ⟨⟨fun j => match j with | 0 => .int .i64 x0 | _ => .nilIface⟩⟩
  have I : In x0 := ⟨⟨1, rfl⟩⟩
  exact main_39 I B w
theorem walk_40 (x0 : Int) (B : Bd x0) (w : World) :
    Calls Try.prog 3 #[.int .i64 x0, .int .i64 40] w fun e w' => e = .returned (.bool true) ∧ Below w.heap.size w w' := by
  letI : Inhabited Ev.Val := ⟨⟨fun j => match j with | 0 => .int .i64 x0 | _ => .nilIface⟩⟩
  have I : In x0 := ⟨⟨1, rfl⟩⟩
  exact main_40 I B w
theorem walk_41 (x0 : Int) (B : Bd x0) (w : World) :
    Calls Try.prog 3 #[.int .i64 x0, .int .i64 41] w fun e w' => e = .returned (.bool true) ∧ Below w.heap.size w w' := by
  letI : Inhabited Ev.Val := ⟨⟨fun j => match j with | 0 => .int .i64 x0 | _ => .nilIface⟩⟩
  have I : In x0 := ⟨⟨1, rfl⟩⟩
  exact main_41 I B w
theorem walk_42 (x0 : Int) (B : Bd x0) (w : World) :
    Calls Try.prog 3 #[.int .i64 x0, .int .i64 42] w fun e w' => e = .returned (.bool true) ∧ Below w.heap.size w w' := by
  letI : Inhabited Ev.Val := ⟨⟨fun j => match j with | 0 => .int .i64 x0 | _ => .nilIface⟩⟩
  have I : In x0 := ⟨⟨1, rfl⟩⟩
  exact main_42 I B w
theorem walk_43 (x0 : Int) (B : Bd x0) (w : World) :
    Calls Try.prog 3 #[.int .i64 x0, .int .i64 43] w fun e w' => e = .returned (.bool true) ∧ Below w.heap.size w w' := by
  letI : Inhabited Ev.Val := ⟨⟨fun j => match j with | 0 => .int .i64 x0 | _ => .nilIface⟩⟩
  have I : In x0 := ⟨⟨1, rfl⟩⟩
  exact main_43 I B w
theorem walk_44 (x0 : Int) (B : Bd x0) (w : World) :
    Calls Try.prog 3 #[.int .i64 x0, .int .i64 44] w fun e w' => e = .returned (.bool true) ∧ Below w.heap.size w w' := by
  letI : Inhabited Ev.Val := ⟨⟨fun j => match j with | 0 => .int .i64 x0 | _ => .nilIface⟩⟩
  have I : In x0 := ⟨⟨1, rfl⟩⟩
  exact main_44 I B w
theorem walk_45 (x0 : Int) (B : Bd x0) (w : World) :
    Calls Try.prog 3 #[.int .i64 x0, .int .i64 45] w fun e w' => e = .returned (.bool true) ∧ Below w.heap.size w w' := by
  letI : Inhabited Ev.Val := ⟨⟨fun j => match j with | 0 => .int .i64 x0 | _ => .nilIface⟩⟩
  have I : In x0 := ⟨⟨1, rfl⟩⟩
  exact main_45 I B w
theorem walk_46 (x0 : Int) (B : Bd x0) (w : World) :
    Calls Try.prog 3 #[.int .i64 x0, .int .i64 46] w fun e w' => e = .returned (.bool true) ∧ Below w.heap.size w w' := by
  letI : Inhabited Ev.Val := ⟨⟨fun j => match j with | 0 => .int .i64 x0 | _ => .nilIface⟩⟩
  have I : In x0 := ⟨⟨1, rfl⟩⟩
  exact main_46 I B w
theorem walk_47 (x0 : Int) (B : Bd x0) (w : World) :
    Calls Try.prog 3 #[.int .i64 x0, .int .i64 47] w fun e w' => e = .returned (.bool true) ∧ Below w.heap.size w w' := by
  letI : Inhabited Ev.Val := ⟨⟨fun j => match j with | 0 => .int .i64 x0 | _ => .nilIface⟩⟩
  have I : In x0 := ⟨⟨1, rfl⟩⟩
  exact main_47 I B w
theorem walk_48 (x0 : Int) (B : Bd x0) (w : World) :
    Calls Try.prog 3 #[.int .i64 x0, .int .i64 48] w fun e w' => e = .returned (.bool true) ∧ Below w.heap.size w w' := by
  letI : Inhabited Ev.Val := ⟨⟨fun j => match j with | 0 => .int .i64 x0 | _ => .nilIface⟩⟩
  have I : In x0 := ⟨⟨1, rfl⟩⟩
  exact main_48 I B w
theorem walk_49 (x0 : Int) (B : Bd x0) (w : World) :
    Calls Try.prog 3 #[.int .i64 x0, .int .i64 49] w fun e w' => e = .returned (.bool true) ∧ Below w.heap.size w w' := by
  letI : Inhabited Ev.Val := ⟨⟨fun j => match j with | 0 => .int .i64 x0 | _ => .nilIface⟩⟩
  have I : In x0 := ⟨⟨1, rfl⟩⟩
  exact main_49 I B w
theorem walk_50 (x0 : Int) (B : Bd x0) (w : World) :
    Calls Try.prog 3 #[.int .i64 x0, .int .i64 50] w fun e w' => e = .returned (.bool true) ∧ Below w.heap.size w w' := by
  letI : Inhabited Ev.Val := ⟨⟨fun j => match j with | 0 => .int .i64 x0 | _ => .nilIface⟩⟩
  have I : In x0 := ⟨⟨1, rfl⟩⟩
  exact main_50 I B w
theorem walk_51 (x0 : Int) (B : Bd x0) (w : World) :
    Calls Try.prog 3 #[.int .i64 x0, .int .i64 51] w fun e w' => e = .returned (.bool true) ∧ Below w.heap.size w w' := by
  letI : Inhabited Ev.Val := ⟨⟨fun j => match j with | 0 => .int .i64 x0 | _ => .nilIface⟩⟩
  have I : In x0 := ⟨⟨1, rfl⟩⟩
  exact main_51 I B w
theorem walk_52 (x0 : Int) (B : Bd x0) (w : World) :
    Calls Try.prog 3 #[.int .i64 x0, .int .i64 52] w fun e w' => e = .returned (.bool true) ∧ Below w.heap.size w w' := by
  letI : Inhabited Ev.Val := ⟨⟨fun j => match j with | 0 => .int .i64 x0 | _ => .nilIface⟩⟩
  have I : In x0 := ⟨⟨1, rfl⟩⟩
  exact main_52 I B w
theorem walk_53 (x0 : Int) (B : Bd x0) (w : World) :
    Calls Try.prog 3 #[.int .i64 x0, .int .i64 53] w fun e w' => e = .returned (.bool true) ∧ Below w.heap.size w w' := by
  letI : Inhabited Ev.Val := ⟨⟨fun j => match j with | 0 => .int .i64 x0 | _ => .nilIface⟩⟩
  have I : In x0 := ⟨⟨1, rfl⟩⟩
  exact main_53 I B w
theorem walk_54 (x0 : Int) (B : Bd x0) (w : World) :
    Calls Try.prog 3 #[.int .i64 x0, .int .i64 54] w fun e w' => e = .returned (.bool true) ∧ Below w.heap.size w w' := by
  letI : Inhabited Ev.Val := ⟨⟨fun j => match j with | 0 => .int .i64 x0 | _ => .nilIface⟩⟩
  have I : In x0 := ⟨⟨1, rfl⟩⟩
  exact main_54 I B w
theorem walk_55 (x0 : Int) (B : Bd x0) (w : World) :
    Calls Try.prog 3 #[.int .i64 x0, .int .i64 55] w fun e w' => e = .returned (.bool true) ∧ Below w.heap.size w w' := by
  letI : Inhabited Ev.Val := ⟨⟨fun j => match j with | 0 => .int .i64 x0 | _ => .nilIface⟩⟩
  have I : In x0 := ⟨⟨1, rfl⟩⟩
  exact main_55 I B w
theorem walk_56 (x0 : Int) (B : Bd x0) (w : World) :
    Calls Try.prog 3 #[.int .i64 x0, .int .i64 56] w fun e w' => e = .returned (.bool true) ∧ Below w.heap.size w w' := by
  letI : Inhabited Ev.Val := ⟨⟨fun j => match j with | 0 => .int .i64 x0 | _ => .nilIface⟩⟩
  have I : In x0 := ⟨⟨1, rfl⟩⟩
  exact main_56 I B w
theorem walk_57 (x0 : Int) (B : Bd x0) (w : World) :
    Calls Try.prog 3 #[.int .i64 x0, .int .i64 57] w fun e w' => e = .returned (.bool true) ∧ Below w.heap.size w w' := by
  letI : Inhabited Ev.Val := ⟨⟨fun j => match j with | 0 => .int .i64 x0 | _ => .nilIface⟩⟩
  have I : In x0 := ⟨⟨1, rfl⟩⟩
  exact main_57 I B w
theorem walk_58 (x0 : Int) (B : Bd x0) (w : World) :
    Calls Try.prog 3 #[.int .i64 x0, .int .i64 58] w fun e w' => e = .returned (.bool true) ∧ Below w.heap.size w w' := by
  letI : Inhabited Ev.Val := ⟨⟨fun j => match j with | 0 => .int .i64 x0 | _ => .nilIface⟩⟩
  have I : In x0 := ⟨⟨1, rfl⟩⟩
  exact main_58 I B w
theorem walk_59 (x0 : Int) (B : Bd x0) (w : World) :
    Calls Try.prog 3 #[.int .i64 x0, .int .i64 59] w fun e w' => e = .returned (.bool true) ∧ Below w.heap.size w w' := by
  letI : Inhabited Ev.Val := ⟨⟨fun j => match j with | 0 => .int .i64 x0 | _ => .nilIface⟩⟩
  have I : In x0 := ⟨⟨1, rfl⟩⟩
  exact main_59 I B w
theorem walk_60 (x0 : Int) (B : Bd x0) (w : World) :
    Calls Try.prog 3 #[.int .i64 x0, .int .i64 60] w fun e w' => e = .returned (.bool true) ∧ Below w.heap.size w w' := by
  letI : Inhabited Ev.Val := ⟨⟨fun j => match j with | 0 => .int .i64 x0 | _ => .nilIface⟩⟩
  have I : In x0 := ⟨⟨1, rfl⟩⟩
  exact main_60 I B w
theorem walk_61 (x0 : Int) (B : Bd x0) (w : World) :
    Calls Try.prog 3 #[.int .i64 x0, .int .i64 61] w fun e w' => e = .returned (.bool true) ∧ Below w.heap.size w w' := by
  letI : Inhabited Ev.Val := ⟨⟨fun j => match j with | 0 => .int .i64 x0 | _ => .nilIface⟩⟩
  have I : In x0 := ⟨⟨1, rfl⟩⟩
  exact main_61 I B w
theorem walk_62 (x0 : Int) (B : Bd x0) (w : World) :
    Calls Try.prog 3 #[.int .i64 x0, .int .i64 62] w fun e w' => e = .returned (.bool true) ∧ Below w.heap.size w w' := by
  letI : Inhabited Ev.Val := ⟨⟨fun j => match j with | 0 => .int .i64 x0 | _ => .nilIface⟩⟩
  have I : In x0 := ⟨⟨1, rfl⟩⟩
  exact main_62 I B w
theorem walk_63 (x0 : Int) (B : Bd x0) (w : World) :
    Calls Try.prog 3 #[.int .i64 x0, .int .i64 63] w fun e w' => e = .returned (.bool true) ∧ Below w.heap.size w w' := by
  letI : Inhabited Ev.Val := ⟨⟨fun j => match j with | 0 => .int .i64 x0 | _ => .nilIface⟩⟩
  have I : In x0 := ⟨⟨1, rfl⟩⟩
  exact main_63 I B w
theorem walk_64 (x0 : Int) (B : Bd x0) (w : World) :
    Calls Try.prog 3 #[.int .i64 x0, .int .i64 64] w fun e w' => e = .returned (.bool true) ∧ Below w.heap.size w w' := by
  letI : Inhabited Ev.Val := ⟨⟨fun j => match j with | 0 => .int .i64 x0 | _ => .nilIface⟩⟩
  have I : In x0 := ⟨⟨1, rfl⟩⟩
  exact main_64 I B w

theorem own : ownKnob Try.prog.godebug = none := by kernel_rfl
end Go.Proofs.Ytknifojinmnkfaa.headerMarksK
