/-
  'shunterlaw04.HeaderMarksA' returns true for every input: the evaluator goes through its text with the numbers left open; each comparison parts the ways. CONDITIONS: none but those of the row.
-/
import Derived.Test.YtknifojinmnkfaaHeaderMarksA1
import Derived.Test.YtknifojinmnkfaaHeaderMarksA2
import Derived.Test.YtknifojinmnkfaaHeaderMarksA3
import Derived.Lib.SmallJoins
namespace Go.Proofs.Ytknifojinmnkfaa.headerMarksA
open Go.ChangeShapes Go.WideShapes Go.ChangeAt Go.RowKit Go.Joins

section
variable [Inhabited Ev.Val]
theorem agg2 {S : Ev.Sig} {l l' : List Value} (h : Ev.LR S l l') : Ev.VR S (.agg ⟨l⟩) (.agg ⟨l'⟩) := .agg h.1 h.2
theorem fin {x0 x1 : Int} (I : In x0 x1) {A : List Ev.As} (hA : ∀ a ∈ A, Ev.AsOk a) (hr : Ev.run ⟨Try.prog, Ev.mkTT Try.prog, Ev.mkFT Try.prog, A, Qs, Cs⟩ 100000 3 [Ev.inp .i64 0, Ev.inp .i64 1] = some true) (w : World) :
    Calls Try.prog 3 #[.int .i64 x0, .int .i64 x1] w fun e w' => e = .returned (.bool true) ∧ Below w.heap.size w w' :=
  Ev.run_calls (Ev.envOkA Try.prog A Qs Cs hA qs cs) mixed hr (.cons (.sym I.i0) (.cons (.sym I.i1) .nil)) w

set_option maxRecDepth 100000 in
set_option maxHeartbeats 4000000 in
theorem main {x0 x1 : Int} (I : In x0 x1) (B : Bd x0 x1) (w : World) :
    Calls Try.prog 3 #[.int .i64 x0, .int .i64 x1] w fun e w' => e = .returned (.bool true) ∧ Below w.heap.size w w' := by
  by_cases h0 : z0 x0 x1 ≤ z1 x0 x1
  · have a0 := Ev.asOk_cons (Ev.asOk_le (is0 I) (is1 I) (Ev.dt h0)) Ev.asOk_nil
    by_cases h1 : z1 x0 x1 ≤ z2 x0 x1
    · have a1 := Ev.asOk_cons (Ev.asOk_le (is1 I) (is2 I) (Ev.dt h1)) a0
      by_cases h2 : z0 x0 x1 ≤ z3 x0 x1
      · exact (dead0 x0 x1 B (z0 x0 x1) (z1 x0 x1) (z2 x0 x1) (z3 x0 x1) rfl rfl rfl rfl h0 h1 h2).elim
      · have a2 := Ev.asOk_cons (Ev.asOk_le (is0 I) (is3 I) (Ev.df h2)) a1
        by_cases h3 : z10 x0 x1 = z13 x0 x1
        · have a3 := Ev.asOk_cons (Ev.asOk_eq (is10 I) (is13 I) (Ev.dt h3)) a2
          exact fin I a3 run0 w
        · exact (dead1 x0 x1 B (z0 x0 x1) (z1 x0 x1) (z2 x0 x1) (z3 x0 x1) (z4 x0 x1) (z5 x0 x1) (z6 x0 x1) (z7 x0 x1) (z8 x0 x1) (z9 x0 x1) (z10 x0 x1) (z11 x0 x1) (z12 x0 x1) (z13 x0 x1) rfl rfl rfl rfl rfl rfl rfl rfl rfl rfl rfl rfl rfl rfl h0 h1 h2 h3).elim
    · have a1 := Ev.asOk_cons (Ev.asOk_le (is1 I) (is2 I) (Ev.df h1)) a0
      by_cases h2 : z0 x0 x1 ≤ z3 x0 x1
      · exact (dead2 x0 x1 B (z0 x0 x1) (z1 x0 x1) (z2 x0 x1) (z3 x0 x1) rfl rfl rfl rfl h0 h1 h2).elim
      · have a2 := Ev.asOk_cons (Ev.asOk_le (is0 I) (is3 I) (Ev.df h2)) a1
        exact fin I a2 run1 w
  · have a0 := Ev.asOk_cons (Ev.asOk_le (is0 I) (is1 I) (Ev.df h0)) Ev.asOk_nil
    by_cases h1 : z0 x0 x1 ≤ z3 x0 x1
    · exact (dead3 x0 x1 B (z0 x0 x1) (z1 x0 x1) (z3 x0 x1) rfl rfl rfl h0 h1).elim
    · have a1 := Ev.asOk_cons (Ev.asOk_le (is0 I) (is3 I) (Ev.df h1)) a0
      exact fin I a1 run2 w
end

theorem walk (x0 x1 : Int) (B : Bd x0 x1) (w : World) :
    Calls Try.prog 3 #[.int .i64 x0, .int .i64 x1] w fun e w' => e = .returned (.bool true) ∧ Below w.heap.size w w' := by
  letI : Inhabited Ev.Val := ⟨⟨fun j => match j with | 0 => .int .i64 x0 | 1 => .int .i64 x1 | _ => .nilIface⟩⟩
  have I : In x0 x1 := ⟨⟨1, rfl⟩, ⟨1, rfl⟩⟩
  exact main I B w

theorem own : ownKnob Try.prog.godebug = none := by kernel_rfl
end Go.Proofs.Ytknifojinmnkfaa.headerMarksA
