/-
  'shunterlaw04.CPack' returns true for every input: the evaluator goes through its text with the numbers left open; each comparison parts the ways. CONDITIONS: none but those of the row.
-/
import Derived.Test.YtknifojinmnkfaaCPack1
import Derived.Test.YtknifojinmnkfaaCPack2
import Derived.Lib.SmallJoins
namespace Go.Proofs.Ytknifojinmnkfaa.cPack
open Go.ChangeShapes Go.WideShapes Go.ChangeAt Go.RowKit Go.Joins

section
variable [Inhabited Ev.Val]
theorem agg2 {S : Ev.Sig} {l l' : List Value} (h : Ev.LR S l l') : Ev.VR S (.agg ⟨l⟩) (.agg ⟨l'⟩) := .agg h.1 h.2
theorem fin {x0 x1 : Int} (I : In x0 x1) {A : List Ev.As} {v v' : Value} (hA : ∀ a ∈ A, Ev.AsOk a) (hr : Ev.runV ⟨Try.prog, Ev.mkTT Try.prog, Ev.mkFT Try.prog, A, Qs, Cs⟩ 100000 17 [.agg ⟨[Ev.inp .i64 0, Ev.inp .i64 1]⟩] = some v) (hv : ∀ S u, Ev.VR S v u → u = v') (w : World) :
    Calls Try.prog 17 #[.agg #[.int .i64 x0, .int .i64 x1]] w fun e w' => e = .returned v' ∧ Below w.heap.size w w' :=
  (Ev.run_val (Ev.envOkA Try.prog A Qs Cs hA qs cs) mixed hr (.cons (agg2 (.cons (.sym I.i0) (.cons (.sym I.i1) .nil))) .nil) w).mono fun _ _ ⟨⟨S, u, he, hu⟩, hb⟩ => ⟨hv S u hu ▸ he, hb⟩

set_option maxRecDepth 100000 in
set_option maxHeartbeats 4000000 in
theorem main {x0 x1 : Int} (I : In x0 x1) (_B : Bd x0 x1) (w : World) :
    Calls Try.prog 17 #[.agg #[.int .i64 x0, .int .i64 x1]] w fun e w' => e = .returned (.tuple ⟨[.int .u64 (r0 x0 x1), .int .i64 (r1 x0 x1)]⟩) ∧ Below w.heap.size w w' := by
  by_cases h0 : z0 x0 x1 ≤ z1 x0 x1
  · have a0 := Ev.asOk_cons (Ev.asOk_le (is0 I) (is1 I) (Ev.dt h0)) Ev.asOk_nil
    by_cases h1 : z0 x0 x1 ≤ z2 x0 x1
    · have a1 := Ev.asOk_cons (Ev.asOk_le (is0 I) (is2 I) (Ev.dt h1)) a0
      by_cases h2 : z3 x0 x1 ≤ z1 x0 x1
      · have a2 := Ev.asOk_cons (Ev.asOk_le (is3 I) (is1 I) (Ev.dt h2)) a1
        exact fin I a2 run0 (fun _ _ hu => Ev.inv2 hu (is4 I) (is5 I) (by unfold r0; rw [if_pos h0, if_pos h1, if_pos h2]) (by unfold r1; rw [if_pos h0, if_pos h1, if_pos h2])) w
      · have a2 := Ev.asOk_cons (Ev.asOk_le (is3 I) (is1 I) (Ev.df h2)) a1
        by_cases h3 : z3 x0 x1 ≤ z2 x0 x1
        · have a3 := Ev.asOk_cons (Ev.asOk_le (is3 I) (is2 I) (Ev.dt h3)) a2
          exact fin I a3 run1 (fun _ _ hu => Ev.inv2 hu (is4 I) (is5 I) (by unfold r0; rw [if_pos h0, if_pos h1, if_neg h2, if_pos h3]) (by unfold r1; rw [if_pos h0, if_pos h1, if_neg h2, if_pos h3])) w
        · have a3 := Ev.asOk_cons (Ev.asOk_le (is3 I) (is2 I) (Ev.df h3)) a2
          by_cases h4 : z8 x0 x1 ≤ z3 x0 x1
          · have a4 := Ev.asOk_cons (Ev.asOk_le (is8 I) (is3 I) (Ev.dt h4)) a3
            exact fin I a4 run2 (fun _ _ hu => Ev.inv2 hu (is18 I) (is0 I) (by unfold r0; rw [if_pos h0, if_pos h1, if_neg h2, if_neg h3, if_pos h4]) (by unfold r1; rw [if_pos h0, if_pos h1, if_neg h2, if_neg h3, if_pos h4])) w
          · have a4 := Ev.asOk_cons (Ev.asOk_le (is8 I) (is3 I) (Ev.df h4)) a3
            exact fin I a4 run3 (fun _ _ hu => Ev.inv2 hu (is4 I) (is5 I) (by unfold r0; rw [if_pos h0, if_pos h1, if_neg h2, if_neg h3, if_neg h4]) (by unfold r1; rw [if_pos h0, if_pos h1, if_neg h2, if_neg h3, if_neg h4])) w
    · have a1 := Ev.asOk_cons (Ev.asOk_le (is0 I) (is2 I) (Ev.df h1)) a0
      exact fin I a1 run4 (fun _ _ hu => Ev.inv2 hu (is4 I) (is19 I) (by unfold r0; rw [if_pos h0, if_neg h1]) (by unfold r1; rw [if_pos h0, if_neg h1])) w
  · have a0 := Ev.asOk_cons (Ev.asOk_le (is0 I) (is1 I) (Ev.df h0)) Ev.asOk_nil
    exact fin I a0 run5 (fun _ _ hu => Ev.inv2 hu (is4 I) (is19 I) (by unfold r0; rw [if_neg h0]) (by unfold r1; rw [if_neg h0])) w
end

theorem walk (x0 x1 : Int) (B : Bd x0 x1) (w : World) :
    Calls Try.prog 17 #[.agg #[.int .i64 x0, .int .i64 x1]] w fun e w' => e = .returned (.tuple ⟨[.int .u64 (r0 x0 x1), .int .i64 (r1 x0 x1)]⟩) ∧ Below w.heap.size w w' := by
  letI : Inhabited Ev.Val := ⟨⟨fun j => match j with | 0 => .int .i64 x0 | 1 => .int .i64 x1 | _ => .nilIface⟩⟩
  have I : In x0 x1 := ⟨⟨1, rfl⟩, ⟨1, rfl⟩⟩
  exact main I B w

theorem own : ownKnob Try.prog.godebug = none := by kernel_rfl
theorem cells30 : Try.prog.cellsOf 30 = 2 := by kernel_rfl
end Go.Proofs.Ytknifojinmnkfaa.cPack
