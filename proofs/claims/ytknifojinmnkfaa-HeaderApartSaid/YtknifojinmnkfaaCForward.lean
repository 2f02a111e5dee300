/-
  'shunterlaw04.CForward' returns true for every input: the evaluator goes through its text with the numbers left open; each comparison parts the ways. CONDITIONS: none but those of the row.
-/
import Derived.Test.YtknifojinmnkfaaCForward1
import Derived.Test.YtknifojinmnkfaaCForward2
import Derived.Lib.SmallJoins
namespace Go.Proofs.Ytknifojinmnkfaa.cForward
open Go.ChangeShapes Go.WideShapes Go.ChangeAt Go.RowKit Go.Joins

section
variable [Inhabited Ev.Val]
theorem agg2 {S : Ev.Sig} {l l' : List Value} (h : Ev.LR S l l') : Ev.VR S (.agg ⟨l⟩) (.agg ⟨l'⟩) := .agg h.1 h.2
theorem fin {x0 : Int} (I : In x0) {A : List Ev.As} {v v' : Value} (hA : ∀ a ∈ A, Ev.AsOk a) (hr : Ev.runV ⟨Try.prog, Ev.mkTT Try.prog, Ev.mkFT Try.prog, A, Qs, Cs⟩ 100000 12 [Ev.inp .i64 0] = some v) (hv : ∀ S u, Ev.VR S v u → u = v') (w : World) :
    Calls Try.prog 12 #[.int .i64 x0] w fun e w' => e = .returned v' ∧ Below w.heap.size w w' :=
  (Ev.run_val (Ev.envOkA Try.prog A Qs Cs hA qs cs) mixed hr (.cons (.sym I.i0) .nil) w).mono fun _ _ ⟨⟨S, u, he, hu⟩, hb⟩ => ⟨hv S u hu ▸ he, hb⟩

set_option maxRecDepth 100000 in
set_option maxHeartbeats 4000000 in
theorem main {x0 : Int} (I : In x0) (_B : Bd x0) (w : World) :
    Calls Try.prog 12 #[.int .i64 x0] w fun e w' => e = .returned (.tuple ⟨[.int .u64 (r0 x0), .int .i64 (r1 x0)]⟩) ∧ Below w.heap.size w w' := by
  by_cases h0 : z0 x0 ≤ z1 x0
  · have a0 := Ev.asOk_cons (Ev.asOk_le (is0 I) (is1 I) (Ev.dt h0)) Ev.asOk_nil
    by_cases h1 : z1 x0 ≤ z2 x0
    · have a1 := Ev.asOk_cons (Ev.asOk_le (is1 I) (is2 I) (Ev.dt h1)) a0
      exact fin I a1 run0 (fun _ _ hu => Ev.inv2 hu (is9 I) (is10 I) (by unfold r0; rw [if_pos h0, if_pos h1]) (by unfold r1; rw [if_pos h0, if_pos h1])) w
    · have a1 := Ev.asOk_cons (Ev.asOk_le (is1 I) (is2 I) (Ev.df h1)) a0
      exact fin I a1 run1 (fun _ _ hu => Ev.inv2 hu (is3 I) (is11 I) (by unfold r0; rw [if_pos h0, if_neg h1]) (by unfold r1; rw [if_pos h0, if_neg h1])) w
  · have a0 := Ev.asOk_cons (Ev.asOk_le (is0 I) (is1 I) (Ev.df h0)) Ev.asOk_nil
    exact fin I a0 run2 (fun _ _ hu => Ev.inv2 hu (is3 I) (is11 I) (by unfold r0; rw [if_neg h0]) (by unfold r1; rw [if_neg h0])) w
end

theorem walk (x0 : Int) (B : Bd x0) (w : World) :
    Calls Try.prog 12 #[.int .i64 x0] w fun e w' => e = .returned (.tuple ⟨[.int .u64 (r0 x0), .int .i64 (r1 x0)]⟩) ∧ Below w.heap.size w w' := by
  letI : Inhabited Ev.Val := ⟨⟨fun j => match j with | 0 => .int .i64 x0 | _ => .nilIface⟩⟩
  have I : In x0 := ⟨⟨1, rfl⟩⟩
  exact main I B w

theorem own : ownKnob Try.prog.godebug = none := by kernel_rfl
end Go.Proofs.Ytknifojinmnkfaa.cForward
