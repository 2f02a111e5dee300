/-
  'shunterlaw02.PWords' returns true for every input: the evaluator goes through its text with the numbers left open; each comparison parts the ways. CONDITIONS: none but those of the row.
-/
import Derived.Test.YtffaikcaenkkhaaDoorPWords1
import Derived.Test.YtffaikcaenkkhaaDoorPWords2
import Derived.Lib.SmallJoins
namespace Go.Proofs.YtffaikcaenkkhaaDoor.pWords
open Go.ChangeShapes Go.WideShapes Go.ChangeAt Go.RowKit Go.Joins

section
variable [Inhabited Ev.Val]
theorem agg2 {S : Ev.Sig} {l l' : List Value} (h : Ev.LR S l l') : Ev.VR S (.agg ⟨l⟩) (.agg ⟨l'⟩) := .agg h.1 h.2
theorem fin {x0 x1 x2 x3 x4 x5 : Int} (I : In x0 x1 x2 x3 x4 x5) (cs : Ev.CsOk Tryd.prog Cs) {A : List Ev.As} {v v' : Value} (hA : ∀ a ∈ A, Ev.AsOk a) (hr : Ev.runV ⟨Tryd.prog, Ev.mkTT Tryd.prog, Ev.mkFT Tryd.prog, A, Qs, Cs, none⟩ 100000 16 [.agg ⟨[Ev.inp .i64 0, Ev.inp .i64 1, Ev.inp .i64 2, Ev.inp .i64 3, Ev.inp .i64 4]⟩] = some v) (hv : ∀ S u, Ev.VR S v u → u = v') (w : World) :
    Calls Tryd.prog 16 #[.agg #[.int .i64 x0, .int .i64 x1, .int .i64 x2, .int .i64 x3, .int .i64 x4]] w fun e w' => e = .returned v' ∧ Below w.heap.size w w' :=
  (Ev.run_val (Ev.envOkA Tryd.prog A Qs Cs hA qs cs) mixed hr (.cons (agg2 (.cons (.sym I.i0) (.cons (.sym I.i1) (.cons (.sym I.i2) (.cons (.sym I.i3) (.cons (.sym I.i4) .nil)))))) .nil) w).mono fun _ _ ⟨⟨S, u, he, hu⟩, hb⟩ => ⟨hv S u hu ▸ he, hb⟩

set_option maxRecDepth 100000 in
set_option maxHeartbeats 4000000 in
theorem main {x0 x1 x2 x3 x4 x5 : Int} (I : In x0 x1 x2 x3 x4 x5) (cs : Ev.CsOk Tryd.prog Cs) (_B : Bd x0 x1 x2 x3 x4 x5) (w : World) :
    Calls Tryd.prog 16 #[.agg #[.int .i64 x0, .int .i64 x1, .int .i64 x2, .int .i64 x3, .int .i64 x4]] w fun e w' => e = .returned (.tuple ⟨[.int .i64 (r0 x0 x1 x2 x3 x4 x5), .int .i64 (r1 x0 x1 x2 x3 x4 x5)]⟩) ∧ Below w.heap.size w w' := by
  by_cases h0 : z0 x0 x1 x2 x3 x4 x5 = z1 x0 x1 x2 x3 x4 x5
  · have a0 := Ev.asOk_cons (Ev.asOk_eq (is0 I) (is1 I) (Ev.dt h0)) Ev.asOk_nil
    exact fin I cs a0 run0 (fun _ _ hu => Ev.inv2 hu (is8 I) (is1 I) (by unfold r0; rw [if_pos h0]) (by unfold r1; rw [if_pos h0])) w
  · have a0 := Ev.asOk_cons (Ev.asOk_eq (is0 I) (is1 I) (Ev.df h0)) Ev.asOk_nil
    exact fin I cs a0 run1 (fun _ _ hu => Ev.inv2 hu (is1 I) (is0 I) (by unfold r0; rw [if_neg h0]) (by unfold r1; rw [if_neg h0])) w
end

theorem walk (x0 x1 x2 x3 x4 x5 : Int) (cs : ∀ [Inhabited Ev.Val], In x0 x1 x2 x3 x4 x5 → Ev.CsOk Tryd.prog Cs) (B : Bd x0 x1 x2 x3 x4 x5) (w : World) :
    Calls Tryd.prog 16 #[.agg #[.int .i64 x0, .int .i64 x1, .int .i64 x2, .int .i64 x3, .int .i64 x4]] w fun e w' => e = .returned (.tuple ⟨[.int .i64 (r0 x0 x1 x2 x3 x4 x5), .int .i64 (r1 x0 x1 x2 x3 x4 x5)]⟩) ∧ Below w.heap.size w w' := by
  letI : Inhabited Ev.Val := ⟨⟨fun j => match j with | 0 => .int .i64 x0 | 1 => .int .i64 x1 | 2 => .int .i64 x2 | 3 => .int .i64 x3 | 4 => .int .i64 x4 | 5 => .int .i64 x5 | _ => .nilIface⟩⟩
  have I : In x0 x1 x2 x3 x4 x5 := ⟨⟨1, rfl⟩, ⟨1, rfl⟩, ⟨1, rfl⟩, ⟨1, rfl⟩, ⟨1, rfl⟩, ⟨1, rfl⟩⟩
  exact main I (cs I) B w

theorem own : ownKnob Tryd.prog.godebug = none := by kernel_rfl
theorem len5 {l : List Value} (h : l.length = 5) : ∃ a0 a1 a2 a3 a4, l = [a0, a1, a2, a3, a4] := by
  match l, h with
  | [a0, a1, a2, a3, a4], _ => exact ⟨a0, a1, a2, a3, a4, rfl⟩
theorem cells23 : Tryd.prog.cellsOf 23 = 5 := by kernel_rfl
end Go.Proofs.YtffaikcaenkkhaaDoor.pWords
