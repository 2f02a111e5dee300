/-
  'shunterlaw02.RChk' returns true for every input: the evaluator goes through its text with the numbers left open; each comparison parts the ways. CONDITIONS: none but those of the row.
-/
import Derived.Test.YtffaikcaenkkhaaDoorRChk1
import Derived.Test.YtffaikcaenkkhaaDoorRChk2
import Derived.Lib.SmallJoins
namespace Go.Proofs.YtffaikcaenkkhaaDoor.rChk
open Go.ChangeShapes Go.WideShapes Go.ChangeAt Go.RowKit Go.Joins

section
variable [Inhabited Ev.Val]
theorem agg2 {S : Ev.Sig} {l l' : List Value} (h : Ev.LR S l l') : Ev.VR S (.agg ⟨l⟩) (.agg ⟨l'⟩) := .agg h.1 h.2
theorem fin {x0 x1 x2 x3 x4 : Int} (I : In x0 x1 x2 x3 x4) {A : List Ev.As} {v v' : Value} (hA : ∀ a ∈ A, Ev.AsOk a) (hr : Ev.runV ⟨Tryd.prog, Ev.mkTT Tryd.prog, Ev.mkFT Tryd.prog, A, Qs, Cs, none⟩ 100000 14 [.agg ⟨[Ev.inp .i64 0, Ev.inp .i64 1, Ev.inp .i64 2, Ev.inp .i64 3, Ev.inp .i64 4]⟩] = some v) (hv : ∀ S u, Ev.VR S v u → u = v') (w : World) :
    Calls Tryd.prog 14 #[.agg #[.int .i64 x0, .int .i64 x1, .int .i64 x2, .int .i64 x3, .int .i64 x4]] w fun e w' => e = .returned v' ∧ Below w.heap.size w w' :=
  (Ev.run_val (Ev.envOkA Tryd.prog A Qs Cs hA qs cs) mixed hr (.cons (agg2 (.cons (.sym I.i0) (.cons (.sym I.i1) (.cons (.sym I.i2) (.cons (.sym I.i3) (.cons (.sym I.i4) .nil)))))) .nil) w).mono fun _ _ ⟨⟨S, u, he, hu⟩, hb⟩ => ⟨hv S u hu ▸ he, hb⟩

set_option maxRecDepth 100000 in
set_option maxHeartbeats 4000000 in
theorem main {x0 x1 x2 x3 x4 : Int} (I : In x0 x1 x2 x3 x4) (_B : Bd x0 x1 x2 x3 x4) (w : World) :
    Calls Tryd.prog 14 #[.agg #[.int .i64 x0, .int .i64 x1, .int .i64 x2, .int .i64 x3, .int .i64 x4]] w fun e w' => e = .returned (.int .i64 (r0 x0 x1 x2 x3 x4)) ∧ Below w.heap.size w w' := by
  by_cases h0 : z0 x0 x1 x2 x3 x4 ≤ z1 x0 x1 x2 x3 x4
  · have a0 := Ev.asOk_cons (Ev.asOk_le (is0 I) (is1 I) (Ev.dt h0)) Ev.asOk_nil
    by_cases h1 : z1 x0 x1 x2 x3 x4 ≤ z2 x0 x1 x2 x3 x4
    · have a1 := Ev.asOk_cons (Ev.asOk_le (is1 I) (is2 I) (Ev.dt h1)) a0
      by_cases h2 : z3 x0 x1 x2 x3 x4 ≤ z4 x0 x1 x2 x3 x4
      · have a2 := Ev.asOk_cons (Ev.asOk_le (is3 I) (is4 I) (Ev.dt h2)) a1
        by_cases h3 : z4 x0 x1 x2 x3 x4 ≤ z5 x0 x1 x2 x3 x4
        · have a3 := Ev.asOk_cons (Ev.asOk_le (is4 I) (is5 I) (Ev.dt h3)) a2
          by_cases h4 : z6 x0 x1 x2 x3 x4 ≤ z7 x0 x1 x2 x3 x4
          · have a4 := Ev.asOk_cons (Ev.asOk_le (is6 I) (is7 I) (Ev.dt h4)) a3
            by_cases h5 : z7 x0 x1 x2 x3 x4 ≤ z2 x0 x1 x2 x3 x4
            · have a5 := Ev.asOk_cons (Ev.asOk_le (is7 I) (is2 I) (Ev.dt h5)) a4
              by_cases h6 : z8 x0 x1 x2 x3 x4 ≤ z9 x0 x1 x2 x3 x4
              · have a6 := Ev.asOk_cons (Ev.asOk_le (is8 I) (is9 I) (Ev.dt h6)) a5
                by_cases h7 : z9 x0 x1 x2 x3 x4 ≤ z0 x0 x1 x2 x3 x4
                · have a7 := Ev.asOk_cons (Ev.asOk_le (is9 I) (is0 I) (Ev.dt h7)) a6
                  by_cases h8 : z10 x0 x1 x2 x3 x4 ≤ z11 x0 x1 x2 x3 x4
                  · have a8 := Ev.asOk_cons (Ev.asOk_le (is10 I) (is11 I) (Ev.dt h8)) a7
                    by_cases h9 : z11 x0 x1 x2 x3 x4 ≤ z12 x0 x1 x2 x3 x4
                    · have a9 := Ev.asOk_cons (Ev.asOk_le (is11 I) (is12 I) (Ev.dt h9)) a8
                      exact fin I a9 run0 (fun _ _ hu => Ev.inv1 hu (is13 I) (by unfold r0; rw [if_pos h0, if_pos h1, if_pos h2, if_pos h3, if_pos h4, if_pos h5, if_pos h6, if_pos h7, if_pos h8, if_pos h9])) w
                    · have a9 := Ev.asOk_cons (Ev.asOk_le (is11 I) (is12 I) (Ev.df h9)) a8
                      exact fin I a9 run1 (fun _ _ hu => Ev.inv1 hu (is3 I) (by unfold r0; rw [if_pos h0, if_pos h1, if_pos h2, if_pos h3, if_pos h4, if_pos h5, if_pos h6, if_pos h7, if_pos h8, if_neg h9])) w
                  · have a8 := Ev.asOk_cons (Ev.asOk_le (is10 I) (is11 I) (Ev.df h8)) a7
                    exact fin I a8 run2 (fun _ _ hu => Ev.inv1 hu (is3 I) (by unfold r0; rw [if_pos h0, if_pos h1, if_pos h2, if_pos h3, if_pos h4, if_pos h5, if_pos h6, if_pos h7, if_neg h8])) w
                · have a7 := Ev.asOk_cons (Ev.asOk_le (is9 I) (is0 I) (Ev.df h7)) a6
                  exact fin I a7 run3 (fun _ _ hu => Ev.inv1 hu (is3 I) (by unfold r0; rw [if_pos h0, if_pos h1, if_pos h2, if_pos h3, if_pos h4, if_pos h5, if_pos h6, if_neg h7])) w
              · have a6 := Ev.asOk_cons (Ev.asOk_le (is8 I) (is9 I) (Ev.df h6)) a5
                exact fin I a6 run4 (fun _ _ hu => Ev.inv1 hu (is3 I) (by unfold r0; rw [if_pos h0, if_pos h1, if_pos h2, if_pos h3, if_pos h4, if_pos h5, if_neg h6])) w
            · have a5 := Ev.asOk_cons (Ev.asOk_le (is7 I) (is2 I) (Ev.df h5)) a4
              exact fin I a5 run5 (fun _ _ hu => Ev.inv1 hu (is3 I) (by unfold r0; rw [if_pos h0, if_pos h1, if_pos h2, if_pos h3, if_pos h4, if_neg h5])) w
          · have a4 := Ev.asOk_cons (Ev.asOk_le (is6 I) (is7 I) (Ev.df h4)) a3
            exact fin I a4 run6 (fun _ _ hu => Ev.inv1 hu (is3 I) (by unfold r0; rw [if_pos h0, if_pos h1, if_pos h2, if_pos h3, if_neg h4])) w
        · have a3 := Ev.asOk_cons (Ev.asOk_le (is4 I) (is5 I) (Ev.df h3)) a2
          exact fin I a3 run7 (fun _ _ hu => Ev.inv1 hu (is3 I) (by unfold r0; rw [if_pos h0, if_pos h1, if_pos h2, if_neg h3])) w
      · have a2 := Ev.asOk_cons (Ev.asOk_le (is3 I) (is4 I) (Ev.df h2)) a1
        exact fin I a2 run8 (fun _ _ hu => Ev.inv1 hu (is3 I) (by unfold r0; rw [if_pos h0, if_pos h1, if_neg h2])) w
    · have a1 := Ev.asOk_cons (Ev.asOk_le (is1 I) (is2 I) (Ev.df h1)) a0
      exact fin I a1 run9 (fun _ _ hu => Ev.inv1 hu (is3 I) (by unfold r0; rw [if_pos h0, if_neg h1])) w
  · have a0 := Ev.asOk_cons (Ev.asOk_le (is0 I) (is1 I) (Ev.df h0)) Ev.asOk_nil
    exact fin I a0 run10 (fun _ _ hu => Ev.inv1 hu (is3 I) (by unfold r0; rw [if_neg h0])) w
end

theorem walk (x0 x1 x2 x3 x4 : Int) (B : Bd x0 x1 x2 x3 x4) (w : World) :
    Calls Tryd.prog 14 #[.agg #[.int .i64 x0, .int .i64 x1, .int .i64 x2, .int .i64 x3, .int .i64 x4]] w fun e w' => e = .returned (.int .i64 (r0 x0 x1 x2 x3 x4)) ∧ Below w.heap.size w w' := by
  letI : Inhabited Ev.Val := ⟨⟨fun j => match j with | 0 => .int .i64 x0 | 1 => .int .i64 x1 | 2 => .int .i64 x2 | 3 => .int .i64 x3 | 4 => .int .i64 x4 | _ => .nilIface⟩⟩
  have I : In x0 x1 x2 x3 x4 := ⟨⟨1, rfl⟩, ⟨1, rfl⟩, ⟨1, rfl⟩, ⟨1, rfl⟩, ⟨1, rfl⟩⟩
  exact main I B w

theorem own : ownKnob Tryd.prog.godebug = none := by kernel_rfl
theorem len5 {l : List Value} (h : l.length = 5) : ∃ a0 a1 a2 a3 a4, l = [a0, a1, a2, a3, a4] := by
  match l, h with
  | [a0, a1, a2, a3, a4], _ => exact ⟨a0, a1, a2, a3, a4, rfl⟩
theorem cells23 : Tryd.prog.cellsOf 23 = 5 := by kernel_rfl
end Go.Proofs.YtffaikcaenkkhaaDoor.rChk
