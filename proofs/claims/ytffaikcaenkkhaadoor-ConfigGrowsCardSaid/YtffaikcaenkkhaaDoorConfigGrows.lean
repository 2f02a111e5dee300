/-
  'shunterlaw02.ConfigGrows' returns true for every input: the evaluator goes through its text with the numbers left open; each comparison parts the ways. CONDITIONS: none but those of the row.
-/
import Derived.Test.YtffaikcaenkkhaaDoorConfigGrows1
import Derived.Test.YtffaikcaenkkhaaDoorConfigGrows2
import Derived.Test.YtffaikcaenkkhaaDoorConfigGrows3
import Derived.Test.YtffaikcaenkkhaaDoorGood
import Derived.Test.YtffaikcaenkkhaaDoorCards
import Derived.Test.YtffaikcaenkkhaaDoorTie
import Derived.LaidMore
import Derived.SevenTiedAt
import Derived.Lib.SmallJoins
namespace Go.Proofs.YtffaikcaenkkhaaDoor.configGrows
open Go.ChangeShapes Go.WideShapes Go.ChangeAt Go.RowKit Go.Joins

section
variable [Inhabited Ev.Val]
theorem agg2 {S : Ev.Sig} {l l' : List Value} (h : Ev.LR S l l') : Ev.VR S (.agg ⟨l⟩) (.agg ⟨l'⟩) := .agg h.1 h.2
theorem fin {x0 x1 x2 x3 x4 x5 x6 x7 : Int} (I : In x0 x1 x2 x3 x4 x5 x6 x7) (cs : Ev.CsOk Tryd.prog Cs) {A : List Ev.As} (hA : ∀ a ∈ A, Ev.AsOk a) (hr : Ev.run ⟨Tryd.prog, Ev.mkTT Tryd.prog, Ev.mkFT Tryd.prog, A, Qs, Cs, none⟩ 100000 9 [.agg ⟨[Ev.inp .i64 0, Ev.inp .i64 1, Ev.inp .i64 2, Ev.inp .i64 3, Ev.inp .i64 4]⟩] = some true) (w : World) :
    Calls Tryd.prog 9 #[.agg #[.int .i64 x0, .int .i64 x1, .int .i64 x2, .int .i64 x3, .int .i64 x4]] w fun e w' => e = .returned (.bool true) ∧ Below w.heap.size w w' :=
  Ev.run_calls (Ev.envOkA Tryd.prog A Qs Cs hA qs cs) mixed hr (.cons (agg2 (.cons (.sym I.i0) (.cons (.sym I.i1) (.cons (.sym I.i2) (.cons (.sym I.i3) (.cons (.sym I.i4) .nil)))))) .nil) w

set_option maxRecDepth 100000 in
set_option maxHeartbeats 4000000 in
theorem main {x0 x1 x2 x3 x4 x5 x6 x7 : Int} (I : In x0 x1 x2 x3 x4 x5 x6 x7) (cs : Ev.CsOk Tryd.prog Cs) (B : Bd x0 x1 x2 x3 x4 x5 x6 x7) (w : World) :
    Calls Tryd.prog 9 #[.agg #[.int .i64 x0, .int .i64 x1, .int .i64 x2, .int .i64 x3, .int .i64 x4]] w fun e w' => e = .returned (.bool true) ∧ Below w.heap.size w w' := by
  by_cases h0 : z0 x0 x1 x2 x3 x4 x5 x6 x7 = z1 x0 x1 x2 x3 x4 x5 x6 x7
  · have a0 := Ev.asOk_cons (Ev.asOk_eq (is0 I) (is1 I) (Ev.dt h0)) Ev.asOk_nil
    by_cases h1 : z2 x0 x1 x2 x3 x4 x5 x6 x7 = z1 x0 x1 x2 x3 x4 x5 x6 x7
    · have a1 := Ev.asOk_cons (Ev.asOk_eq (is2 I) (is1 I) (Ev.dt h1)) a0
      by_cases h2 : z10 x0 x1 x2 x3 x4 x5 x6 x7 = z13 x0 x1 x2 x3 x4 x5 x6 x7
      · have a2 := Ev.asOk_cons (Ev.asOk_eq (is10 I) (is13 I) (Ev.dt h2)) a1
        by_cases h3 : z16 x0 x1 x2 x3 x4 x5 x6 x7 = z19 x0 x1 x2 x3 x4 x5 x6 x7
        · have a3 := Ev.asOk_cons (Ev.asOk_eq (is16 I) (is19 I) (Ev.dt h3)) a2
          by_cases h4 : z23 x0 x1 x2 x3 x4 x5 x6 x7 ≤ z26 x0 x1 x2 x3 x4 x5 x6 x7
          · exact (dead0 x0 x1 x2 x3 x4 x5 x6 x7 B (z0 x0 x1 x2 x3 x4 x5 x6 x7) (z1 x0 x1 x2 x3 x4 x5 x6 x7) (z2 x0 x1 x2 x3 x4 x5 x6 x7) (z3 x0 x1 x2 x3 x4 x5 x6 x7) (z4 x0 x1 x2 x3 x4 x5 x6 x7) (z5 x0 x1 x2 x3 x4 x5 x6 x7) (z6 x0 x1 x2 x3 x4 x5 x6 x7) (z7 x0 x1 x2 x3 x4 x5 x6 x7) (z8 x0 x1 x2 x3 x4 x5 x6 x7) (z9 x0 x1 x2 x3 x4 x5 x6 x7) (z10 x0 x1 x2 x3 x4 x5 x6 x7) (z11 x0 x1 x2 x3 x4 x5 x6 x7) (z12 x0 x1 x2 x3 x4 x5 x6 x7) (z13 x0 x1 x2 x3 x4 x5 x6 x7) (z14 x0 x1 x2 x3 x4 x5 x6 x7) (z15 x0 x1 x2 x3 x4 x5 x6 x7) (z16 x0 x1 x2 x3 x4 x5 x6 x7) (z17 x0 x1 x2 x3 x4 x5 x6 x7) (z18 x0 x1 x2 x3 x4 x5 x6 x7) (z19 x0 x1 x2 x3 x4 x5 x6 x7) (z20 x0 x1 x2 x3 x4 x5 x6 x7) (z21 x0 x1 x2 x3 x4 x5 x6 x7) (z22 x0 x1 x2 x3 x4 x5 x6 x7) (z23 x0 x1 x2 x3 x4 x5 x6 x7) (z24 x0 x1 x2 x3 x4 x5 x6 x7) (z25 x0 x1 x2 x3 x4 x5 x6 x7) (z26 x0 x1 x2 x3 x4 x5 x6 x7) rfl rfl rfl rfl rfl rfl rfl rfl rfl rfl rfl rfl rfl rfl rfl rfl rfl rfl rfl rfl rfl rfl rfl rfl rfl rfl rfl h0 h1 h2 h3 h4).elim
          · have a4 := Ev.asOk_cons (Ev.asOk_le (is23 I) (is26 I) (Ev.df h4)) a3
            by_cases h5 : z27 x0 x1 x2 x3 x4 x5 x6 x7 = z1 x0 x1 x2 x3 x4 x5 x6 x7
            · have a5 := Ev.asOk_cons (Ev.asOk_eq (is27 I) (is1 I) (Ev.dt h5)) a4
              by_cases h6 : z30 x0 x1 x2 x3 x4 x5 x6 x7 = z31 x0 x1 x2 x3 x4 x5 x6 x7
              · have a6 := Ev.asOk_cons (Ev.asOk_eq (is30 I) (is31 I) (Ev.dt h6)) a5
                exact fin I cs a6 run0 w
              · exact (dead1 x0 x1 x2 x3 x4 x5 x6 x7 B (z0 x0 x1 x2 x3 x4 x5 x6 x7) (z1 x0 x1 x2 x3 x4 x5 x6 x7) (z2 x0 x1 x2 x3 x4 x5 x6 x7) (z3 x0 x1 x2 x3 x4 x5 x6 x7) (z4 x0 x1 x2 x3 x4 x5 x6 x7) (z5 x0 x1 x2 x3 x4 x5 x6 x7) (z6 x0 x1 x2 x3 x4 x5 x6 x7) (z7 x0 x1 x2 x3 x4 x5 x6 x7) (z8 x0 x1 x2 x3 x4 x5 x6 x7) (z9 x0 x1 x2 x3 x4 x5 x6 x7) (z10 x0 x1 x2 x3 x4 x5 x6 x7) (z11 x0 x1 x2 x3 x4 x5 x6 x7) (z12 x0 x1 x2 x3 x4 x5 x6 x7) (z13 x0 x1 x2 x3 x4 x5 x6 x7) (z14 x0 x1 x2 x3 x4 x5 x6 x7) (z15 x0 x1 x2 x3 x4 x5 x6 x7) (z16 x0 x1 x2 x3 x4 x5 x6 x7) (z17 x0 x1 x2 x3 x4 x5 x6 x7) (z18 x0 x1 x2 x3 x4 x5 x6 x7) (z19 x0 x1 x2 x3 x4 x5 x6 x7) (z20 x0 x1 x2 x3 x4 x5 x6 x7) (z21 x0 x1 x2 x3 x4 x5 x6 x7) (z22 x0 x1 x2 x3 x4 x5 x6 x7) (z23 x0 x1 x2 x3 x4 x5 x6 x7) (z24 x0 x1 x2 x3 x4 x5 x6 x7) (z25 x0 x1 x2 x3 x4 x5 x6 x7) (z26 x0 x1 x2 x3 x4 x5 x6 x7) (z27 x0 x1 x2 x3 x4 x5 x6 x7) (z28 x0 x1 x2 x3 x4 x5 x6 x7) (z29 x0 x1 x2 x3 x4 x5 x6 x7) (z30 x0 x1 x2 x3 x4 x5 x6 x7) (z31 x0 x1 x2 x3 x4 x5 x6 x7) rfl rfl rfl rfl rfl rfl rfl rfl rfl rfl rfl rfl rfl rfl rfl rfl rfl rfl rfl rfl rfl rfl rfl rfl rfl rfl rfl rfl rfl rfl rfl rfl h0 h1 h2 h3 h4 h5 h6).elim
            · have a5 := Ev.asOk_cons (Ev.asOk_eq (is27 I) (is1 I) (Ev.df h5)) a4
              by_cases h6 : z4 x0 x1 x2 x3 x4 x5 x6 x7 = z32 x0 x1 x2 x3 x4 x5 x6 x7
              · have a6 := Ev.asOk_cons (Ev.asOk_eq (is4 I) (is32 I) (Ev.dt h6)) a5
                exact fin I cs a6 run1 w
              · exact (dead2 x0 x1 x2 x3 x4 x5 x6 x7 B (z0 x0 x1 x2 x3 x4 x5 x6 x7) (z1 x0 x1 x2 x3 x4 x5 x6 x7) (z2 x0 x1 x2 x3 x4 x5 x6 x7) (z3 x0 x1 x2 x3 x4 x5 x6 x7) (z4 x0 x1 x2 x3 x4 x5 x6 x7) (z5 x0 x1 x2 x3 x4 x5 x6 x7) (z6 x0 x1 x2 x3 x4 x5 x6 x7) (z7 x0 x1 x2 x3 x4 x5 x6 x7) (z8 x0 x1 x2 x3 x4 x5 x6 x7) (z9 x0 x1 x2 x3 x4 x5 x6 x7) (z10 x0 x1 x2 x3 x4 x5 x6 x7) (z11 x0 x1 x2 x3 x4 x5 x6 x7) (z12 x0 x1 x2 x3 x4 x5 x6 x7) (z13 x0 x1 x2 x3 x4 x5 x6 x7) (z14 x0 x1 x2 x3 x4 x5 x6 x7) (z15 x0 x1 x2 x3 x4 x5 x6 x7) (z16 x0 x1 x2 x3 x4 x5 x6 x7) (z17 x0 x1 x2 x3 x4 x5 x6 x7) (z18 x0 x1 x2 x3 x4 x5 x6 x7) (z19 x0 x1 x2 x3 x4 x5 x6 x7) (z20 x0 x1 x2 x3 x4 x5 x6 x7) (z21 x0 x1 x2 x3 x4 x5 x6 x7) (z22 x0 x1 x2 x3 x4 x5 x6 x7) (z23 x0 x1 x2 x3 x4 x5 x6 x7) (z24 x0 x1 x2 x3 x4 x5 x6 x7) (z25 x0 x1 x2 x3 x4 x5 x6 x7) (z26 x0 x1 x2 x3 x4 x5 x6 x7) (z27 x0 x1 x2 x3 x4 x5 x6 x7) (z32 x0 x1 x2 x3 x4 x5 x6 x7) rfl rfl rfl rfl rfl rfl rfl rfl rfl rfl rfl rfl rfl rfl rfl rfl rfl rfl rfl rfl rfl rfl rfl rfl rfl rfl rfl rfl rfl h0 h1 h2 h3 h4 h5 h6).elim
        · exact (dead3 x0 x1 x2 x3 x4 x5 x6 x7 B (z0 x0 x1 x2 x3 x4 x5 x6 x7) (z1 x0 x1 x2 x3 x4 x5 x6 x7) (z2 x0 x1 x2 x3 x4 x5 x6 x7) (z3 x0 x1 x2 x3 x4 x5 x6 x7) (z4 x0 x1 x2 x3 x4 x5 x6 x7) (z5 x0 x1 x2 x3 x4 x5 x6 x7) (z6 x0 x1 x2 x3 x4 x5 x6 x7) (z7 x0 x1 x2 x3 x4 x5 x6 x7) (z8 x0 x1 x2 x3 x4 x5 x6 x7) (z9 x0 x1 x2 x3 x4 x5 x6 x7) (z10 x0 x1 x2 x3 x4 x5 x6 x7) (z11 x0 x1 x2 x3 x4 x5 x6 x7) (z12 x0 x1 x2 x3 x4 x5 x6 x7) (z13 x0 x1 x2 x3 x4 x5 x6 x7) (z14 x0 x1 x2 x3 x4 x5 x6 x7) (z15 x0 x1 x2 x3 x4 x5 x6 x7) (z16 x0 x1 x2 x3 x4 x5 x6 x7) (z17 x0 x1 x2 x3 x4 x5 x6 x7) (z18 x0 x1 x2 x3 x4 x5 x6 x7) (z19 x0 x1 x2 x3 x4 x5 x6 x7) rfl rfl rfl rfl rfl rfl rfl rfl rfl rfl rfl rfl rfl rfl rfl rfl rfl rfl rfl rfl h0 h1 h2 h3).elim
      · exact (dead4 x0 x1 x2 x3 x4 x5 x6 x7 B (z0 x0 x1 x2 x3 x4 x5 x6 x7) (z1 x0 x1 x2 x3 x4 x5 x6 x7) (z2 x0 x1 x2 x3 x4 x5 x6 x7) (z3 x0 x1 x2 x3 x4 x5 x6 x7) (z4 x0 x1 x2 x3 x4 x5 x6 x7) (z5 x0 x1 x2 x3 x4 x5 x6 x7) (z6 x0 x1 x2 x3 x4 x5 x6 x7) (z7 x0 x1 x2 x3 x4 x5 x6 x7) (z8 x0 x1 x2 x3 x4 x5 x6 x7) (z9 x0 x1 x2 x3 x4 x5 x6 x7) (z10 x0 x1 x2 x3 x4 x5 x6 x7) (z11 x0 x1 x2 x3 x4 x5 x6 x7) (z12 x0 x1 x2 x3 x4 x5 x6 x7) (z13 x0 x1 x2 x3 x4 x5 x6 x7) rfl rfl rfl rfl rfl rfl rfl rfl rfl rfl rfl rfl rfl rfl h0 h1 h2).elim
    · have a1 := Ev.asOk_cons (Ev.asOk_eq (is2 I) (is1 I) (Ev.df h1)) a0
      by_cases h2 : z6 x0 x1 x2 x3 x4 x5 x6 x7 = z33 x0 x1 x2 x3 x4 x5 x6 x7
      · have a2 := Ev.asOk_cons (Ev.asOk_eq (is6 I) (is33 I) (Ev.dt h2)) a1
        by_cases h3 : z27 x0 x1 x2 x3 x4 x5 x6 x7 = z1 x0 x1 x2 x3 x4 x5 x6 x7
        · have a3 := Ev.asOk_cons (Ev.asOk_eq (is27 I) (is1 I) (Ev.dt h3)) a2
          by_cases h4 : z30 x0 x1 x2 x3 x4 x5 x6 x7 = z31 x0 x1 x2 x3 x4 x5 x6 x7
          · have a4 := Ev.asOk_cons (Ev.asOk_eq (is30 I) (is31 I) (Ev.dt h4)) a3
            exact fin I cs a4 run2 w
          · exact (dead5 x0 x1 x2 x3 x4 x5 x6 x7 B (z0 x0 x1 x2 x3 x4 x5 x6 x7) (z1 x0 x1 x2 x3 x4 x5 x6 x7) (z2 x0 x1 x2 x3 x4 x5 x6 x7) (z6 x0 x1 x2 x3 x4 x5 x6 x7) (z33 x0 x1 x2 x3 x4 x5 x6 x7) (z27 x0 x1 x2 x3 x4 x5 x6 x7) (z3 x0 x1 x2 x3 x4 x5 x6 x7) (z4 x0 x1 x2 x3 x4 x5 x6 x7) (z28 x0 x1 x2 x3 x4 x5 x6 x7) (z29 x0 x1 x2 x3 x4 x5 x6 x7) (z8 x0 x1 x2 x3 x4 x5 x6 x7) (z11 x0 x1 x2 x3 x4 x5 x6 x7) (z30 x0 x1 x2 x3 x4 x5 x6 x7) (z5 x0 x1 x2 x3 x4 x5 x6 x7) (z12 x0 x1 x2 x3 x4 x5 x6 x7) (z31 x0 x1 x2 x3 x4 x5 x6 x7) rfl rfl rfl rfl rfl rfl rfl rfl rfl rfl rfl rfl rfl rfl rfl rfl h0 h1 h2 h3 h4).elim
        · have a3 := Ev.asOk_cons (Ev.asOk_eq (is27 I) (is1 I) (Ev.df h3)) a2
          by_cases h4 : z4 x0 x1 x2 x3 x4 x5 x6 x7 = z32 x0 x1 x2 x3 x4 x5 x6 x7
          · have a4 := Ev.asOk_cons (Ev.asOk_eq (is4 I) (is32 I) (Ev.dt h4)) a3
            exact fin I cs a4 run3 w
          · exact (dead6 x0 x1 x2 x3 x4 x5 x6 x7 B (z0 x0 x1 x2 x3 x4 x5 x6 x7) (z1 x0 x1 x2 x3 x4 x5 x6 x7) (z2 x0 x1 x2 x3 x4 x5 x6 x7) (z6 x0 x1 x2 x3 x4 x5 x6 x7) (z33 x0 x1 x2 x3 x4 x5 x6 x7) (z27 x0 x1 x2 x3 x4 x5 x6 x7) (z4 x0 x1 x2 x3 x4 x5 x6 x7) (z32 x0 x1 x2 x3 x4 x5 x6 x7) rfl rfl rfl rfl rfl rfl rfl rfl h0 h1 h2 h3 h4).elim
      · exact (dead7 x0 x1 x2 x3 x4 x5 x6 x7 B (z0 x0 x1 x2 x3 x4 x5 x6 x7) (z1 x0 x1 x2 x3 x4 x5 x6 x7) (z2 x0 x1 x2 x3 x4 x5 x6 x7) (z6 x0 x1 x2 x3 x4 x5 x6 x7) (z33 x0 x1 x2 x3 x4 x5 x6 x7) rfl rfl rfl rfl rfl h0 h1 h2).elim
  · have a0 := Ev.asOk_cons (Ev.asOk_eq (is0 I) (is1 I) (Ev.df h0)) Ev.asOk_nil
    exact fin I cs a0 run4 w
end

theorem walk (x0 x1 x2 x3 x4 x5 x6 x7 : Int) (cs : ∀ [Inhabited Ev.Val], In x0 x1 x2 x3 x4 x5 x6 x7 → Ev.CsOk Tryd.prog Cs) (B : Bd x0 x1 x2 x3 x4 x5 x6 x7) (w : World) :
    Calls Tryd.prog 9 #[.agg #[.int .i64 x0, .int .i64 x1, .int .i64 x2, .int .i64 x3, .int .i64 x4]] w fun e w' => e = .returned (.bool true) ∧ Below w.heap.size w w' := by
  letI : Inhabited Ev.Val := ⟨⟨fun j => match j with | 0 => .int .i64 x0 | 1 => .int .i64 x1 | 2 => .int .i64 x2 | 3 => .int .i64 x3 | 4 => .int .i64 x4 | 5 => .int .i64 x5 | 6 => .int .i64 x6 | 7 => .int .i64 x7 | _ => .nilIface⟩⟩
  have I : In x0 x1 x2 x3 x4 x5 x6 x7 := ⟨⟨1, rfl⟩, ⟨1, rfl⟩, ⟨1, rfl⟩, ⟨1, rfl⟩, ⟨1, rfl⟩, ⟨1, rfl⟩, ⟨1, rfl⟩, ⟨1, rfl⟩⟩
  exact main I (cs I) B w

theorem own : ownKnob Tryd.prog.godebug = none := by kernel_rfl
theorem len5 {l : List Value} (h : l.length = 5) : ∃ a0 a1 a2 a3 a4, l = [a0, a1, a2, a3, a4] := by
  match l, h with
  | [a0, a1, a2, a3, a4], _ => exact ⟨a0, a1, a2, a3, a4, rfl⟩
theorem cells23 : Tryd.prog.cellsOf 23 = 5 := by kernel_rfl
theorem walkW {x0 x1 x2 x3 x4 : Int} (h0 : Good.In64 x0) (h1 : Good.In64 x1) (h2 : Good.In64 x2) (h3 : Good.In64 x3) (h4 : Good.In64 x4) (w : World) :
    Calls Tryd.prog 9 #[.agg #[.int .i64 x0, .int .i64 x1, .int .i64 x2, .int .i64 x3, .int .i64 x4]] w fun e w' => e = .returned (.bool true) ∧ Below w.heap.size w w' := by
  have hb := Good.chk_bd x0 x1 x2 x3 x4
  have hb6 := Good.chk_bd x0 ((x1 + 1 + 9223372036854775808) % 18446744073709551616 - 9223372036854775808) x2 x3 x4
  have hb7 := Good.chk_bd x0 x1 ((x2 + 1 + 9223372036854775808) % 18446744073709551616 - 9223372036854775808) x3 x4
  refine walk x0 x1 x2 x3 x4 (Good.chk x0 x1 x2 x3 x4) (Good.chk x0 ((x1 + 1 + 9223372036854775808) % 18446744073709551616 - 9223372036854775808) x2 x3 x4) (Good.chk x0 x1 ((x2 + 1 + 9223372036854775808) % 18446744073709551616 - 9223372036854775808) x3 x4) (fun I => ?_) ?_ w
  · exact (Ev.csOk_bool (Ev.run_closedJ mixed Jn.jok closed15) (Ev.csOk_cons (Good.cchk h0 h1 h2 h3 h4 I.i0 I.i1 I.i2 I.i3 I.i4 rfl I.i5 rfl) (Ev.csOk_cons (Good.cchk h0 ⟨by omega, by omega⟩ h2 h3 h4 I.i0 (Ev.is_add_i64 I.i1 (.lit _ _)) I.i2 I.i3 I.i4 rfl I.i6 rfl) (Ev.csOk_cons (Good.cchk h0 h1 ⟨by omega, by omega⟩ h3 h4 I.i0 I.i1 (Ev.is_add_i64 I.i2 (.lit _ _)) I.i3 I.i4 rfl I.i7 rfl) (Ev.csOk_nil _)))))
  · exact { l0 := h0.1, u0 := h0.2, l1 := h1.1, u1 := h1.2, l2 := h2.1, u2 := h2.2, l3 := h3.1, u3 := h3.2, l4 := h4.1, u4 := h4.2, l5 := (by omega), u5 := (by omega), l6 := (by omega), u6 := (by omega), l7 := (by omega), u7 := (by omega), g0 := fun e => (by have := Good.chk_zero e; omega), g1 := fun e => (by have := Good.chk_zero e; omega), g2 := fun e => (by have := Good.chk_zero e; omega), g3 := fun e => (by have := Good.chk_zero e; omega), g4 := fun e => (by have := Good.chk_zero e; omega), g5 := fun e => (by have := Good.chk_zero e; omega), g6 := fun e => (by have := Good.chk_zero e; omega), g7 := fun e => (by have := Good.chk_zero e; omega), g8 := fun e => (by have := Good.chk_zero e; omega), g9 := fun e => (by have := Good.chk_zero e; omega), g10 := fun e => Good.next_n e, g11 := fun e => Good.next_s e }
abbrev laid : List (String × DataW Unit) := Rows.configGrowsRow.laid
theorem door_met (os : Os) (args : Array Value) : laidMetH Tryd.prog laid ((World.doorLaid Tryd.prog 400 os).forCall (fun _ _ => 0) ⟨#[], args, []⟩).memory :=
  laidMetH_of_parts3 (fuel := 8) (laidMet_of_run' 8 (by kernel_rfl) (by kernel_rfl)) (by kernel_rfl) (by kernel_rfl)

set_option maxRecDepth 100000 in
set_option maxHeartbeats 4000000 in
theorem lifted (os : Os) (started : os.Started) (H : Type) (enc : TypeId × Value → H) :
    ReturnsInHanded {} Tryd.checked os 9 .any (fun w args => (Rows.configGrowsSpec.pre enc Tryd.prog Tryd.f9 [] false w args ∧ laidMetH Tryd.prog laid w) ∧ sizedMet enc Tryd.prog Tryd.f9 (OpenSpec.ofChange Rows.configGrowsSpec) false w args) (Rows.configGrowsSpec.post enc Tryd.prog Tryd.f9 false true false false) := by
  refine returnsInHanded_of_change_and (C := Tryd.checked) (X := fun w _ => laidMetH Tryd.prog laid w) (fun _ _ _ hh h => h.of_heap hh) own started (by kernel_rfl) Tryd.func9
    (ChangeSpec.witness_shaped (enc := enc) (C := Tryd.checked) (os := os) (X := fun w _ => laidMetH Tryd.prog laid w) false (World.doorLaid Tryd.prog 400 os) #[.agg #[.int .i64 0, .int .i64 0, .int .i64 0, .int .i64 0, .int .i64 0]] 8 rfl (World.shaped_of_RefB (by kernel_rfl) (by kernel_rfl)) (by kernel_rfl) (by kernel_rfl) (by kernel_rfl) (door_met os _)) ?_
  intro W base args ds gs before hval0 hW _ _ _ _
  have hval : ∀ (j : Nat) t v, Tryd.f9.params[j]? = some t → args[j]? = some v → Value.okWide Tryd.prog W .any base t v := hval0
  have hW' := hW
  obtain ⟨p, q, hA0, hV, rfl, hfz, hnd⟩ := hW
  have hA : DataW.TrodAll enc Tryd.prog W 0 (fun _ => true) true Tryd.f9.params.toList args.toList ds p := hA0
  rw [Tryd.params9] at hA hval
  obtain ⟨rfl, rfl⟩ := trodVars_none hV
  simp only [List.append_nil] at hW'
  obtain ⟨v0, vs0, d0, ds0, p0, q0, hv0, rfl, rfl, t0, hA0⟩ := trodAll_cons hA
  obtain ⟨rfl, rfl, rfl⟩ := trodAll_nil hA0
  obtain rfl : args = #[v0] := by
    apply Array.ext'
    rw [hv0]
  clear hv0
  obtain ⟨vl0, yl0, n0, rfl, hvl0, hf0⟩ := Ev.open_fields Tryd.underlying23 (by kernel_rfl) cells23 (hval 0 23 v0 rfl rfl) t0
  obtain ⟨u0_0, u0_1, u0_2, u0_3, u0_4, rfl⟩ : ∃ u0_0 u0_1 u0_2 u0_3 u0_4, vl0 = [u0_0, u0_1, u0_2, u0_3, u0_4] := by
    exact len5 (hvl0.trans (by kernel_rfl))
  obtain ⟨w0_0, y0_0, hw0_0, hy0_0⟩ := hf0 0 _ rfl
  obtain rfl : u0_0 = w0_0 := Option.some.inj hw0_0
  obtain ⟨x0, e0_0, -, wa0⟩ := DataW.trod_int Tryd.underlying3 hy0_0
  simp at e0_0
  subst e0_0
  obtain ⟨w0_1, y0_1, hw0_1, hy0_1⟩ := hf0 1 _ rfl
  obtain rfl : u0_1 = w0_1 := Option.some.inj hw0_1
  obtain ⟨x1, e0_1, -, wa1⟩ := DataW.trod_int Tryd.underlying3 hy0_1
  simp at e0_1
  subst e0_1
  obtain ⟨w0_2, y0_2, hw0_2, hy0_2⟩ := hf0 2 _ rfl
  obtain rfl : u0_2 = w0_2 := Option.some.inj hw0_2
  obtain ⟨x2, e0_2, -, wa2⟩ := DataW.trod_int Tryd.underlying3 hy0_2
  simp at e0_2
  subst e0_2
  obtain ⟨w0_3, y0_3, hw0_3, hy0_3⟩ := hf0 3 _ rfl
  obtain rfl : u0_3 = w0_3 := Option.some.inj hw0_3
  obtain ⟨x3, e0_3, -, wa3⟩ := DataW.trod_int Tryd.underlying3 hy0_3
  simp at e0_3
  subst e0_3
  obtain ⟨w0_4, y0_4, hw0_4, hy0_4⟩ := hf0 4 _ rfl
  obtain rfl : u0_4 = w0_4 := Option.some.inj hw0_4
  obtain ⟨x4, e0_4, -, wa4⟩ := DataW.trod_int Tryd.underlying3 hy0_4
  simp at e0_4
  subst e0_4
  refine (walkW (Frm.i64wf wa0) (Frm.i64wf wa1) (Frm.i64wf wa2) (Frm.i64wf wa3) (Frm.i64wf wa4) W).mono fun e W' ⟨he, hg⟩ => ?_
  subst he
  exact ⟨_, rfl, Frm.post_true (by kernel_rfl) (by kernel_rfl) rfl rfl Tryd.underlying4 hW' hg rfl⟩

theorem over : Rows.configGrowsRow.holds Tryd.pinned (OpenSpec.ofChange Rows.configGrowsSpec) :=
  OpenClaim.holds_of_wide 9 Tryd.f9 rfl rfl rfl rfl rfl rfl rfl ⟨rfl, rfl, rfl, rfl, rfl⟩ rfl rfl rfl rfl rfl (by kernel_rfl) Tryd.func9 (by kernel_rfl)
    (of_decide_eq_true (by kernel_rfl)) (by unfold Func.isWrapper; first | (rw [if_pos (by decide +kernel)]; kernel_rfl) | (rw [if_neg (by decide +kernel)]; exact ⟨rfl, rfl⟩))
    (fun os started H enc _ => lifted os started H enc)

theorem proved : Rows.ConfigGrowsCardSaid :=
  Claim7.holds_tied_plain_at .later [] [.data, .data, .data] true (true, "1f6f1f8f860284e0591a7fe2d8bd932cfbdd727a3e60724e1188f917b1c5c143") true
    over (fun _ h => by cases h) (by kernel_rfl) (fun _ h => by cases h) configGrows_row_tie rfl ⟨rfl, rfl⟩ (by kernel_rfl) rfl
    (fun f fn hf hfn => by
      obtain rfl : f = 9 := Option.some.inj ((show Tryd.prog.funcNamed "shunter/shunterlaw02.ConfigGrows" = some 9 by kernel_rfl).symm.trans hf) |>.symm
      obtain rfl : fn = Tryd.f9 := (Option.some.inj (Tryd.func9.symm.trans hfn)).symm
      exact ⟨by kernel_rfl, fun j t ht => by
        rw [Tryd.params9] at ht
        have h3 : Tryd.prog.wantsStandIn t = false := by
          have hm := Array.mem_of_getElem? ht
          simp only [Array.mem_def, List.mem_cons, or_false, List.not_mem_nil] at hm
          rcases hm with rfl
          · exact (show Tryd.prog.wantsStandIn 23 = false by kernel_rfl)
        exact h3⟩)
    (by kernel_rfl)
#print axioms proved
end Go.Proofs.YtffaikcaenkkhaaDoor.configGrows
