/-
  'shunterlaw26.AdmitWords' returns true for every input: the evaluator goes through its text with the numbers left open; each comparison parts the ways. CONDITIONS: none but those of the row.
-/
import Derived.Test.YtffaikcaenkkhabAdmitWords1
import Derived.Test.YtffaikcaenkkhabAdmitWords2
import Derived.Test.YtffaikcaenkkhabAdmitWords3
import Derived.Test.YtffaikcaenkkhabGood
import Derived.Test.YtffaikcaenkkhabMost
import Derived.Lib.SmallJoins
namespace Go.Proofs.Ytffaikcaenkkhab.admitWords
open Go.ChangeShapes Go.WideShapes Go.ChangeAt Go.RowKit Go.Joins

section
variable [Inhabited Ev.Val]
theorem agg2 {S : Ev.Sig} {l l' : List Value} (h : Ev.LR S l l') : Ev.VR S (.agg ⟨l⟩) (.agg ⟨l'⟩) := .agg h.1 h.2
theorem fin {x0 x1 x2 x3 x4 x5 x6 x7 x8 x9 : Int} (I : In x0 x1 x2 x3 x4 x5 x6 x7 x8 x9) (cs : Ev.CsOk Try.prog Cs) {A : List Ev.As} (hA : ∀ a ∈ A, Ev.AsOk a) (hr : Ev.run ⟨Try.prog, Ev.mkTT Try.prog, Ev.mkFT Try.prog, A, Qs, Cs, none⟩ 100000 3 [.agg ⟨[Ev.inp .i64 0, Ev.inp .i64 1, Ev.inp .i64 2, Ev.inp .i64 3, Ev.inp .i64 4]⟩, .agg ⟨[Ev.inp .i64 5, Ev.inp .i64 6]⟩] = some true) (w : World) :
    Calls Try.prog 3 #[.agg #[.int .i64 x0, .int .i64 x1, .int .i64 x2, .int .i64 x3, .int .i64 x4], .agg #[.int .i64 x5, .int .i64 x6]] w fun e w' => e = .returned (.bool true) ∧ Below w.heap.size w w' :=
  Ev.run_calls (Ev.envOkA Try.prog A Qs Cs hA qs cs) mixed hr (.cons (agg2 (.cons (.sym I.i0) (.cons (.sym I.i1) (.cons (.sym I.i2) (.cons (.sym I.i3) (.cons (.sym I.i4) .nil)))))) (.cons (agg2 (.cons (.sym I.i5) (.cons (.sym I.i6) .nil))) .nil)) w

set_option maxRecDepth 100000 in
set_option maxHeartbeats 4000000 in
theorem main {x0 x1 x2 x3 x4 x5 x6 x7 x8 x9 : Int} (I : In x0 x1 x2 x3 x4 x5 x6 x7 x8 x9) (cs : Ev.CsOk Try.prog Cs) (B : Bd x0 x1 x2 x3 x4 x5 x6 x7 x8 x9) (w : World) :
    Calls Try.prog 3 #[.agg #[.int .i64 x0, .int .i64 x1, .int .i64 x2, .int .i64 x3, .int .i64 x4], .agg #[.int .i64 x5, .int .i64 x6]] w fun e w' => e = .returned (.bool true) ∧ Below w.heap.size w w' := by
  by_cases h0 : z0 x0 x1 x2 x3 x4 x5 x6 x7 x8 x9 = z1 x0 x1 x2 x3 x4 x5 x6 x7 x8 x9
  · have a0 := Ev.asOk_cons (Ev.asOk_eq (is0 I) (is1 I) (Ev.dt h0)) Ev.asOk_nil
    by_cases h1 : z1 x0 x1 x2 x3 x4 x5 x6 x7 x8 x9 ≤ z2 x0 x1 x2 x3 x4 x5 x6 x7 x8 x9
    · have a1 := Ev.asOk_cons (Ev.asOk_le (is1 I) (is2 I) (Ev.dt h1)) a0
      by_cases h2 : z2 x0 x1 x2 x3 x4 x5 x6 x7 x8 x9 ≤ z7 x0 x1 x2 x3 x4 x5 x6 x7 x8 x9
      · have a2 := Ev.asOk_cons (Ev.asOk_le (is2 I) (is7 I) (Ev.dt h2)) a1
        by_cases h3 : z1 x0 x1 x2 x3 x4 x5 x6 x7 x8 x9 ≤ z8 x0 x1 x2 x3 x4 x5 x6 x7 x8 x9
        · have a3 := Ev.asOk_cons (Ev.asOk_le (is1 I) (is8 I) (Ev.dt h3)) a2
          by_cases h4 : z8 x0 x1 x2 x3 x4 x5 x6 x7 x8 x9 ≤ z6 x0 x1 x2 x3 x4 x5 x6 x7 x8 x9
          · have a4 := Ev.asOk_cons (Ev.asOk_le (is8 I) (is6 I) (Ev.dt h4)) a3
            by_cases h5 : z6 x0 x1 x2 x3 x4 x5 x6 x7 x8 x9 ≤ z9 x0 x1 x2 x3 x4 x5 x6 x7 x8 x9
            · have a5 := Ev.asOk_cons (Ev.asOk_le (is6 I) (is9 I) (Ev.dt h5)) a4
              by_cases h6 : z20 x0 x1 x2 x3 x4 x5 x6 x7 x8 x9 = z21 x0 x1 x2 x3 x4 x5 x6 x7 x8 x9
              · have a6 := Ev.asOk_cons (Ev.asOk_eq (is20 I) (is21 I) (Ev.dt h6)) a5
                by_cases h7 : z1 x0 x1 x2 x3 x4 x5 x6 x7 x8 x9 = z22 x0 x1 x2 x3 x4 x5 x6 x7 x8 x9
                · have a7 := Ev.asOk_cons (Ev.asOk_eq (is1 I) (is22 I) (Ev.dt h7)) a6
                  by_cases h8 : z4 x0 x1 x2 x3 x4 x5 x6 x7 x8 x9 = z1 x0 x1 x2 x3 x4 x5 x6 x7 x8 x9
                  · exact (dead0 x0 x1 x2 x3 x4 x5 x6 x7 x8 x9 B (z0 x0 x1 x2 x3 x4 x5 x6 x7 x8 x9) (z1 x0 x1 x2 x3 x4 x5 x6 x7 x8 x9) (z2 x0 x1 x2 x3 x4 x5 x6 x7 x8 x9) (z3 x0 x1 x2 x3 x4 x5 x6 x7 x8 x9) (z4 x0 x1 x2 x3 x4 x5 x6 x7 x8 x9) (z5 x0 x1 x2 x3 x4 x5 x6 x7 x8 x9) (z6 x0 x1 x2 x3 x4 x5 x6 x7 x8 x9) (z7 x0 x1 x2 x3 x4 x5 x6 x7 x8 x9) (z8 x0 x1 x2 x3 x4 x5 x6 x7 x8 x9) (z9 x0 x1 x2 x3 x4 x5 x6 x7 x8 x9) (z10 x0 x1 x2 x3 x4 x5 x6 x7 x8 x9) (z11 x0 x1 x2 x3 x4 x5 x6 x7 x8 x9) (z12 x0 x1 x2 x3 x4 x5 x6 x7 x8 x9) (z13 x0 x1 x2 x3 x4 x5 x6 x7 x8 x9) (z14 x0 x1 x2 x3 x4 x5 x6 x7 x8 x9) (z15 x0 x1 x2 x3 x4 x5 x6 x7 x8 x9) (z16 x0 x1 x2 x3 x4 x5 x6 x7 x8 x9) (z17 x0 x1 x2 x3 x4 x5 x6 x7 x8 x9) (z18 x0 x1 x2 x3 x4 x5 x6 x7 x8 x9) (z19 x0 x1 x2 x3 x4 x5 x6 x7 x8 x9) (z20 x0 x1 x2 x3 x4 x5 x6 x7 x8 x9) (z21 x0 x1 x2 x3 x4 x5 x6 x7 x8 x9) (z22 x0 x1 x2 x3 x4 x5 x6 x7 x8 x9) rfl rfl rfl rfl rfl rfl rfl rfl rfl rfl rfl rfl rfl rfl rfl rfl rfl rfl rfl rfl rfl rfl rfl h0 h1 h2 h3 h4 h5 h6 h7 h8).elim
                  · have a8 := Ev.asOk_cons (Ev.asOk_eq (is4 I) (is1 I) (Ev.df h8)) a7
                    exact fin I cs a8 run0 w
                · exact (dead1 x0 x1 x2 x3 x4 x5 x6 x7 x8 x9 B (z0 x0 x1 x2 x3 x4 x5 x6 x7 x8 x9) (z1 x0 x1 x2 x3 x4 x5 x6 x7 x8 x9) (z2 x0 x1 x2 x3 x4 x5 x6 x7 x8 x9) (z3 x0 x1 x2 x3 x4 x5 x6 x7 x8 x9) (z4 x0 x1 x2 x3 x4 x5 x6 x7 x8 x9) (z5 x0 x1 x2 x3 x4 x5 x6 x7 x8 x9) (z6 x0 x1 x2 x3 x4 x5 x6 x7 x8 x9) (z7 x0 x1 x2 x3 x4 x5 x6 x7 x8 x9) (z8 x0 x1 x2 x3 x4 x5 x6 x7 x8 x9) (z9 x0 x1 x2 x3 x4 x5 x6 x7 x8 x9) (z10 x0 x1 x2 x3 x4 x5 x6 x7 x8 x9) (z11 x0 x1 x2 x3 x4 x5 x6 x7 x8 x9) (z12 x0 x1 x2 x3 x4 x5 x6 x7 x8 x9) (z13 x0 x1 x2 x3 x4 x5 x6 x7 x8 x9) (z14 x0 x1 x2 x3 x4 x5 x6 x7 x8 x9) (z15 x0 x1 x2 x3 x4 x5 x6 x7 x8 x9) (z16 x0 x1 x2 x3 x4 x5 x6 x7 x8 x9) (z17 x0 x1 x2 x3 x4 x5 x6 x7 x8 x9) (z18 x0 x1 x2 x3 x4 x5 x6 x7 x8 x9) (z19 x0 x1 x2 x3 x4 x5 x6 x7 x8 x9) (z20 x0 x1 x2 x3 x4 x5 x6 x7 x8 x9) (z21 x0 x1 x2 x3 x4 x5 x6 x7 x8 x9) (z22 x0 x1 x2 x3 x4 x5 x6 x7 x8 x9) rfl rfl rfl rfl rfl rfl rfl rfl rfl rfl rfl rfl rfl rfl rfl rfl rfl rfl rfl rfl rfl rfl rfl h0 h1 h2 h3 h4 h5 h6 h7).elim
              · exact (dead2 x0 x1 x2 x3 x4 x5 x6 x7 x8 x9 B (z0 x0 x1 x2 x3 x4 x5 x6 x7 x8 x9) (z1 x0 x1 x2 x3 x4 x5 x6 x7 x8 x9) (z2 x0 x1 x2 x3 x4 x5 x6 x7 x8 x9) (z3 x0 x1 x2 x3 x4 x5 x6 x7 x8 x9) (z4 x0 x1 x2 x3 x4 x5 x6 x7 x8 x9) (z5 x0 x1 x2 x3 x4 x5 x6 x7 x8 x9) (z6 x0 x1 x2 x3 x4 x5 x6 x7 x8 x9) (z7 x0 x1 x2 x3 x4 x5 x6 x7 x8 x9) (z8 x0 x1 x2 x3 x4 x5 x6 x7 x8 x9) (z9 x0 x1 x2 x3 x4 x5 x6 x7 x8 x9) (z10 x0 x1 x2 x3 x4 x5 x6 x7 x8 x9) (z11 x0 x1 x2 x3 x4 x5 x6 x7 x8 x9) (z12 x0 x1 x2 x3 x4 x5 x6 x7 x8 x9) (z13 x0 x1 x2 x3 x4 x5 x6 x7 x8 x9) (z14 x0 x1 x2 x3 x4 x5 x6 x7 x8 x9) (z15 x0 x1 x2 x3 x4 x5 x6 x7 x8 x9) (z16 x0 x1 x2 x3 x4 x5 x6 x7 x8 x9) (z17 x0 x1 x2 x3 x4 x5 x6 x7 x8 x9) (z18 x0 x1 x2 x3 x4 x5 x6 x7 x8 x9) (z19 x0 x1 x2 x3 x4 x5 x6 x7 x8 x9) (z20 x0 x1 x2 x3 x4 x5 x6 x7 x8 x9) (z21 x0 x1 x2 x3 x4 x5 x6 x7 x8 x9) rfl rfl rfl rfl rfl rfl rfl rfl rfl rfl rfl rfl rfl rfl rfl rfl rfl rfl rfl rfl rfl rfl h0 h1 h2 h3 h4 h5 h6).elim
            · have a5 := Ev.asOk_cons (Ev.asOk_le (is6 I) (is9 I) (Ev.df h5)) a4
              by_cases h6 : z1 x0 x1 x2 x3 x4 x5 x6 x7 x8 x9 = z21 x0 x1 x2 x3 x4 x5 x6 x7 x8 x9
              · have a6 := Ev.asOk_cons (Ev.asOk_eq (is1 I) (is21 I) (Ev.dt h6)) a5
                by_cases h7 : z23 x0 x1 x2 x3 x4 x5 x6 x7 x8 x9 = z22 x0 x1 x2 x3 x4 x5 x6 x7 x8 x9
                · have a7 := Ev.asOk_cons (Ev.asOk_eq (is23 I) (is22 I) (Ev.dt h7)) a6
                  by_cases h8 : z4 x0 x1 x2 x3 x4 x5 x6 x7 x8 x9 = z1 x0 x1 x2 x3 x4 x5 x6 x7 x8 x9
                  · exact (dead3 x0 x1 x2 x3 x4 x5 x6 x7 x8 x9 B (z0 x0 x1 x2 x3 x4 x5 x6 x7 x8 x9) (z1 x0 x1 x2 x3 x4 x5 x6 x7 x8 x9) (z2 x0 x1 x2 x3 x4 x5 x6 x7 x8 x9) (z3 x0 x1 x2 x3 x4 x5 x6 x7 x8 x9) (z4 x0 x1 x2 x3 x4 x5 x6 x7 x8 x9) (z5 x0 x1 x2 x3 x4 x5 x6 x7 x8 x9) (z6 x0 x1 x2 x3 x4 x5 x6 x7 x8 x9) (z7 x0 x1 x2 x3 x4 x5 x6 x7 x8 x9) (z8 x0 x1 x2 x3 x4 x5 x6 x7 x8 x9) (z9 x0 x1 x2 x3 x4 x5 x6 x7 x8 x9) (z21 x0 x1 x2 x3 x4 x5 x6 x7 x8 x9) (z23 x0 x1 x2 x3 x4 x5 x6 x7 x8 x9) (z22 x0 x1 x2 x3 x4 x5 x6 x7 x8 x9) rfl rfl rfl rfl rfl rfl rfl rfl rfl rfl rfl rfl rfl h0 h1 h2 h3 h4 h5 h6 h7 h8).elim
                  · have a8 := Ev.asOk_cons (Ev.asOk_eq (is4 I) (is1 I) (Ev.df h8)) a7
                    exact fin I cs a8 run1 w
                · exact (dead4 x0 x1 x2 x3 x4 x5 x6 x7 x8 x9 B (z0 x0 x1 x2 x3 x4 x5 x6 x7 x8 x9) (z1 x0 x1 x2 x3 x4 x5 x6 x7 x8 x9) (z2 x0 x1 x2 x3 x4 x5 x6 x7 x8 x9) (z3 x0 x1 x2 x3 x4 x5 x6 x7 x8 x9) (z4 x0 x1 x2 x3 x4 x5 x6 x7 x8 x9) (z5 x0 x1 x2 x3 x4 x5 x6 x7 x8 x9) (z6 x0 x1 x2 x3 x4 x5 x6 x7 x8 x9) (z7 x0 x1 x2 x3 x4 x5 x6 x7 x8 x9) (z8 x0 x1 x2 x3 x4 x5 x6 x7 x8 x9) (z9 x0 x1 x2 x3 x4 x5 x6 x7 x8 x9) (z21 x0 x1 x2 x3 x4 x5 x6 x7 x8 x9) (z23 x0 x1 x2 x3 x4 x5 x6 x7 x8 x9) (z22 x0 x1 x2 x3 x4 x5 x6 x7 x8 x9) rfl rfl rfl rfl rfl rfl rfl rfl rfl rfl rfl rfl rfl h0 h1 h2 h3 h4 h5 h6 h7).elim
              · exact (dead5 x0 x1 x2 x3 x4 x5 x6 x7 x8 x9 B (z0 x0 x1 x2 x3 x4 x5 x6 x7 x8 x9) (z1 x0 x1 x2 x3 x4 x5 x6 x7 x8 x9) (z2 x0 x1 x2 x3 x4 x5 x6 x7 x8 x9) (z3 x0 x1 x2 x3 x4 x5 x6 x7 x8 x9) (z4 x0 x1 x2 x3 x4 x5 x6 x7 x8 x9) (z5 x0 x1 x2 x3 x4 x5 x6 x7 x8 x9) (z6 x0 x1 x2 x3 x4 x5 x6 x7 x8 x9) (z7 x0 x1 x2 x3 x4 x5 x6 x7 x8 x9) (z8 x0 x1 x2 x3 x4 x5 x6 x7 x8 x9) (z9 x0 x1 x2 x3 x4 x5 x6 x7 x8 x9) (z21 x0 x1 x2 x3 x4 x5 x6 x7 x8 x9) rfl rfl rfl rfl rfl rfl rfl rfl rfl rfl rfl h0 h1 h2 h3 h4 h5 h6).elim
          · have a4 := Ev.asOk_cons (Ev.asOk_le (is8 I) (is6 I) (Ev.df h4)) a3
            by_cases h5 : z1 x0 x1 x2 x3 x4 x5 x6 x7 x8 x9 = z21 x0 x1 x2 x3 x4 x5 x6 x7 x8 x9
            · have a5 := Ev.asOk_cons (Ev.asOk_eq (is1 I) (is21 I) (Ev.dt h5)) a4
              by_cases h6 : z23 x0 x1 x2 x3 x4 x5 x6 x7 x8 x9 = z22 x0 x1 x2 x3 x4 x5 x6 x7 x8 x9
              · have a6 := Ev.asOk_cons (Ev.asOk_eq (is23 I) (is22 I) (Ev.dt h6)) a5
                by_cases h7 : z4 x0 x1 x2 x3 x4 x5 x6 x7 x8 x9 = z1 x0 x1 x2 x3 x4 x5 x6 x7 x8 x9
                · exact (dead6 x0 x1 x2 x3 x4 x5 x6 x7 x8 x9 B (z0 x0 x1 x2 x3 x4 x5 x6 x7 x8 x9) (z1 x0 x1 x2 x3 x4 x5 x6 x7 x8 x9) (z2 x0 x1 x2 x3 x4 x5 x6 x7 x8 x9) (z3 x0 x1 x2 x3 x4 x5 x6 x7 x8 x9) (z4 x0 x1 x2 x3 x4 x5 x6 x7 x8 x9) (z5 x0 x1 x2 x3 x4 x5 x6 x7 x8 x9) (z6 x0 x1 x2 x3 x4 x5 x6 x7 x8 x9) (z7 x0 x1 x2 x3 x4 x5 x6 x7 x8 x9) (z8 x0 x1 x2 x3 x4 x5 x6 x7 x8 x9) (z21 x0 x1 x2 x3 x4 x5 x6 x7 x8 x9) (z23 x0 x1 x2 x3 x4 x5 x6 x7 x8 x9) (z22 x0 x1 x2 x3 x4 x5 x6 x7 x8 x9) rfl rfl rfl rfl rfl rfl rfl rfl rfl rfl rfl rfl h0 h1 h2 h3 h4 h5 h6 h7).elim
                · have a7 := Ev.asOk_cons (Ev.asOk_eq (is4 I) (is1 I) (Ev.df h7)) a6
                  exact fin I cs a7 run2 w
              · exact (dead7 x0 x1 x2 x3 x4 x5 x6 x7 x8 x9 B (z0 x0 x1 x2 x3 x4 x5 x6 x7 x8 x9) (z1 x0 x1 x2 x3 x4 x5 x6 x7 x8 x9) (z2 x0 x1 x2 x3 x4 x5 x6 x7 x8 x9) (z3 x0 x1 x2 x3 x4 x5 x6 x7 x8 x9) (z4 x0 x1 x2 x3 x4 x5 x6 x7 x8 x9) (z5 x0 x1 x2 x3 x4 x5 x6 x7 x8 x9) (z6 x0 x1 x2 x3 x4 x5 x6 x7 x8 x9) (z7 x0 x1 x2 x3 x4 x5 x6 x7 x8 x9) (z8 x0 x1 x2 x3 x4 x5 x6 x7 x8 x9) (z21 x0 x1 x2 x3 x4 x5 x6 x7 x8 x9) (z23 x0 x1 x2 x3 x4 x5 x6 x7 x8 x9) (z22 x0 x1 x2 x3 x4 x5 x6 x7 x8 x9) rfl rfl rfl rfl rfl rfl rfl rfl rfl rfl rfl rfl h0 h1 h2 h3 h4 h5 h6).elim
            · exact (dead8 x0 x1 x2 x3 x4 x5 x6 x7 x8 x9 B (z0 x0 x1 x2 x3 x4 x5 x6 x7 x8 x9) (z1 x0 x1 x2 x3 x4 x5 x6 x7 x8 x9) (z2 x0 x1 x2 x3 x4 x5 x6 x7 x8 x9) (z3 x0 x1 x2 x3 x4 x5 x6 x7 x8 x9) (z4 x0 x1 x2 x3 x4 x5 x6 x7 x8 x9) (z5 x0 x1 x2 x3 x4 x5 x6 x7 x8 x9) (z6 x0 x1 x2 x3 x4 x5 x6 x7 x8 x9) (z7 x0 x1 x2 x3 x4 x5 x6 x7 x8 x9) (z8 x0 x1 x2 x3 x4 x5 x6 x7 x8 x9) (z21 x0 x1 x2 x3 x4 x5 x6 x7 x8 x9) rfl rfl rfl rfl rfl rfl rfl rfl rfl rfl h0 h1 h2 h3 h4 h5).elim
        · have a3 := Ev.asOk_cons (Ev.asOk_le (is1 I) (is8 I) (Ev.df h3)) a2
          by_cases h4 : z1 x0 x1 x2 x3 x4 x5 x6 x7 x8 x9 = z21 x0 x1 x2 x3 x4 x5 x6 x7 x8 x9
          · have a4 := Ev.asOk_cons (Ev.asOk_eq (is1 I) (is21 I) (Ev.dt h4)) a3
            by_cases h5 : z23 x0 x1 x2 x3 x4 x5 x6 x7 x8 x9 = z22 x0 x1 x2 x3 x4 x5 x6 x7 x8 x9
            · have a5 := Ev.asOk_cons (Ev.asOk_eq (is23 I) (is22 I) (Ev.dt h5)) a4
              by_cases h6 : z4 x0 x1 x2 x3 x4 x5 x6 x7 x8 x9 = z1 x0 x1 x2 x3 x4 x5 x6 x7 x8 x9
              · exact (dead9 x0 x1 x2 x3 x4 x5 x6 x7 x8 x9 B (z0 x0 x1 x2 x3 x4 x5 x6 x7 x8 x9) (z1 x0 x1 x2 x3 x4 x5 x6 x7 x8 x9) (z2 x0 x1 x2 x3 x4 x5 x6 x7 x8 x9) (z3 x0 x1 x2 x3 x4 x5 x6 x7 x8 x9) (z4 x0 x1 x2 x3 x4 x5 x6 x7 x8 x9) (z5 x0 x1 x2 x3 x4 x5 x6 x7 x8 x9) (z6 x0 x1 x2 x3 x4 x5 x6 x7 x8 x9) (z7 x0 x1 x2 x3 x4 x5 x6 x7 x8 x9) (z8 x0 x1 x2 x3 x4 x5 x6 x7 x8 x9) (z21 x0 x1 x2 x3 x4 x5 x6 x7 x8 x9) (z23 x0 x1 x2 x3 x4 x5 x6 x7 x8 x9) (z22 x0 x1 x2 x3 x4 x5 x6 x7 x8 x9) rfl rfl rfl rfl rfl rfl rfl rfl rfl rfl rfl rfl h0 h1 h2 h3 h4 h5 h6).elim
              · have a6 := Ev.asOk_cons (Ev.asOk_eq (is4 I) (is1 I) (Ev.df h6)) a5
                exact fin I cs a6 run3 w
            · exact (dead10 x0 x1 x2 x3 x4 x5 x6 x7 x8 x9 B (z0 x0 x1 x2 x3 x4 x5 x6 x7 x8 x9) (z1 x0 x1 x2 x3 x4 x5 x6 x7 x8 x9) (z2 x0 x1 x2 x3 x4 x5 x6 x7 x8 x9) (z3 x0 x1 x2 x3 x4 x5 x6 x7 x8 x9) (z4 x0 x1 x2 x3 x4 x5 x6 x7 x8 x9) (z5 x0 x1 x2 x3 x4 x5 x6 x7 x8 x9) (z6 x0 x1 x2 x3 x4 x5 x6 x7 x8 x9) (z7 x0 x1 x2 x3 x4 x5 x6 x7 x8 x9) (z8 x0 x1 x2 x3 x4 x5 x6 x7 x8 x9) (z21 x0 x1 x2 x3 x4 x5 x6 x7 x8 x9) (z23 x0 x1 x2 x3 x4 x5 x6 x7 x8 x9) (z22 x0 x1 x2 x3 x4 x5 x6 x7 x8 x9) rfl rfl rfl rfl rfl rfl rfl rfl rfl rfl rfl rfl h0 h1 h2 h3 h4 h5).elim
          · exact (dead11 x0 x1 x2 x3 x4 x5 x6 x7 x8 x9 B (z0 x0 x1 x2 x3 x4 x5 x6 x7 x8 x9) (z1 x0 x1 x2 x3 x4 x5 x6 x7 x8 x9) (z2 x0 x1 x2 x3 x4 x5 x6 x7 x8 x9) (z3 x0 x1 x2 x3 x4 x5 x6 x7 x8 x9) (z4 x0 x1 x2 x3 x4 x5 x6 x7 x8 x9) (z5 x0 x1 x2 x3 x4 x5 x6 x7 x8 x9) (z6 x0 x1 x2 x3 x4 x5 x6 x7 x8 x9) (z7 x0 x1 x2 x3 x4 x5 x6 x7 x8 x9) (z8 x0 x1 x2 x3 x4 x5 x6 x7 x8 x9) (z21 x0 x1 x2 x3 x4 x5 x6 x7 x8 x9) rfl rfl rfl rfl rfl rfl rfl rfl rfl rfl h0 h1 h2 h3 h4).elim
      · have a2 := Ev.asOk_cons (Ev.asOk_le (is2 I) (is7 I) (Ev.df h2)) a1
        by_cases h3 : z1 x0 x1 x2 x3 x4 x5 x6 x7 x8 x9 = z21 x0 x1 x2 x3 x4 x5 x6 x7 x8 x9
        · have a3 := Ev.asOk_cons (Ev.asOk_eq (is1 I) (is21 I) (Ev.dt h3)) a2
          by_cases h4 : z23 x0 x1 x2 x3 x4 x5 x6 x7 x8 x9 = z22 x0 x1 x2 x3 x4 x5 x6 x7 x8 x9
          · have a4 := Ev.asOk_cons (Ev.asOk_eq (is23 I) (is22 I) (Ev.dt h4)) a3
            exact fin I cs a4 run4 w
          · exact (dead12 x0 x1 x2 x3 x4 x5 x6 x7 x8 x9 B (z0 x0 x1 x2 x3 x4 x5 x6 x7 x8 x9) (z1 x0 x1 x2 x3 x4 x5 x6 x7 x8 x9) (z2 x0 x1 x2 x3 x4 x5 x6 x7 x8 x9) (z3 x0 x1 x2 x3 x4 x5 x6 x7 x8 x9) (z4 x0 x1 x2 x3 x4 x5 x6 x7 x8 x9) (z5 x0 x1 x2 x3 x4 x5 x6 x7 x8 x9) (z6 x0 x1 x2 x3 x4 x5 x6 x7 x8 x9) (z7 x0 x1 x2 x3 x4 x5 x6 x7 x8 x9) (z21 x0 x1 x2 x3 x4 x5 x6 x7 x8 x9) (z23 x0 x1 x2 x3 x4 x5 x6 x7 x8 x9) (z22 x0 x1 x2 x3 x4 x5 x6 x7 x8 x9) rfl rfl rfl rfl rfl rfl rfl rfl rfl rfl rfl h0 h1 h2 h3 h4).elim
        · exact (dead13 x0 x1 x2 x3 x4 x5 x6 x7 x8 x9 B (z0 x0 x1 x2 x3 x4 x5 x6 x7 x8 x9) (z1 x0 x1 x2 x3 x4 x5 x6 x7 x8 x9) (z2 x0 x1 x2 x3 x4 x5 x6 x7 x8 x9) (z3 x0 x1 x2 x3 x4 x5 x6 x7 x8 x9) (z4 x0 x1 x2 x3 x4 x5 x6 x7 x8 x9) (z5 x0 x1 x2 x3 x4 x5 x6 x7 x8 x9) (z6 x0 x1 x2 x3 x4 x5 x6 x7 x8 x9) (z7 x0 x1 x2 x3 x4 x5 x6 x7 x8 x9) (z21 x0 x1 x2 x3 x4 x5 x6 x7 x8 x9) rfl rfl rfl rfl rfl rfl rfl rfl rfl h0 h1 h2 h3).elim
    · have a1 := Ev.asOk_cons (Ev.asOk_le (is1 I) (is2 I) (Ev.df h1)) a0
      by_cases h2 : z1 x0 x1 x2 x3 x4 x5 x6 x7 x8 x9 = z21 x0 x1 x2 x3 x4 x5 x6 x7 x8 x9
      · have a2 := Ev.asOk_cons (Ev.asOk_eq (is1 I) (is21 I) (Ev.dt h2)) a1
        by_cases h3 : z23 x0 x1 x2 x3 x4 x5 x6 x7 x8 x9 = z22 x0 x1 x2 x3 x4 x5 x6 x7 x8 x9
        · have a3 := Ev.asOk_cons (Ev.asOk_eq (is23 I) (is22 I) (Ev.dt h3)) a2
          exact fin I cs a3 run5 w
        · exact (dead14 x0 x1 x2 x3 x4 x5 x6 x7 x8 x9 B (z0 x0 x1 x2 x3 x4 x5 x6 x7 x8 x9) (z1 x0 x1 x2 x3 x4 x5 x6 x7 x8 x9) (z2 x0 x1 x2 x3 x4 x5 x6 x7 x8 x9) (z21 x0 x1 x2 x3 x4 x5 x6 x7 x8 x9) (z23 x0 x1 x2 x3 x4 x5 x6 x7 x8 x9) (z22 x0 x1 x2 x3 x4 x5 x6 x7 x8 x9) rfl rfl rfl rfl rfl rfl h0 h1 h2 h3).elim
      · exact (dead15 x0 x1 x2 x3 x4 x5 x6 x7 x8 x9 B (z0 x0 x1 x2 x3 x4 x5 x6 x7 x8 x9) (z1 x0 x1 x2 x3 x4 x5 x6 x7 x8 x9) (z2 x0 x1 x2 x3 x4 x5 x6 x7 x8 x9) (z21 x0 x1 x2 x3 x4 x5 x6 x7 x8 x9) rfl rfl rfl rfl h0 h1 h2).elim
  · have a0 := Ev.asOk_cons (Ev.asOk_eq (is0 I) (is1 I) (Ev.df h0)) Ev.asOk_nil
    by_cases h1 : z1 x0 x1 x2 x3 x4 x5 x6 x7 x8 x9 = z21 x0 x1 x2 x3 x4 x5 x6 x7 x8 x9
    · have a1 := Ev.asOk_cons (Ev.asOk_eq (is1 I) (is21 I) (Ev.dt h1)) a0
      by_cases h2 : z0 x0 x1 x2 x3 x4 x5 x6 x7 x8 x9 = z22 x0 x1 x2 x3 x4 x5 x6 x7 x8 x9
      · have a2 := Ev.asOk_cons (Ev.asOk_eq (is0 I) (is22 I) (Ev.dt h2)) a1
        exact fin I cs a2 run6 w
      · exact (dead16 x0 x1 x2 x3 x4 x5 x6 x7 x8 x9 B (z0 x0 x1 x2 x3 x4 x5 x6 x7 x8 x9) (z1 x0 x1 x2 x3 x4 x5 x6 x7 x8 x9) (z21 x0 x1 x2 x3 x4 x5 x6 x7 x8 x9) (z22 x0 x1 x2 x3 x4 x5 x6 x7 x8 x9) rfl rfl rfl rfl h0 h1 h2).elim
    · exact (dead17 x0 x1 x2 x3 x4 x5 x6 x7 x8 x9 B (z0 x0 x1 x2 x3 x4 x5 x6 x7 x8 x9) (z1 x0 x1 x2 x3 x4 x5 x6 x7 x8 x9) (z21 x0 x1 x2 x3 x4 x5 x6 x7 x8 x9) rfl rfl rfl h0 h1).elim
end

theorem walk (x0 x1 x2 x3 x4 x5 x6 x7 x8 x9 : Int) (cs : ∀ [Inhabited Ev.Val], In x0 x1 x2 x3 x4 x5 x6 x7 x8 x9 → Ev.CsOk Try.prog Cs) (B : Bd x0 x1 x2 x3 x4 x5 x6 x7 x8 x9) (w : World) :
    Calls Try.prog 3 #[.agg #[.int .i64 x0, .int .i64 x1, .int .i64 x2, .int .i64 x3, .int .i64 x4], .agg #[.int .i64 x5, .int .i64 x6]] w fun e w' => e = .returned (.bool true) ∧ Below w.heap.size w w' := by
  letI : Inhabited Ev.Val := ⟨⟨fun j => match j with | 0 => .int .i64 x0 | 1 => .int .i64 x1 | 2 => .int .i64 x2 | 3 => .int .i64 x3 | 4 => .int .i64 x4 | 5 => .int .i64 x5 | 6 => .int .i64 x6 | 7 => .int .i64 x7 | 8 => .int .i64 x8 | 9 => .int .i64 x9 | _ => .nilIface⟩⟩
  have I : In x0 x1 x2 x3 x4 x5 x6 x7 x8 x9 := ⟨⟨1, rfl⟩, ⟨1, rfl⟩, ⟨1, rfl⟩, ⟨1, rfl⟩, ⟨1, rfl⟩, ⟨1, rfl⟩, ⟨1, rfl⟩, ⟨1, rfl⟩, ⟨1, rfl⟩, ⟨1, rfl⟩⟩
  exact main I (cs I) B w

theorem own : ownKnob Try.prog.godebug = none := by kernel_rfl
theorem len2 {l : List Value} (h : l.length = 2) : ∃ a0 a1, l = [a0, a1] := by
  match l, h with
  | [a0, a1], _ => exact ⟨a0, a1, rfl⟩
theorem len5 {l : List Value} (h : l.length = 5) : ∃ a0 a1 a2 a3 a4, l = [a0, a1, a2, a3, a4] := by
  match l, h with
  | [a0, a1, a2, a3, a4], _ => exact ⟨a0, a1, a2, a3, a4, rfl⟩
theorem cells23 : Try.prog.cellsOf 23 = 5 := by kernel_rfl
theorem cells25 : Try.prog.cellsOf 25 = 2 := by kernel_rfl
theorem walkW {x0 x1 x2 x3 x4 x5 x6 : Int} (h0 : Good.In64 x0) (h1 : Good.In64 x1) (h2 : Good.In64 x2) (h3 : Good.In64 x3) (h4 : Good.In64 x4) (h5 : Good.In64 x5) (h6 : Good.In64 x6) (w : World) :
    Calls Try.prog 3 #[.agg #[.int .i64 x0, .int .i64 x1, .int .i64 x2, .int .i64 x3, .int .i64 x4], .agg #[.int .i64 x5, .int .i64 x6]] w fun e w' => e = .returned (.bool true) ∧ Below w.heap.size w w' := by
  have hb := Good.chk_bd x0 x1 x2 x3 x4
  have he := Most.e_two (x0 := x0) (x1 := x1) (x2 := x2) (x3 := x3) (x4 := x4) h5 h6
  have hm := Most.most_bd (x0 := x0) (x1 := x1) (x2 := x2) (x3 := x3) (x4 := x4) h5 h6
  refine walk x0 x1 x2 x3 x4 x5 x6 (Good.chk x0 x1 x2 x3 x4) (Most.most x0 x1 x2 x3 x4 x5 x6) (w31.r0 x0 x1 x2 x3 x4 x5 x6) (fun I => ?_) ?_ w
  · exact (Ev.csOk_bool (Ev.run_closed mixed closed16) (Ev.csOk_cons (Good.cchk h0 h1 h2 h3 h4 I.i0 I.i1 I.i2 I.i3 I.i4 rfl I.i7 rfl) (Ev.csOk_cons (Good.rchk h0 h1 h2 h3 h4 I.i0 I.i1 I.i2 I.i3 I.i4 rfl I.i7 rfl) (Ev.csOk_cons (Most.most_c h0 h1 h2 h3 h4 h5 h6 I.i0 I.i1 I.i2 I.i3 I.i4 I.i5 I.i6 I.i8 I.i9) (Ev.csOk_nil _)))))
  · exact { l0 := h0.1, u0 := h0.2, l1 := h1.1, u1 := h1.2, l2 := h2.1, u2 := h2.2, l3 := h3.1, u3 := h3.2, l4 := h4.1, u4 := h4.2, l5 := h5.1, u5 := h5.2, l6 := h6.1, u6 := h6.2, l7 := (by omega), u7 := (by omega), l8 := (by omega), u8 := (by omega), l9 := (by omega), u9 := (by omega), g0 := Most.f_bad h5 h6, g1 := fun e => (by have := Good.chk_zero e; omega), g2 := fun e => (by have := Good.chk_zero e; omega), g3 := fun e => (by have := Good.chk_zero e; omega), g4 := fun e => (by have := Good.chk_zero e; omega), g5 := fun e => (by have := Good.chk_zero e; omega), g6 := fun e => (by have := Good.chk_zero e; omega), g7 := fun e => (by have := Good.chk_zero e; omega), g8 := fun e => (by have := Good.chk_zero e; omega), g9 := fun e => (by have := Good.chk_zero e; omega), g10 := fun e => (by have := Good.chk_zero e; omega), g11 := fun e => (by have := Most.nl (Good.chk_zero e); omega), g12 := fun e => Most.e_good h5 h6 (Good.chk_zero e), g13 := fun e f => Most.f_m h5 h6 (Good.chk_zero e) f, g14 := fun _ => Most.f_z }

set_option maxRecDepth 100000 in
set_option maxHeartbeats 4000000 in
theorem lifted (os : Os) (started : os.Started) (H : Type) (enc : TypeId × Value → H) :
    ReturnsInHanded {} Try.checked os 3 .any (Rows.admitWordsSpec.pre6 enc Try.prog Try.f3 Rows.admitWordsRow.domain false) (Rows.admitWordsSpec.post enc Try.prog Try.f3 false true false false) := by
  refine returnsInHanded_of_change (C := Try.checked) own started (by kernel_rfl) Try.func3
    (ChangeSpec.witness6 (enc := enc) (C := Try.checked) false ⟨#[], #[.agg #[.int .i64 0, .int .i64 0, .int .i64 0, .int .i64 0, .int .i64 0], .agg #[.int .i64 0, .int .i64 0]], []⟩ 8 (by kernel_rfl) (by kernel_rfl) (by kernel_rfl) (by kernel_rfl)) ?_
  intro W base args ds gs before hval0 hW hcnd _
  have hval : ∀ (j : Nat) t v, Try.f3.params[j]? = some t → args[j]? = some v → Value.okWide Try.prog W .any base t v := hval0
  have hW' := hW
  obtain ⟨p, q, hA0, hV, rfl, hfz, hnd⟩ := hW
  have hA : DataW.TrodAll enc Try.prog W 0 (fun _ => true) true Try.f3.params.toList args.toList ds p := hA0
  rw [Try.params3] at hA hval
  obtain ⟨rfl, rfl⟩ := trodVars_none hV
  simp only [List.append_nil] at hW'
  obtain ⟨v0, vs0, d0, ds0, p0, q0, hv0, rfl, rfl, t0, hA0⟩ := trodAll_cons hA
  obtain ⟨v1, vs1, d1, ds1, p1, q1, hv1, rfl, rfl, t1, hA1⟩ := trodAll_cons hA0
  obtain ⟨rfl, rfl, rfl⟩ := trodAll_nil hA1
  obtain rfl : args = #[v0, v1] := by
    apply Array.ext'
    rw [hv0]
    rw [hv1]
  clear hv0 hv1
  obtain ⟨vl0, yl0, n0, rfl, hvl0, hf0⟩ := Ev.open_fields Try.underlying23 (by kernel_rfl) cells23 (hval 0 23 v0 rfl rfl) t0
  obtain ⟨u0_0, u0_1, u0_2, u0_3, u0_4, rfl⟩ : ∃ u0_0 u0_1 u0_2 u0_3 u0_4, vl0 = [u0_0, u0_1, u0_2, u0_3, u0_4] := by
    exact len5 (hvl0.trans (by kernel_rfl))
  obtain ⟨w0_0, y0_0, hw0_0, hy0_0⟩ := hf0 0 _ rfl
  obtain rfl : u0_0 = w0_0 := Option.some.inj hw0_0
  obtain ⟨x0, e0_0, -, wa0⟩ := DataW.trod_int Try.underlying3 hy0_0
  simp at e0_0
  subst e0_0
  obtain ⟨w0_1, y0_1, hw0_1, hy0_1⟩ := hf0 1 _ rfl
  obtain rfl : u0_1 = w0_1 := Option.some.inj hw0_1
  obtain ⟨x1, e0_1, -, wa1⟩ := DataW.trod_int Try.underlying3 hy0_1
  simp at e0_1
  subst e0_1
  obtain ⟨w0_2, y0_2, hw0_2, hy0_2⟩ := hf0 2 _ rfl
  obtain rfl : u0_2 = w0_2 := Option.some.inj hw0_2
  obtain ⟨x2, e0_2, -, wa2⟩ := DataW.trod_int Try.underlying3 hy0_2
  simp at e0_2
  subst e0_2
  obtain ⟨w0_3, y0_3, hw0_3, hy0_3⟩ := hf0 3 _ rfl
  obtain rfl : u0_3 = w0_3 := Option.some.inj hw0_3
  obtain ⟨x3, e0_3, -, wa3⟩ := DataW.trod_int Try.underlying3 hy0_3
  simp at e0_3
  subst e0_3
  obtain ⟨w0_4, y0_4, hw0_4, hy0_4⟩ := hf0 4 _ rfl
  obtain rfl : u0_4 = w0_4 := Option.some.inj hw0_4
  obtain ⟨x4, e0_4, -, wa4⟩ := DataW.trod_int Try.underlying3 hy0_4
  simp at e0_4
  subst e0_4
  obtain ⟨vl1, yl1, n1, rfl, hvl1, hf1⟩ := Ev.open_fields Try.underlying25 (by kernel_rfl) cells25 (hval 1 25 v1 rfl rfl) t1
  obtain ⟨u1_0, u1_1, rfl⟩ : ∃ u1_0 u1_1, vl1 = [u1_0, u1_1] := by
    exact len2 (hvl1.trans (by kernel_rfl))
  obtain ⟨w1_0, y1_0, hw1_0, hy1_0⟩ := hf1 0 _ rfl
  obtain rfl : u1_0 = w1_0 := Option.some.inj hw1_0
  obtain ⟨x5, e1_0, -, wa5⟩ := DataW.trod_int Try.underlying3 hy1_0
  simp at e1_0
  subst e1_0
  obtain ⟨w1_1, y1_1, hw1_1, hy1_1⟩ := hf1 1 _ rfl
  obtain rfl : u1_1 = w1_1 := Option.some.inj hw1_1
  obtain ⟨x6, e1_1, -, wa6⟩ := DataW.trod_int Try.underlying3 hy1_1
  simp at e1_1
  subst e1_1
  refine (walkW (Frm.i64wf wa0) (Frm.i64wf wa1) (Frm.i64wf wa2) (Frm.i64wf wa3) (Frm.i64wf wa4) (Frm.i64wf wa5) (Frm.i64wf wa6) W).mono fun e W' ⟨he, hg⟩ => ?_
  subst he
  exact ⟨_, rfl, Frm.post_true (by kernel_rfl) (by kernel_rfl) rfl rfl Try.underlying4 hW' hg rfl⟩

theorem over : Rows.admitWordsRow.holds Try.pinned (OpenSpec.ofChange Rows.admitWordsSpec) :=
  OpenClaim.holds_of_wide 3 Try.f3 rfl rfl rfl rfl rfl rfl rfl ⟨rfl, rfl, rfl, rfl, rfl⟩ rfl rfl rfl rfl rfl (by kernel_rfl) Try.func3 (by kernel_rfl)
    (of_decide_eq_true (by kernel_rfl)) (by unfold Func.isWrapper; first | (rw [if_pos (by decide +kernel)]; kernel_rfl) | (rw [if_neg (by decide +kernel)]; exact ⟨rfl, rfl⟩))
    (fun os started H enc _ => lifted os started H enc)

theorem proved : Rows.AdmitWordsSaid := over
#print axioms proved
end Go.Proofs.Ytffaikcaenkkhab.admitWords
