/-
  'shunterlaw04.HeaderBack' returns true for every input: the evaluator goes through its text with the numbers left open; each comparison parts the ways. CONDITIONS: none but those of the row.
-/
import Derived.Test.YtknifojinmnkfaaHeaderBack1
import Derived.Test.YtknifojinmnkfaaHeaderBack2
import Derived.Test.YtknifojinmnkfaaHeaderBack3
import Derived.Test.YtknifojinmnkfaaHeaderBack4
import Derived.Test.YtknifojinmnkfaaHeaderBack5
import Derived.Lib.SmallJoins
namespace Go.Proofs.Ytknifojinmnkfaa.headerBack
open Go.ChangeShapes Go.WideShapes Go.ChangeAt Go.RowKit Go.Joins

section
variable [Inhabited Ev.Val]
theorem agg2 {S : Ev.Sig} {l l' : List Value} (h : Ev.LR S l l') : Ev.VR S (.agg ⟨l⟩) (.agg ⟨l'⟩) := .agg h.1 h.2
theorem fin {x0 x1 x2 x3 : Int} (I : In x0 x1 x2 x3) {A : List Ev.As} (hA : ∀ a ∈ A, Ev.AsOk a) (hr : Ev.run ⟨Try.prog, Ev.mkTT Try.prog, Ev.mkFT Try.prog, A, Qs, Cs⟩ 100000 4 [.agg ⟨[Ev.inp .i64 0, Ev.inp .i64 1]⟩, Ev.inp .i64 2, Ev.inp .u64 3] = some true) (w : World) :
    Calls Try.prog 4 #[.agg #[.int .i64 x0, .int .i64 x1], .int .i64 x2, .int .u64 x3] w fun e w' => e = .returned (.bool true) ∧ Below w.heap.size w w' :=
  Ev.run_calls (Ev.envOkA Try.prog A Qs Cs hA qs cs) mixed hr (.cons (agg2 (.cons (.sym I.i0) (.cons (.sym I.i1) .nil))) (.cons (.sym I.i2) (.cons (.sym I.i3) .nil))) w

set_option maxRecDepth 100000 in
set_option maxHeartbeats 4000000 in
theorem main {x0 x1 x2 x3 : Int} (I : In x0 x1 x2 x3) (B : Bd x0 x1 x2 x3) (w : World) :
    Calls Try.prog 4 #[.agg #[.int .i64 x0, .int .i64 x1], .int .i64 x2, .int .u64 x3] w fun e w' => e = .returned (.bool true) ∧ Below w.heap.size w w' := by
  by_cases h0 : z0 x0 x1 x2 x3 ≤ z1 x0 x1 x2 x3
  · have a0 := Ev.asOk_cons (Ev.asOk_le (is0 I) (is1 I) (Ev.dt h0)) Ev.asOk_nil
    by_cases h1 : z0 x0 x1 x2 x3 ≤ z2 x0 x1 x2 x3
    · have a1 := Ev.asOk_cons (Ev.asOk_le (is0 I) (is2 I) (Ev.dt h1)) a0
      by_cases h2 : z3 x0 x1 x2 x3 ≤ z1 x0 x1 x2 x3
      · have a2 := Ev.asOk_cons (Ev.asOk_le (is3 I) (is1 I) (Ev.dt h2)) a1
        by_cases h3 : z4 x0 x1 x2 x3 ≤ z5 x0 x1 x2 x3
        · have a3 := Ev.asOk_cons (Ev.asOk_le (is4 I) (is5 I) (Ev.dt h3)) a2
          by_cases h4 : z5 x0 x1 x2 x3 ≤ z6 x0 x1 x2 x3
          · have a4 := Ev.asOk_cons (Ev.asOk_le (is5 I) (is6 I) (Ev.dt h4)) a3
            by_cases h5 : z15 x0 x1 x2 x3 = z16 x0 x1 x2 x3
            · exact (dead0 x0 x1 x2 x3 B (z0 x0 x1 x2 x3) (z1 x0 x1 x2 x3) (z2 x0 x1 x2 x3) (z3 x0 x1 x2 x3) (z4 x0 x1 x2 x3) (z5 x0 x1 x2 x3) (z6 x0 x1 x2 x3) (z7 x0 x1 x2 x3) (z8 x0 x1 x2 x3) (z9 x0 x1 x2 x3) (z10 x0 x1 x2 x3) (z11 x0 x1 x2 x3) (z12 x0 x1 x2 x3) (z13 x0 x1 x2 x3) (z14 x0 x1 x2 x3) (z15 x0 x1 x2 x3) (z16 x0 x1 x2 x3) rfl rfl rfl rfl rfl rfl rfl rfl rfl rfl rfl rfl rfl rfl rfl rfl rfl h0 h1 h2 h3 h4 h5).elim
            · have a5 := Ev.asOk_cons (Ev.asOk_eq (is15 I) (is16 I) (Ev.df h5)) a4
              by_cases h6 : z15 x0 x1 x2 x3 = z12 x0 x1 x2 x3
              · have a6 := Ev.asOk_cons (Ev.asOk_eq (is15 I) (is12 I) (Ev.dt h6)) a5
                by_cases h7 : z16 x0 x1 x2 x3 ≤ z17 x0 x1 x2 x3
                · have a7 := Ev.asOk_cons (Ev.asOk_le (is16 I) (is17 I) (Ev.dt h7)) a6
                  by_cases h8 : z17 x0 x1 x2 x3 ≤ z18 x0 x1 x2 x3
                  · have a8 := Ev.asOk_cons (Ev.asOk_le (is17 I) (is18 I) (Ev.dt h8)) a7
                    by_cases h9 : z19 x0 x1 x2 x3 = z5 x0 x1 x2 x3
                    · have a9 := Ev.asOk_cons (Ev.asOk_eq (is19 I) (is5 I) (Ev.dt h9)) a8
                      by_cases h10 : z21 x0 x1 x2 x3 = z16 x0 x1 x2 x3
                      · have a10 := Ev.asOk_cons (Ev.asOk_eq (is21 I) (is16 I) (Ev.dt h10)) a9
                        by_cases h11 : z22 x0 x1 x2 x3 ≤ z24 x0 x1 x2 x3
                        · have a11 := Ev.asOk_cons (Ev.asOk_le (is22 I) (is24 I) (Ev.dt h11)) a10
                          by_cases h12 : z21 x0 x1 x2 x3 = z12 x0 x1 x2 x3
                          · exact (dead1 x0 x1 x2 x3 B (z0 x0 x1 x2 x3) (z1 x0 x1 x2 x3) (z2 x0 x1 x2 x3) (z3 x0 x1 x2 x3) (z4 x0 x1 x2 x3) (z5 x0 x1 x2 x3) (z6 x0 x1 x2 x3) (z7 x0 x1 x2 x3) (z8 x0 x1 x2 x3) (z9 x0 x1 x2 x3) (z10 x0 x1 x2 x3) (z11 x0 x1 x2 x3) (z12 x0 x1 x2 x3) (z13 x0 x1 x2 x3) (z14 x0 x1 x2 x3) (z15 x0 x1 x2 x3) (z16 x0 x1 x2 x3) (z17 x0 x1 x2 x3) (z18 x0 x1 x2 x3) (z19 x0 x1 x2 x3) (z20 x0 x1 x2 x3) (z21 x0 x1 x2 x3) (z22 x0 x1 x2 x3) (z23 x0 x1 x2 x3) (z24 x0 x1 x2 x3) rfl rfl rfl rfl rfl rfl rfl rfl rfl rfl rfl rfl rfl rfl rfl rfl rfl rfl rfl rfl rfl rfl rfl rfl rfl h0 h1 h2 h3 h4 h5 h6 h7 h8 h9 h10 h11 h12).elim
                          · have a12 := Ev.asOk_cons (Ev.asOk_eq (is21 I) (is12 I) (Ev.df h12)) a11
                            exact fin I a12 run0 w
                        · have a11 := Ev.asOk_cons (Ev.asOk_le (is22 I) (is24 I) (Ev.df h11)) a10
                          by_cases h12 : z0 x0 x1 x2 x3 ≤ z27 x0 x1 x2 x3
                          · have a12 := Ev.asOk_cons (Ev.asOk_le (is0 I) (is27 I) (Ev.dt h12)) a11
                            by_cases h13 : z0 x0 x1 x2 x3 ≤ z28 x0 x1 x2 x3
                            · have a13 := Ev.asOk_cons (Ev.asOk_le (is0 I) (is28 I) (Ev.dt h13)) a12
                              by_cases h14 : z3 x0 x1 x2 x3 ≤ z27 x0 x1 x2 x3
                              · have a14 := Ev.asOk_cons (Ev.asOk_le (is3 I) (is27 I) (Ev.dt h14)) a13
                                by_cases h15 : z21 x0 x1 x2 x3 = z12 x0 x1 x2 x3
                                · exact (dead2 x0 x1 x2 x3 B (z0 x0 x1 x2 x3) (z1 x0 x1 x2 x3) (z2 x0 x1 x2 x3) (z3 x0 x1 x2 x3) (z4 x0 x1 x2 x3) (z5 x0 x1 x2 x3) (z6 x0 x1 x2 x3) (z7 x0 x1 x2 x3) (z8 x0 x1 x2 x3) (z9 x0 x1 x2 x3) (z10 x0 x1 x2 x3) (z11 x0 x1 x2 x3) (z12 x0 x1 x2 x3) (z13 x0 x1 x2 x3) (z14 x0 x1 x2 x3) (z15 x0 x1 x2 x3) (z16 x0 x1 x2 x3) (z17 x0 x1 x2 x3) (z18 x0 x1 x2 x3) (z19 x0 x1 x2 x3) (z20 x0 x1 x2 x3) (z21 x0 x1 x2 x3) (z22 x0 x1 x2 x3) (z23 x0 x1 x2 x3) (z24 x0 x1 x2 x3) (z25 x0 x1 x2 x3) (z26 x0 x1 x2 x3) (z27 x0 x1 x2 x3) (z28 x0 x1 x2 x3) rfl rfl rfl rfl rfl rfl rfl rfl rfl rfl rfl rfl rfl rfl rfl rfl rfl rfl rfl rfl rfl rfl rfl rfl rfl rfl rfl rfl rfl h0 h1 h2 h3 h4 h5 h6 h7 h8 h9 h10 h11 h12 h13 h14 h15).elim
                                · have a15 := Ev.asOk_cons (Ev.asOk_eq (is21 I) (is12 I) (Ev.df h15)) a14
                                  exact fin I a15 run1 w
                              · have a14 := Ev.asOk_cons (Ev.asOk_le (is3 I) (is27 I) (Ev.df h14)) a13
                                by_cases h15 : z3 x0 x1 x2 x3 ≤ z28 x0 x1 x2 x3
                                · exact (dead3 x0 x1 x2 x3 B (z0 x0 x1 x2 x3) (z1 x0 x1 x2 x3) (z2 x0 x1 x2 x3) (z3 x0 x1 x2 x3) (z4 x0 x1 x2 x3) (z5 x0 x1 x2 x3) (z6 x0 x1 x2 x3) (z7 x0 x1 x2 x3) (z8 x0 x1 x2 x3) (z9 x0 x1 x2 x3) (z10 x0 x1 x2 x3) (z11 x0 x1 x2 x3) (z12 x0 x1 x2 x3) (z13 x0 x1 x2 x3) (z14 x0 x1 x2 x3) (z15 x0 x1 x2 x3) (z16 x0 x1 x2 x3) (z17 x0 x1 x2 x3) (z18 x0 x1 x2 x3) (z19 x0 x1 x2 x3) (z20 x0 x1 x2 x3) (z21 x0 x1 x2 x3) (z22 x0 x1 x2 x3) (z23 x0 x1 x2 x3) (z24 x0 x1 x2 x3) (z25 x0 x1 x2 x3) (z26 x0 x1 x2 x3) (z27 x0 x1 x2 x3) (z28 x0 x1 x2 x3) rfl rfl rfl rfl rfl rfl rfl rfl rfl rfl rfl rfl rfl rfl rfl rfl rfl rfl rfl rfl rfl rfl rfl rfl rfl rfl rfl rfl rfl h0 h1 h2 h3 h4 h5 h6 h7 h8 h9 h10 h11 h12 h13 h14 h15).elim
                                · have a15 := Ev.asOk_cons (Ev.asOk_le (is3 I) (is28 I) (Ev.df h15)) a14
                                  by_cases h16 : z30 x0 x1 x2 x3 ≤ z3 x0 x1 x2 x3
                                  · have a16 := Ev.asOk_cons (Ev.asOk_le (is30 I) (is3 I) (Ev.dt h16)) a15
                                    by_cases h17 : z37 x0 x1 x2 x3 = z20 x0 x1 x2 x3
                                    · have a17 := Ev.asOk_cons (Ev.asOk_eq (is37 I) (is20 I) (Ev.dt h17)) a16
                                      exact fin I a17 run2 w
                                    · exact (dead4 x0 x1 x2 x3 B (z0 x0 x1 x2 x3) (z1 x0 x1 x2 x3) (z2 x0 x1 x2 x3) (z3 x0 x1 x2 x3) (z4 x0 x1 x2 x3) (z5 x0 x1 x2 x3) (z6 x0 x1 x2 x3) (z7 x0 x1 x2 x3) (z8 x0 x1 x2 x3) (z9 x0 x1 x2 x3) (z10 x0 x1 x2 x3) (z11 x0 x1 x2 x3) (z12 x0 x1 x2 x3) (z13 x0 x1 x2 x3) (z14 x0 x1 x2 x3) (z15 x0 x1 x2 x3) (z16 x0 x1 x2 x3) (z17 x0 x1 x2 x3) (z18 x0 x1 x2 x3) (z19 x0 x1 x2 x3) (z20 x0 x1 x2 x3) (z21 x0 x1 x2 x3) (z22 x0 x1 x2 x3) (z23 x0 x1 x2 x3) (z24 x0 x1 x2 x3) (z25 x0 x1 x2 x3) (z26 x0 x1 x2 x3) (z27 x0 x1 x2 x3) (z28 x0 x1 x2 x3) (z29 x0 x1 x2 x3) (z30 x0 x1 x2 x3) (z31 x0 x1 x2 x3) (z32 x0 x1 x2 x3) (z33 x0 x1 x2 x3) (z34 x0 x1 x2 x3) (z35 x0 x1 x2 x3) (z36 x0 x1 x2 x3) (z37 x0 x1 x2 x3) rfl rfl rfl rfl rfl rfl rfl rfl rfl rfl rfl rfl rfl rfl rfl rfl rfl rfl rfl rfl rfl rfl rfl rfl rfl rfl rfl rfl rfl rfl rfl rfl rfl rfl rfl rfl rfl rfl h0 h1 h2 h3 h4 h5 h6 h7 h8 h9 h10 h11 h12 h13 h14 h15 h16 h17).elim
                                  · have a16 := Ev.asOk_cons (Ev.asOk_le (is30 I) (is3 I) (Ev.df h16)) a15
                                    by_cases h17 : z21 x0 x1 x2 x3 = z12 x0 x1 x2 x3
                                    · exact (dead5 x0 x1 x2 x3 B (z0 x0 x1 x2 x3) (z1 x0 x1 x2 x3) (z2 x0 x1 x2 x3) (z3 x0 x1 x2 x3) (z4 x0 x1 x2 x3) (z5 x0 x1 x2 x3) (z6 x0 x1 x2 x3) (z7 x0 x1 x2 x3) (z8 x0 x1 x2 x3) (z9 x0 x1 x2 x3) (z10 x0 x1 x2 x3) (z11 x0 x1 x2 x3) (z12 x0 x1 x2 x3) (z13 x0 x1 x2 x3) (z14 x0 x1 x2 x3) (z15 x0 x1 x2 x3) (z16 x0 x1 x2 x3) (z17 x0 x1 x2 x3) (z18 x0 x1 x2 x3) (z19 x0 x1 x2 x3) (z20 x0 x1 x2 x3) (z21 x0 x1 x2 x3) (z22 x0 x1 x2 x3) (z23 x0 x1 x2 x3) (z24 x0 x1 x2 x3) (z25 x0 x1 x2 x3) (z26 x0 x1 x2 x3) (z27 x0 x1 x2 x3) (z28 x0 x1 x2 x3) (z29 x0 x1 x2 x3) (z30 x0 x1 x2 x3) rfl rfl rfl rfl rfl rfl rfl rfl rfl rfl rfl rfl rfl rfl rfl rfl rfl rfl rfl rfl rfl rfl rfl rfl rfl rfl rfl rfl rfl rfl rfl h0 h1 h2 h3 h4 h5 h6 h7 h8 h9 h10 h11 h12 h13 h14 h15 h16 h17).elim
                                    · have a17 := Ev.asOk_cons (Ev.asOk_eq (is21 I) (is12 I) (Ev.df h17)) a16
                                      exact fin I a17 run3 w
                            · exact (dead6 x0 x1 x2 x3 B (z0 x0 x1 x2 x3) (z1 x0 x1 x2 x3) (z2 x0 x1 x2 x3) (z3 x0 x1 x2 x3) (z4 x0 x1 x2 x3) (z5 x0 x1 x2 x3) (z6 x0 x1 x2 x3) (z7 x0 x1 x2 x3) (z8 x0 x1 x2 x3) (z9 x0 x1 x2 x3) (z10 x0 x1 x2 x3) (z11 x0 x1 x2 x3) (z12 x0 x1 x2 x3) (z13 x0 x1 x2 x3) (z14 x0 x1 x2 x3) (z15 x0 x1 x2 x3) (z16 x0 x1 x2 x3) (z17 x0 x1 x2 x3) (z18 x0 x1 x2 x3) (z19 x0 x1 x2 x3) (z20 x0 x1 x2 x3) (z21 x0 x1 x2 x3) (z22 x0 x1 x2 x3) (z23 x0 x1 x2 x3) (z24 x0 x1 x2 x3) (z25 x0 x1 x2 x3) (z26 x0 x1 x2 x3) (z27 x0 x1 x2 x3) (z28 x0 x1 x2 x3) rfl rfl rfl rfl rfl rfl rfl rfl rfl rfl rfl rfl rfl rfl rfl rfl rfl rfl rfl rfl rfl rfl rfl rfl rfl rfl rfl rfl rfl h0 h1 h2 h3 h4 h5 h6 h7 h8 h9 h10 h11 h12 h13).elim
                          · exact (dead7 x0 x1 x2 x3 B (z0 x0 x1 x2 x3) (z1 x0 x1 x2 x3) (z2 x0 x1 x2 x3) (z3 x0 x1 x2 x3) (z4 x0 x1 x2 x3) (z5 x0 x1 x2 x3) (z6 x0 x1 x2 x3) (z7 x0 x1 x2 x3) (z8 x0 x1 x2 x3) (z9 x0 x1 x2 x3) (z10 x0 x1 x2 x3) (z11 x0 x1 x2 x3) (z12 x0 x1 x2 x3) (z13 x0 x1 x2 x3) (z14 x0 x1 x2 x3) (z15 x0 x1 x2 x3) (z16 x0 x1 x2 x3) (z17 x0 x1 x2 x3) (z18 x0 x1 x2 x3) (z19 x0 x1 x2 x3) (z20 x0 x1 x2 x3) (z21 x0 x1 x2 x3) (z22 x0 x1 x2 x3) (z23 x0 x1 x2 x3) (z24 x0 x1 x2 x3) (z25 x0 x1 x2 x3) (z26 x0 x1 x2 x3) (z27 x0 x1 x2 x3) rfl rfl rfl rfl rfl rfl rfl rfl rfl rfl rfl rfl rfl rfl rfl rfl rfl rfl rfl rfl rfl rfl rfl rfl rfl rfl rfl rfl h0 h1 h2 h3 h4 h5 h6 h7 h8 h9 h10 h11 h12).elim
                      · have a10 := Ev.asOk_cons (Ev.asOk_eq (is21 I) (is16 I) (Ev.df h10)) a9
                        by_cases h11 : z21 x0 x1 x2 x3 = z12 x0 x1 x2 x3
                        · have a11 := Ev.asOk_cons (Ev.asOk_eq (is21 I) (is12 I) (Ev.dt h11)) a10
                          by_cases h12 : z16 x0 x1 x2 x3 ≤ z25 x0 x1 x2 x3
                          · have a12 := Ev.asOk_cons (Ev.asOk_le (is16 I) (is25 I) (Ev.dt h12)) a11
                            by_cases h13 : z25 x0 x1 x2 x3 ≤ z18 x0 x1 x2 x3
                            · have a13 := Ev.asOk_cons (Ev.asOk_le (is25 I) (is18 I) (Ev.dt h13)) a12
                              by_cases h14 : z4 x0 x1 x2 x3 ≤ z38 x0 x1 x2 x3
                              · have a14 := Ev.asOk_cons (Ev.asOk_le (is4 I) (is38 I) (Ev.dt h14)) a13
                                by_cases h15 : z38 x0 x1 x2 x3 ≤ z6 x0 x1 x2 x3
                                · have a15 := Ev.asOk_cons (Ev.asOk_le (is38 I) (is6 I) (Ev.dt h15)) a14
                                  by_cases h16 : z42 x0 x1 x2 x3 = z20 x0 x1 x2 x3
                                  · have a16 := Ev.asOk_cons (Ev.asOk_eq (is42 I) (is20 I) (Ev.dt h16)) a15
                                    exact fin I a16 run4 w
                                  · exact (dead8 x0 x1 x2 x3 B (z0 x0 x1 x2 x3) (z1 x0 x1 x2 x3) (z2 x0 x1 x2 x3) (z3 x0 x1 x2 x3) (z4 x0 x1 x2 x3) (z5 x0 x1 x2 x3) (z6 x0 x1 x2 x3) (z7 x0 x1 x2 x3) (z8 x0 x1 x2 x3) (z9 x0 x1 x2 x3) (z10 x0 x1 x2 x3) (z11 x0 x1 x2 x3) (z12 x0 x1 x2 x3) (z13 x0 x1 x2 x3) (z14 x0 x1 x2 x3) (z15 x0 x1 x2 x3) (z16 x0 x1 x2 x3) (z17 x0 x1 x2 x3) (z18 x0 x1 x2 x3) (z19 x0 x1 x2 x3) (z20 x0 x1 x2 x3) (z21 x0 x1 x2 x3) (z25 x0 x1 x2 x3) (z38 x0 x1 x2 x3) (z39 x0 x1 x2 x3) (z40 x0 x1 x2 x3) (z41 x0 x1 x2 x3) (z42 x0 x1 x2 x3) rfl rfl rfl rfl rfl rfl rfl rfl rfl rfl rfl rfl rfl rfl rfl rfl rfl rfl rfl rfl rfl rfl rfl rfl rfl rfl rfl rfl h0 h1 h2 h3 h4 h5 h6 h7 h8 h9 h10 h11 h12 h13 h14 h15 h16).elim
                                · exact (dead9 x0 x1 x2 x3 B (z0 x0 x1 x2 x3) (z1 x0 x1 x2 x3) (z2 x0 x1 x2 x3) (z3 x0 x1 x2 x3) (z4 x0 x1 x2 x3) (z5 x0 x1 x2 x3) (z6 x0 x1 x2 x3) (z7 x0 x1 x2 x3) (z8 x0 x1 x2 x3) (z9 x0 x1 x2 x3) (z10 x0 x1 x2 x3) (z11 x0 x1 x2 x3) (z12 x0 x1 x2 x3) (z13 x0 x1 x2 x3) (z14 x0 x1 x2 x3) (z15 x0 x1 x2 x3) (z16 x0 x1 x2 x3) (z17 x0 x1 x2 x3) (z18 x0 x1 x2 x3) (z19 x0 x1 x2 x3) (z20 x0 x1 x2 x3) (z21 x0 x1 x2 x3) (z25 x0 x1 x2 x3) (z38 x0 x1 x2 x3) rfl rfl rfl rfl rfl rfl rfl rfl rfl rfl rfl rfl rfl rfl rfl rfl rfl rfl rfl rfl rfl rfl rfl rfl h0 h1 h2 h3 h4 h5 h6 h7 h8 h9 h10 h11 h12 h13 h14 h15).elim
                              · exact (dead10 x0 x1 x2 x3 B (z0 x0 x1 x2 x3) (z1 x0 x1 x2 x3) (z2 x0 x1 x2 x3) (z3 x0 x1 x2 x3) (z4 x0 x1 x2 x3) (z5 x0 x1 x2 x3) (z6 x0 x1 x2 x3) (z7 x0 x1 x2 x3) (z8 x0 x1 x2 x3) (z9 x0 x1 x2 x3) (z10 x0 x1 x2 x3) (z11 x0 x1 x2 x3) (z12 x0 x1 x2 x3) (z13 x0 x1 x2 x3) (z14 x0 x1 x2 x3) (z15 x0 x1 x2 x3) (z16 x0 x1 x2 x3) (z17 x0 x1 x2 x3) (z18 x0 x1 x2 x3) (z19 x0 x1 x2 x3) (z20 x0 x1 x2 x3) (z21 x0 x1 x2 x3) (z25 x0 x1 x2 x3) (z38 x0 x1 x2 x3) rfl rfl rfl rfl rfl rfl rfl rfl rfl rfl rfl rfl rfl rfl rfl rfl rfl rfl rfl rfl rfl rfl rfl rfl h0 h1 h2 h3 h4 h5 h6 h7 h8 h9 h10 h11 h12 h13 h14).elim
                            · have a13 := Ev.asOk_cons (Ev.asOk_le (is25 I) (is18 I) (Ev.df h13)) a12
                              exact fin I a13 run5 w
                          · have a12 := Ev.asOk_cons (Ev.asOk_le (is16 I) (is25 I) (Ev.df h12)) a11
                            exact fin I a12 run6 w
                        · have a11 := Ev.asOk_cons (Ev.asOk_eq (is21 I) (is12 I) (Ev.df h11)) a10
                          exact fin I a11 run7 w
                    · exact (dead11 x0 x1 x2 x3 B (z0 x0 x1 x2 x3) (z1 x0 x1 x2 x3) (z2 x0 x1 x2 x3) (z3 x0 x1 x2 x3) (z4 x0 x1 x2 x3) (z5 x0 x1 x2 x3) (z6 x0 x1 x2 x3) (z7 x0 x1 x2 x3) (z8 x0 x1 x2 x3) (z9 x0 x1 x2 x3) (z10 x0 x1 x2 x3) (z11 x0 x1 x2 x3) (z12 x0 x1 x2 x3) (z13 x0 x1 x2 x3) (z14 x0 x1 x2 x3) (z15 x0 x1 x2 x3) (z16 x0 x1 x2 x3) (z17 x0 x1 x2 x3) (z18 x0 x1 x2 x3) (z19 x0 x1 x2 x3) rfl rfl rfl rfl rfl rfl rfl rfl rfl rfl rfl rfl rfl rfl rfl rfl rfl rfl rfl rfl h0 h1 h2 h3 h4 h5 h6 h7 h8 h9).elim
                  · exact (dead12 x0 x1 x2 x3 B (z0 x0 x1 x2 x3) (z1 x0 x1 x2 x3) (z2 x0 x1 x2 x3) (z3 x0 x1 x2 x3) (z4 x0 x1 x2 x3) (z5 x0 x1 x2 x3) (z6 x0 x1 x2 x3) (z7 x0 x1 x2 x3) (z8 x0 x1 x2 x3) (z9 x0 x1 x2 x3) (z10 x0 x1 x2 x3) (z11 x0 x1 x2 x3) (z12 x0 x1 x2 x3) (z13 x0 x1 x2 x3) (z14 x0 x1 x2 x3) (z15 x0 x1 x2 x3) (z16 x0 x1 x2 x3) (z17 x0 x1 x2 x3) (z18 x0 x1 x2 x3) rfl rfl rfl rfl rfl rfl rfl rfl rfl rfl rfl rfl rfl rfl rfl rfl rfl rfl rfl h0 h1 h2 h3 h4 h5 h6 h7 h8).elim
                · exact (dead13 x0 x1 x2 x3 B (z0 x0 x1 x2 x3) (z1 x0 x1 x2 x3) (z2 x0 x1 x2 x3) (z3 x0 x1 x2 x3) (z4 x0 x1 x2 x3) (z5 x0 x1 x2 x3) (z6 x0 x1 x2 x3) (z7 x0 x1 x2 x3) (z8 x0 x1 x2 x3) (z9 x0 x1 x2 x3) (z10 x0 x1 x2 x3) (z11 x0 x1 x2 x3) (z12 x0 x1 x2 x3) (z13 x0 x1 x2 x3) (z14 x0 x1 x2 x3) (z15 x0 x1 x2 x3) (z16 x0 x1 x2 x3) (z17 x0 x1 x2 x3) rfl rfl rfl rfl rfl rfl rfl rfl rfl rfl rfl rfl rfl rfl rfl rfl rfl rfl h0 h1 h2 h3 h4 h5 h6 h7).elim
              · exact (dead14 x0 x1 x2 x3 B (z0 x0 x1 x2 x3) (z1 x0 x1 x2 x3) (z2 x0 x1 x2 x3) (z3 x0 x1 x2 x3) (z4 x0 x1 x2 x3) (z5 x0 x1 x2 x3) (z6 x0 x1 x2 x3) (z7 x0 x1 x2 x3) (z8 x0 x1 x2 x3) (z9 x0 x1 x2 x3) (z10 x0 x1 x2 x3) (z11 x0 x1 x2 x3) (z12 x0 x1 x2 x3) (z13 x0 x1 x2 x3) (z14 x0 x1 x2 x3) (z15 x0 x1 x2 x3) (z16 x0 x1 x2 x3) rfl rfl rfl rfl rfl rfl rfl rfl rfl rfl rfl rfl rfl rfl rfl rfl rfl h0 h1 h2 h3 h4 h5 h6).elim
          · have a4 := Ev.asOk_cons (Ev.asOk_le (is5 I) (is6 I) (Ev.df h4)) a3
            by_cases h5 : z21 x0 x1 x2 x3 = z16 x0 x1 x2 x3
            · have a5 := Ev.asOk_cons (Ev.asOk_eq (is21 I) (is16 I) (Ev.dt h5)) a4
              by_cases h6 : z22 x0 x1 x2 x3 ≤ z24 x0 x1 x2 x3
              · have a6 := Ev.asOk_cons (Ev.asOk_le (is22 I) (is24 I) (Ev.dt h6)) a5
                by_cases h7 : z21 x0 x1 x2 x3 = z12 x0 x1 x2 x3
                · exact (dead15 x0 x1 x2 x3 B (z0 x0 x1 x2 x3) (z1 x0 x1 x2 x3) (z2 x0 x1 x2 x3) (z3 x0 x1 x2 x3) (z4 x0 x1 x2 x3) (z5 x0 x1 x2 x3) (z6 x0 x1 x2 x3) (z20 x0 x1 x2 x3) (z14 x0 x1 x2 x3) (z21 x0 x1 x2 x3) (z16 x0 x1 x2 x3) (z22 x0 x1 x2 x3) (z23 x0 x1 x2 x3) (z24 x0 x1 x2 x3) (z12 x0 x1 x2 x3) rfl rfl rfl rfl rfl rfl rfl rfl rfl rfl rfl rfl rfl rfl rfl h0 h1 h2 h3 h4 h5 h6 h7).elim
                · have a7 := Ev.asOk_cons (Ev.asOk_eq (is21 I) (is12 I) (Ev.df h7)) a6
                  exact fin I a7 run8 w
              · have a6 := Ev.asOk_cons (Ev.asOk_le (is22 I) (is24 I) (Ev.df h6)) a5
                by_cases h7 : z0 x0 x1 x2 x3 ≤ z27 x0 x1 x2 x3
                · have a7 := Ev.asOk_cons (Ev.asOk_le (is0 I) (is27 I) (Ev.dt h7)) a6
                  by_cases h8 : z0 x0 x1 x2 x3 ≤ z28 x0 x1 x2 x3
                  · have a8 := Ev.asOk_cons (Ev.asOk_le (is0 I) (is28 I) (Ev.dt h8)) a7
                    by_cases h9 : z3 x0 x1 x2 x3 ≤ z27 x0 x1 x2 x3
                    · have a9 := Ev.asOk_cons (Ev.asOk_le (is3 I) (is27 I) (Ev.dt h9)) a8
                      by_cases h10 : z21 x0 x1 x2 x3 = z12 x0 x1 x2 x3
                      · exact (dead16 x0 x1 x2 x3 B (z0 x0 x1 x2 x3) (z1 x0 x1 x2 x3) (z2 x0 x1 x2 x3) (z3 x0 x1 x2 x3) (z4 x0 x1 x2 x3) (z5 x0 x1 x2 x3) (z6 x0 x1 x2 x3) (z20 x0 x1 x2 x3) (z14 x0 x1 x2 x3) (z21 x0 x1 x2 x3) (z16 x0 x1 x2 x3) (z22 x0 x1 x2 x3) (z23 x0 x1 x2 x3) (z24 x0 x1 x2 x3) (z9 x0 x1 x2 x3) (z25 x0 x1 x2 x3) (z26 x0 x1 x2 x3) (z27 x0 x1 x2 x3) (z28 x0 x1 x2 x3) (z12 x0 x1 x2 x3) rfl rfl rfl rfl rfl rfl rfl rfl rfl rfl rfl rfl rfl rfl rfl rfl rfl rfl rfl rfl h0 h1 h2 h3 h4 h5 h6 h7 h8 h9 h10).elim
                      · have a10 := Ev.asOk_cons (Ev.asOk_eq (is21 I) (is12 I) (Ev.df h10)) a9
                        exact fin I a10 run9 w
                    · have a9 := Ev.asOk_cons (Ev.asOk_le (is3 I) (is27 I) (Ev.df h9)) a8
                      by_cases h10 : z3 x0 x1 x2 x3 ≤ z28 x0 x1 x2 x3
                      · exact (dead17 x0 x1 x2 x3 B (z0 x0 x1 x2 x3) (z1 x0 x1 x2 x3) (z2 x0 x1 x2 x3) (z3 x0 x1 x2 x3) (z4 x0 x1 x2 x3) (z5 x0 x1 x2 x3) (z6 x0 x1 x2 x3) (z20 x0 x1 x2 x3) (z14 x0 x1 x2 x3) (z21 x0 x1 x2 x3) (z16 x0 x1 x2 x3) (z22 x0 x1 x2 x3) (z23 x0 x1 x2 x3) (z24 x0 x1 x2 x3) (z9 x0 x1 x2 x3) (z25 x0 x1 x2 x3) (z26 x0 x1 x2 x3) (z27 x0 x1 x2 x3) (z28 x0 x1 x2 x3) rfl rfl rfl rfl rfl rfl rfl rfl rfl rfl rfl rfl rfl rfl rfl rfl rfl rfl rfl h0 h1 h2 h3 h4 h5 h6 h7 h8 h9 h10).elim
                      · have a10 := Ev.asOk_cons (Ev.asOk_le (is3 I) (is28 I) (Ev.df h10)) a9
                        by_cases h11 : z30 x0 x1 x2 x3 ≤ z3 x0 x1 x2 x3
                        · have a11 := Ev.asOk_cons (Ev.asOk_le (is30 I) (is3 I) (Ev.dt h11)) a10
                          by_cases h12 : z37 x0 x1 x2 x3 = z20 x0 x1 x2 x3
                          · have a12 := Ev.asOk_cons (Ev.asOk_eq (is37 I) (is20 I) (Ev.dt h12)) a11
                            exact fin I a12 run10 w
                          · exact (dead18 x0 x1 x2 x3 B (z0 x0 x1 x2 x3) (z1 x0 x1 x2 x3) (z2 x0 x1 x2 x3) (z3 x0 x1 x2 x3) (z4 x0 x1 x2 x3) (z5 x0 x1 x2 x3) (z6 x0 x1 x2 x3) (z20 x0 x1 x2 x3) (z14 x0 x1 x2 x3) (z21 x0 x1 x2 x3) (z16 x0 x1 x2 x3) (z22 x0 x1 x2 x3) (z23 x0 x1 x2 x3) (z24 x0 x1 x2 x3) (z9 x0 x1 x2 x3) (z25 x0 x1 x2 x3) (z26 x0 x1 x2 x3) (z27 x0 x1 x2 x3) (z28 x0 x1 x2 x3) (z29 x0 x1 x2 x3) (z30 x0 x1 x2 x3) (z7 x0 x1 x2 x3) (z31 x0 x1 x2 x3) (z32 x0 x1 x2 x3) (z33 x0 x1 x2 x3) (z34 x0 x1 x2 x3) (z35 x0 x1 x2 x3) (z36 x0 x1 x2 x3) (z37 x0 x1 x2 x3) rfl rfl rfl rfl rfl rfl rfl rfl rfl rfl rfl rfl rfl rfl rfl rfl rfl rfl rfl rfl rfl rfl rfl rfl rfl rfl rfl rfl rfl h0 h1 h2 h3 h4 h5 h6 h7 h8 h9 h10 h11 h12).elim
                        · have a11 := Ev.asOk_cons (Ev.asOk_le (is30 I) (is3 I) (Ev.df h11)) a10
                          by_cases h12 : z21 x0 x1 x2 x3 = z12 x0 x1 x2 x3
                          · exact (dead19 x0 x1 x2 x3 B (z0 x0 x1 x2 x3) (z1 x0 x1 x2 x3) (z2 x0 x1 x2 x3) (z3 x0 x1 x2 x3) (z4 x0 x1 x2 x3) (z5 x0 x1 x2 x3) (z6 x0 x1 x2 x3) (z20 x0 x1 x2 x3) (z14 x0 x1 x2 x3) (z21 x0 x1 x2 x3) (z16 x0 x1 x2 x3) (z22 x0 x1 x2 x3) (z23 x0 x1 x2 x3) (z24 x0 x1 x2 x3) (z9 x0 x1 x2 x3) (z25 x0 x1 x2 x3) (z26 x0 x1 x2 x3) (z27 x0 x1 x2 x3) (z28 x0 x1 x2 x3) (z29 x0 x1 x2 x3) (z30 x0 x1 x2 x3) (z12 x0 x1 x2 x3) rfl rfl rfl rfl rfl rfl rfl rfl rfl rfl rfl rfl rfl rfl rfl rfl rfl rfl rfl rfl rfl rfl h0 h1 h2 h3 h4 h5 h6 h7 h8 h9 h10 h11 h12).elim
                          · have a12 := Ev.asOk_cons (Ev.asOk_eq (is21 I) (is12 I) (Ev.df h12)) a11
                            exact fin I a12 run11 w
                  · exact (dead20 x0 x1 x2 x3 B (z0 x0 x1 x2 x3) (z1 x0 x1 x2 x3) (z2 x0 x1 x2 x3) (z3 x0 x1 x2 x3) (z4 x0 x1 x2 x3) (z5 x0 x1 x2 x3) (z6 x0 x1 x2 x3) (z20 x0 x1 x2 x3) (z14 x0 x1 x2 x3) (z21 x0 x1 x2 x3) (z16 x0 x1 x2 x3) (z22 x0 x1 x2 x3) (z23 x0 x1 x2 x3) (z24 x0 x1 x2 x3) (z9 x0 x1 x2 x3) (z25 x0 x1 x2 x3) (z26 x0 x1 x2 x3) (z27 x0 x1 x2 x3) (z28 x0 x1 x2 x3) rfl rfl rfl rfl rfl rfl rfl rfl rfl rfl rfl rfl rfl rfl rfl rfl rfl rfl rfl h0 h1 h2 h3 h4 h5 h6 h7 h8).elim
                · exact (dead21 x0 x1 x2 x3 B (z0 x0 x1 x2 x3) (z1 x0 x1 x2 x3) (z2 x0 x1 x2 x3) (z3 x0 x1 x2 x3) (z4 x0 x1 x2 x3) (z5 x0 x1 x2 x3) (z6 x0 x1 x2 x3) (z20 x0 x1 x2 x3) (z14 x0 x1 x2 x3) (z21 x0 x1 x2 x3) (z16 x0 x1 x2 x3) (z22 x0 x1 x2 x3) (z23 x0 x1 x2 x3) (z24 x0 x1 x2 x3) (z9 x0 x1 x2 x3) (z25 x0 x1 x2 x3) (z26 x0 x1 x2 x3) (z27 x0 x1 x2 x3) rfl rfl rfl rfl rfl rfl rfl rfl rfl rfl rfl rfl rfl rfl rfl rfl rfl rfl h0 h1 h2 h3 h4 h5 h6 h7).elim
            · have a5 := Ev.asOk_cons (Ev.asOk_eq (is21 I) (is16 I) (Ev.df h5)) a4
              by_cases h6 : z21 x0 x1 x2 x3 = z12 x0 x1 x2 x3
              · have a6 := Ev.asOk_cons (Ev.asOk_eq (is21 I) (is12 I) (Ev.dt h6)) a5
                by_cases h7 : z16 x0 x1 x2 x3 ≤ z25 x0 x1 x2 x3
                · have a7 := Ev.asOk_cons (Ev.asOk_le (is16 I) (is25 I) (Ev.dt h7)) a6
                  by_cases h8 : z25 x0 x1 x2 x3 ≤ z18 x0 x1 x2 x3
                  · have a8 := Ev.asOk_cons (Ev.asOk_le (is25 I) (is18 I) (Ev.dt h8)) a7
                    by_cases h9 : z4 x0 x1 x2 x3 ≤ z38 x0 x1 x2 x3
                    · have a9 := Ev.asOk_cons (Ev.asOk_le (is4 I) (is38 I) (Ev.dt h9)) a8
                      by_cases h10 : z38 x0 x1 x2 x3 ≤ z6 x0 x1 x2 x3
                      · have a10 := Ev.asOk_cons (Ev.asOk_le (is38 I) (is6 I) (Ev.dt h10)) a9
                        by_cases h11 : z42 x0 x1 x2 x3 = z20 x0 x1 x2 x3
                        · have a11 := Ev.asOk_cons (Ev.asOk_eq (is42 I) (is20 I) (Ev.dt h11)) a10
                          exact fin I a11 run12 w
                        · exact (dead22 x0 x1 x2 x3 B (z0 x0 x1 x2 x3) (z1 x0 x1 x2 x3) (z2 x0 x1 x2 x3) (z3 x0 x1 x2 x3) (z4 x0 x1 x2 x3) (z5 x0 x1 x2 x3) (z6 x0 x1 x2 x3) (z20 x0 x1 x2 x3) (z14 x0 x1 x2 x3) (z21 x0 x1 x2 x3) (z16 x0 x1 x2 x3) (z12 x0 x1 x2 x3) (z9 x0 x1 x2 x3) (z25 x0 x1 x2 x3) (z18 x0 x1 x2 x3) (z38 x0 x1 x2 x3) (z7 x0 x1 x2 x3) (z39 x0 x1 x2 x3) (z40 x0 x1 x2 x3) (z41 x0 x1 x2 x3) (z42 x0 x1 x2 x3) rfl rfl rfl rfl rfl rfl rfl rfl rfl rfl rfl rfl rfl rfl rfl rfl rfl rfl rfl rfl rfl h0 h1 h2 h3 h4 h5 h6 h7 h8 h9 h10 h11).elim
                      · exact (dead23 x0 x1 x2 x3 B (z0 x0 x1 x2 x3) (z1 x0 x1 x2 x3) (z2 x0 x1 x2 x3) (z3 x0 x1 x2 x3) (z4 x0 x1 x2 x3) (z5 x0 x1 x2 x3) (z6 x0 x1 x2 x3) (z20 x0 x1 x2 x3) (z14 x0 x1 x2 x3) (z21 x0 x1 x2 x3) (z16 x0 x1 x2 x3) (z12 x0 x1 x2 x3) (z9 x0 x1 x2 x3) (z25 x0 x1 x2 x3) (z18 x0 x1 x2 x3) (z38 x0 x1 x2 x3) rfl rfl rfl rfl rfl rfl rfl rfl rfl rfl rfl rfl rfl rfl rfl rfl h0 h1 h2 h3 h4 h5 h6 h7 h8 h9 h10).elim
                    · exact (dead24 x0 x1 x2 x3 B (z0 x0 x1 x2 x3) (z1 x0 x1 x2 x3) (z2 x0 x1 x2 x3) (z3 x0 x1 x2 x3) (z4 x0 x1 x2 x3) (z5 x0 x1 x2 x3) (z6 x0 x1 x2 x3) (z20 x0 x1 x2 x3) (z14 x0 x1 x2 x3) (z21 x0 x1 x2 x3) (z16 x0 x1 x2 x3) (z12 x0 x1 x2 x3) (z9 x0 x1 x2 x3) (z25 x0 x1 x2 x3) (z18 x0 x1 x2 x3) (z38 x0 x1 x2 x3) rfl rfl rfl rfl rfl rfl rfl rfl rfl rfl rfl rfl rfl rfl rfl rfl h0 h1 h2 h3 h4 h5 h6 h7 h8 h9).elim
                  · have a8 := Ev.asOk_cons (Ev.asOk_le (is25 I) (is18 I) (Ev.df h8)) a7
                    exact fin I a8 run13 w
                · have a7 := Ev.asOk_cons (Ev.asOk_le (is16 I) (is25 I) (Ev.df h7)) a6
                  exact fin I a7 run14 w
              · have a6 := Ev.asOk_cons (Ev.asOk_eq (is21 I) (is12 I) (Ev.df h6)) a5
                exact fin I a6 run15 w
        · have a3 := Ev.asOk_cons (Ev.asOk_le (is4 I) (is5 I) (Ev.df h3)) a2
          by_cases h4 : z21 x0 x1 x2 x3 = z16 x0 x1 x2 x3
          · have a4 := Ev.asOk_cons (Ev.asOk_eq (is21 I) (is16 I) (Ev.dt h4)) a3
            by_cases h5 : z22 x0 x1 x2 x3 ≤ z24 x0 x1 x2 x3
            · have a5 := Ev.asOk_cons (Ev.asOk_le (is22 I) (is24 I) (Ev.dt h5)) a4
              by_cases h6 : z21 x0 x1 x2 x3 = z12 x0 x1 x2 x3
              · exact (dead25 x0 x1 x2 x3 B (z0 x0 x1 x2 x3) (z1 x0 x1 x2 x3) (z2 x0 x1 x2 x3) (z3 x0 x1 x2 x3) (z4 x0 x1 x2 x3) (z5 x0 x1 x2 x3) (z20 x0 x1 x2 x3) (z14 x0 x1 x2 x3) (z21 x0 x1 x2 x3) (z16 x0 x1 x2 x3) (z22 x0 x1 x2 x3) (z23 x0 x1 x2 x3) (z24 x0 x1 x2 x3) (z12 x0 x1 x2 x3) rfl rfl rfl rfl rfl rfl rfl rfl rfl rfl rfl rfl rfl rfl h0 h1 h2 h3 h4 h5 h6).elim
              · have a6 := Ev.asOk_cons (Ev.asOk_eq (is21 I) (is12 I) (Ev.df h6)) a5
                exact fin I a6 run16 w
            · have a5 := Ev.asOk_cons (Ev.asOk_le (is22 I) (is24 I) (Ev.df h5)) a4
              by_cases h6 : z0 x0 x1 x2 x3 ≤ z27 x0 x1 x2 x3
              · have a6 := Ev.asOk_cons (Ev.asOk_le (is0 I) (is27 I) (Ev.dt h6)) a5
                by_cases h7 : z0 x0 x1 x2 x3 ≤ z28 x0 x1 x2 x3
                · have a7 := Ev.asOk_cons (Ev.asOk_le (is0 I) (is28 I) (Ev.dt h7)) a6
                  by_cases h8 : z3 x0 x1 x2 x3 ≤ z27 x0 x1 x2 x3
                  · have a8 := Ev.asOk_cons (Ev.asOk_le (is3 I) (is27 I) (Ev.dt h8)) a7
                    by_cases h9 : z21 x0 x1 x2 x3 = z12 x0 x1 x2 x3
                    · exact (dead26 x0 x1 x2 x3 B (z0 x0 x1 x2 x3) (z1 x0 x1 x2 x3) (z2 x0 x1 x2 x3) (z3 x0 x1 x2 x3) (z4 x0 x1 x2 x3) (z5 x0 x1 x2 x3) (z20 x0 x1 x2 x3) (z14 x0 x1 x2 x3) (z21 x0 x1 x2 x3) (z16 x0 x1 x2 x3) (z22 x0 x1 x2 x3) (z23 x0 x1 x2 x3) (z24 x0 x1 x2 x3) (z9 x0 x1 x2 x3) (z25 x0 x1 x2 x3) (z26 x0 x1 x2 x3) (z27 x0 x1 x2 x3) (z28 x0 x1 x2 x3) (z12 x0 x1 x2 x3) rfl rfl rfl rfl rfl rfl rfl rfl rfl rfl rfl rfl rfl rfl rfl rfl rfl rfl rfl h0 h1 h2 h3 h4 h5 h6 h7 h8 h9).elim
                    · have a9 := Ev.asOk_cons (Ev.asOk_eq (is21 I) (is12 I) (Ev.df h9)) a8
                      exact fin I a9 run17 w
                  · have a8 := Ev.asOk_cons (Ev.asOk_le (is3 I) (is27 I) (Ev.df h8)) a7
                    by_cases h9 : z3 x0 x1 x2 x3 ≤ z28 x0 x1 x2 x3
                    · exact (dead27 x0 x1 x2 x3 B (z0 x0 x1 x2 x3) (z1 x0 x1 x2 x3) (z2 x0 x1 x2 x3) (z3 x0 x1 x2 x3) (z4 x0 x1 x2 x3) (z5 x0 x1 x2 x3) (z20 x0 x1 x2 x3) (z14 x0 x1 x2 x3) (z21 x0 x1 x2 x3) (z16 x0 x1 x2 x3) (z22 x0 x1 x2 x3) (z23 x0 x1 x2 x3) (z24 x0 x1 x2 x3) (z9 x0 x1 x2 x3) (z25 x0 x1 x2 x3) (z26 x0 x1 x2 x3) (z27 x0 x1 x2 x3) (z28 x0 x1 x2 x3) rfl rfl rfl rfl rfl rfl rfl rfl rfl rfl rfl rfl rfl rfl rfl rfl rfl rfl h0 h1 h2 h3 h4 h5 h6 h7 h8 h9).elim
                    · have a9 := Ev.asOk_cons (Ev.asOk_le (is3 I) (is28 I) (Ev.df h9)) a8
                      by_cases h10 : z30 x0 x1 x2 x3 ≤ z3 x0 x1 x2 x3
                      · have a10 := Ev.asOk_cons (Ev.asOk_le (is30 I) (is3 I) (Ev.dt h10)) a9
                        by_cases h11 : z37 x0 x1 x2 x3 = z20 x0 x1 x2 x3
                        · have a11 := Ev.asOk_cons (Ev.asOk_eq (is37 I) (is20 I) (Ev.dt h11)) a10
                          exact fin I a11 run18 w
                        · exact (dead28 x0 x1 x2 x3 B (z0 x0 x1 x2 x3) (z1 x0 x1 x2 x3) (z2 x0 x1 x2 x3) (z3 x0 x1 x2 x3) (z4 x0 x1 x2 x3) (z5 x0 x1 x2 x3) (z20 x0 x1 x2 x3) (z14 x0 x1 x2 x3) (z21 x0 x1 x2 x3) (z16 x0 x1 x2 x3) (z22 x0 x1 x2 x3) (z23 x0 x1 x2 x3) (z24 x0 x1 x2 x3) (z9 x0 x1 x2 x3) (z25 x0 x1 x2 x3) (z26 x0 x1 x2 x3) (z27 x0 x1 x2 x3) (z28 x0 x1 x2 x3) (z29 x0 x1 x2 x3) (z30 x0 x1 x2 x3) (z7 x0 x1 x2 x3) (z31 x0 x1 x2 x3) (z32 x0 x1 x2 x3) (z33 x0 x1 x2 x3) (z34 x0 x1 x2 x3) (z35 x0 x1 x2 x3) (z36 x0 x1 x2 x3) (z37 x0 x1 x2 x3) rfl rfl rfl rfl rfl rfl rfl rfl rfl rfl rfl rfl rfl rfl rfl rfl rfl rfl rfl rfl rfl rfl rfl rfl rfl rfl rfl rfl h0 h1 h2 h3 h4 h5 h6 h7 h8 h9 h10 h11).elim
                      · have a10 := Ev.asOk_cons (Ev.asOk_le (is30 I) (is3 I) (Ev.df h10)) a9
                        by_cases h11 : z21 x0 x1 x2 x3 = z12 x0 x1 x2 x3
                        · exact (dead29 x0 x1 x2 x3 B (z0 x0 x1 x2 x3) (z1 x0 x1 x2 x3) (z2 x0 x1 x2 x3) (z3 x0 x1 x2 x3) (z4 x0 x1 x2 x3) (z5 x0 x1 x2 x3) (z20 x0 x1 x2 x3) (z14 x0 x1 x2 x3) (z21 x0 x1 x2 x3) (z16 x0 x1 x2 x3) (z22 x0 x1 x2 x3) (z23 x0 x1 x2 x3) (z24 x0 x1 x2 x3) (z9 x0 x1 x2 x3) (z25 x0 x1 x2 x3) (z26 x0 x1 x2 x3) (z27 x0 x1 x2 x3) (z28 x0 x1 x2 x3) (z29 x0 x1 x2 x3) (z30 x0 x1 x2 x3) (z12 x0 x1 x2 x3) rfl rfl rfl rfl rfl rfl rfl rfl rfl rfl rfl rfl rfl rfl rfl rfl rfl rfl rfl rfl rfl h0 h1 h2 h3 h4 h5 h6 h7 h8 h9 h10 h11).elim
                        · have a11 := Ev.asOk_cons (Ev.asOk_eq (is21 I) (is12 I) (Ev.df h11)) a10
                          exact fin I a11 run19 w
                · exact (dead30 x0 x1 x2 x3 B (z0 x0 x1 x2 x3) (z1 x0 x1 x2 x3) (z2 x0 x1 x2 x3) (z3 x0 x1 x2 x3) (z4 x0 x1 x2 x3) (z5 x0 x1 x2 x3) (z20 x0 x1 x2 x3) (z14 x0 x1 x2 x3) (z21 x0 x1 x2 x3) (z16 x0 x1 x2 x3) (z22 x0 x1 x2 x3) (z23 x0 x1 x2 x3) (z24 x0 x1 x2 x3) (z9 x0 x1 x2 x3) (z25 x0 x1 x2 x3) (z26 x0 x1 x2 x3) (z27 x0 x1 x2 x3) (z28 x0 x1 x2 x3) rfl rfl rfl rfl rfl rfl rfl rfl rfl rfl rfl rfl rfl rfl rfl rfl rfl rfl h0 h1 h2 h3 h4 h5 h6 h7).elim
              · exact (dead31 x0 x1 x2 x3 B (z0 x0 x1 x2 x3) (z1 x0 x1 x2 x3) (z2 x0 x1 x2 x3) (z3 x0 x1 x2 x3) (z4 x0 x1 x2 x3) (z5 x0 x1 x2 x3) (z20 x0 x1 x2 x3) (z14 x0 x1 x2 x3) (z21 x0 x1 x2 x3) (z16 x0 x1 x2 x3) (z22 x0 x1 x2 x3) (z23 x0 x1 x2 x3) (z24 x0 x1 x2 x3) (z9 x0 x1 x2 x3) (z25 x0 x1 x2 x3) (z26 x0 x1 x2 x3) (z27 x0 x1 x2 x3) rfl rfl rfl rfl rfl rfl rfl rfl rfl rfl rfl rfl rfl rfl rfl rfl rfl h0 h1 h2 h3 h4 h5 h6).elim
          · have a4 := Ev.asOk_cons (Ev.asOk_eq (is21 I) (is16 I) (Ev.df h4)) a3
            by_cases h5 : z21 x0 x1 x2 x3 = z12 x0 x1 x2 x3
            · have a5 := Ev.asOk_cons (Ev.asOk_eq (is21 I) (is12 I) (Ev.dt h5)) a4
              by_cases h6 : z16 x0 x1 x2 x3 ≤ z25 x0 x1 x2 x3
              · have a6 := Ev.asOk_cons (Ev.asOk_le (is16 I) (is25 I) (Ev.dt h6)) a5
                by_cases h7 : z25 x0 x1 x2 x3 ≤ z18 x0 x1 x2 x3
                · have a7 := Ev.asOk_cons (Ev.asOk_le (is25 I) (is18 I) (Ev.dt h7)) a6
                  by_cases h8 : z4 x0 x1 x2 x3 ≤ z38 x0 x1 x2 x3
                  · have a8 := Ev.asOk_cons (Ev.asOk_le (is4 I) (is38 I) (Ev.dt h8)) a7
                    by_cases h9 : z38 x0 x1 x2 x3 ≤ z6 x0 x1 x2 x3
                    · have a9 := Ev.asOk_cons (Ev.asOk_le (is38 I) (is6 I) (Ev.dt h9)) a8
                      by_cases h10 : z42 x0 x1 x2 x3 = z20 x0 x1 x2 x3
                      · have a10 := Ev.asOk_cons (Ev.asOk_eq (is42 I) (is20 I) (Ev.dt h10)) a9
                        exact fin I a10 run20 w
                      · exact (dead32 x0 x1 x2 x3 B (z0 x0 x1 x2 x3) (z1 x0 x1 x2 x3) (z2 x0 x1 x2 x3) (z3 x0 x1 x2 x3) (z4 x0 x1 x2 x3) (z5 x0 x1 x2 x3) (z20 x0 x1 x2 x3) (z14 x0 x1 x2 x3) (z21 x0 x1 x2 x3) (z16 x0 x1 x2 x3) (z12 x0 x1 x2 x3) (z9 x0 x1 x2 x3) (z25 x0 x1 x2 x3) (z18 x0 x1 x2 x3) (z38 x0 x1 x2 x3) (z6 x0 x1 x2 x3) (z7 x0 x1 x2 x3) (z39 x0 x1 x2 x3) (z40 x0 x1 x2 x3) (z41 x0 x1 x2 x3) (z42 x0 x1 x2 x3) rfl rfl rfl rfl rfl rfl rfl rfl rfl rfl rfl rfl rfl rfl rfl rfl rfl rfl rfl rfl rfl h0 h1 h2 h3 h4 h5 h6 h7 h8 h9 h10).elim
                    · exact (dead33 x0 x1 x2 x3 B (z0 x0 x1 x2 x3) (z1 x0 x1 x2 x3) (z2 x0 x1 x2 x3) (z3 x0 x1 x2 x3) (z4 x0 x1 x2 x3) (z5 x0 x1 x2 x3) (z20 x0 x1 x2 x3) (z14 x0 x1 x2 x3) (z21 x0 x1 x2 x3) (z16 x0 x1 x2 x3) (z12 x0 x1 x2 x3) (z9 x0 x1 x2 x3) (z25 x0 x1 x2 x3) (z18 x0 x1 x2 x3) (z38 x0 x1 x2 x3) (z6 x0 x1 x2 x3) rfl rfl rfl rfl rfl rfl rfl rfl rfl rfl rfl rfl rfl rfl rfl rfl h0 h1 h2 h3 h4 h5 h6 h7 h8 h9).elim
                  · exact (dead34 x0 x1 x2 x3 B (z0 x0 x1 x2 x3) (z1 x0 x1 x2 x3) (z2 x0 x1 x2 x3) (z3 x0 x1 x2 x3) (z4 x0 x1 x2 x3) (z5 x0 x1 x2 x3) (z20 x0 x1 x2 x3) (z14 x0 x1 x2 x3) (z21 x0 x1 x2 x3) (z16 x0 x1 x2 x3) (z12 x0 x1 x2 x3) (z9 x0 x1 x2 x3) (z25 x0 x1 x2 x3) (z18 x0 x1 x2 x3) (z38 x0 x1 x2 x3) rfl rfl rfl rfl rfl rfl rfl rfl rfl rfl rfl rfl rfl rfl rfl h0 h1 h2 h3 h4 h5 h6 h7 h8).elim
                · have a7 := Ev.asOk_cons (Ev.asOk_le (is25 I) (is18 I) (Ev.df h7)) a6
                  exact fin I a7 run21 w
              · have a6 := Ev.asOk_cons (Ev.asOk_le (is16 I) (is25 I) (Ev.df h6)) a5
                exact fin I a6 run22 w
            · have a5 := Ev.asOk_cons (Ev.asOk_eq (is21 I) (is12 I) (Ev.df h5)) a4
              exact fin I a5 run23 w
      · have a2 := Ev.asOk_cons (Ev.asOk_le (is3 I) (is1 I) (Ev.df h2)) a1
        by_cases h3 : z3 x0 x1 x2 x3 ≤ z2 x0 x1 x2 x3
        · have a3 := Ev.asOk_cons (Ev.asOk_le (is3 I) (is2 I) (Ev.dt h3)) a2
          by_cases h4 : z4 x0 x1 x2 x3 ≤ z5 x0 x1 x2 x3
          · have a4 := Ev.asOk_cons (Ev.asOk_le (is4 I) (is5 I) (Ev.dt h4)) a3
            by_cases h5 : z5 x0 x1 x2 x3 ≤ z6 x0 x1 x2 x3
            · have a5 := Ev.asOk_cons (Ev.asOk_le (is5 I) (is6 I) (Ev.dt h5)) a4
              by_cases h6 : z15 x0 x1 x2 x3 = z16 x0 x1 x2 x3
              · exact (dead35 x0 x1 x2 x3 B (z0 x0 x1 x2 x3) (z1 x0 x1 x2 x3) (z2 x0 x1 x2 x3) (z3 x0 x1 x2 x3) (z4 x0 x1 x2 x3) (z5 x0 x1 x2 x3) (z6 x0 x1 x2 x3) (z7 x0 x1 x2 x3) (z8 x0 x1 x2 x3) (z9 x0 x1 x2 x3) (z10 x0 x1 x2 x3) (z11 x0 x1 x2 x3) (z12 x0 x1 x2 x3) (z13 x0 x1 x2 x3) (z14 x0 x1 x2 x3) (z15 x0 x1 x2 x3) (z16 x0 x1 x2 x3) rfl rfl rfl rfl rfl rfl rfl rfl rfl rfl rfl rfl rfl rfl rfl rfl rfl h0 h1 h2 h3 h4 h5 h6).elim
              · have a6 := Ev.asOk_cons (Ev.asOk_eq (is15 I) (is16 I) (Ev.df h6)) a5
                by_cases h7 : z15 x0 x1 x2 x3 = z12 x0 x1 x2 x3
                · have a7 := Ev.asOk_cons (Ev.asOk_eq (is15 I) (is12 I) (Ev.dt h7)) a6
                  by_cases h8 : z16 x0 x1 x2 x3 ≤ z17 x0 x1 x2 x3
                  · have a8 := Ev.asOk_cons (Ev.asOk_le (is16 I) (is17 I) (Ev.dt h8)) a7
                    by_cases h9 : z17 x0 x1 x2 x3 ≤ z18 x0 x1 x2 x3
                    · have a9 := Ev.asOk_cons (Ev.asOk_le (is17 I) (is18 I) (Ev.dt h9)) a8
                      by_cases h10 : z19 x0 x1 x2 x3 = z5 x0 x1 x2 x3
                      · have a10 := Ev.asOk_cons (Ev.asOk_eq (is19 I) (is5 I) (Ev.dt h10)) a9
                        by_cases h11 : z21 x0 x1 x2 x3 = z16 x0 x1 x2 x3
                        · have a11 := Ev.asOk_cons (Ev.asOk_eq (is21 I) (is16 I) (Ev.dt h11)) a10
                          by_cases h12 : z22 x0 x1 x2 x3 ≤ z24 x0 x1 x2 x3
                          · have a12 := Ev.asOk_cons (Ev.asOk_le (is22 I) (is24 I) (Ev.dt h12)) a11
                            by_cases h13 : z21 x0 x1 x2 x3 = z12 x0 x1 x2 x3
                            · exact (dead36 x0 x1 x2 x3 B (z0 x0 x1 x2 x3) (z1 x0 x1 x2 x3) (z2 x0 x1 x2 x3) (z3 x0 x1 x2 x3) (z4 x0 x1 x2 x3) (z5 x0 x1 x2 x3) (z6 x0 x1 x2 x3) (z7 x0 x1 x2 x3) (z8 x0 x1 x2 x3) (z9 x0 x1 x2 x3) (z10 x0 x1 x2 x3) (z11 x0 x1 x2 x3) (z12 x0 x1 x2 x3) (z13 x0 x1 x2 x3) (z14 x0 x1 x2 x3) (z15 x0 x1 x2 x3) (z16 x0 x1 x2 x3) (z17 x0 x1 x2 x3) (z18 x0 x1 x2 x3) (z19 x0 x1 x2 x3) (z20 x0 x1 x2 x3) (z21 x0 x1 x2 x3) (z22 x0 x1 x2 x3) (z23 x0 x1 x2 x3) (z24 x0 x1 x2 x3) rfl rfl rfl rfl rfl rfl rfl rfl rfl rfl rfl rfl rfl rfl rfl rfl rfl rfl rfl rfl rfl rfl rfl rfl rfl h0 h1 h2 h3 h4 h5 h6 h7 h8 h9 h10 h11 h12 h13).elim
                            · have a13 := Ev.asOk_cons (Ev.asOk_eq (is21 I) (is12 I) (Ev.df h13)) a12
                              exact fin I a13 run24 w
                          · have a12 := Ev.asOk_cons (Ev.asOk_le (is22 I) (is24 I) (Ev.df h12)) a11
                            by_cases h13 : z0 x0 x1 x2 x3 ≤ z27 x0 x1 x2 x3
                            · have a13 := Ev.asOk_cons (Ev.asOk_le (is0 I) (is27 I) (Ev.dt h13)) a12
                              by_cases h14 : z0 x0 x1 x2 x3 ≤ z28 x0 x1 x2 x3
                              · have a14 := Ev.asOk_cons (Ev.asOk_le (is0 I) (is28 I) (Ev.dt h14)) a13
                                by_cases h15 : z3 x0 x1 x2 x3 ≤ z27 x0 x1 x2 x3
                                · have a15 := Ev.asOk_cons (Ev.asOk_le (is3 I) (is27 I) (Ev.dt h15)) a14
                                  by_cases h16 : z21 x0 x1 x2 x3 = z12 x0 x1 x2 x3
                                  · exact (dead37 x0 x1 x2 x3 B (z0 x0 x1 x2 x3) (z1 x0 x1 x2 x3) (z2 x0 x1 x2 x3) (z3 x0 x1 x2 x3) (z4 x0 x1 x2 x3) (z5 x0 x1 x2 x3) (z6 x0 x1 x2 x3) (z7 x0 x1 x2 x3) (z8 x0 x1 x2 x3) (z9 x0 x1 x2 x3) (z10 x0 x1 x2 x3) (z11 x0 x1 x2 x3) (z12 x0 x1 x2 x3) (z13 x0 x1 x2 x3) (z14 x0 x1 x2 x3) (z15 x0 x1 x2 x3) (z16 x0 x1 x2 x3) (z17 x0 x1 x2 x3) (z18 x0 x1 x2 x3) (z19 x0 x1 x2 x3) (z20 x0 x1 x2 x3) (z21 x0 x1 x2 x3) (z22 x0 x1 x2 x3) (z23 x0 x1 x2 x3) (z24 x0 x1 x2 x3) (z25 x0 x1 x2 x3) (z26 x0 x1 x2 x3) (z27 x0 x1 x2 x3) (z28 x0 x1 x2 x3) rfl rfl rfl rfl rfl rfl rfl rfl rfl rfl rfl rfl rfl rfl rfl rfl rfl rfl rfl rfl rfl rfl rfl rfl rfl rfl rfl rfl rfl h0 h1 h2 h3 h4 h5 h6 h7 h8 h9 h10 h11 h12 h13 h14 h15 h16).elim
                                  · have a16 := Ev.asOk_cons (Ev.asOk_eq (is21 I) (is12 I) (Ev.df h16)) a15
                                    exact fin I a16 run25 w
                                · have a15 := Ev.asOk_cons (Ev.asOk_le (is3 I) (is27 I) (Ev.df h15)) a14
                                  by_cases h16 : z3 x0 x1 x2 x3 ≤ z28 x0 x1 x2 x3
                                  · exact (dead38 x0 x1 x2 x3 B (z0 x0 x1 x2 x3) (z1 x0 x1 x2 x3) (z2 x0 x1 x2 x3) (z3 x0 x1 x2 x3) (z4 x0 x1 x2 x3) (z5 x0 x1 x2 x3) (z6 x0 x1 x2 x3) (z7 x0 x1 x2 x3) (z8 x0 x1 x2 x3) (z9 x0 x1 x2 x3) (z10 x0 x1 x2 x3) (z11 x0 x1 x2 x3) (z12 x0 x1 x2 x3) (z13 x0 x1 x2 x3) (z14 x0 x1 x2 x3) (z15 x0 x1 x2 x3) (z16 x0 x1 x2 x3) (z17 x0 x1 x2 x3) (z18 x0 x1 x2 x3) (z19 x0 x1 x2 x3) (z20 x0 x1 x2 x3) (z21 x0 x1 x2 x3) (z22 x0 x1 x2 x3) (z23 x0 x1 x2 x3) (z24 x0 x1 x2 x3) (z25 x0 x1 x2 x3) (z26 x0 x1 x2 x3) (z27 x0 x1 x2 x3) (z28 x0 x1 x2 x3) rfl rfl rfl rfl rfl rfl rfl rfl rfl rfl rfl rfl rfl rfl rfl rfl rfl rfl rfl rfl rfl rfl rfl rfl rfl rfl rfl rfl rfl h0 h1 h2 h3 h4 h5 h6 h7 h8 h9 h10 h11 h12 h13 h14 h15 h16).elim
                                  · have a16 := Ev.asOk_cons (Ev.asOk_le (is3 I) (is28 I) (Ev.df h16)) a15
                                    by_cases h17 : z30 x0 x1 x2 x3 ≤ z3 x0 x1 x2 x3
                                    · have a17 := Ev.asOk_cons (Ev.asOk_le (is30 I) (is3 I) (Ev.dt h17)) a16
                                      by_cases h18 : z37 x0 x1 x2 x3 = z20 x0 x1 x2 x3
                                      · have a18 := Ev.asOk_cons (Ev.asOk_eq (is37 I) (is20 I) (Ev.dt h18)) a17
                                        exact fin I a18 run26 w
                                      · exact (dead39 x0 x1 x2 x3 B (z0 x0 x1 x2 x3) (z1 x0 x1 x2 x3) (z2 x0 x1 x2 x3) (z3 x0 x1 x2 x3) (z4 x0 x1 x2 x3) (z5 x0 x1 x2 x3) (z6 x0 x1 x2 x3) (z7 x0 x1 x2 x3) (z8 x0 x1 x2 x3) (z9 x0 x1 x2 x3) (z10 x0 x1 x2 x3) (z11 x0 x1 x2 x3) (z12 x0 x1 x2 x3) (z13 x0 x1 x2 x3) (z14 x0 x1 x2 x3) (z15 x0 x1 x2 x3) (z16 x0 x1 x2 x3) (z17 x0 x1 x2 x3) (z18 x0 x1 x2 x3) (z19 x0 x1 x2 x3) (z20 x0 x1 x2 x3) (z21 x0 x1 x2 x3) (z22 x0 x1 x2 x3) (z23 x0 x1 x2 x3) (z24 x0 x1 x2 x3) (z25 x0 x1 x2 x3) (z26 x0 x1 x2 x3) (z27 x0 x1 x2 x3) (z28 x0 x1 x2 x3) (z29 x0 x1 x2 x3) (z30 x0 x1 x2 x3) (z31 x0 x1 x2 x3) (z32 x0 x1 x2 x3) (z33 x0 x1 x2 x3) (z34 x0 x1 x2 x3) (z35 x0 x1 x2 x3) (z36 x0 x1 x2 x3) (z37 x0 x1 x2 x3) rfl rfl rfl rfl rfl rfl rfl rfl rfl rfl rfl rfl rfl rfl rfl rfl rfl rfl rfl rfl rfl rfl rfl rfl rfl rfl rfl rfl rfl rfl rfl rfl rfl rfl rfl rfl rfl rfl h0 h1 h2 h3 h4 h5 h6 h7 h8 h9 h10 h11 h12 h13 h14 h15 h16 h17 h18).elim
                                    · have a17 := Ev.asOk_cons (Ev.asOk_le (is30 I) (is3 I) (Ev.df h17)) a16
                                      by_cases h18 : z21 x0 x1 x2 x3 = z12 x0 x1 x2 x3
                                      · exact (dead40 x0 x1 x2 x3 B (z0 x0 x1 x2 x3) (z1 x0 x1 x2 x3) (z2 x0 x1 x2 x3) (z3 x0 x1 x2 x3) (z4 x0 x1 x2 x3) (z5 x0 x1 x2 x3) (z6 x0 x1 x2 x3) (z7 x0 x1 x2 x3) (z8 x0 x1 x2 x3) (z9 x0 x1 x2 x3) (z10 x0 x1 x2 x3) (z11 x0 x1 x2 x3) (z12 x0 x1 x2 x3) (z13 x0 x1 x2 x3) (z14 x0 x1 x2 x3) (z15 x0 x1 x2 x3) (z16 x0 x1 x2 x3) (z17 x0 x1 x2 x3) (z18 x0 x1 x2 x3) (z19 x0 x1 x2 x3) (z20 x0 x1 x2 x3) (z21 x0 x1 x2 x3) (z22 x0 x1 x2 x3) (z23 x0 x1 x2 x3) (z24 x0 x1 x2 x3) (z25 x0 x1 x2 x3) (z26 x0 x1 x2 x3) (z27 x0 x1 x2 x3) (z28 x0 x1 x2 x3) (z29 x0 x1 x2 x3) (z30 x0 x1 x2 x3) rfl rfl rfl rfl rfl rfl rfl rfl rfl rfl rfl rfl rfl rfl rfl rfl rfl rfl rfl rfl rfl rfl rfl rfl rfl rfl rfl rfl rfl rfl rfl h0 h1 h2 h3 h4 h5 h6 h7 h8 h9 h10 h11 h12 h13 h14 h15 h16 h17 h18).elim
                                      · have a18 := Ev.asOk_cons (Ev.asOk_eq (is21 I) (is12 I) (Ev.df h18)) a17
                                        exact fin I a18 run27 w
                              · exact (dead41 x0 x1 x2 x3 B (z0 x0 x1 x2 x3) (z1 x0 x1 x2 x3) (z2 x0 x1 x2 x3) (z3 x0 x1 x2 x3) (z4 x0 x1 x2 x3) (z5 x0 x1 x2 x3) (z6 x0 x1 x2 x3) (z7 x0 x1 x2 x3) (z8 x0 x1 x2 x3) (z9 x0 x1 x2 x3) (z10 x0 x1 x2 x3) (z11 x0 x1 x2 x3) (z12 x0 x1 x2 x3) (z13 x0 x1 x2 x3) (z14 x0 x1 x2 x3) (z15 x0 x1 x2 x3) (z16 x0 x1 x2 x3) (z17 x0 x1 x2 x3) (z18 x0 x1 x2 x3) (z19 x0 x1 x2 x3) (z20 x0 x1 x2 x3) (z21 x0 x1 x2 x3) (z22 x0 x1 x2 x3) (z23 x0 x1 x2 x3) (z24 x0 x1 x2 x3) (z25 x0 x1 x2 x3) (z26 x0 x1 x2 x3) (z27 x0 x1 x2 x3) (z28 x0 x1 x2 x3) rfl rfl rfl rfl rfl rfl rfl rfl rfl rfl rfl rfl rfl rfl rfl rfl rfl rfl rfl rfl rfl rfl rfl rfl rfl rfl rfl rfl rfl h0 h1 h2 h3 h4 h5 h6 h7 h8 h9 h10 h11 h12 h13 h14).elim
                            · exact (dead42 x0 x1 x2 x3 B (z0 x0 x1 x2 x3) (z1 x0 x1 x2 x3) (z2 x0 x1 x2 x3) (z3 x0 x1 x2 x3) (z4 x0 x1 x2 x3) (z5 x0 x1 x2 x3) (z6 x0 x1 x2 x3) (z7 x0 x1 x2 x3) (z8 x0 x1 x2 x3) (z9 x0 x1 x2 x3) (z10 x0 x1 x2 x3) (z11 x0 x1 x2 x3) (z12 x0 x1 x2 x3) (z13 x0 x1 x2 x3) (z14 x0 x1 x2 x3) (z15 x0 x1 x2 x3) (z16 x0 x1 x2 x3) (z17 x0 x1 x2 x3) (z18 x0 x1 x2 x3) (z19 x0 x1 x2 x3) (z20 x0 x1 x2 x3) (z21 x0 x1 x2 x3) (z22 x0 x1 x2 x3) (z23 x0 x1 x2 x3) (z24 x0 x1 x2 x3) (z25 x0 x1 x2 x3) (z26 x0 x1 x2 x3) (z27 x0 x1 x2 x3) rfl rfl rfl rfl rfl rfl rfl rfl rfl rfl rfl rfl rfl rfl rfl rfl rfl rfl rfl rfl rfl rfl rfl rfl rfl rfl rfl rfl h0 h1 h2 h3 h4 h5 h6 h7 h8 h9 h10 h11 h12 h13).elim
                        · have a11 := Ev.asOk_cons (Ev.asOk_eq (is21 I) (is16 I) (Ev.df h11)) a10
                          by_cases h12 : z21 x0 x1 x2 x3 = z12 x0 x1 x2 x3
                          · have a12 := Ev.asOk_cons (Ev.asOk_eq (is21 I) (is12 I) (Ev.dt h12)) a11
                            by_cases h13 : z16 x0 x1 x2 x3 ≤ z25 x0 x1 x2 x3
                            · have a13 := Ev.asOk_cons (Ev.asOk_le (is16 I) (is25 I) (Ev.dt h13)) a12
                              by_cases h14 : z25 x0 x1 x2 x3 ≤ z18 x0 x1 x2 x3
                              · have a14 := Ev.asOk_cons (Ev.asOk_le (is25 I) (is18 I) (Ev.dt h14)) a13
                                by_cases h15 : z4 x0 x1 x2 x3 ≤ z38 x0 x1 x2 x3
                                · have a15 := Ev.asOk_cons (Ev.asOk_le (is4 I) (is38 I) (Ev.dt h15)) a14
                                  by_cases h16 : z38 x0 x1 x2 x3 ≤ z6 x0 x1 x2 x3
                                  · have a16 := Ev.asOk_cons (Ev.asOk_le (is38 I) (is6 I) (Ev.dt h16)) a15
                                    by_cases h17 : z42 x0 x1 x2 x3 = z20 x0 x1 x2 x3
                                    · have a17 := Ev.asOk_cons (Ev.asOk_eq (is42 I) (is20 I) (Ev.dt h17)) a16
                                      exact fin I a17 run28 w
                                    · exact (dead43 x0 x1 x2 x3 B (z0 x0 x1 x2 x3) (z1 x0 x1 x2 x3) (z2 x0 x1 x2 x3) (z3 x0 x1 x2 x3) (z4 x0 x1 x2 x3) (z5 x0 x1 x2 x3) (z6 x0 x1 x2 x3) (z7 x0 x1 x2 x3) (z8 x0 x1 x2 x3) (z9 x0 x1 x2 x3) (z10 x0 x1 x2 x3) (z11 x0 x1 x2 x3) (z12 x0 x1 x2 x3) (z13 x0 x1 x2 x3) (z14 x0 x1 x2 x3) (z15 x0 x1 x2 x3) (z16 x0 x1 x2 x3) (z17 x0 x1 x2 x3) (z18 x0 x1 x2 x3) (z19 x0 x1 x2 x3) (z20 x0 x1 x2 x3) (z21 x0 x1 x2 x3) (z25 x0 x1 x2 x3) (z38 x0 x1 x2 x3) (z39 x0 x1 x2 x3) (z40 x0 x1 x2 x3) (z41 x0 x1 x2 x3) (z42 x0 x1 x2 x3) rfl rfl rfl rfl rfl rfl rfl rfl rfl rfl rfl rfl rfl rfl rfl rfl rfl rfl rfl rfl rfl rfl rfl rfl rfl rfl rfl rfl h0 h1 h2 h3 h4 h5 h6 h7 h8 h9 h10 h11 h12 h13 h14 h15 h16 h17).elim
                                  · exact (dead44 x0 x1 x2 x3 B (z0 x0 x1 x2 x3) (z1 x0 x1 x2 x3) (z2 x0 x1 x2 x3) (z3 x0 x1 x2 x3) (z4 x0 x1 x2 x3) (z5 x0 x1 x2 x3) (z6 x0 x1 x2 x3) (z7 x0 x1 x2 x3) (z8 x0 x1 x2 x3) (z9 x0 x1 x2 x3) (z10 x0 x1 x2 x3) (z11 x0 x1 x2 x3) (z12 x0 x1 x2 x3) (z13 x0 x1 x2 x3) (z14 x0 x1 x2 x3) (z15 x0 x1 x2 x3) (z16 x0 x1 x2 x3) (z17 x0 x1 x2 x3) (z18 x0 x1 x2 x3) (z19 x0 x1 x2 x3) (z20 x0 x1 x2 x3) (z21 x0 x1 x2 x3) (z25 x0 x1 x2 x3) (z38 x0 x1 x2 x3) rfl rfl rfl rfl rfl rfl rfl rfl rfl rfl rfl rfl rfl rfl rfl rfl rfl rfl rfl rfl rfl rfl rfl rfl h0 h1 h2 h3 h4 h5 h6 h7 h8 h9 h10 h11 h12 h13 h14 h15 h16).elim
                                · exact (dead45 x0 x1 x2 x3 B (z0 x0 x1 x2 x3) (z1 x0 x1 x2 x3) (z2 x0 x1 x2 x3) (z3 x0 x1 x2 x3) (z4 x0 x1 x2 x3) (z5 x0 x1 x2 x3) (z6 x0 x1 x2 x3) (z7 x0 x1 x2 x3) (z8 x0 x1 x2 x3) (z9 x0 x1 x2 x3) (z10 x0 x1 x2 x3) (z11 x0 x1 x2 x3) (z12 x0 x1 x2 x3) (z13 x0 x1 x2 x3) (z14 x0 x1 x2 x3) (z15 x0 x1 x2 x3) (z16 x0 x1 x2 x3) (z17 x0 x1 x2 x3) (z18 x0 x1 x2 x3) (z19 x0 x1 x2 x3) (z20 x0 x1 x2 x3) (z21 x0 x1 x2 x3) (z25 x0 x1 x2 x3) (z38 x0 x1 x2 x3) rfl rfl rfl rfl rfl rfl rfl rfl rfl rfl rfl rfl rfl rfl rfl rfl rfl rfl rfl rfl rfl rfl rfl rfl h0 h1 h2 h3 h4 h5 h6 h7 h8 h9 h10 h11 h12 h13 h14 h15).elim
                              · have a14 := Ev.asOk_cons (Ev.asOk_le (is25 I) (is18 I) (Ev.df h14)) a13
                                exact fin I a14 run29 w
                            · have a13 := Ev.asOk_cons (Ev.asOk_le (is16 I) (is25 I) (Ev.df h13)) a12
                              exact fin I a13 run30 w
                          · have a12 := Ev.asOk_cons (Ev.asOk_eq (is21 I) (is12 I) (Ev.df h12)) a11
                            exact fin I a12 run31 w
                      · exact (dead46 x0 x1 x2 x3 B (z0 x0 x1 x2 x3) (z1 x0 x1 x2 x3) (z2 x0 x1 x2 x3) (z3 x0 x1 x2 x3) (z4 x0 x1 x2 x3) (z5 x0 x1 x2 x3) (z6 x0 x1 x2 x3) (z7 x0 x1 x2 x3) (z8 x0 x1 x2 x3) (z9 x0 x1 x2 x3) (z10 x0 x1 x2 x3) (z11 x0 x1 x2 x3) (z12 x0 x1 x2 x3) (z13 x0 x1 x2 x3) (z14 x0 x1 x2 x3) (z15 x0 x1 x2 x3) (z16 x0 x1 x2 x3) (z17 x0 x1 x2 x3) (z18 x0 x1 x2 x3) (z19 x0 x1 x2 x3) rfl rfl rfl rfl rfl rfl rfl rfl rfl rfl rfl rfl rfl rfl rfl rfl rfl rfl rfl rfl h0 h1 h2 h3 h4 h5 h6 h7 h8 h9 h10).elim
                    · exact (dead47 x0 x1 x2 x3 B (z0 x0 x1 x2 x3) (z1 x0 x1 x2 x3) (z2 x0 x1 x2 x3) (z3 x0 x1 x2 x3) (z4 x0 x1 x2 x3) (z5 x0 x1 x2 x3) (z6 x0 x1 x2 x3) (z7 x0 x1 x2 x3) (z8 x0 x1 x2 x3) (z9 x0 x1 x2 x3) (z10 x0 x1 x2 x3) (z11 x0 x1 x2 x3) (z12 x0 x1 x2 x3) (z13 x0 x1 x2 x3) (z14 x0 x1 x2 x3) (z15 x0 x1 x2 x3) (z16 x0 x1 x2 x3) (z17 x0 x1 x2 x3) (z18 x0 x1 x2 x3) rfl rfl rfl rfl rfl rfl rfl rfl rfl rfl rfl rfl rfl rfl rfl rfl rfl rfl rfl h0 h1 h2 h3 h4 h5 h6 h7 h8 h9).elim
                  · exact (dead48 x0 x1 x2 x3 B (z0 x0 x1 x2 x3) (z1 x0 x1 x2 x3) (z2 x0 x1 x2 x3) (z3 x0 x1 x2 x3) (z4 x0 x1 x2 x3) (z5 x0 x1 x2 x3) (z6 x0 x1 x2 x3) (z7 x0 x1 x2 x3) (z8 x0 x1 x2 x3) (z9 x0 x1 x2 x3) (z10 x0 x1 x2 x3) (z11 x0 x1 x2 x3) (z12 x0 x1 x2 x3) (z13 x0 x1 x2 x3) (z14 x0 x1 x2 x3) (z15 x0 x1 x2 x3) (z16 x0 x1 x2 x3) (z17 x0 x1 x2 x3) rfl rfl rfl rfl rfl rfl rfl rfl rfl rfl rfl rfl rfl rfl rfl rfl rfl rfl h0 h1 h2 h3 h4 h5 h6 h7 h8).elim
                · exact (dead49 x0 x1 x2 x3 B (z0 x0 x1 x2 x3) (z1 x0 x1 x2 x3) (z2 x0 x1 x2 x3) (z3 x0 x1 x2 x3) (z4 x0 x1 x2 x3) (z5 x0 x1 x2 x3) (z6 x0 x1 x2 x3) (z7 x0 x1 x2 x3) (z8 x0 x1 x2 x3) (z9 x0 x1 x2 x3) (z10 x0 x1 x2 x3) (z11 x0 x1 x2 x3) (z12 x0 x1 x2 x3) (z13 x0 x1 x2 x3) (z14 x0 x1 x2 x3) (z15 x0 x1 x2 x3) (z16 x0 x1 x2 x3) rfl rfl rfl rfl rfl rfl rfl rfl rfl rfl rfl rfl rfl rfl rfl rfl rfl h0 h1 h2 h3 h4 h5 h6 h7).elim
            · have a5 := Ev.asOk_cons (Ev.asOk_le (is5 I) (is6 I) (Ev.df h5)) a4
              by_cases h6 : z21 x0 x1 x2 x3 = z16 x0 x1 x2 x3
              · have a6 := Ev.asOk_cons (Ev.asOk_eq (is21 I) (is16 I) (Ev.dt h6)) a5
                by_cases h7 : z22 x0 x1 x2 x3 ≤ z24 x0 x1 x2 x3
                · have a7 := Ev.asOk_cons (Ev.asOk_le (is22 I) (is24 I) (Ev.dt h7)) a6
                  by_cases h8 : z21 x0 x1 x2 x3 = z12 x0 x1 x2 x3
                  · exact (dead50 x0 x1 x2 x3 B (z0 x0 x1 x2 x3) (z1 x0 x1 x2 x3) (z2 x0 x1 x2 x3) (z3 x0 x1 x2 x3) (z4 x0 x1 x2 x3) (z5 x0 x1 x2 x3) (z6 x0 x1 x2 x3) (z20 x0 x1 x2 x3) (z14 x0 x1 x2 x3) (z21 x0 x1 x2 x3) (z16 x0 x1 x2 x3) (z22 x0 x1 x2 x3) (z23 x0 x1 x2 x3) (z24 x0 x1 x2 x3) (z12 x0 x1 x2 x3) rfl rfl rfl rfl rfl rfl rfl rfl rfl rfl rfl rfl rfl rfl rfl h0 h1 h2 h3 h4 h5 h6 h7 h8).elim
                  · have a8 := Ev.asOk_cons (Ev.asOk_eq (is21 I) (is12 I) (Ev.df h8)) a7
                    exact fin I a8 run32 w
                · have a7 := Ev.asOk_cons (Ev.asOk_le (is22 I) (is24 I) (Ev.df h7)) a6
                  by_cases h8 : z0 x0 x1 x2 x3 ≤ z27 x0 x1 x2 x3
                  · have a8 := Ev.asOk_cons (Ev.asOk_le (is0 I) (is27 I) (Ev.dt h8)) a7
                    by_cases h9 : z0 x0 x1 x2 x3 ≤ z28 x0 x1 x2 x3
                    · have a9 := Ev.asOk_cons (Ev.asOk_le (is0 I) (is28 I) (Ev.dt h9)) a8
                      by_cases h10 : z3 x0 x1 x2 x3 ≤ z27 x0 x1 x2 x3
                      · have a10 := Ev.asOk_cons (Ev.asOk_le (is3 I) (is27 I) (Ev.dt h10)) a9
                        by_cases h11 : z21 x0 x1 x2 x3 = z12 x0 x1 x2 x3
                        · exact (dead51 x0 x1 x2 x3 B (z0 x0 x1 x2 x3) (z1 x0 x1 x2 x3) (z2 x0 x1 x2 x3) (z3 x0 x1 x2 x3) (z4 x0 x1 x2 x3) (z5 x0 x1 x2 x3) (z6 x0 x1 x2 x3) (z20 x0 x1 x2 x3) (z14 x0 x1 x2 x3) (z21 x0 x1 x2 x3) (z16 x0 x1 x2 x3) (z22 x0 x1 x2 x3) (z23 x0 x1 x2 x3) (z24 x0 x1 x2 x3) (z9 x0 x1 x2 x3) (z25 x0 x1 x2 x3) (z26 x0 x1 x2 x3) (z27 x0 x1 x2 x3) (z28 x0 x1 x2 x3) (z12 x0 x1 x2 x3) rfl rfl rfl rfl rfl rfl rfl rfl rfl rfl rfl rfl rfl rfl rfl rfl rfl rfl rfl rfl h0 h1 h2 h3 h4 h5 h6 h7 h8 h9 h10 h11).elim
                        · have a11 := Ev.asOk_cons (Ev.asOk_eq (is21 I) (is12 I) (Ev.df h11)) a10
                          exact fin I a11 run33 w
                      · have a10 := Ev.asOk_cons (Ev.asOk_le (is3 I) (is27 I) (Ev.df h10)) a9
                        by_cases h11 : z3 x0 x1 x2 x3 ≤ z28 x0 x1 x2 x3
                        · exact (dead52 x0 x1 x2 x3 B (z0 x0 x1 x2 x3) (z1 x0 x1 x2 x3) (z2 x0 x1 x2 x3) (z3 x0 x1 x2 x3) (z4 x0 x1 x2 x3) (z5 x0 x1 x2 x3) (z6 x0 x1 x2 x3) (z20 x0 x1 x2 x3) (z14 x0 x1 x2 x3) (z21 x0 x1 x2 x3) (z16 x0 x1 x2 x3) (z22 x0 x1 x2 x3) (z23 x0 x1 x2 x3) (z24 x0 x1 x2 x3) (z9 x0 x1 x2 x3) (z25 x0 x1 x2 x3) (z26 x0 x1 x2 x3) (z27 x0 x1 x2 x3) (z28 x0 x1 x2 x3) rfl rfl rfl rfl rfl rfl rfl rfl rfl rfl rfl rfl rfl rfl rfl rfl rfl rfl rfl h0 h1 h2 h3 h4 h5 h6 h7 h8 h9 h10 h11).elim
                        · have a11 := Ev.asOk_cons (Ev.asOk_le (is3 I) (is28 I) (Ev.df h11)) a10
                          by_cases h12 : z30 x0 x1 x2 x3 ≤ z3 x0 x1 x2 x3
                          · have a12 := Ev.asOk_cons (Ev.asOk_le (is30 I) (is3 I) (Ev.dt h12)) a11
                            by_cases h13 : z37 x0 x1 x2 x3 = z20 x0 x1 x2 x3
                            · have a13 := Ev.asOk_cons (Ev.asOk_eq (is37 I) (is20 I) (Ev.dt h13)) a12
                              exact fin I a13 run34 w
                            · exact (dead53 x0 x1 x2 x3 B (z0 x0 x1 x2 x3) (z1 x0 x1 x2 x3) (z2 x0 x1 x2 x3) (z3 x0 x1 x2 x3) (z4 x0 x1 x2 x3) (z5 x0 x1 x2 x3) (z6 x0 x1 x2 x3) (z20 x0 x1 x2 x3) (z14 x0 x1 x2 x3) (z21 x0 x1 x2 x3) (z16 x0 x1 x2 x3) (z22 x0 x1 x2 x3) (z23 x0 x1 x2 x3) (z24 x0 x1 x2 x3) (z9 x0 x1 x2 x3) (z25 x0 x1 x2 x3) (z26 x0 x1 x2 x3) (z27 x0 x1 x2 x3) (z28 x0 x1 x2 x3) (z29 x0 x1 x2 x3) (z30 x0 x1 x2 x3) (z7 x0 x1 x2 x3) (z31 x0 x1 x2 x3) (z32 x0 x1 x2 x3) (z33 x0 x1 x2 x3) (z34 x0 x1 x2 x3) (z35 x0 x1 x2 x3) (z36 x0 x1 x2 x3) (z37 x0 x1 x2 x3) rfl rfl rfl rfl rfl rfl rfl rfl rfl rfl rfl rfl rfl rfl rfl rfl rfl rfl rfl rfl rfl rfl rfl rfl rfl rfl rfl rfl rfl h0 h1 h2 h3 h4 h5 h6 h7 h8 h9 h10 h11 h12 h13).elim
                          · have a12 := Ev.asOk_cons (Ev.asOk_le (is30 I) (is3 I) (Ev.df h12)) a11
                            by_cases h13 : z21 x0 x1 x2 x3 = z12 x0 x1 x2 x3
                            · exact (dead54 x0 x1 x2 x3 B (z0 x0 x1 x2 x3) (z1 x0 x1 x2 x3) (z2 x0 x1 x2 x3) (z3 x0 x1 x2 x3) (z4 x0 x1 x2 x3) (z5 x0 x1 x2 x3) (z6 x0 x1 x2 x3) (z20 x0 x1 x2 x3) (z14 x0 x1 x2 x3) (z21 x0 x1 x2 x3) (z16 x0 x1 x2 x3) (z22 x0 x1 x2 x3) (z23 x0 x1 x2 x3) (z24 x0 x1 x2 x3) (z9 x0 x1 x2 x3) (z25 x0 x1 x2 x3) (z26 x0 x1 x2 x3) (z27 x0 x1 x2 x3) (z28 x0 x1 x2 x3) (z29 x0 x1 x2 x3) (z30 x0 x1 x2 x3) (z12 x0 x1 x2 x3) rfl rfl rfl rfl rfl rfl rfl rfl rfl rfl rfl rfl rfl rfl rfl rfl rfl rfl rfl rfl rfl rfl h0 h1 h2 h3 h4 h5 h6 h7 h8 h9 h10 h11 h12 h13).elim
                            · have a13 := Ev.asOk_cons (Ev.asOk_eq (is21 I) (is12 I) (Ev.df h13)) a12
                              exact fin I a13 run35 w
                    · exact (dead55 x0 x1 x2 x3 B (z0 x0 x1 x2 x3) (z1 x0 x1 x2 x3) (z2 x0 x1 x2 x3) (z3 x0 x1 x2 x3) (z4 x0 x1 x2 x3) (z5 x0 x1 x2 x3) (z6 x0 x1 x2 x3) (z20 x0 x1 x2 x3) (z14 x0 x1 x2 x3) (z21 x0 x1 x2 x3) (z16 x0 x1 x2 x3) (z22 x0 x1 x2 x3) (z23 x0 x1 x2 x3) (z24 x0 x1 x2 x3) (z9 x0 x1 x2 x3) (z25 x0 x1 x2 x3) (z26 x0 x1 x2 x3) (z27 x0 x1 x2 x3) (z28 x0 x1 x2 x3) rfl rfl rfl rfl rfl rfl rfl rfl rfl rfl rfl rfl rfl rfl rfl rfl rfl rfl rfl h0 h1 h2 h3 h4 h5 h6 h7 h8 h9).elim
                  · exact (dead56 x0 x1 x2 x3 B (z0 x0 x1 x2 x3) (z1 x0 x1 x2 x3) (z2 x0 x1 x2 x3) (z3 x0 x1 x2 x3) (z4 x0 x1 x2 x3) (z5 x0 x1 x2 x3) (z6 x0 x1 x2 x3) (z20 x0 x1 x2 x3) (z14 x0 x1 x2 x3) (z21 x0 x1 x2 x3) (z16 x0 x1 x2 x3) (z22 x0 x1 x2 x3) (z23 x0 x1 x2 x3) (z24 x0 x1 x2 x3) (z9 x0 x1 x2 x3) (z25 x0 x1 x2 x3) (z26 x0 x1 x2 x3) (z27 x0 x1 x2 x3) rfl rfl rfl rfl rfl rfl rfl rfl rfl rfl rfl rfl rfl rfl rfl rfl rfl rfl h0 h1 h2 h3 h4 h5 h6 h7 h8).elim
              · have a6 := Ev.asOk_cons (Ev.asOk_eq (is21 I) (is16 I) (Ev.df h6)) a5
                by_cases h7 : z21 x0 x1 x2 x3 = z12 x0 x1 x2 x3
                · have a7 := Ev.asOk_cons (Ev.asOk_eq (is21 I) (is12 I) (Ev.dt h7)) a6
                  by_cases h8 : z16 x0 x1 x2 x3 ≤ z25 x0 x1 x2 x3
                  · have a8 := Ev.asOk_cons (Ev.asOk_le (is16 I) (is25 I) (Ev.dt h8)) a7
                    by_cases h9 : z25 x0 x1 x2 x3 ≤ z18 x0 x1 x2 x3
                    · have a9 := Ev.asOk_cons (Ev.asOk_le (is25 I) (is18 I) (Ev.dt h9)) a8
                      by_cases h10 : z4 x0 x1 x2 x3 ≤ z38 x0 x1 x2 x3
                      · have a10 := Ev.asOk_cons (Ev.asOk_le (is4 I) (is38 I) (Ev.dt h10)) a9
                        by_cases h11 : z38 x0 x1 x2 x3 ≤ z6 x0 x1 x2 x3
                        · have a11 := Ev.asOk_cons (Ev.asOk_le (is38 I) (is6 I) (Ev.dt h11)) a10
                          by_cases h12 : z42 x0 x1 x2 x3 = z20 x0 x1 x2 x3
                          · have a12 := Ev.asOk_cons (Ev.asOk_eq (is42 I) (is20 I) (Ev.dt h12)) a11
                            exact fin I a12 run36 w
                          · exact (dead57 x0 x1 x2 x3 B (z0 x0 x1 x2 x3) (z1 x0 x1 x2 x3) (z2 x0 x1 x2 x3) (z3 x0 x1 x2 x3) (z4 x0 x1 x2 x3) (z5 x0 x1 x2 x3) (z6 x0 x1 x2 x3) (z20 x0 x1 x2 x3) (z14 x0 x1 x2 x3) (z21 x0 x1 x2 x3) (z16 x0 x1 x2 x3) (z12 x0 x1 x2 x3) (z9 x0 x1 x2 x3) (z25 x0 x1 x2 x3) (z18 x0 x1 x2 x3) (z38 x0 x1 x2 x3) (z7 x0 x1 x2 x3) (z39 x0 x1 x2 x3) (z40 x0 x1 x2 x3) (z41 x0 x1 x2 x3) (z42 x0 x1 x2 x3) rfl rfl rfl rfl rfl rfl rfl rfl rfl rfl rfl rfl rfl rfl rfl rfl rfl rfl rfl rfl rfl h0 h1 h2 h3 h4 h5 h6 h7 h8 h9 h10 h11 h12).elim
                        · exact (dead58 x0 x1 x2 x3 B (z0 x0 x1 x2 x3) (z1 x0 x1 x2 x3) (z2 x0 x1 x2 x3) (z3 x0 x1 x2 x3) (z4 x0 x1 x2 x3) (z5 x0 x1 x2 x3) (z6 x0 x1 x2 x3) (z20 x0 x1 x2 x3) (z14 x0 x1 x2 x3) (z21 x0 x1 x2 x3) (z16 x0 x1 x2 x3) (z12 x0 x1 x2 x3) (z9 x0 x1 x2 x3) (z25 x0 x1 x2 x3) (z18 x0 x1 x2 x3) (z38 x0 x1 x2 x3) rfl rfl rfl rfl rfl rfl rfl rfl rfl rfl rfl rfl rfl rfl rfl rfl h0 h1 h2 h3 h4 h5 h6 h7 h8 h9 h10 h11).elim
                      · exact (dead59 x0 x1 x2 x3 B (z0 x0 x1 x2 x3) (z1 x0 x1 x2 x3) (z2 x0 x1 x2 x3) (z3 x0 x1 x2 x3) (z4 x0 x1 x2 x3) (z5 x0 x1 x2 x3) (z6 x0 x1 x2 x3) (z20 x0 x1 x2 x3) (z14 x0 x1 x2 x3) (z21 x0 x1 x2 x3) (z16 x0 x1 x2 x3) (z12 x0 x1 x2 x3) (z9 x0 x1 x2 x3) (z25 x0 x1 x2 x3) (z18 x0 x1 x2 x3) (z38 x0 x1 x2 x3) rfl rfl rfl rfl rfl rfl rfl rfl rfl rfl rfl rfl rfl rfl rfl rfl h0 h1 h2 h3 h4 h5 h6 h7 h8 h9 h10).elim
                    · have a9 := Ev.asOk_cons (Ev.asOk_le (is25 I) (is18 I) (Ev.df h9)) a8
                      exact fin I a9 run37 w
                  · have a8 := Ev.asOk_cons (Ev.asOk_le (is16 I) (is25 I) (Ev.df h8)) a7
                    exact fin I a8 run38 w
                · have a7 := Ev.asOk_cons (Ev.asOk_eq (is21 I) (is12 I) (Ev.df h7)) a6
                  exact fin I a7 run39 w
          · have a4 := Ev.asOk_cons (Ev.asOk_le (is4 I) (is5 I) (Ev.df h4)) a3
            by_cases h5 : z21 x0 x1 x2 x3 = z16 x0 x1 x2 x3
            · have a5 := Ev.asOk_cons (Ev.asOk_eq (is21 I) (is16 I) (Ev.dt h5)) a4
              by_cases h6 : z22 x0 x1 x2 x3 ≤ z24 x0 x1 x2 x3
              · have a6 := Ev.asOk_cons (Ev.asOk_le (is22 I) (is24 I) (Ev.dt h6)) a5
                by_cases h7 : z21 x0 x1 x2 x3 = z12 x0 x1 x2 x3
                · exact (dead60 x0 x1 x2 x3 B (z0 x0 x1 x2 x3) (z1 x0 x1 x2 x3) (z2 x0 x1 x2 x3) (z3 x0 x1 x2 x3) (z4 x0 x1 x2 x3) (z5 x0 x1 x2 x3) (z20 x0 x1 x2 x3) (z14 x0 x1 x2 x3) (z21 x0 x1 x2 x3) (z16 x0 x1 x2 x3) (z22 x0 x1 x2 x3) (z23 x0 x1 x2 x3) (z24 x0 x1 x2 x3) (z12 x0 x1 x2 x3) rfl rfl rfl rfl rfl rfl rfl rfl rfl rfl rfl rfl rfl rfl h0 h1 h2 h3 h4 h5 h6 h7).elim
                · have a7 := Ev.asOk_cons (Ev.asOk_eq (is21 I) (is12 I) (Ev.df h7)) a6
                  exact fin I a7 run40 w
              · have a6 := Ev.asOk_cons (Ev.asOk_le (is22 I) (is24 I) (Ev.df h6)) a5
                by_cases h7 : z0 x0 x1 x2 x3 ≤ z27 x0 x1 x2 x3
                · have a7 := Ev.asOk_cons (Ev.asOk_le (is0 I) (is27 I) (Ev.dt h7)) a6
                  by_cases h8 : z0 x0 x1 x2 x3 ≤ z28 x0 x1 x2 x3
                  · have a8 := Ev.asOk_cons (Ev.asOk_le (is0 I) (is28 I) (Ev.dt h8)) a7
                    by_cases h9 : z3 x0 x1 x2 x3 ≤ z27 x0 x1 x2 x3
                    · have a9 := Ev.asOk_cons (Ev.asOk_le (is3 I) (is27 I) (Ev.dt h9)) a8
                      by_cases h10 : z21 x0 x1 x2 x3 = z12 x0 x1 x2 x3
                      · exact (dead61 x0 x1 x2 x3 B (z0 x0 x1 x2 x3) (z1 x0 x1 x2 x3) (z2 x0 x1 x2 x3) (z3 x0 x1 x2 x3) (z4 x0 x1 x2 x3) (z5 x0 x1 x2 x3) (z20 x0 x1 x2 x3) (z14 x0 x1 x2 x3) (z21 x0 x1 x2 x3) (z16 x0 x1 x2 x3) (z22 x0 x1 x2 x3) (z23 x0 x1 x2 x3) (z24 x0 x1 x2 x3) (z9 x0 x1 x2 x3) (z25 x0 x1 x2 x3) (z26 x0 x1 x2 x3) (z27 x0 x1 x2 x3) (z28 x0 x1 x2 x3) (z12 x0 x1 x2 x3) rfl rfl rfl rfl rfl rfl rfl rfl rfl rfl rfl rfl rfl rfl rfl rfl rfl rfl rfl h0 h1 h2 h3 h4 h5 h6 h7 h8 h9 h10).elim
                      · have a10 := Ev.asOk_cons (Ev.asOk_eq (is21 I) (is12 I) (Ev.df h10)) a9
                        exact fin I a10 run41 w
                    · have a9 := Ev.asOk_cons (Ev.asOk_le (is3 I) (is27 I) (Ev.df h9)) a8
                      by_cases h10 : z3 x0 x1 x2 x3 ≤ z28 x0 x1 x2 x3
                      · exact (dead62 x0 x1 x2 x3 B (z0 x0 x1 x2 x3) (z1 x0 x1 x2 x3) (z2 x0 x1 x2 x3) (z3 x0 x1 x2 x3) (z4 x0 x1 x2 x3) (z5 x0 x1 x2 x3) (z20 x0 x1 x2 x3) (z14 x0 x1 x2 x3) (z21 x0 x1 x2 x3) (z16 x0 x1 x2 x3) (z22 x0 x1 x2 x3) (z23 x0 x1 x2 x3) (z24 x0 x1 x2 x3) (z9 x0 x1 x2 x3) (z25 x0 x1 x2 x3) (z26 x0 x1 x2 x3) (z27 x0 x1 x2 x3) (z28 x0 x1 x2 x3) rfl rfl rfl rfl rfl rfl rfl rfl rfl rfl rfl rfl rfl rfl rfl rfl rfl rfl h0 h1 h2 h3 h4 h5 h6 h7 h8 h9 h10).elim
                      · have a10 := Ev.asOk_cons (Ev.asOk_le (is3 I) (is28 I) (Ev.df h10)) a9
                        by_cases h11 : z30 x0 x1 x2 x3 ≤ z3 x0 x1 x2 x3
                        · have a11 := Ev.asOk_cons (Ev.asOk_le (is30 I) (is3 I) (Ev.dt h11)) a10
                          by_cases h12 : z37 x0 x1 x2 x3 = z20 x0 x1 x2 x3
                          · have a12 := Ev.asOk_cons (Ev.asOk_eq (is37 I) (is20 I) (Ev.dt h12)) a11
                            exact fin I a12 run42 w
                          · exact (dead63 x0 x1 x2 x3 B (z0 x0 x1 x2 x3) (z1 x0 x1 x2 x3) (z2 x0 x1 x2 x3) (z3 x0 x1 x2 x3) (z4 x0 x1 x2 x3) (z5 x0 x1 x2 x3) (z20 x0 x1 x2 x3) (z14 x0 x1 x2 x3) (z21 x0 x1 x2 x3) (z16 x0 x1 x2 x3) (z22 x0 x1 x2 x3) (z23 x0 x1 x2 x3) (z24 x0 x1 x2 x3) (z9 x0 x1 x2 x3) (z25 x0 x1 x2 x3) (z26 x0 x1 x2 x3) (z27 x0 x1 x2 x3) (z28 x0 x1 x2 x3) (z29 x0 x1 x2 x3) (z30 x0 x1 x2 x3) (z7 x0 x1 x2 x3) (z31 x0 x1 x2 x3) (z32 x0 x1 x2 x3) (z33 x0 x1 x2 x3) (z34 x0 x1 x2 x3) (z35 x0 x1 x2 x3) (z36 x0 x1 x2 x3) (z37 x0 x1 x2 x3) rfl rfl rfl rfl rfl rfl rfl rfl rfl rfl rfl rfl rfl rfl rfl rfl rfl rfl rfl rfl rfl rfl rfl rfl rfl rfl rfl rfl h0 h1 h2 h3 h4 h5 h6 h7 h8 h9 h10 h11 h12).elim
                        · have a11 := Ev.asOk_cons (Ev.asOk_le (is30 I) (is3 I) (Ev.df h11)) a10
                          by_cases h12 : z21 x0 x1 x2 x3 = z12 x0 x1 x2 x3
                          · exact (dead64 x0 x1 x2 x3 B (z0 x0 x1 x2 x3) (z1 x0 x1 x2 x3) (z2 x0 x1 x2 x3) (z3 x0 x1 x2 x3) (z4 x0 x1 x2 x3) (z5 x0 x1 x2 x3) (z20 x0 x1 x2 x3) (z14 x0 x1 x2 x3) (z21 x0 x1 x2 x3) (z16 x0 x1 x2 x3) (z22 x0 x1 x2 x3) (z23 x0 x1 x2 x3) (z24 x0 x1 x2 x3) (z9 x0 x1 x2 x3) (z25 x0 x1 x2 x3) (z26 x0 x1 x2 x3) (z27 x0 x1 x2 x3) (z28 x0 x1 x2 x3) (z29 x0 x1 x2 x3) (z30 x0 x1 x2 x3) (z12 x0 x1 x2 x3) rfl rfl rfl rfl rfl rfl rfl rfl rfl rfl rfl rfl rfl rfl rfl rfl rfl rfl rfl rfl rfl h0 h1 h2 h3 h4 h5 h6 h7 h8 h9 h10 h11 h12).elim
                          · have a12 := Ev.asOk_cons (Ev.asOk_eq (is21 I) (is12 I) (Ev.df h12)) a11
                            exact fin I a12 run43 w
                  · exact (dead65 x0 x1 x2 x3 B (z0 x0 x1 x2 x3) (z1 x0 x1 x2 x3) (z2 x0 x1 x2 x3) (z3 x0 x1 x2 x3) (z4 x0 x1 x2 x3) (z5 x0 x1 x2 x3) (z20 x0 x1 x2 x3) (z14 x0 x1 x2 x3) (z21 x0 x1 x2 x3) (z16 x0 x1 x2 x3) (z22 x0 x1 x2 x3) (z23 x0 x1 x2 x3) (z24 x0 x1 x2 x3) (z9 x0 x1 x2 x3) (z25 x0 x1 x2 x3) (z26 x0 x1 x2 x3) (z27 x0 x1 x2 x3) (z28 x0 x1 x2 x3) rfl rfl rfl rfl rfl rfl rfl rfl rfl rfl rfl rfl rfl rfl rfl rfl rfl rfl h0 h1 h2 h3 h4 h5 h6 h7 h8).elim
                · exact (dead66 x0 x1 x2 x3 B (z0 x0 x1 x2 x3) (z1 x0 x1 x2 x3) (z2 x0 x1 x2 x3) (z3 x0 x1 x2 x3) (z4 x0 x1 x2 x3) (z5 x0 x1 x2 x3) (z20 x0 x1 x2 x3) (z14 x0 x1 x2 x3) (z21 x0 x1 x2 x3) (z16 x0 x1 x2 x3) (z22 x0 x1 x2 x3) (z23 x0 x1 x2 x3) (z24 x0 x1 x2 x3) (z9 x0 x1 x2 x3) (z25 x0 x1 x2 x3) (z26 x0 x1 x2 x3) (z27 x0 x1 x2 x3) rfl rfl rfl rfl rfl rfl rfl rfl rfl rfl rfl rfl rfl rfl rfl rfl rfl h0 h1 h2 h3 h4 h5 h6 h7).elim
            · have a5 := Ev.asOk_cons (Ev.asOk_eq (is21 I) (is16 I) (Ev.df h5)) a4
              by_cases h6 : z21 x0 x1 x2 x3 = z12 x0 x1 x2 x3
              · have a6 := Ev.asOk_cons (Ev.asOk_eq (is21 I) (is12 I) (Ev.dt h6)) a5
                by_cases h7 : z16 x0 x1 x2 x3 ≤ z25 x0 x1 x2 x3
                · have a7 := Ev.asOk_cons (Ev.asOk_le (is16 I) (is25 I) (Ev.dt h7)) a6
                  by_cases h8 : z25 x0 x1 x2 x3 ≤ z18 x0 x1 x2 x3
                  · have a8 := Ev.asOk_cons (Ev.asOk_le (is25 I) (is18 I) (Ev.dt h8)) a7
                    by_cases h9 : z4 x0 x1 x2 x3 ≤ z38 x0 x1 x2 x3
                    · have a9 := Ev.asOk_cons (Ev.asOk_le (is4 I) (is38 I) (Ev.dt h9)) a8
                      by_cases h10 : z38 x0 x1 x2 x3 ≤ z6 x0 x1 x2 x3
                      · have a10 := Ev.asOk_cons (Ev.asOk_le (is38 I) (is6 I) (Ev.dt h10)) a9
                        by_cases h11 : z42 x0 x1 x2 x3 = z20 x0 x1 x2 x3
                        · have a11 := Ev.asOk_cons (Ev.asOk_eq (is42 I) (is20 I) (Ev.dt h11)) a10
                          exact fin I a11 run44 w
                        · exact (dead67 x0 x1 x2 x3 B (z0 x0 x1 x2 x3) (z1 x0 x1 x2 x3) (z2 x0 x1 x2 x3) (z3 x0 x1 x2 x3) (z4 x0 x1 x2 x3) (z5 x0 x1 x2 x3) (z20 x0 x1 x2 x3) (z14 x0 x1 x2 x3) (z21 x0 x1 x2 x3) (z16 x0 x1 x2 x3) (z12 x0 x1 x2 x3) (z9 x0 x1 x2 x3) (z25 x0 x1 x2 x3) (z18 x0 x1 x2 x3) (z38 x0 x1 x2 x3) (z6 x0 x1 x2 x3) (z7 x0 x1 x2 x3) (z39 x0 x1 x2 x3) (z40 x0 x1 x2 x3) (z41 x0 x1 x2 x3) (z42 x0 x1 x2 x3) rfl rfl rfl rfl rfl rfl rfl rfl rfl rfl rfl rfl rfl rfl rfl rfl rfl rfl rfl rfl rfl h0 h1 h2 h3 h4 h5 h6 h7 h8 h9 h10 h11).elim
                      · exact (dead68 x0 x1 x2 x3 B (z0 x0 x1 x2 x3) (z1 x0 x1 x2 x3) (z2 x0 x1 x2 x3) (z3 x0 x1 x2 x3) (z4 x0 x1 x2 x3) (z5 x0 x1 x2 x3) (z20 x0 x1 x2 x3) (z14 x0 x1 x2 x3) (z21 x0 x1 x2 x3) (z16 x0 x1 x2 x3) (z12 x0 x1 x2 x3) (z9 x0 x1 x2 x3) (z25 x0 x1 x2 x3) (z18 x0 x1 x2 x3) (z38 x0 x1 x2 x3) (z6 x0 x1 x2 x3) rfl rfl rfl rfl rfl rfl rfl rfl rfl rfl rfl rfl rfl rfl rfl rfl h0 h1 h2 h3 h4 h5 h6 h7 h8 h9 h10).elim
                    · exact (dead69 x0 x1 x2 x3 B (z0 x0 x1 x2 x3) (z1 x0 x1 x2 x3) (z2 x0 x1 x2 x3) (z3 x0 x1 x2 x3) (z4 x0 x1 x2 x3) (z5 x0 x1 x2 x3) (z20 x0 x1 x2 x3) (z14 x0 x1 x2 x3) (z21 x0 x1 x2 x3) (z16 x0 x1 x2 x3) (z12 x0 x1 x2 x3) (z9 x0 x1 x2 x3) (z25 x0 x1 x2 x3) (z18 x0 x1 x2 x3) (z38 x0 x1 x2 x3) rfl rfl rfl rfl rfl rfl rfl rfl rfl rfl rfl rfl rfl rfl rfl h0 h1 h2 h3 h4 h5 h6 h7 h8 h9).elim
                  · have a8 := Ev.asOk_cons (Ev.asOk_le (is25 I) (is18 I) (Ev.df h8)) a7
                    exact fin I a8 run45 w
                · have a7 := Ev.asOk_cons (Ev.asOk_le (is16 I) (is25 I) (Ev.df h7)) a6
                  exact fin I a7 run46 w
              · have a6 := Ev.asOk_cons (Ev.asOk_eq (is21 I) (is12 I) (Ev.df h6)) a5
                exact fin I a6 run47 w
        · have a3 := Ev.asOk_cons (Ev.asOk_le (is3 I) (is2 I) (Ev.df h3)) a2
          by_cases h4 : z44 x0 x1 x2 x3 ≤ z3 x0 x1 x2 x3
          · have a4 := Ev.asOk_cons (Ev.asOk_le (is44 I) (is3 I) (Ev.dt h4)) a3
            by_cases h5 : z52 x0 x1 x2 x3 = z16 x0 x1 x2 x3
            · have a5 := Ev.asOk_cons (Ev.asOk_eq (is52 I) (is16 I) (Ev.dt h5)) a4
              by_cases h6 : z22 x0 x1 x2 x3 ≤ z53 x0 x1 x2 x3
              · exact (dead70 x0 x1 x2 x3 B (z0 x0 x1 x2 x3) (z1 x0 x1 x2 x3) (z2 x0 x1 x2 x3) (z3 x0 x1 x2 x3) (z4 x0 x1 x2 x3) (z43 x0 x1 x2 x3) (z44 x0 x1 x2 x3) (z7 x0 x1 x2 x3) (z45 x0 x1 x2 x3) (z23 x0 x1 x2 x3) (z46 x0 x1 x2 x3) (z16 x0 x1 x2 x3) (z47 x0 x1 x2 x3) (z48 x0 x1 x2 x3) (z49 x0 x1 x2 x3) (z9 x0 x1 x2 x3) (z50 x0 x1 x2 x3) (z51 x0 x1 x2 x3) (z14 x0 x1 x2 x3) (z52 x0 x1 x2 x3) (z22 x0 x1 x2 x3) (z53 x0 x1 x2 x3) rfl rfl rfl rfl rfl rfl rfl rfl rfl rfl rfl rfl rfl rfl rfl rfl rfl rfl rfl rfl rfl rfl h0 h1 h2 h3 h4 h5 h6).elim
              · have a6 := Ev.asOk_cons (Ev.asOk_le (is22 I) (is53 I) (Ev.df h6)) a5
                by_cases h7 : z0 x0 x1 x2 x3 ≤ z56 x0 x1 x2 x3
                · have a7 := Ev.asOk_cons (Ev.asOk_le (is0 I) (is56 I) (Ev.dt h7)) a6
                  by_cases h8 : z0 x0 x1 x2 x3 ≤ z57 x0 x1 x2 x3
                  · have a8 := Ev.asOk_cons (Ev.asOk_le (is0 I) (is57 I) (Ev.dt h8)) a7
                    by_cases h9 : z3 x0 x1 x2 x3 ≤ z56 x0 x1 x2 x3
                    · exact (dead71 x0 x1 x2 x3 B (z0 x0 x1 x2 x3) (z1 x0 x1 x2 x3) (z2 x0 x1 x2 x3) (z3 x0 x1 x2 x3) (z4 x0 x1 x2 x3) (z43 x0 x1 x2 x3) (z44 x0 x1 x2 x3) (z7 x0 x1 x2 x3) (z45 x0 x1 x2 x3) (z23 x0 x1 x2 x3) (z46 x0 x1 x2 x3) (z16 x0 x1 x2 x3) (z47 x0 x1 x2 x3) (z48 x0 x1 x2 x3) (z49 x0 x1 x2 x3) (z9 x0 x1 x2 x3) (z50 x0 x1 x2 x3) (z51 x0 x1 x2 x3) (z14 x0 x1 x2 x3) (z52 x0 x1 x2 x3) (z22 x0 x1 x2 x3) (z53 x0 x1 x2 x3) (z54 x0 x1 x2 x3) (z55 x0 x1 x2 x3) (z56 x0 x1 x2 x3) (z57 x0 x1 x2 x3) rfl rfl rfl rfl rfl rfl rfl rfl rfl rfl rfl rfl rfl rfl rfl rfl rfl rfl rfl rfl rfl rfl rfl rfl rfl rfl h0 h1 h2 h3 h4 h5 h6 h7 h8 h9).elim
                    · have a9 := Ev.asOk_cons (Ev.asOk_le (is3 I) (is56 I) (Ev.df h9)) a8
                      by_cases h10 : z3 x0 x1 x2 x3 ≤ z57 x0 x1 x2 x3
                      · exact (dead72 x0 x1 x2 x3 B (z0 x0 x1 x2 x3) (z1 x0 x1 x2 x3) (z2 x0 x1 x2 x3) (z3 x0 x1 x2 x3) (z4 x0 x1 x2 x3) (z43 x0 x1 x2 x3) (z44 x0 x1 x2 x3) (z7 x0 x1 x2 x3) (z45 x0 x1 x2 x3) (z23 x0 x1 x2 x3) (z46 x0 x1 x2 x3) (z16 x0 x1 x2 x3) (z47 x0 x1 x2 x3) (z48 x0 x1 x2 x3) (z49 x0 x1 x2 x3) (z9 x0 x1 x2 x3) (z50 x0 x1 x2 x3) (z51 x0 x1 x2 x3) (z14 x0 x1 x2 x3) (z52 x0 x1 x2 x3) (z22 x0 x1 x2 x3) (z53 x0 x1 x2 x3) (z54 x0 x1 x2 x3) (z55 x0 x1 x2 x3) (z56 x0 x1 x2 x3) (z57 x0 x1 x2 x3) rfl rfl rfl rfl rfl rfl rfl rfl rfl rfl rfl rfl rfl rfl rfl rfl rfl rfl rfl rfl rfl rfl rfl rfl rfl rfl h0 h1 h2 h3 h4 h5 h6 h7 h8 h9 h10).elim
                      · have a10 := Ev.asOk_cons (Ev.asOk_le (is3 I) (is57 I) (Ev.df h10)) a9
                        by_cases h11 : z59 x0 x1 x2 x3 ≤ z3 x0 x1 x2 x3
                        · have a11 := Ev.asOk_cons (Ev.asOk_le (is59 I) (is3 I) (Ev.dt h11)) a10
                          by_cases h12 : z56 x0 x1 x2 x3 = z1 x0 x1 x2 x3
                          · have a12 := Ev.asOk_cons (Ev.asOk_eq (is56 I) (is1 I) (Ev.dt h12)) a11
                            by_cases h13 : z57 x0 x1 x2 x3 = z2 x0 x1 x2 x3
                            · have a13 := Ev.asOk_cons (Ev.asOk_eq (is57 I) (is2 I) (Ev.dt h13)) a12
                              by_cases h14 : z4 x0 x1 x2 x3 ≤ z5 x0 x1 x2 x3
                              · have a14 := Ev.asOk_cons (Ev.asOk_le (is4 I) (is5 I) (Ev.dt h14)) a13
                                by_cases h15 : z5 x0 x1 x2 x3 ≤ z6 x0 x1 x2 x3
                                · have a15 := Ev.asOk_cons (Ev.asOk_le (is5 I) (is6 I) (Ev.dt h15)) a14
                                  by_cases h16 : z15 x0 x1 x2 x3 = z16 x0 x1 x2 x3
                                  · exact (dead73 x0 x1 x2 x3 B (z0 x0 x1 x2 x3) (z1 x0 x1 x2 x3) (z2 x0 x1 x2 x3) (z3 x0 x1 x2 x3) (z4 x0 x1 x2 x3) (z43 x0 x1 x2 x3) (z44 x0 x1 x2 x3) (z7 x0 x1 x2 x3) (z45 x0 x1 x2 x3) (z23 x0 x1 x2 x3) (z46 x0 x1 x2 x3) (z16 x0 x1 x2 x3) (z47 x0 x1 x2 x3) (z48 x0 x1 x2 x3) (z49 x0 x1 x2 x3) (z9 x0 x1 x2 x3) (z50 x0 x1 x2 x3) (z51 x0 x1 x2 x3) (z14 x0 x1 x2 x3) (z52 x0 x1 x2 x3) (z22 x0 x1 x2 x3) (z53 x0 x1 x2 x3) (z54 x0 x1 x2 x3) (z55 x0 x1 x2 x3) (z56 x0 x1 x2 x3) (z57 x0 x1 x2 x3) (z58 x0 x1 x2 x3) (z59 x0 x1 x2 x3) (z5 x0 x1 x2 x3) (z6 x0 x1 x2 x3) (z8 x0 x1 x2 x3) (z10 x0 x1 x2 x3) (z11 x0 x1 x2 x3) (z12 x0 x1 x2 x3) (z13 x0 x1 x2 x3) (z15 x0 x1 x2 x3) rfl rfl rfl rfl rfl rfl rfl rfl rfl rfl rfl rfl rfl rfl rfl rfl rfl rfl rfl rfl rfl rfl rfl rfl rfl rfl rfl rfl rfl rfl rfl rfl rfl rfl rfl rfl h0 h1 h2 h3 h4 h5 h6 h7 h8 h9 h10 h11 h12 h13 h14 h15 h16).elim
                                  · have a16 := Ev.asOk_cons (Ev.asOk_eq (is15 I) (is16 I) (Ev.df h16)) a15
                                    by_cases h17 : z15 x0 x1 x2 x3 = z12 x0 x1 x2 x3
                                    · have a17 := Ev.asOk_cons (Ev.asOk_eq (is15 I) (is12 I) (Ev.dt h17)) a16
                                      by_cases h18 : z16 x0 x1 x2 x3 ≤ z17 x0 x1 x2 x3
                                      · have a18 := Ev.asOk_cons (Ev.asOk_le (is16 I) (is17 I) (Ev.dt h18)) a17
                                        by_cases h19 : z17 x0 x1 x2 x3 ≤ z18 x0 x1 x2 x3
                                        · have a19 := Ev.asOk_cons (Ev.asOk_le (is17 I) (is18 I) (Ev.dt h19)) a18
                                          by_cases h20 : z19 x0 x1 x2 x3 = z5 x0 x1 x2 x3
                                          · have a20 := Ev.asOk_cons (Ev.asOk_eq (is19 I) (is5 I) (Ev.dt h20)) a19
                                            by_cases h21 : z21 x0 x1 x2 x3 = z16 x0 x1 x2 x3
                                            · have a21 := Ev.asOk_cons (Ev.asOk_eq (is21 I) (is16 I) (Ev.dt h21)) a20
                                              by_cases h22 : z22 x0 x1 x2 x3 ≤ z24 x0 x1 x2 x3
                                              · have a22 := Ev.asOk_cons (Ev.asOk_le (is22 I) (is24 I) (Ev.dt h22)) a21
                                                by_cases h23 : z21 x0 x1 x2 x3 = z12 x0 x1 x2 x3
                                                · exact (dead74 x0 x1 x2 x3 B (z0 x0 x1 x2 x3) (z1 x0 x1 x2 x3) (z2 x0 x1 x2 x3) (z3 x0 x1 x2 x3) (z4 x0 x1 x2 x3) (z43 x0 x1 x2 x3) (z44 x0 x1 x2 x3) (z7 x0 x1 x2 x3) (z45 x0 x1 x2 x3) (z23 x0 x1 x2 x3) (z46 x0 x1 x2 x3) (z16 x0 x1 x2 x3) (z47 x0 x1 x2 x3) (z48 x0 x1 x2 x3) (z49 x0 x1 x2 x3) (z9 x0 x1 x2 x3) (z50 x0 x1 x2 x3) (z51 x0 x1 x2 x3) (z14 x0 x1 x2 x3) (z52 x0 x1 x2 x3) (z22 x0 x1 x2 x3) (z53 x0 x1 x2 x3) (z54 x0 x1 x2 x3) (z55 x0 x1 x2 x3) (z56 x0 x1 x2 x3) (z57 x0 x1 x2 x3) (z58 x0 x1 x2 x3) (z59 x0 x1 x2 x3) (z5 x0 x1 x2 x3) (z6 x0 x1 x2 x3) (z8 x0 x1 x2 x3) (z10 x0 x1 x2 x3) (z11 x0 x1 x2 x3) (z12 x0 x1 x2 x3) (z13 x0 x1 x2 x3) (z15 x0 x1 x2 x3) (z17 x0 x1 x2 x3) (z18 x0 x1 x2 x3) (z19 x0 x1 x2 x3) (z20 x0 x1 x2 x3) (z21 x0 x1 x2 x3) (z24 x0 x1 x2 x3) rfl rfl rfl rfl rfl rfl rfl rfl rfl rfl rfl rfl rfl rfl rfl rfl rfl rfl rfl rfl rfl rfl rfl rfl rfl rfl rfl rfl rfl rfl rfl rfl rfl rfl rfl rfl rfl rfl rfl rfl rfl rfl h0 h1 h2 h3 h4 h5 h6 h7 h8 h9 h10 h11 h12 h13 h14 h15 h16 h17 h18 h19 h20 h21 h22 h23).elim
                                                · have a23 := Ev.asOk_cons (Ev.asOk_eq (is21 I) (is12 I) (Ev.df h23)) a22
                                                  exact fin I a23 run48 w
                                              · have a22 := Ev.asOk_cons (Ev.asOk_le (is22 I) (is24 I) (Ev.df h22)) a21
                                                by_cases h23 : z0 x0 x1 x2 x3 ≤ z27 x0 x1 x2 x3
                                                · have a23 := Ev.asOk_cons (Ev.asOk_le (is0 I) (is27 I) (Ev.dt h23)) a22
                                                  by_cases h24 : z0 x0 x1 x2 x3 ≤ z28 x0 x1 x2 x3
                                                  · have a24 := Ev.asOk_cons (Ev.asOk_le (is0 I) (is28 I) (Ev.dt h24)) a23
                                                    by_cases h25 : z3 x0 x1 x2 x3 ≤ z27 x0 x1 x2 x3
                                                    · have a25 := Ev.asOk_cons (Ev.asOk_le (is3 I) (is27 I) (Ev.dt h25)) a24
                                                      by_cases h26 : z21 x0 x1 x2 x3 = z12 x0 x1 x2 x3
                                                      · exact (dead75 x0 x1 x2 x3 B (z0 x0 x1 x2 x3) (z1 x0 x1 x2 x3) (z2 x0 x1 x2 x3) (z3 x0 x1 x2 x3) (z4 x0 x1 x2 x3) (z43 x0 x1 x2 x3) (z44 x0 x1 x2 x3) (z7 x0 x1 x2 x3) (z45 x0 x1 x2 x3) (z23 x0 x1 x2 x3) (z46 x0 x1 x2 x3) (z16 x0 x1 x2 x3) (z47 x0 x1 x2 x3) (z48 x0 x1 x2 x3) (z49 x0 x1 x2 x3) (z9 x0 x1 x2 x3) (z50 x0 x1 x2 x3) (z51 x0 x1 x2 x3) (z14 x0 x1 x2 x3) (z52 x0 x1 x2 x3) (z22 x0 x1 x2 x3) (z53 x0 x1 x2 x3) (z54 x0 x1 x2 x3) (z55 x0 x1 x2 x3) (z56 x0 x1 x2 x3) (z57 x0 x1 x2 x3) (z58 x0 x1 x2 x3) (z59 x0 x1 x2 x3) (z5 x0 x1 x2 x3) (z6 x0 x1 x2 x3) (z8 x0 x1 x2 x3) (z10 x0 x1 x2 x3) (z11 x0 x1 x2 x3) (z12 x0 x1 x2 x3) (z13 x0 x1 x2 x3) (z15 x0 x1 x2 x3) (z17 x0 x1 x2 x3) (z18 x0 x1 x2 x3) (z19 x0 x1 x2 x3) (z20 x0 x1 x2 x3) (z21 x0 x1 x2 x3) (z24 x0 x1 x2 x3) (z25 x0 x1 x2 x3) (z26 x0 x1 x2 x3) (z27 x0 x1 x2 x3) (z28 x0 x1 x2 x3) rfl rfl rfl rfl rfl rfl rfl rfl rfl rfl rfl rfl rfl rfl rfl rfl rfl rfl rfl rfl rfl rfl rfl rfl rfl rfl rfl rfl rfl rfl rfl rfl rfl rfl rfl rfl rfl rfl rfl rfl rfl rfl rfl rfl rfl rfl h0 h1 h2 h3 h4 h5 h6 h7 h8 h9 h10 h11 h12 h13 h14 h15 h16 h17 h18 h19 h20 h21 h22 h23 h24 h25 h26).elim
                                                      · have a26 := Ev.asOk_cons (Ev.asOk_eq (is21 I) (is12 I) (Ev.df h26)) a25
                                                        exact fin I a26 run49 w
                                                    · have a25 := Ev.asOk_cons (Ev.asOk_le (is3 I) (is27 I) (Ev.df h25)) a24
                                                      by_cases h26 : z3 x0 x1 x2 x3 ≤ z28 x0 x1 x2 x3
                                                      · exact (dead76 x0 x1 x2 x3 B (z0 x0 x1 x2 x3) (z1 x0 x1 x2 x3) (z2 x0 x1 x2 x3) (z3 x0 x1 x2 x3) (z4 x0 x1 x2 x3) (z43 x0 x1 x2 x3) (z44 x0 x1 x2 x3) (z7 x0 x1 x2 x3) (z45 x0 x1 x2 x3) (z23 x0 x1 x2 x3) (z46 x0 x1 x2 x3) (z16 x0 x1 x2 x3) (z47 x0 x1 x2 x3) (z48 x0 x1 x2 x3) (z49 x0 x1 x2 x3) (z9 x0 x1 x2 x3) (z50 x0 x1 x2 x3) (z51 x0 x1 x2 x3) (z14 x0 x1 x2 x3) (z52 x0 x1 x2 x3) (z22 x0 x1 x2 x3) (z53 x0 x1 x2 x3) (z54 x0 x1 x2 x3) (z55 x0 x1 x2 x3) (z56 x0 x1 x2 x3) (z57 x0 x1 x2 x3) (z58 x0 x1 x2 x3) (z59 x0 x1 x2 x3) (z5 x0 x1 x2 x3) (z6 x0 x1 x2 x3) (z8 x0 x1 x2 x3) (z10 x0 x1 x2 x3) (z11 x0 x1 x2 x3) (z12 x0 x1 x2 x3) (z13 x0 x1 x2 x3) (z15 x0 x1 x2 x3) (z17 x0 x1 x2 x3) (z18 x0 x1 x2 x3) (z19 x0 x1 x2 x3) (z20 x0 x1 x2 x3) (z21 x0 x1 x2 x3) (z24 x0 x1 x2 x3) (z25 x0 x1 x2 x3) (z26 x0 x1 x2 x3) (z27 x0 x1 x2 x3) (z28 x0 x1 x2 x3) rfl rfl rfl rfl rfl rfl rfl rfl rfl rfl rfl rfl rfl rfl rfl rfl rfl rfl rfl rfl rfl rfl rfl rfl rfl rfl rfl rfl rfl rfl rfl rfl rfl rfl rfl rfl rfl rfl rfl rfl rfl rfl rfl rfl rfl rfl h0 h1 h2 h3 h4 h5 h6 h7 h8 h9 h10 h11 h12 h13 h14 h15 h16 h17 h18 h19 h20 h21 h22 h23 h24 h25 h26).elim
                                                      · have a26 := Ev.asOk_cons (Ev.asOk_le (is3 I) (is28 I) (Ev.df h26)) a25
                                                        by_cases h27 : z30 x0 x1 x2 x3 ≤ z3 x0 x1 x2 x3
                                                        · have a27 := Ev.asOk_cons (Ev.asOk_le (is30 I) (is3 I) (Ev.dt h27)) a26
                                                          by_cases h28 : z37 x0 x1 x2 x3 = z20 x0 x1 x2 x3
                                                          · have a28 := Ev.asOk_cons (Ev.asOk_eq (is37 I) (is20 I) (Ev.dt h28)) a27
                                                            exact fin I a28 run50 w
                                                          · exact (dead77 x0 x1 x2 x3 B (z0 x0 x1 x2 x3) (z1 x0 x1 x2 x3) (z2 x0 x1 x2 x3) (z3 x0 x1 x2 x3) (z4 x0 x1 x2 x3) (z43 x0 x1 x2 x3) (z44 x0 x1 x2 x3) (z7 x0 x1 x2 x3) (z45 x0 x1 x2 x3) (z23 x0 x1 x2 x3) (z46 x0 x1 x2 x3) (z16 x0 x1 x2 x3) (z47 x0 x1 x2 x3) (z48 x0 x1 x2 x3) (z49 x0 x1 x2 x3) (z9 x0 x1 x2 x3) (z50 x0 x1 x2 x3) (z51 x0 x1 x2 x3) (z14 x0 x1 x2 x3) (z52 x0 x1 x2 x3) (z22 x0 x1 x2 x3) (z53 x0 x1 x2 x3) (z54 x0 x1 x2 x3) (z55 x0 x1 x2 x3) (z56 x0 x1 x2 x3) (z57 x0 x1 x2 x3) (z58 x0 x1 x2 x3) (z59 x0 x1 x2 x3) (z5 x0 x1 x2 x3) (z6 x0 x1 x2 x3) (z8 x0 x1 x2 x3) (z10 x0 x1 x2 x3) (z11 x0 x1 x2 x3) (z12 x0 x1 x2 x3) (z13 x0 x1 x2 x3) (z15 x0 x1 x2 x3) (z17 x0 x1 x2 x3) (z18 x0 x1 x2 x3) (z19 x0 x1 x2 x3) (z20 x0 x1 x2 x3) (z21 x0 x1 x2 x3) (z24 x0 x1 x2 x3) (z25 x0 x1 x2 x3) (z26 x0 x1 x2 x3) (z27 x0 x1 x2 x3) (z28 x0 x1 x2 x3) (z29 x0 x1 x2 x3) (z30 x0 x1 x2 x3) (z31 x0 x1 x2 x3) (z32 x0 x1 x2 x3) (z33 x0 x1 x2 x3) (z34 x0 x1 x2 x3) (z35 x0 x1 x2 x3) (z36 x0 x1 x2 x3) (z37 x0 x1 x2 x3) rfl rfl rfl rfl rfl rfl rfl rfl rfl rfl rfl rfl rfl rfl rfl rfl rfl rfl rfl rfl rfl rfl rfl rfl rfl rfl rfl rfl rfl rfl rfl rfl rfl rfl rfl rfl rfl rfl rfl rfl rfl rfl rfl rfl rfl rfl rfl rfl rfl rfl rfl rfl rfl rfl rfl h0 h1 h2 h3 h4 h5 h6 h7 h8 h9 h10 h11 h12 h13 h14 h15 h16 h17 h18 h19 h20 h21 h22 h23 h24 h25 h26 h27 h28).elim
                                                        · have a27 := Ev.asOk_cons (Ev.asOk_le (is30 I) (is3 I) (Ev.df h27)) a26
                                                          by_cases h28 : z21 x0 x1 x2 x3 = z12 x0 x1 x2 x3
                                                          · exact (dead78 x0 x1 x2 x3 B (z0 x0 x1 x2 x3) (z1 x0 x1 x2 x3) (z2 x0 x1 x2 x3) (z3 x0 x1 x2 x3) (z4 x0 x1 x2 x3) (z43 x0 x1 x2 x3) (z44 x0 x1 x2 x3) (z7 x0 x1 x2 x3) (z45 x0 x1 x2 x3) (z23 x0 x1 x2 x3) (z46 x0 x1 x2 x3) (z16 x0 x1 x2 x3) (z47 x0 x1 x2 x3) (z48 x0 x1 x2 x3) (z49 x0 x1 x2 x3) (z9 x0 x1 x2 x3) (z50 x0 x1 x2 x3) (z51 x0 x1 x2 x3) (z14 x0 x1 x2 x3) (z52 x0 x1 x2 x3) (z22 x0 x1 x2 x3) (z53 x0 x1 x2 x3) (z54 x0 x1 x2 x3) (z55 x0 x1 x2 x3) (z56 x0 x1 x2 x3) (z57 x0 x1 x2 x3) (z58 x0 x1 x2 x3) (z59 x0 x1 x2 x3) (z5 x0 x1 x2 x3) (z6 x0 x1 x2 x3) (z8 x0 x1 x2 x3) (z10 x0 x1 x2 x3) (z11 x0 x1 x2 x3) (z12 x0 x1 x2 x3) (z13 x0 x1 x2 x3) (z15 x0 x1 x2 x3) (z17 x0 x1 x2 x3) (z18 x0 x1 x2 x3) (z19 x0 x1 x2 x3) (z20 x0 x1 x2 x3) (z21 x0 x1 x2 x3) (z24 x0 x1 x2 x3) (z25 x0 x1 x2 x3) (z26 x0 x1 x2 x3) (z27 x0 x1 x2 x3) (z28 x0 x1 x2 x3) (z29 x0 x1 x2 x3) (z30 x0 x1 x2 x3) rfl rfl rfl rfl rfl rfl rfl rfl rfl rfl rfl rfl rfl rfl rfl rfl rfl rfl rfl rfl rfl rfl rfl rfl rfl rfl rfl rfl rfl rfl rfl rfl rfl rfl rfl rfl rfl rfl rfl rfl rfl rfl rfl rfl rfl rfl rfl rfl h0 h1 h2 h3 h4 h5 h6 h7 h8 h9 h10 h11 h12 h13 h14 h15 h16 h17 h18 h19 h20 h21 h22 h23 h24 h25 h26 h27 h28).elim
                                                          · have a28 := Ev.asOk_cons (Ev.asOk_eq (is21 I) (is12 I) (Ev.df h28)) a27
                                                            exact fin I a28 run51 w
                                                  · exact (dead79 x0 x1 x2 x3 B (z0 x0 x1 x2 x3) (z1 x0 x1 x2 x3) (z2 x0 x1 x2 x3) (z3 x0 x1 x2 x3) (z4 x0 x1 x2 x3) (z43 x0 x1 x2 x3) (z44 x0 x1 x2 x3) (z7 x0 x1 x2 x3) (z45 x0 x1 x2 x3) (z23 x0 x1 x2 x3) (z46 x0 x1 x2 x3) (z16 x0 x1 x2 x3) (z47 x0 x1 x2 x3) (z48 x0 x1 x2 x3) (z49 x0 x1 x2 x3) (z9 x0 x1 x2 x3) (z50 x0 x1 x2 x3) (z51 x0 x1 x2 x3) (z14 x0 x1 x2 x3) (z52 x0 x1 x2 x3) (z22 x0 x1 x2 x3) (z53 x0 x1 x2 x3) (z54 x0 x1 x2 x3) (z55 x0 x1 x2 x3) (z56 x0 x1 x2 x3) (z57 x0 x1 x2 x3) (z58 x0 x1 x2 x3) (z59 x0 x1 x2 x3) (z5 x0 x1 x2 x3) (z6 x0 x1 x2 x3) (z8 x0 x1 x2 x3) (z10 x0 x1 x2 x3) (z11 x0 x1 x2 x3) (z12 x0 x1 x2 x3) (z13 x0 x1 x2 x3) (z15 x0 x1 x2 x3) (z17 x0 x1 x2 x3) (z18 x0 x1 x2 x3) (z19 x0 x1 x2 x3) (z20 x0 x1 x2 x3) (z21 x0 x1 x2 x3) (z24 x0 x1 x2 x3) (z25 x0 x1 x2 x3) (z26 x0 x1 x2 x3) (z27 x0 x1 x2 x3) (z28 x0 x1 x2 x3) rfl rfl rfl rfl rfl rfl rfl rfl rfl rfl rfl rfl rfl rfl rfl rfl rfl rfl rfl rfl rfl rfl rfl rfl rfl rfl rfl rfl rfl rfl rfl rfl rfl rfl rfl rfl rfl rfl rfl rfl rfl rfl rfl rfl rfl rfl h0 h1 h2 h3 h4 h5 h6 h7 h8 h9 h10 h11 h12 h13 h14 h15 h16 h17 h18 h19 h20 h21 h22 h23 h24).elim
                                                · exact (dead80 x0 x1 x2 x3 B (z0 x0 x1 x2 x3) (z1 x0 x1 x2 x3) (z2 x0 x1 x2 x3) (z3 x0 x1 x2 x3) (z4 x0 x1 x2 x3) (z43 x0 x1 x2 x3) (z44 x0 x1 x2 x3) (z7 x0 x1 x2 x3) (z45 x0 x1 x2 x3) (z23 x0 x1 x2 x3) (z46 x0 x1 x2 x3) (z16 x0 x1 x2 x3) (z47 x0 x1 x2 x3) (z48 x0 x1 x2 x3) (z49 x0 x1 x2 x3) (z9 x0 x1 x2 x3) (z50 x0 x1 x2 x3) (z51 x0 x1 x2 x3) (z14 x0 x1 x2 x3) (z52 x0 x1 x2 x3) (z22 x0 x1 x2 x3) (z53 x0 x1 x2 x3) (z54 x0 x1 x2 x3) (z55 x0 x1 x2 x3) (z56 x0 x1 x2 x3) (z57 x0 x1 x2 x3) (z58 x0 x1 x2 x3) (z59 x0 x1 x2 x3) (z5 x0 x1 x2 x3) (z6 x0 x1 x2 x3) (z8 x0 x1 x2 x3) (z10 x0 x1 x2 x3) (z11 x0 x1 x2 x3) (z12 x0 x1 x2 x3) (z13 x0 x1 x2 x3) (z15 x0 x1 x2 x3) (z17 x0 x1 x2 x3) (z18 x0 x1 x2 x3) (z19 x0 x1 x2 x3) (z20 x0 x1 x2 x3) (z21 x0 x1 x2 x3) (z24 x0 x1 x2 x3) (z25 x0 x1 x2 x3) (z26 x0 x1 x2 x3) (z27 x0 x1 x2 x3) rfl rfl rfl rfl rfl rfl rfl rfl rfl rfl rfl rfl rfl rfl rfl rfl rfl rfl rfl rfl rfl rfl rfl rfl rfl rfl rfl rfl rfl rfl rfl rfl rfl rfl rfl rfl rfl rfl rfl rfl rfl rfl rfl rfl rfl h0 h1 h2 h3 h4 h5 h6 h7 h8 h9 h10 h11 h12 h13 h14 h15 h16 h17 h18 h19 h20 h21 h22 h23).elim
                                            · have a21 := Ev.asOk_cons (Ev.asOk_eq (is21 I) (is16 I) (Ev.df h21)) a20
                                              by_cases h22 : z21 x0 x1 x2 x3 = z12 x0 x1 x2 x3
                                              · have a22 := Ev.asOk_cons (Ev.asOk_eq (is21 I) (is12 I) (Ev.dt h22)) a21
                                                by_cases h23 : z16 x0 x1 x2 x3 ≤ z25 x0 x1 x2 x3
                                                · have a23 := Ev.asOk_cons (Ev.asOk_le (is16 I) (is25 I) (Ev.dt h23)) a22
                                                  by_cases h24 : z25 x0 x1 x2 x3 ≤ z18 x0 x1 x2 x3
                                                  · have a24 := Ev.asOk_cons (Ev.asOk_le (is25 I) (is18 I) (Ev.dt h24)) a23
                                                    by_cases h25 : z4 x0 x1 x2 x3 ≤ z38 x0 x1 x2 x3
                                                    · have a25 := Ev.asOk_cons (Ev.asOk_le (is4 I) (is38 I) (Ev.dt h25)) a24
                                                      by_cases h26 : z38 x0 x1 x2 x3 ≤ z6 x0 x1 x2 x3
                                                      · have a26 := Ev.asOk_cons (Ev.asOk_le (is38 I) (is6 I) (Ev.dt h26)) a25
                                                        by_cases h27 : z42 x0 x1 x2 x3 = z20 x0 x1 x2 x3
                                                        · have a27 := Ev.asOk_cons (Ev.asOk_eq (is42 I) (is20 I) (Ev.dt h27)) a26
                                                          exact fin I a27 run52 w
                                                        · exact (dead81 x0 x1 x2 x3 B (z0 x0 x1 x2 x3) (z1 x0 x1 x2 x3) (z2 x0 x1 x2 x3) (z3 x0 x1 x2 x3) (z4 x0 x1 x2 x3) (z43 x0 x1 x2 x3) (z44 x0 x1 x2 x3) (z7 x0 x1 x2 x3) (z45 x0 x1 x2 x3) (z23 x0 x1 x2 x3) (z46 x0 x1 x2 x3) (z16 x0 x1 x2 x3) (z47 x0 x1 x2 x3) (z48 x0 x1 x2 x3) (z49 x0 x1 x2 x3) (z9 x0 x1 x2 x3) (z50 x0 x1 x2 x3) (z51 x0 x1 x2 x3) (z14 x0 x1 x2 x3) (z52 x0 x1 x2 x3) (z22 x0 x1 x2 x3) (z53 x0 x1 x2 x3) (z54 x0 x1 x2 x3) (z55 x0 x1 x2 x3) (z56 x0 x1 x2 x3) (z57 x0 x1 x2 x3) (z58 x0 x1 x2 x3) (z59 x0 x1 x2 x3) (z5 x0 x1 x2 x3) (z6 x0 x1 x2 x3) (z8 x0 x1 x2 x3) (z10 x0 x1 x2 x3) (z11 x0 x1 x2 x3) (z12 x0 x1 x2 x3) (z13 x0 x1 x2 x3) (z15 x0 x1 x2 x3) (z17 x0 x1 x2 x3) (z18 x0 x1 x2 x3) (z19 x0 x1 x2 x3) (z20 x0 x1 x2 x3) (z21 x0 x1 x2 x3) (z25 x0 x1 x2 x3) (z38 x0 x1 x2 x3) (z39 x0 x1 x2 x3) (z40 x0 x1 x2 x3) (z41 x0 x1 x2 x3) (z42 x0 x1 x2 x3) rfl rfl rfl rfl rfl rfl rfl rfl rfl rfl rfl rfl rfl rfl rfl rfl rfl rfl rfl rfl rfl rfl rfl rfl rfl rfl rfl rfl rfl rfl rfl rfl rfl rfl rfl rfl rfl rfl rfl rfl rfl rfl rfl rfl rfl rfl rfl h0 h1 h2 h3 h4 h5 h6 h7 h8 h9 h10 h11 h12 h13 h14 h15 h16 h17 h18 h19 h20 h21 h22 h23 h24 h25 h26 h27).elim
                                                      · exact (dead82 x0 x1 x2 x3 B (z0 x0 x1 x2 x3) (z1 x0 x1 x2 x3) (z2 x0 x1 x2 x3) (z3 x0 x1 x2 x3) (z4 x0 x1 x2 x3) (z43 x0 x1 x2 x3) (z44 x0 x1 x2 x3) (z7 x0 x1 x2 x3) (z45 x0 x1 x2 x3) (z23 x0 x1 x2 x3) (z46 x0 x1 x2 x3) (z16 x0 x1 x2 x3) (z47 x0 x1 x2 x3) (z48 x0 x1 x2 x3) (z49 x0 x1 x2 x3) (z9 x0 x1 x2 x3) (z50 x0 x1 x2 x3) (z51 x0 x1 x2 x3) (z14 x0 x1 x2 x3) (z52 x0 x1 x2 x3) (z22 x0 x1 x2 x3) (z53 x0 x1 x2 x3) (z54 x0 x1 x2 x3) (z55 x0 x1 x2 x3) (z56 x0 x1 x2 x3) (z57 x0 x1 x2 x3) (z58 x0 x1 x2 x3) (z59 x0 x1 x2 x3) (z5 x0 x1 x2 x3) (z6 x0 x1 x2 x3) (z8 x0 x1 x2 x3) (z10 x0 x1 x2 x3) (z11 x0 x1 x2 x3) (z12 x0 x1 x2 x3) (z13 x0 x1 x2 x3) (z15 x0 x1 x2 x3) (z17 x0 x1 x2 x3) (z18 x0 x1 x2 x3) (z19 x0 x1 x2 x3) (z20 x0 x1 x2 x3) (z21 x0 x1 x2 x3) (z25 x0 x1 x2 x3) (z38 x0 x1 x2 x3) rfl rfl rfl rfl rfl rfl rfl rfl rfl rfl rfl rfl rfl rfl rfl rfl rfl rfl rfl rfl rfl rfl rfl rfl rfl rfl rfl rfl rfl rfl rfl rfl rfl rfl rfl rfl rfl rfl rfl rfl rfl rfl rfl h0 h1 h2 h3 h4 h5 h6 h7 h8 h9 h10 h11 h12 h13 h14 h15 h16 h17 h18 h19 h20 h21 h22 h23 h24 h25 h26).elim
                                                    · exact (dead83 x0 x1 x2 x3 B (z0 x0 x1 x2 x3) (z1 x0 x1 x2 x3) (z2 x0 x1 x2 x3) (z3 x0 x1 x2 x3) (z4 x0 x1 x2 x3) (z43 x0 x1 x2 x3) (z44 x0 x1 x2 x3) (z7 x0 x1 x2 x3) (z45 x0 x1 x2 x3) (z23 x0 x1 x2 x3) (z46 x0 x1 x2 x3) (z16 x0 x1 x2 x3) (z47 x0 x1 x2 x3) (z48 x0 x1 x2 x3) (z49 x0 x1 x2 x3) (z9 x0 x1 x2 x3) (z50 x0 x1 x2 x3) (z51 x0 x1 x2 x3) (z14 x0 x1 x2 x3) (z52 x0 x1 x2 x3) (z22 x0 x1 x2 x3) (z53 x0 x1 x2 x3) (z54 x0 x1 x2 x3) (z55 x0 x1 x2 x3) (z56 x0 x1 x2 x3) (z57 x0 x1 x2 x3) (z58 x0 x1 x2 x3) (z59 x0 x1 x2 x3) (z5 x0 x1 x2 x3) (z6 x0 x1 x2 x3) (z8 x0 x1 x2 x3) (z10 x0 x1 x2 x3) (z11 x0 x1 x2 x3) (z12 x0 x1 x2 x3) (z13 x0 x1 x2 x3) (z15 x0 x1 x2 x3) (z17 x0 x1 x2 x3) (z18 x0 x1 x2 x3) (z19 x0 x1 x2 x3) (z20 x0 x1 x2 x3) (z21 x0 x1 x2 x3) (z25 x0 x1 x2 x3) (z38 x0 x1 x2 x3) rfl rfl rfl rfl rfl rfl rfl rfl rfl rfl rfl rfl rfl rfl rfl rfl rfl rfl rfl rfl rfl rfl rfl rfl rfl rfl rfl rfl rfl rfl rfl rfl rfl rfl rfl rfl rfl rfl rfl rfl rfl rfl rfl h0 h1 h2 h3 h4 h5 h6 h7 h8 h9 h10 h11 h12 h13 h14 h15 h16 h17 h18 h19 h20 h21 h22 h23 h24 h25).elim
                                                  · have a24 := Ev.asOk_cons (Ev.asOk_le (is25 I) (is18 I) (Ev.df h24)) a23
                                                    exact fin I a24 run53 w
                                                · have a23 := Ev.asOk_cons (Ev.asOk_le (is16 I) (is25 I) (Ev.df h23)) a22
                                                  exact fin I a23 run54 w
                                              · have a22 := Ev.asOk_cons (Ev.asOk_eq (is21 I) (is12 I) (Ev.df h22)) a21
                                                exact fin I a22 run55 w
                                          · exact (dead84 x0 x1 x2 x3 B (z0 x0 x1 x2 x3) (z1 x0 x1 x2 x3) (z2 x0 x1 x2 x3) (z3 x0 x1 x2 x3) (z4 x0 x1 x2 x3) (z43 x0 x1 x2 x3) (z44 x0 x1 x2 x3) (z7 x0 x1 x2 x3) (z45 x0 x1 x2 x3) (z23 x0 x1 x2 x3) (z46 x0 x1 x2 x3) (z16 x0 x1 x2 x3) (z47 x0 x1 x2 x3) (z48 x0 x1 x2 x3) (z49 x0 x1 x2 x3) (z9 x0 x1 x2 x3) (z50 x0 x1 x2 x3) (z51 x0 x1 x2 x3) (z14 x0 x1 x2 x3) (z52 x0 x1 x2 x3) (z22 x0 x1 x2 x3) (z53 x0 x1 x2 x3) (z54 x0 x1 x2 x3) (z55 x0 x1 x2 x3) (z56 x0 x1 x2 x3) (z57 x0 x1 x2 x3) (z58 x0 x1 x2 x3) (z59 x0 x1 x2 x3) (z5 x0 x1 x2 x3) (z6 x0 x1 x2 x3) (z8 x0 x1 x2 x3) (z10 x0 x1 x2 x3) (z11 x0 x1 x2 x3) (z12 x0 x1 x2 x3) (z13 x0 x1 x2 x3) (z15 x0 x1 x2 x3) (z17 x0 x1 x2 x3) (z18 x0 x1 x2 x3) (z19 x0 x1 x2 x3) rfl rfl rfl rfl rfl rfl rfl rfl rfl rfl rfl rfl rfl rfl rfl rfl rfl rfl rfl rfl rfl rfl rfl rfl rfl rfl rfl rfl rfl rfl rfl rfl rfl rfl rfl rfl rfl rfl rfl h0 h1 h2 h3 h4 h5 h6 h7 h8 h9 h10 h11 h12 h13 h14 h15 h16 h17 h18 h19 h20).elim
                                        · exact (dead85 x0 x1 x2 x3 B (z0 x0 x1 x2 x3) (z1 x0 x1 x2 x3) (z2 x0 x1 x2 x3) (z3 x0 x1 x2 x3) (z4 x0 x1 x2 x3) (z43 x0 x1 x2 x3) (z44 x0 x1 x2 x3) (z7 x0 x1 x2 x3) (z45 x0 x1 x2 x3) (z23 x0 x1 x2 x3) (z46 x0 x1 x2 x3) (z16 x0 x1 x2 x3) (z47 x0 x1 x2 x3) (z48 x0 x1 x2 x3) (z49 x0 x1 x2 x3) (z9 x0 x1 x2 x3) (z50 x0 x1 x2 x3) (z51 x0 x1 x2 x3) (z14 x0 x1 x2 x3) (z52 x0 x1 x2 x3) (z22 x0 x1 x2 x3) (z53 x0 x1 x2 x3) (z54 x0 x1 x2 x3) (z55 x0 x1 x2 x3) (z56 x0 x1 x2 x3) (z57 x0 x1 x2 x3) (z58 x0 x1 x2 x3) (z59 x0 x1 x2 x3) (z5 x0 x1 x2 x3) (z6 x0 x1 x2 x3) (z8 x0 x1 x2 x3) (z10 x0 x1 x2 x3) (z11 x0 x1 x2 x3) (z12 x0 x1 x2 x3) (z13 x0 x1 x2 x3) (z15 x0 x1 x2 x3) (z17 x0 x1 x2 x3) (z18 x0 x1 x2 x3) rfl rfl rfl rfl rfl rfl rfl rfl rfl rfl rfl rfl rfl rfl rfl rfl rfl rfl rfl rfl rfl rfl rfl rfl rfl rfl rfl rfl rfl rfl rfl rfl rfl rfl rfl rfl rfl rfl h0 h1 h2 h3 h4 h5 h6 h7 h8 h9 h10 h11 h12 h13 h14 h15 h16 h17 h18 h19).elim
                                      · exact (dead86 x0 x1 x2 x3 B (z0 x0 x1 x2 x3) (z1 x0 x1 x2 x3) (z2 x0 x1 x2 x3) (z3 x0 x1 x2 x3) (z4 x0 x1 x2 x3) (z43 x0 x1 x2 x3) (z44 x0 x1 x2 x3) (z7 x0 x1 x2 x3) (z45 x0 x1 x2 x3) (z23 x0 x1 x2 x3) (z46 x0 x1 x2 x3) (z16 x0 x1 x2 x3) (z47 x0 x1 x2 x3) (z48 x0 x1 x2 x3) (z49 x0 x1 x2 x3) (z9 x0 x1 x2 x3) (z50 x0 x1 x2 x3) (z51 x0 x1 x2 x3) (z14 x0 x1 x2 x3) (z52 x0 x1 x2 x3) (z22 x0 x1 x2 x3) (z53 x0 x1 x2 x3) (z54 x0 x1 x2 x3) (z55 x0 x1 x2 x3) (z56 x0 x1 x2 x3) (z57 x0 x1 x2 x3) (z58 x0 x1 x2 x3) (z59 x0 x1 x2 x3) (z5 x0 x1 x2 x3) (z6 x0 x1 x2 x3) (z8 x0 x1 x2 x3) (z10 x0 x1 x2 x3) (z11 x0 x1 x2 x3) (z12 x0 x1 x2 x3) (z13 x0 x1 x2 x3) (z15 x0 x1 x2 x3) (z17 x0 x1 x2 x3) rfl rfl rfl rfl rfl rfl rfl rfl rfl rfl rfl rfl rfl rfl rfl rfl rfl rfl rfl rfl rfl rfl rfl rfl rfl rfl rfl rfl rfl rfl rfl rfl rfl rfl rfl rfl rfl h0 h1 h2 h3 h4 h5 h6 h7 h8 h9 h10 h11 h12 h13 h14 h15 h16 h17 h18).elim
                                    · exact (dead87 x0 x1 x2 x3 B (z0 x0 x1 x2 x3) (z1 x0 x1 x2 x3) (z2 x0 x1 x2 x3) (z3 x0 x1 x2 x3) (z4 x0 x1 x2 x3) (z43 x0 x1 x2 x3) (z44 x0 x1 x2 x3) (z7 x0 x1 x2 x3) (z45 x0 x1 x2 x3) (z23 x0 x1 x2 x3) (z46 x0 x1 x2 x3) (z16 x0 x1 x2 x3) (z47 x0 x1 x2 x3) (z48 x0 x1 x2 x3) (z49 x0 x1 x2 x3) (z9 x0 x1 x2 x3) (z50 x0 x1 x2 x3) (z51 x0 x1 x2 x3) (z14 x0 x1 x2 x3) (z52 x0 x1 x2 x3) (z22 x0 x1 x2 x3) (z53 x0 x1 x2 x3) (z54 x0 x1 x2 x3) (z55 x0 x1 x2 x3) (z56 x0 x1 x2 x3) (z57 x0 x1 x2 x3) (z58 x0 x1 x2 x3) (z59 x0 x1 x2 x3) (z5 x0 x1 x2 x3) (z6 x0 x1 x2 x3) (z8 x0 x1 x2 x3) (z10 x0 x1 x2 x3) (z11 x0 x1 x2 x3) (z12 x0 x1 x2 x3) (z13 x0 x1 x2 x3) (z15 x0 x1 x2 x3) rfl rfl rfl rfl rfl rfl rfl rfl rfl rfl rfl rfl rfl rfl rfl rfl rfl rfl rfl rfl rfl rfl rfl rfl rfl rfl rfl rfl rfl rfl rfl rfl rfl rfl rfl rfl h0 h1 h2 h3 h4 h5 h6 h7 h8 h9 h10 h11 h12 h13 h14 h15 h16 h17).elim
                                · have a15 := Ev.asOk_cons (Ev.asOk_le (is5 I) (is6 I) (Ev.df h15)) a14
                                  by_cases h16 : z21 x0 x1 x2 x3 = z16 x0 x1 x2 x3
                                  · have a16 := Ev.asOk_cons (Ev.asOk_eq (is21 I) (is16 I) (Ev.dt h16)) a15
                                    by_cases h17 : z22 x0 x1 x2 x3 ≤ z24 x0 x1 x2 x3
                                    · have a17 := Ev.asOk_cons (Ev.asOk_le (is22 I) (is24 I) (Ev.dt h17)) a16
                                      by_cases h18 : z21 x0 x1 x2 x3 = z12 x0 x1 x2 x3
                                      · exact (dead88 x0 x1 x2 x3 B (z0 x0 x1 x2 x3) (z1 x0 x1 x2 x3) (z2 x0 x1 x2 x3) (z3 x0 x1 x2 x3) (z4 x0 x1 x2 x3) (z43 x0 x1 x2 x3) (z44 x0 x1 x2 x3) (z7 x0 x1 x2 x3) (z45 x0 x1 x2 x3) (z23 x0 x1 x2 x3) (z46 x0 x1 x2 x3) (z16 x0 x1 x2 x3) (z47 x0 x1 x2 x3) (z48 x0 x1 x2 x3) (z49 x0 x1 x2 x3) (z9 x0 x1 x2 x3) (z50 x0 x1 x2 x3) (z51 x0 x1 x2 x3) (z14 x0 x1 x2 x3) (z52 x0 x1 x2 x3) (z22 x0 x1 x2 x3) (z53 x0 x1 x2 x3) (z54 x0 x1 x2 x3) (z55 x0 x1 x2 x3) (z56 x0 x1 x2 x3) (z57 x0 x1 x2 x3) (z58 x0 x1 x2 x3) (z59 x0 x1 x2 x3) (z5 x0 x1 x2 x3) (z6 x0 x1 x2 x3) (z20 x0 x1 x2 x3) (z21 x0 x1 x2 x3) (z24 x0 x1 x2 x3) (z12 x0 x1 x2 x3) rfl rfl rfl rfl rfl rfl rfl rfl rfl rfl rfl rfl rfl rfl rfl rfl rfl rfl rfl rfl rfl rfl rfl rfl rfl rfl rfl rfl rfl rfl rfl rfl rfl rfl h0 h1 h2 h3 h4 h5 h6 h7 h8 h9 h10 h11 h12 h13 h14 h15 h16 h17 h18).elim
                                      · have a18 := Ev.asOk_cons (Ev.asOk_eq (is21 I) (is12 I) (Ev.df h18)) a17
                                        exact fin I a18 run56 w
                                    · have a17 := Ev.asOk_cons (Ev.asOk_le (is22 I) (is24 I) (Ev.df h17)) a16
                                      by_cases h18 : z0 x0 x1 x2 x3 ≤ z27 x0 x1 x2 x3
                                      · have a18 := Ev.asOk_cons (Ev.asOk_le (is0 I) (is27 I) (Ev.dt h18)) a17
                                        by_cases h19 : z0 x0 x1 x2 x3 ≤ z28 x0 x1 x2 x3
                                        · have a19 := Ev.asOk_cons (Ev.asOk_le (is0 I) (is28 I) (Ev.dt h19)) a18
                                          by_cases h20 : z3 x0 x1 x2 x3 ≤ z27 x0 x1 x2 x3
                                          · have a20 := Ev.asOk_cons (Ev.asOk_le (is3 I) (is27 I) (Ev.dt h20)) a19
                                            by_cases h21 : z21 x0 x1 x2 x3 = z12 x0 x1 x2 x3
                                            · exact (dead89 x0 x1 x2 x3 B (z0 x0 x1 x2 x3) (z1 x0 x1 x2 x3) (z2 x0 x1 x2 x3) (z3 x0 x1 x2 x3) (z4 x0 x1 x2 x3) (z43 x0 x1 x2 x3) (z44 x0 x1 x2 x3) (z7 x0 x1 x2 x3) (z45 x0 x1 x2 x3) (z23 x0 x1 x2 x3) (z46 x0 x1 x2 x3) (z16 x0 x1 x2 x3) (z47 x0 x1 x2 x3) (z48 x0 x1 x2 x3) (z49 x0 x1 x2 x3) (z9 x0 x1 x2 x3) (z50 x0 x1 x2 x3) (z51 x0 x1 x2 x3) (z14 x0 x1 x2 x3) (z52 x0 x1 x2 x3) (z22 x0 x1 x2 x3) (z53 x0 x1 x2 x3) (z54 x0 x1 x2 x3) (z55 x0 x1 x2 x3) (z56 x0 x1 x2 x3) (z57 x0 x1 x2 x3) (z58 x0 x1 x2 x3) (z59 x0 x1 x2 x3) (z5 x0 x1 x2 x3) (z6 x0 x1 x2 x3) (z20 x0 x1 x2 x3) (z21 x0 x1 x2 x3) (z24 x0 x1 x2 x3) (z25 x0 x1 x2 x3) (z26 x0 x1 x2 x3) (z27 x0 x1 x2 x3) (z28 x0 x1 x2 x3) (z12 x0 x1 x2 x3) rfl rfl rfl rfl rfl rfl rfl rfl rfl rfl rfl rfl rfl rfl rfl rfl rfl rfl rfl rfl rfl rfl rfl rfl rfl rfl rfl rfl rfl rfl rfl rfl rfl rfl rfl rfl rfl rfl h0 h1 h2 h3 h4 h5 h6 h7 h8 h9 h10 h11 h12 h13 h14 h15 h16 h17 h18 h19 h20 h21).elim
                                            · have a21 := Ev.asOk_cons (Ev.asOk_eq (is21 I) (is12 I) (Ev.df h21)) a20
                                              exact fin I a21 run57 w
                                          · have a20 := Ev.asOk_cons (Ev.asOk_le (is3 I) (is27 I) (Ev.df h20)) a19
                                            by_cases h21 : z3 x0 x1 x2 x3 ≤ z28 x0 x1 x2 x3
                                            · exact (dead90 x0 x1 x2 x3 B (z0 x0 x1 x2 x3) (z1 x0 x1 x2 x3) (z2 x0 x1 x2 x3) (z3 x0 x1 x2 x3) (z4 x0 x1 x2 x3) (z43 x0 x1 x2 x3) (z44 x0 x1 x2 x3) (z7 x0 x1 x2 x3) (z45 x0 x1 x2 x3) (z23 x0 x1 x2 x3) (z46 x0 x1 x2 x3) (z16 x0 x1 x2 x3) (z47 x0 x1 x2 x3) (z48 x0 x1 x2 x3) (z49 x0 x1 x2 x3) (z9 x0 x1 x2 x3) (z50 x0 x1 x2 x3) (z51 x0 x1 x2 x3) (z14 x0 x1 x2 x3) (z52 x0 x1 x2 x3) (z22 x0 x1 x2 x3) (z53 x0 x1 x2 x3) (z54 x0 x1 x2 x3) (z55 x0 x1 x2 x3) (z56 x0 x1 x2 x3) (z57 x0 x1 x2 x3) (z58 x0 x1 x2 x3) (z59 x0 x1 x2 x3) (z5 x0 x1 x2 x3) (z6 x0 x1 x2 x3) (z20 x0 x1 x2 x3) (z21 x0 x1 x2 x3) (z24 x0 x1 x2 x3) (z25 x0 x1 x2 x3) (z26 x0 x1 x2 x3) (z27 x0 x1 x2 x3) (z28 x0 x1 x2 x3) rfl rfl rfl rfl rfl rfl rfl rfl rfl rfl rfl rfl rfl rfl rfl rfl rfl rfl rfl rfl rfl rfl rfl rfl rfl rfl rfl rfl rfl rfl rfl rfl rfl rfl rfl rfl rfl h0 h1 h2 h3 h4 h5 h6 h7 h8 h9 h10 h11 h12 h13 h14 h15 h16 h17 h18 h19 h20 h21).elim
                                            · have a21 := Ev.asOk_cons (Ev.asOk_le (is3 I) (is28 I) (Ev.df h21)) a20
                                              by_cases h22 : z30 x0 x1 x2 x3 ≤ z3 x0 x1 x2 x3
                                              · have a22 := Ev.asOk_cons (Ev.asOk_le (is30 I) (is3 I) (Ev.dt h22)) a21
                                                by_cases h23 : z37 x0 x1 x2 x3 = z20 x0 x1 x2 x3
                                                · have a23 := Ev.asOk_cons (Ev.asOk_eq (is37 I) (is20 I) (Ev.dt h23)) a22
                                                  exact fin I a23 run58 w
                                                · exact (dead91 x0 x1 x2 x3 B (z0 x0 x1 x2 x3) (z1 x0 x1 x2 x3) (z2 x0 x1 x2 x3) (z3 x0 x1 x2 x3) (z4 x0 x1 x2 x3) (z43 x0 x1 x2 x3) (z44 x0 x1 x2 x3) (z7 x0 x1 x2 x3) (z45 x0 x1 x2 x3) (z23 x0 x1 x2 x3) (z46 x0 x1 x2 x3) (z16 x0 x1 x2 x3) (z47 x0 x1 x2 x3) (z48 x0 x1 x2 x3) (z49 x0 x1 x2 x3) (z9 x0 x1 x2 x3) (z50 x0 x1 x2 x3) (z51 x0 x1 x2 x3) (z14 x0 x1 x2 x3) (z52 x0 x1 x2 x3) (z22 x0 x1 x2 x3) (z53 x0 x1 x2 x3) (z54 x0 x1 x2 x3) (z55 x0 x1 x2 x3) (z56 x0 x1 x2 x3) (z57 x0 x1 x2 x3) (z58 x0 x1 x2 x3) (z59 x0 x1 x2 x3) (z5 x0 x1 x2 x3) (z6 x0 x1 x2 x3) (z20 x0 x1 x2 x3) (z21 x0 x1 x2 x3) (z24 x0 x1 x2 x3) (z25 x0 x1 x2 x3) (z26 x0 x1 x2 x3) (z27 x0 x1 x2 x3) (z28 x0 x1 x2 x3) (z29 x0 x1 x2 x3) (z30 x0 x1 x2 x3) (z31 x0 x1 x2 x3) (z32 x0 x1 x2 x3) (z33 x0 x1 x2 x3) (z34 x0 x1 x2 x3) (z35 x0 x1 x2 x3) (z36 x0 x1 x2 x3) (z37 x0 x1 x2 x3) rfl rfl rfl rfl rfl rfl rfl rfl rfl rfl rfl rfl rfl rfl rfl rfl rfl rfl rfl rfl rfl rfl rfl rfl rfl rfl rfl rfl rfl rfl rfl rfl rfl rfl rfl rfl rfl rfl rfl rfl rfl rfl rfl rfl rfl rfl h0 h1 h2 h3 h4 h5 h6 h7 h8 h9 h10 h11 h12 h13 h14 h15 h16 h17 h18 h19 h20 h21 h22 h23).elim
                                              · have a22 := Ev.asOk_cons (Ev.asOk_le (is30 I) (is3 I) (Ev.df h22)) a21
                                                by_cases h23 : z21 x0 x1 x2 x3 = z12 x0 x1 x2 x3
                                                · exact (dead92 x0 x1 x2 x3 B (z0 x0 x1 x2 x3) (z1 x0 x1 x2 x3) (z2 x0 x1 x2 x3) (z3 x0 x1 x2 x3) (z4 x0 x1 x2 x3) (z43 x0 x1 x2 x3) (z44 x0 x1 x2 x3) (z7 x0 x1 x2 x3) (z45 x0 x1 x2 x3) (z23 x0 x1 x2 x3) (z46 x0 x1 x2 x3) (z16 x0 x1 x2 x3) (z47 x0 x1 x2 x3) (z48 x0 x1 x2 x3) (z49 x0 x1 x2 x3) (z9 x0 x1 x2 x3) (z50 x0 x1 x2 x3) (z51 x0 x1 x2 x3) (z14 x0 x1 x2 x3) (z52 x0 x1 x2 x3) (z22 x0 x1 x2 x3) (z53 x0 x1 x2 x3) (z54 x0 x1 x2 x3) (z55 x0 x1 x2 x3) (z56 x0 x1 x2 x3) (z57 x0 x1 x2 x3) (z58 x0 x1 x2 x3) (z59 x0 x1 x2 x3) (z5 x0 x1 x2 x3) (z6 x0 x1 x2 x3) (z20 x0 x1 x2 x3) (z21 x0 x1 x2 x3) (z24 x0 x1 x2 x3) (z25 x0 x1 x2 x3) (z26 x0 x1 x2 x3) (z27 x0 x1 x2 x3) (z28 x0 x1 x2 x3) (z29 x0 x1 x2 x3) (z30 x0 x1 x2 x3) (z12 x0 x1 x2 x3) rfl rfl rfl rfl rfl rfl rfl rfl rfl rfl rfl rfl rfl rfl rfl rfl rfl rfl rfl rfl rfl rfl rfl rfl rfl rfl rfl rfl rfl rfl rfl rfl rfl rfl rfl rfl rfl rfl rfl rfl h0 h1 h2 h3 h4 h5 h6 h7 h8 h9 h10 h11 h12 h13 h14 h15 h16 h17 h18 h19 h20 h21 h22 h23).elim
                                                · have a23 := Ev.asOk_cons (Ev.asOk_eq (is21 I) (is12 I) (Ev.df h23)) a22
                                                  exact fin I a23 run59 w
                                        · exact (dead93 x0 x1 x2 x3 B (z0 x0 x1 x2 x3) (z1 x0 x1 x2 x3) (z2 x0 x1 x2 x3) (z3 x0 x1 x2 x3) (z4 x0 x1 x2 x3) (z43 x0 x1 x2 x3) (z44 x0 x1 x2 x3) (z7 x0 x1 x2 x3) (z45 x0 x1 x2 x3) (z23 x0 x1 x2 x3) (z46 x0 x1 x2 x3) (z16 x0 x1 x2 x3) (z47 x0 x1 x2 x3) (z48 x0 x1 x2 x3) (z49 x0 x1 x2 x3) (z9 x0 x1 x2 x3) (z50 x0 x1 x2 x3) (z51 x0 x1 x2 x3) (z14 x0 x1 x2 x3) (z52 x0 x1 x2 x3) (z22 x0 x1 x2 x3) (z53 x0 x1 x2 x3) (z54 x0 x1 x2 x3) (z55 x0 x1 x2 x3) (z56 x0 x1 x2 x3) (z57 x0 x1 x2 x3) (z58 x0 x1 x2 x3) (z59 x0 x1 x2 x3) (z5 x0 x1 x2 x3) (z6 x0 x1 x2 x3) (z20 x0 x1 x2 x3) (z21 x0 x1 x2 x3) (z24 x0 x1 x2 x3) (z25 x0 x1 x2 x3) (z26 x0 x1 x2 x3) (z27 x0 x1 x2 x3) (z28 x0 x1 x2 x3) rfl rfl rfl rfl rfl rfl rfl rfl rfl rfl rfl rfl rfl rfl rfl rfl rfl rfl rfl rfl rfl rfl rfl rfl rfl rfl rfl rfl rfl rfl rfl rfl rfl rfl rfl rfl rfl h0 h1 h2 h3 h4 h5 h6 h7 h8 h9 h10 h11 h12 h13 h14 h15 h16 h17 h18 h19).elim
                                      · exact (dead94 x0 x1 x2 x3 B (z0 x0 x1 x2 x3) (z1 x0 x1 x2 x3) (z2 x0 x1 x2 x3) (z3 x0 x1 x2 x3) (z4 x0 x1 x2 x3) (z43 x0 x1 x2 x3) (z44 x0 x1 x2 x3) (z7 x0 x1 x2 x3) (z45 x0 x1 x2 x3) (z23 x0 x1 x2 x3) (z46 x0 x1 x2 x3) (z16 x0 x1 x2 x3) (z47 x0 x1 x2 x3) (z48 x0 x1 x2 x3) (z49 x0 x1 x2 x3) (z9 x0 x1 x2 x3) (z50 x0 x1 x2 x3) (z51 x0 x1 x2 x3) (z14 x0 x1 x2 x3) (z52 x0 x1 x2 x3) (z22 x0 x1 x2 x3) (z53 x0 x1 x2 x3) (z54 x0 x1 x2 x3) (z55 x0 x1 x2 x3) (z56 x0 x1 x2 x3) (z57 x0 x1 x2 x3) (z58 x0 x1 x2 x3) (z59 x0 x1 x2 x3) (z5 x0 x1 x2 x3) (z6 x0 x1 x2 x3) (z20 x0 x1 x2 x3) (z21 x0 x1 x2 x3) (z24 x0 x1 x2 x3) (z25 x0 x1 x2 x3) (z26 x0 x1 x2 x3) (z27 x0 x1 x2 x3) rfl rfl rfl rfl rfl rfl rfl rfl rfl rfl rfl rfl rfl rfl rfl rfl rfl rfl rfl rfl rfl rfl rfl rfl rfl rfl rfl rfl rfl rfl rfl rfl rfl rfl rfl rfl h0 h1 h2 h3 h4 h5 h6 h7 h8 h9 h10 h11 h12 h13 h14 h15 h16 h17 h18).elim
                                  · have a16 := Ev.asOk_cons (Ev.asOk_eq (is21 I) (is16 I) (Ev.df h16)) a15
                                    by_cases h17 : z21 x0 x1 x2 x3 = z12 x0 x1 x2 x3
                                    · have a17 := Ev.asOk_cons (Ev.asOk_eq (is21 I) (is12 I) (Ev.dt h17)) a16
                                      by_cases h18 : z16 x0 x1 x2 x3 ≤ z25 x0 x1 x2 x3
                                      · have a18 := Ev.asOk_cons (Ev.asOk_le (is16 I) (is25 I) (Ev.dt h18)) a17
                                        by_cases h19 : z25 x0 x1 x2 x3 ≤ z18 x0 x1 x2 x3
                                        · have a19 := Ev.asOk_cons (Ev.asOk_le (is25 I) (is18 I) (Ev.dt h19)) a18
                                          by_cases h20 : z4 x0 x1 x2 x3 ≤ z38 x0 x1 x2 x3
                                          · have a20 := Ev.asOk_cons (Ev.asOk_le (is4 I) (is38 I) (Ev.dt h20)) a19
                                            by_cases h21 : z38 x0 x1 x2 x3 ≤ z6 x0 x1 x2 x3
                                            · have a21 := Ev.asOk_cons (Ev.asOk_le (is38 I) (is6 I) (Ev.dt h21)) a20
                                              by_cases h22 : z42 x0 x1 x2 x3 = z20 x0 x1 x2 x3
                                              · have a22 := Ev.asOk_cons (Ev.asOk_eq (is42 I) (is20 I) (Ev.dt h22)) a21
                                                exact fin I a22 run60 w
                                              · exact (dead95 x0 x1 x2 x3 B (z0 x0 x1 x2 x3) (z1 x0 x1 x2 x3) (z2 x0 x1 x2 x3) (z3 x0 x1 x2 x3) (z4 x0 x1 x2 x3) (z43 x0 x1 x2 x3) (z44 x0 x1 x2 x3) (z7 x0 x1 x2 x3) (z45 x0 x1 x2 x3) (z23 x0 x1 x2 x3) (z46 x0 x1 x2 x3) (z16 x0 x1 x2 x3) (z47 x0 x1 x2 x3) (z48 x0 x1 x2 x3) (z49 x0 x1 x2 x3) (z9 x0 x1 x2 x3) (z50 x0 x1 x2 x3) (z51 x0 x1 x2 x3) (z14 x0 x1 x2 x3) (z52 x0 x1 x2 x3) (z22 x0 x1 x2 x3) (z53 x0 x1 x2 x3) (z54 x0 x1 x2 x3) (z55 x0 x1 x2 x3) (z56 x0 x1 x2 x3) (z57 x0 x1 x2 x3) (z58 x0 x1 x2 x3) (z59 x0 x1 x2 x3) (z5 x0 x1 x2 x3) (z6 x0 x1 x2 x3) (z20 x0 x1 x2 x3) (z21 x0 x1 x2 x3) (z12 x0 x1 x2 x3) (z25 x0 x1 x2 x3) (z18 x0 x1 x2 x3) (z38 x0 x1 x2 x3) (z39 x0 x1 x2 x3) (z40 x0 x1 x2 x3) (z41 x0 x1 x2 x3) (z42 x0 x1 x2 x3) rfl rfl rfl rfl rfl rfl rfl rfl rfl rfl rfl rfl rfl rfl rfl rfl rfl rfl rfl rfl rfl rfl rfl rfl rfl rfl rfl rfl rfl rfl rfl rfl rfl rfl rfl rfl rfl rfl rfl rfl h0 h1 h2 h3 h4 h5 h6 h7 h8 h9 h10 h11 h12 h13 h14 h15 h16 h17 h18 h19 h20 h21 h22).elim
                                            · exact (dead96 x0 x1 x2 x3 B (z0 x0 x1 x2 x3) (z1 x0 x1 x2 x3) (z2 x0 x1 x2 x3) (z3 x0 x1 x2 x3) (z4 x0 x1 x2 x3) (z43 x0 x1 x2 x3) (z44 x0 x1 x2 x3) (z7 x0 x1 x2 x3) (z45 x0 x1 x2 x3) (z23 x0 x1 x2 x3) (z46 x0 x1 x2 x3) (z16 x0 x1 x2 x3) (z47 x0 x1 x2 x3) (z48 x0 x1 x2 x3) (z49 x0 x1 x2 x3) (z9 x0 x1 x2 x3) (z50 x0 x1 x2 x3) (z51 x0 x1 x2 x3) (z14 x0 x1 x2 x3) (z52 x0 x1 x2 x3) (z22 x0 x1 x2 x3) (z53 x0 x1 x2 x3) (z54 x0 x1 x2 x3) (z55 x0 x1 x2 x3) (z56 x0 x1 x2 x3) (z57 x0 x1 x2 x3) (z58 x0 x1 x2 x3) (z59 x0 x1 x2 x3) (z5 x0 x1 x2 x3) (z6 x0 x1 x2 x3) (z20 x0 x1 x2 x3) (z21 x0 x1 x2 x3) (z12 x0 x1 x2 x3) (z25 x0 x1 x2 x3) (z18 x0 x1 x2 x3) (z38 x0 x1 x2 x3) rfl rfl rfl rfl rfl rfl rfl rfl rfl rfl rfl rfl rfl rfl rfl rfl rfl rfl rfl rfl rfl rfl rfl rfl rfl rfl rfl rfl rfl rfl rfl rfl rfl rfl rfl rfl h0 h1 h2 h3 h4 h5 h6 h7 h8 h9 h10 h11 h12 h13 h14 h15 h16 h17 h18 h19 h20 h21).elim
                                          · exact (dead97 x0 x1 x2 x3 B (z0 x0 x1 x2 x3) (z1 x0 x1 x2 x3) (z2 x0 x1 x2 x3) (z3 x0 x1 x2 x3) (z4 x0 x1 x2 x3) (z43 x0 x1 x2 x3) (z44 x0 x1 x2 x3) (z7 x0 x1 x2 x3) (z45 x0 x1 x2 x3) (z23 x0 x1 x2 x3) (z46 x0 x1 x2 x3) (z16 x0 x1 x2 x3) (z47 x0 x1 x2 x3) (z48 x0 x1 x2 x3) (z49 x0 x1 x2 x3) (z9 x0 x1 x2 x3) (z50 x0 x1 x2 x3) (z51 x0 x1 x2 x3) (z14 x0 x1 x2 x3) (z52 x0 x1 x2 x3) (z22 x0 x1 x2 x3) (z53 x0 x1 x2 x3) (z54 x0 x1 x2 x3) (z55 x0 x1 x2 x3) (z56 x0 x1 x2 x3) (z57 x0 x1 x2 x3) (z58 x0 x1 x2 x3) (z59 x0 x1 x2 x3) (z5 x0 x1 x2 x3) (z6 x0 x1 x2 x3) (z20 x0 x1 x2 x3) (z21 x0 x1 x2 x3) (z12 x0 x1 x2 x3) (z25 x0 x1 x2 x3) (z18 x0 x1 x2 x3) (z38 x0 x1 x2 x3) rfl rfl rfl rfl rfl rfl rfl rfl rfl rfl rfl rfl rfl rfl rfl rfl rfl rfl rfl rfl rfl rfl rfl rfl rfl rfl rfl rfl rfl rfl rfl rfl rfl rfl rfl rfl h0 h1 h2 h3 h4 h5 h6 h7 h8 h9 h10 h11 h12 h13 h14 h15 h16 h17 h18 h19 h20).elim
                                        · have a19 := Ev.asOk_cons (Ev.asOk_le (is25 I) (is18 I) (Ev.df h19)) a18
                                          exact fin I a19 run61 w
                                      · have a18 := Ev.asOk_cons (Ev.asOk_le (is16 I) (is25 I) (Ev.df h18)) a17
                                        exact fin I a18 run62 w
                                    · have a17 := Ev.asOk_cons (Ev.asOk_eq (is21 I) (is12 I) (Ev.df h17)) a16
                                      exact fin I a17 run63 w
                              · have a14 := Ev.asOk_cons (Ev.asOk_le (is4 I) (is5 I) (Ev.df h14)) a13
                                by_cases h15 : z21 x0 x1 x2 x3 = z16 x0 x1 x2 x3
                                · have a15 := Ev.asOk_cons (Ev.asOk_eq (is21 I) (is16 I) (Ev.dt h15)) a14
                                  by_cases h16 : z22 x0 x1 x2 x3 ≤ z24 x0 x1 x2 x3
                                  · have a16 := Ev.asOk_cons (Ev.asOk_le (is22 I) (is24 I) (Ev.dt h16)) a15
                                    by_cases h17 : z21 x0 x1 x2 x3 = z12 x0 x1 x2 x3
                                    · exact (dead98 x0 x1 x2 x3 B (z0 x0 x1 x2 x3) (z1 x0 x1 x2 x3) (z2 x0 x1 x2 x3) (z3 x0 x1 x2 x3) (z4 x0 x1 x2 x3) (z43 x0 x1 x2 x3) (z44 x0 x1 x2 x3) (z7 x0 x1 x2 x3) (z45 x0 x1 x2 x3) (z23 x0 x1 x2 x3) (z46 x0 x1 x2 x3) (z16 x0 x1 x2 x3) (z47 x0 x1 x2 x3) (z48 x0 x1 x2 x3) (z49 x0 x1 x2 x3) (z9 x0 x1 x2 x3) (z50 x0 x1 x2 x3) (z51 x0 x1 x2 x3) (z14 x0 x1 x2 x3) (z52 x0 x1 x2 x3) (z22 x0 x1 x2 x3) (z53 x0 x1 x2 x3) (z54 x0 x1 x2 x3) (z55 x0 x1 x2 x3) (z56 x0 x1 x2 x3) (z57 x0 x1 x2 x3) (z58 x0 x1 x2 x3) (z59 x0 x1 x2 x3) (z5 x0 x1 x2 x3) (z20 x0 x1 x2 x3) (z21 x0 x1 x2 x3) (z24 x0 x1 x2 x3) (z12 x0 x1 x2 x3) rfl rfl rfl rfl rfl rfl rfl rfl rfl rfl rfl rfl rfl rfl rfl rfl rfl rfl rfl rfl rfl rfl rfl rfl rfl rfl rfl rfl rfl rfl rfl rfl rfl h0 h1 h2 h3 h4 h5 h6 h7 h8 h9 h10 h11 h12 h13 h14 h15 h16 h17).elim
                                    · have a17 := Ev.asOk_cons (Ev.asOk_eq (is21 I) (is12 I) (Ev.df h17)) a16
                                      exact fin I a17 run64 w
                                  · have a16 := Ev.asOk_cons (Ev.asOk_le (is22 I) (is24 I) (Ev.df h16)) a15
                                    by_cases h17 : z0 x0 x1 x2 x3 ≤ z27 x0 x1 x2 x3
                                    · have a17 := Ev.asOk_cons (Ev.asOk_le (is0 I) (is27 I) (Ev.dt h17)) a16
                                      by_cases h18 : z0 x0 x1 x2 x3 ≤ z28 x0 x1 x2 x3
                                      · have a18 := Ev.asOk_cons (Ev.asOk_le (is0 I) (is28 I) (Ev.dt h18)) a17
                                        by_cases h19 : z3 x0 x1 x2 x3 ≤ z27 x0 x1 x2 x3
                                        · have a19 := Ev.asOk_cons (Ev.asOk_le (is3 I) (is27 I) (Ev.dt h19)) a18
                                          by_cases h20 : z21 x0 x1 x2 x3 = z12 x0 x1 x2 x3
                                          · exact (dead99 x0 x1 x2 x3 B (z0 x0 x1 x2 x3) (z1 x0 x1 x2 x3) (z2 x0 x1 x2 x3) (z3 x0 x1 x2 x3) (z4 x0 x1 x2 x3) (z43 x0 x1 x2 x3) (z44 x0 x1 x2 x3) (z7 x0 x1 x2 x3) (z45 x0 x1 x2 x3) (z23 x0 x1 x2 x3) (z46 x0 x1 x2 x3) (z16 x0 x1 x2 x3) (z47 x0 x1 x2 x3) (z48 x0 x1 x2 x3) (z49 x0 x1 x2 x3) (z9 x0 x1 x2 x3) (z50 x0 x1 x2 x3) (z51 x0 x1 x2 x3) (z14 x0 x1 x2 x3) (z52 x0 x1 x2 x3) (z22 x0 x1 x2 x3) (z53 x0 x1 x2 x3) (z54 x0 x1 x2 x3) (z55 x0 x1 x2 x3) (z56 x0 x1 x2 x3) (z57 x0 x1 x2 x3) (z58 x0 x1 x2 x3) (z59 x0 x1 x2 x3) (z5 x0 x1 x2 x3) (z20 x0 x1 x2 x3) (z21 x0 x1 x2 x3) (z24 x0 x1 x2 x3) (z25 x0 x1 x2 x3) (z26 x0 x1 x2 x3) (z27 x0 x1 x2 x3) (z28 x0 x1 x2 x3) (z12 x0 x1 x2 x3) rfl rfl rfl rfl rfl rfl rfl rfl rfl rfl rfl rfl rfl rfl rfl rfl rfl rfl rfl rfl rfl rfl rfl rfl rfl rfl rfl rfl rfl rfl rfl rfl rfl rfl rfl rfl rfl h0 h1 h2 h3 h4 h5 h6 h7 h8 h9 h10 h11 h12 h13 h14 h15 h16 h17 h18 h19 h20).elim
                                          · have a20 := Ev.asOk_cons (Ev.asOk_eq (is21 I) (is12 I) (Ev.df h20)) a19
                                            exact fin I a20 run65 w
                                        · have a19 := Ev.asOk_cons (Ev.asOk_le (is3 I) (is27 I) (Ev.df h19)) a18
                                          by_cases h20 : z3 x0 x1 x2 x3 ≤ z28 x0 x1 x2 x3
                                          · exact (dead100 x0 x1 x2 x3 B (z0 x0 x1 x2 x3) (z1 x0 x1 x2 x3) (z2 x0 x1 x2 x3) (z3 x0 x1 x2 x3) (z4 x0 x1 x2 x3) (z43 x0 x1 x2 x3) (z44 x0 x1 x2 x3) (z7 x0 x1 x2 x3) (z45 x0 x1 x2 x3) (z23 x0 x1 x2 x3) (z46 x0 x1 x2 x3) (z16 x0 x1 x2 x3) (z47 x0 x1 x2 x3) (z48 x0 x1 x2 x3) (z49 x0 x1 x2 x3) (z9 x0 x1 x2 x3) (z50 x0 x1 x2 x3) (z51 x0 x1 x2 x3) (z14 x0 x1 x2 x3) (z52 x0 x1 x2 x3) (z22 x0 x1 x2 x3) (z53 x0 x1 x2 x3) (z54 x0 x1 x2 x3) (z55 x0 x1 x2 x3) (z56 x0 x1 x2 x3) (z57 x0 x1 x2 x3) (z58 x0 x1 x2 x3) (z59 x0 x1 x2 x3) (z5 x0 x1 x2 x3) (z20 x0 x1 x2 x3) (z21 x0 x1 x2 x3) (z24 x0 x1 x2 x3) (z25 x0 x1 x2 x3) (z26 x0 x1 x2 x3) (z27 x0 x1 x2 x3) (z28 x0 x1 x2 x3) rfl rfl rfl rfl rfl rfl rfl rfl rfl rfl rfl rfl rfl rfl rfl rfl rfl rfl rfl rfl rfl rfl rfl rfl rfl rfl rfl rfl rfl rfl rfl rfl rfl rfl rfl rfl h0 h1 h2 h3 h4 h5 h6 h7 h8 h9 h10 h11 h12 h13 h14 h15 h16 h17 h18 h19 h20).elim
                                          · have a20 := Ev.asOk_cons (Ev.asOk_le (is3 I) (is28 I) (Ev.df h20)) a19
                                            by_cases h21 : z30 x0 x1 x2 x3 ≤ z3 x0 x1 x2 x3
                                            · have a21 := Ev.asOk_cons (Ev.asOk_le (is30 I) (is3 I) (Ev.dt h21)) a20
                                              by_cases h22 : z37 x0 x1 x2 x3 = z20 x0 x1 x2 x3
                                              · have a22 := Ev.asOk_cons (Ev.asOk_eq (is37 I) (is20 I) (Ev.dt h22)) a21
                                                exact fin I a22 run66 w
                                              · exact (dead101 x0 x1 x2 x3 B (z0 x0 x1 x2 x3) (z1 x0 x1 x2 x3) (z2 x0 x1 x2 x3) (z3 x0 x1 x2 x3) (z4 x0 x1 x2 x3) (z43 x0 x1 x2 x3) (z44 x0 x1 x2 x3) (z7 x0 x1 x2 x3) (z45 x0 x1 x2 x3) (z23 x0 x1 x2 x3) (z46 x0 x1 x2 x3) (z16 x0 x1 x2 x3) (z47 x0 x1 x2 x3) (z48 x0 x1 x2 x3) (z49 x0 x1 x2 x3) (z9 x0 x1 x2 x3) (z50 x0 x1 x2 x3) (z51 x0 x1 x2 x3) (z14 x0 x1 x2 x3) (z52 x0 x1 x2 x3) (z22 x0 x1 x2 x3) (z53 x0 x1 x2 x3) (z54 x0 x1 x2 x3) (z55 x0 x1 x2 x3) (z56 x0 x1 x2 x3) (z57 x0 x1 x2 x3) (z58 x0 x1 x2 x3) (z59 x0 x1 x2 x3) (z5 x0 x1 x2 x3) (z20 x0 x1 x2 x3) (z21 x0 x1 x2 x3) (z24 x0 x1 x2 x3) (z25 x0 x1 x2 x3) (z26 x0 x1 x2 x3) (z27 x0 x1 x2 x3) (z28 x0 x1 x2 x3) (z29 x0 x1 x2 x3) (z30 x0 x1 x2 x3) (z31 x0 x1 x2 x3) (z32 x0 x1 x2 x3) (z33 x0 x1 x2 x3) (z34 x0 x1 x2 x3) (z35 x0 x1 x2 x3) (z36 x0 x1 x2 x3) (z37 x0 x1 x2 x3) rfl rfl rfl rfl rfl rfl rfl rfl rfl rfl rfl rfl rfl rfl rfl rfl rfl rfl rfl rfl rfl rfl rfl rfl rfl rfl rfl rfl rfl rfl rfl rfl rfl rfl rfl rfl rfl rfl rfl rfl rfl rfl rfl rfl rfl h0 h1 h2 h3 h4 h5 h6 h7 h8 h9 h10 h11 h12 h13 h14 h15 h16 h17 h18 h19 h20 h21 h22).elim
                                            · have a21 := Ev.asOk_cons (Ev.asOk_le (is30 I) (is3 I) (Ev.df h21)) a20
                                              by_cases h22 : z21 x0 x1 x2 x3 = z12 x0 x1 x2 x3
                                              · exact (dead102 x0 x1 x2 x3 B (z0 x0 x1 x2 x3) (z1 x0 x1 x2 x3) (z2 x0 x1 x2 x3) (z3 x0 x1 x2 x3) (z4 x0 x1 x2 x3) (z43 x0 x1 x2 x3) (z44 x0 x1 x2 x3) (z7 x0 x1 x2 x3) (z45 x0 x1 x2 x3) (z23 x0 x1 x2 x3) (z46 x0 x1 x2 x3) (z16 x0 x1 x2 x3) (z47 x0 x1 x2 x3) (z48 x0 x1 x2 x3) (z49 x0 x1 x2 x3) (z9 x0 x1 x2 x3) (z50 x0 x1 x2 x3) (z51 x0 x1 x2 x3) (z14 x0 x1 x2 x3) (z52 x0 x1 x2 x3) (z22 x0 x1 x2 x3) (z53 x0 x1 x2 x3) (z54 x0 x1 x2 x3) (z55 x0 x1 x2 x3) (z56 x0 x1 x2 x3) (z57 x0 x1 x2 x3) (z58 x0 x1 x2 x3) (z59 x0 x1 x2 x3) (z5 x0 x1 x2 x3) (z20 x0 x1 x2 x3) (z21 x0 x1 x2 x3) (z24 x0 x1 x2 x3) (z25 x0 x1 x2 x3) (z26 x0 x1 x2 x3) (z27 x0 x1 x2 x3) (z28 x0 x1 x2 x3) (z29 x0 x1 x2 x3) (z30 x0 x1 x2 x3) (z12 x0 x1 x2 x3) rfl rfl rfl rfl rfl rfl rfl rfl rfl rfl rfl rfl rfl rfl rfl rfl rfl rfl rfl rfl rfl rfl rfl rfl rfl rfl rfl rfl rfl rfl rfl rfl rfl rfl rfl rfl rfl rfl rfl h0 h1 h2 h3 h4 h5 h6 h7 h8 h9 h10 h11 h12 h13 h14 h15 h16 h17 h18 h19 h20 h21 h22).elim
                                              · have a22 := Ev.asOk_cons (Ev.asOk_eq (is21 I) (is12 I) (Ev.df h22)) a21
                                                exact fin I a22 run67 w
                                      · exact (dead103 x0 x1 x2 x3 B (z0 x0 x1 x2 x3) (z1 x0 x1 x2 x3) (z2 x0 x1 x2 x3) (z3 x0 x1 x2 x3) (z4 x0 x1 x2 x3) (z43 x0 x1 x2 x3) (z44 x0 x1 x2 x3) (z7 x0 x1 x2 x3) (z45 x0 x1 x2 x3) (z23 x0 x1 x2 x3) (z46 x0 x1 x2 x3) (z16 x0 x1 x2 x3) (z47 x0 x1 x2 x3) (z48 x0 x1 x2 x3) (z49 x0 x1 x2 x3) (z9 x0 x1 x2 x3) (z50 x0 x1 x2 x3) (z51 x0 x1 x2 x3) (z14 x0 x1 x2 x3) (z52 x0 x1 x2 x3) (z22 x0 x1 x2 x3) (z53 x0 x1 x2 x3) (z54 x0 x1 x2 x3) (z55 x0 x1 x2 x3) (z56 x0 x1 x2 x3) (z57 x0 x1 x2 x3) (z58 x0 x1 x2 x3) (z59 x0 x1 x2 x3) (z5 x0 x1 x2 x3) (z20 x0 x1 x2 x3) (z21 x0 x1 x2 x3) (z24 x0 x1 x2 x3) (z25 x0 x1 x2 x3) (z26 x0 x1 x2 x3) (z27 x0 x1 x2 x3) (z28 x0 x1 x2 x3) rfl rfl rfl rfl rfl rfl rfl rfl rfl rfl rfl rfl rfl rfl rfl rfl rfl rfl rfl rfl rfl rfl rfl rfl rfl rfl rfl rfl rfl rfl rfl rfl rfl rfl rfl rfl h0 h1 h2 h3 h4 h5 h6 h7 h8 h9 h10 h11 h12 h13 h14 h15 h16 h17 h18).elim
                                    · exact (dead104 x0 x1 x2 x3 B (z0 x0 x1 x2 x3) (z1 x0 x1 x2 x3) (z2 x0 x1 x2 x3) (z3 x0 x1 x2 x3) (z4 x0 x1 x2 x3) (z43 x0 x1 x2 x3) (z44 x0 x1 x2 x3) (z7 x0 x1 x2 x3) (z45 x0 x1 x2 x3) (z23 x0 x1 x2 x3) (z46 x0 x1 x2 x3) (z16 x0 x1 x2 x3) (z47 x0 x1 x2 x3) (z48 x0 x1 x2 x3) (z49 x0 x1 x2 x3) (z9 x0 x1 x2 x3) (z50 x0 x1 x2 x3) (z51 x0 x1 x2 x3) (z14 x0 x1 x2 x3) (z52 x0 x1 x2 x3) (z22 x0 x1 x2 x3) (z53 x0 x1 x2 x3) (z54 x0 x1 x2 x3) (z55 x0 x1 x2 x3) (z56 x0 x1 x2 x3) (z57 x0 x1 x2 x3) (z58 x0 x1 x2 x3) (z59 x0 x1 x2 x3) (z5 x0 x1 x2 x3) (z20 x0 x1 x2 x3) (z21 x0 x1 x2 x3) (z24 x0 x1 x2 x3) (z25 x0 x1 x2 x3) (z26 x0 x1 x2 x3) (z27 x0 x1 x2 x3) rfl rfl rfl rfl rfl rfl rfl rfl rfl rfl rfl rfl rfl rfl rfl rfl rfl rfl rfl rfl rfl rfl rfl rfl rfl rfl rfl rfl rfl rfl rfl rfl rfl rfl rfl h0 h1 h2 h3 h4 h5 h6 h7 h8 h9 h10 h11 h12 h13 h14 h15 h16 h17).elim
                                · have a15 := Ev.asOk_cons (Ev.asOk_eq (is21 I) (is16 I) (Ev.df h15)) a14
                                  by_cases h16 : z21 x0 x1 x2 x3 = z12 x0 x1 x2 x3
                                  · have a16 := Ev.asOk_cons (Ev.asOk_eq (is21 I) (is12 I) (Ev.dt h16)) a15
                                    by_cases h17 : z16 x0 x1 x2 x3 ≤ z25 x0 x1 x2 x3
                                    · have a17 := Ev.asOk_cons (Ev.asOk_le (is16 I) (is25 I) (Ev.dt h17)) a16
                                      by_cases h18 : z25 x0 x1 x2 x3 ≤ z18 x0 x1 x2 x3
                                      · have a18 := Ev.asOk_cons (Ev.asOk_le (is25 I) (is18 I) (Ev.dt h18)) a17
                                        by_cases h19 : z4 x0 x1 x2 x3 ≤ z38 x0 x1 x2 x3
                                        · have a19 := Ev.asOk_cons (Ev.asOk_le (is4 I) (is38 I) (Ev.dt h19)) a18
                                          by_cases h20 : z38 x0 x1 x2 x3 ≤ z6 x0 x1 x2 x3
                                          · have a20 := Ev.asOk_cons (Ev.asOk_le (is38 I) (is6 I) (Ev.dt h20)) a19
                                            by_cases h21 : z42 x0 x1 x2 x3 = z20 x0 x1 x2 x3
                                            · have a21 := Ev.asOk_cons (Ev.asOk_eq (is42 I) (is20 I) (Ev.dt h21)) a20
                                              exact fin I a21 run68 w
                                            · exact (dead105 x0 x1 x2 x3 B (z0 x0 x1 x2 x3) (z1 x0 x1 x2 x3) (z2 x0 x1 x2 x3) (z3 x0 x1 x2 x3) (z4 x0 x1 x2 x3) (z43 x0 x1 x2 x3) (z44 x0 x1 x2 x3) (z7 x0 x1 x2 x3) (z45 x0 x1 x2 x3) (z23 x0 x1 x2 x3) (z46 x0 x1 x2 x3) (z16 x0 x1 x2 x3) (z47 x0 x1 x2 x3) (z48 x0 x1 x2 x3) (z49 x0 x1 x2 x3) (z9 x0 x1 x2 x3) (z50 x0 x1 x2 x3) (z51 x0 x1 x2 x3) (z14 x0 x1 x2 x3) (z52 x0 x1 x2 x3) (z22 x0 x1 x2 x3) (z53 x0 x1 x2 x3) (z54 x0 x1 x2 x3) (z55 x0 x1 x2 x3) (z56 x0 x1 x2 x3) (z57 x0 x1 x2 x3) (z58 x0 x1 x2 x3) (z59 x0 x1 x2 x3) (z5 x0 x1 x2 x3) (z20 x0 x1 x2 x3) (z21 x0 x1 x2 x3) (z12 x0 x1 x2 x3) (z25 x0 x1 x2 x3) (z18 x0 x1 x2 x3) (z38 x0 x1 x2 x3) (z6 x0 x1 x2 x3) (z39 x0 x1 x2 x3) (z40 x0 x1 x2 x3) (z41 x0 x1 x2 x3) (z42 x0 x1 x2 x3) rfl rfl rfl rfl rfl rfl rfl rfl rfl rfl rfl rfl rfl rfl rfl rfl rfl rfl rfl rfl rfl rfl rfl rfl rfl rfl rfl rfl rfl rfl rfl rfl rfl rfl rfl rfl rfl rfl rfl rfl h0 h1 h2 h3 h4 h5 h6 h7 h8 h9 h10 h11 h12 h13 h14 h15 h16 h17 h18 h19 h20 h21).elim
                                          · exact (dead106 x0 x1 x2 x3 B (z0 x0 x1 x2 x3) (z1 x0 x1 x2 x3) (z2 x0 x1 x2 x3) (z3 x0 x1 x2 x3) (z4 x0 x1 x2 x3) (z43 x0 x1 x2 x3) (z44 x0 x1 x2 x3) (z7 x0 x1 x2 x3) (z45 x0 x1 x2 x3) (z23 x0 x1 x2 x3) (z46 x0 x1 x2 x3) (z16 x0 x1 x2 x3) (z47 x0 x1 x2 x3) (z48 x0 x1 x2 x3) (z49 x0 x1 x2 x3) (z9 x0 x1 x2 x3) (z50 x0 x1 x2 x3) (z51 x0 x1 x2 x3) (z14 x0 x1 x2 x3) (z52 x0 x1 x2 x3) (z22 x0 x1 x2 x3) (z53 x0 x1 x2 x3) (z54 x0 x1 x2 x3) (z55 x0 x1 x2 x3) (z56 x0 x1 x2 x3) (z57 x0 x1 x2 x3) (z58 x0 x1 x2 x3) (z59 x0 x1 x2 x3) (z5 x0 x1 x2 x3) (z20 x0 x1 x2 x3) (z21 x0 x1 x2 x3) (z12 x0 x1 x2 x3) (z25 x0 x1 x2 x3) (z18 x0 x1 x2 x3) (z38 x0 x1 x2 x3) (z6 x0 x1 x2 x3) rfl rfl rfl rfl rfl rfl rfl rfl rfl rfl rfl rfl rfl rfl rfl rfl rfl rfl rfl rfl rfl rfl rfl rfl rfl rfl rfl rfl rfl rfl rfl rfl rfl rfl rfl rfl h0 h1 h2 h3 h4 h5 h6 h7 h8 h9 h10 h11 h12 h13 h14 h15 h16 h17 h18 h19 h20).elim
                                        · exact (dead107 x0 x1 x2 x3 B (z0 x0 x1 x2 x3) (z1 x0 x1 x2 x3) (z2 x0 x1 x2 x3) (z3 x0 x1 x2 x3) (z4 x0 x1 x2 x3) (z43 x0 x1 x2 x3) (z44 x0 x1 x2 x3) (z7 x0 x1 x2 x3) (z45 x0 x1 x2 x3) (z23 x0 x1 x2 x3) (z46 x0 x1 x2 x3) (z16 x0 x1 x2 x3) (z47 x0 x1 x2 x3) (z48 x0 x1 x2 x3) (z49 x0 x1 x2 x3) (z9 x0 x1 x2 x3) (z50 x0 x1 x2 x3) (z51 x0 x1 x2 x3) (z14 x0 x1 x2 x3) (z52 x0 x1 x2 x3) (z22 x0 x1 x2 x3) (z53 x0 x1 x2 x3) (z54 x0 x1 x2 x3) (z55 x0 x1 x2 x3) (z56 x0 x1 x2 x3) (z57 x0 x1 x2 x3) (z58 x0 x1 x2 x3) (z59 x0 x1 x2 x3) (z5 x0 x1 x2 x3) (z20 x0 x1 x2 x3) (z21 x0 x1 x2 x3) (z12 x0 x1 x2 x3) (z25 x0 x1 x2 x3) (z18 x0 x1 x2 x3) (z38 x0 x1 x2 x3) rfl rfl rfl rfl rfl rfl rfl rfl rfl rfl rfl rfl rfl rfl rfl rfl rfl rfl rfl rfl rfl rfl rfl rfl rfl rfl rfl rfl rfl rfl rfl rfl rfl rfl rfl h0 h1 h2 h3 h4 h5 h6 h7 h8 h9 h10 h11 h12 h13 h14 h15 h16 h17 h18 h19).elim
                                      · have a18 := Ev.asOk_cons (Ev.asOk_le (is25 I) (is18 I) (Ev.df h18)) a17
                                        exact fin I a18 run69 w
                                    · have a17 := Ev.asOk_cons (Ev.asOk_le (is16 I) (is25 I) (Ev.df h17)) a16
                                      exact fin I a17 run70 w
                                  · have a16 := Ev.asOk_cons (Ev.asOk_eq (is21 I) (is12 I) (Ev.df h16)) a15
                                    exact fin I a16 run71 w
                            · exact (dead108 x0 x1 x2 x3 B (z0 x0 x1 x2 x3) (z1 x0 x1 x2 x3) (z2 x0 x1 x2 x3) (z3 x0 x1 x2 x3) (z4 x0 x1 x2 x3) (z43 x0 x1 x2 x3) (z44 x0 x1 x2 x3) (z7 x0 x1 x2 x3) (z45 x0 x1 x2 x3) (z23 x0 x1 x2 x3) (z46 x0 x1 x2 x3) (z16 x0 x1 x2 x3) (z47 x0 x1 x2 x3) (z48 x0 x1 x2 x3) (z49 x0 x1 x2 x3) (z9 x0 x1 x2 x3) (z50 x0 x1 x2 x3) (z51 x0 x1 x2 x3) (z14 x0 x1 x2 x3) (z52 x0 x1 x2 x3) (z22 x0 x1 x2 x3) (z53 x0 x1 x2 x3) (z54 x0 x1 x2 x3) (z55 x0 x1 x2 x3) (z56 x0 x1 x2 x3) (z57 x0 x1 x2 x3) (z58 x0 x1 x2 x3) (z59 x0 x1 x2 x3) rfl rfl rfl rfl rfl rfl rfl rfl rfl rfl rfl rfl rfl rfl rfl rfl rfl rfl rfl rfl rfl rfl rfl rfl rfl rfl rfl rfl h0 h1 h2 h3 h4 h5 h6 h7 h8 h9 h10 h11 h12 h13).elim
                          · exact (dead109 x0 x1 x2 x3 B (z0 x0 x1 x2 x3) (z1 x0 x1 x2 x3) (z2 x0 x1 x2 x3) (z3 x0 x1 x2 x3) (z4 x0 x1 x2 x3) (z43 x0 x1 x2 x3) (z44 x0 x1 x2 x3) (z7 x0 x1 x2 x3) (z45 x0 x1 x2 x3) (z23 x0 x1 x2 x3) (z46 x0 x1 x2 x3) (z16 x0 x1 x2 x3) (z47 x0 x1 x2 x3) (z48 x0 x1 x2 x3) (z49 x0 x1 x2 x3) (z9 x0 x1 x2 x3) (z50 x0 x1 x2 x3) (z51 x0 x1 x2 x3) (z14 x0 x1 x2 x3) (z52 x0 x1 x2 x3) (z22 x0 x1 x2 x3) (z53 x0 x1 x2 x3) (z54 x0 x1 x2 x3) (z55 x0 x1 x2 x3) (z56 x0 x1 x2 x3) (z57 x0 x1 x2 x3) (z58 x0 x1 x2 x3) (z59 x0 x1 x2 x3) rfl rfl rfl rfl rfl rfl rfl rfl rfl rfl rfl rfl rfl rfl rfl rfl rfl rfl rfl rfl rfl rfl rfl rfl rfl rfl rfl rfl h0 h1 h2 h3 h4 h5 h6 h7 h8 h9 h10 h11 h12).elim
                        · have a11 := Ev.asOk_cons (Ev.asOk_le (is59 I) (is3 I) (Ev.df h11)) a10
                          by_cases h12 : z52 x0 x1 x2 x3 = z12 x0 x1 x2 x3
                          · exact (dead110 x0 x1 x2 x3 B (z0 x0 x1 x2 x3) (z1 x0 x1 x2 x3) (z2 x0 x1 x2 x3) (z3 x0 x1 x2 x3) (z4 x0 x1 x2 x3) (z43 x0 x1 x2 x3) (z44 x0 x1 x2 x3) (z7 x0 x1 x2 x3) (z45 x0 x1 x2 x3) (z23 x0 x1 x2 x3) (z46 x0 x1 x2 x3) (z16 x0 x1 x2 x3) (z47 x0 x1 x2 x3) (z48 x0 x1 x2 x3) (z49 x0 x1 x2 x3) (z9 x0 x1 x2 x3) (z50 x0 x1 x2 x3) (z51 x0 x1 x2 x3) (z14 x0 x1 x2 x3) (z52 x0 x1 x2 x3) (z22 x0 x1 x2 x3) (z53 x0 x1 x2 x3) (z54 x0 x1 x2 x3) (z55 x0 x1 x2 x3) (z56 x0 x1 x2 x3) (z57 x0 x1 x2 x3) (z58 x0 x1 x2 x3) (z59 x0 x1 x2 x3) (z12 x0 x1 x2 x3) rfl rfl rfl rfl rfl rfl rfl rfl rfl rfl rfl rfl rfl rfl rfl rfl rfl rfl rfl rfl rfl rfl rfl rfl rfl rfl rfl rfl rfl h0 h1 h2 h3 h4 h5 h6 h7 h8 h9 h10 h11 h12).elim
                          · exact (dead111 x0 x1 x2 x3 B (z0 x0 x1 x2 x3) (z1 x0 x1 x2 x3) (z2 x0 x1 x2 x3) (z3 x0 x1 x2 x3) (z4 x0 x1 x2 x3) (z43 x0 x1 x2 x3) (z44 x0 x1 x2 x3) (z7 x0 x1 x2 x3) (z45 x0 x1 x2 x3) (z23 x0 x1 x2 x3) (z46 x0 x1 x2 x3) (z16 x0 x1 x2 x3) (z47 x0 x1 x2 x3) (z48 x0 x1 x2 x3) (z49 x0 x1 x2 x3) (z9 x0 x1 x2 x3) (z50 x0 x1 x2 x3) (z51 x0 x1 x2 x3) (z14 x0 x1 x2 x3) (z52 x0 x1 x2 x3) (z22 x0 x1 x2 x3) (z53 x0 x1 x2 x3) (z54 x0 x1 x2 x3) (z55 x0 x1 x2 x3) (z56 x0 x1 x2 x3) (z57 x0 x1 x2 x3) (z58 x0 x1 x2 x3) (z59 x0 x1 x2 x3) (z12 x0 x1 x2 x3) rfl rfl rfl rfl rfl rfl rfl rfl rfl rfl rfl rfl rfl rfl rfl rfl rfl rfl rfl rfl rfl rfl rfl rfl rfl rfl rfl rfl rfl h0 h1 h2 h3 h4 h5 h6 h7 h8 h9 h10 h11 h12).elim
                  · exact (dead112 x0 x1 x2 x3 B (z0 x0 x1 x2 x3) (z1 x0 x1 x2 x3) (z2 x0 x1 x2 x3) (z3 x0 x1 x2 x3) (z4 x0 x1 x2 x3) (z43 x0 x1 x2 x3) (z44 x0 x1 x2 x3) (z7 x0 x1 x2 x3) (z45 x0 x1 x2 x3) (z23 x0 x1 x2 x3) (z46 x0 x1 x2 x3) (z16 x0 x1 x2 x3) (z47 x0 x1 x2 x3) (z48 x0 x1 x2 x3) (z49 x0 x1 x2 x3) (z9 x0 x1 x2 x3) (z50 x0 x1 x2 x3) (z51 x0 x1 x2 x3) (z14 x0 x1 x2 x3) (z52 x0 x1 x2 x3) (z22 x0 x1 x2 x3) (z53 x0 x1 x2 x3) (z54 x0 x1 x2 x3) (z55 x0 x1 x2 x3) (z56 x0 x1 x2 x3) (z57 x0 x1 x2 x3) rfl rfl rfl rfl rfl rfl rfl rfl rfl rfl rfl rfl rfl rfl rfl rfl rfl rfl rfl rfl rfl rfl rfl rfl rfl rfl h0 h1 h2 h3 h4 h5 h6 h7 h8).elim
                · exact (dead113 x0 x1 x2 x3 B (z0 x0 x1 x2 x3) (z1 x0 x1 x2 x3) (z2 x0 x1 x2 x3) (z3 x0 x1 x2 x3) (z4 x0 x1 x2 x3) (z43 x0 x1 x2 x3) (z44 x0 x1 x2 x3) (z7 x0 x1 x2 x3) (z45 x0 x1 x2 x3) (z23 x0 x1 x2 x3) (z46 x0 x1 x2 x3) (z16 x0 x1 x2 x3) (z47 x0 x1 x2 x3) (z48 x0 x1 x2 x3) (z49 x0 x1 x2 x3) (z9 x0 x1 x2 x3) (z50 x0 x1 x2 x3) (z51 x0 x1 x2 x3) (z14 x0 x1 x2 x3) (z52 x0 x1 x2 x3) (z22 x0 x1 x2 x3) (z53 x0 x1 x2 x3) (z54 x0 x1 x2 x3) (z55 x0 x1 x2 x3) (z56 x0 x1 x2 x3) rfl rfl rfl rfl rfl rfl rfl rfl rfl rfl rfl rfl rfl rfl rfl rfl rfl rfl rfl rfl rfl rfl rfl rfl rfl h0 h1 h2 h3 h4 h5 h6 h7).elim
            · exact (dead114 x0 x1 x2 x3 B (z0 x0 x1 x2 x3) (z1 x0 x1 x2 x3) (z2 x0 x1 x2 x3) (z3 x0 x1 x2 x3) (z4 x0 x1 x2 x3) (z43 x0 x1 x2 x3) (z44 x0 x1 x2 x3) (z7 x0 x1 x2 x3) (z45 x0 x1 x2 x3) (z23 x0 x1 x2 x3) (z46 x0 x1 x2 x3) (z16 x0 x1 x2 x3) (z47 x0 x1 x2 x3) (z48 x0 x1 x2 x3) (z49 x0 x1 x2 x3) (z9 x0 x1 x2 x3) (z50 x0 x1 x2 x3) (z51 x0 x1 x2 x3) (z14 x0 x1 x2 x3) (z52 x0 x1 x2 x3) rfl rfl rfl rfl rfl rfl rfl rfl rfl rfl rfl rfl rfl rfl rfl rfl rfl rfl rfl rfl h0 h1 h2 h3 h4 h5).elim
          · have a4 := Ev.asOk_cons (Ev.asOk_le (is44 I) (is3 I) (Ev.df h4)) a3
            by_cases h5 : z4 x0 x1 x2 x3 ≤ z5 x0 x1 x2 x3
            · have a5 := Ev.asOk_cons (Ev.asOk_le (is4 I) (is5 I) (Ev.dt h5)) a4
              by_cases h6 : z5 x0 x1 x2 x3 ≤ z6 x0 x1 x2 x3
              · have a6 := Ev.asOk_cons (Ev.asOk_le (is5 I) (is6 I) (Ev.dt h6)) a5
                by_cases h7 : z15 x0 x1 x2 x3 = z16 x0 x1 x2 x3
                · exact (dead115 x0 x1 x2 x3 B (z0 x0 x1 x2 x3) (z1 x0 x1 x2 x3) (z2 x0 x1 x2 x3) (z3 x0 x1 x2 x3) (z4 x0 x1 x2 x3) (z43 x0 x1 x2 x3) (z44 x0 x1 x2 x3) (z5 x0 x1 x2 x3) (z6 x0 x1 x2 x3) (z7 x0 x1 x2 x3) (z8 x0 x1 x2 x3) (z9 x0 x1 x2 x3) (z10 x0 x1 x2 x3) (z11 x0 x1 x2 x3) (z12 x0 x1 x2 x3) (z13 x0 x1 x2 x3) (z14 x0 x1 x2 x3) (z15 x0 x1 x2 x3) (z16 x0 x1 x2 x3) rfl rfl rfl rfl rfl rfl rfl rfl rfl rfl rfl rfl rfl rfl rfl rfl rfl rfl rfl h0 h1 h2 h3 h4 h5 h6 h7).elim
                · have a7 := Ev.asOk_cons (Ev.asOk_eq (is15 I) (is16 I) (Ev.df h7)) a6
                  by_cases h8 : z15 x0 x1 x2 x3 = z12 x0 x1 x2 x3
                  · have a8 := Ev.asOk_cons (Ev.asOk_eq (is15 I) (is12 I) (Ev.dt h8)) a7
                    by_cases h9 : z16 x0 x1 x2 x3 ≤ z17 x0 x1 x2 x3
                    · have a9 := Ev.asOk_cons (Ev.asOk_le (is16 I) (is17 I) (Ev.dt h9)) a8
                      by_cases h10 : z17 x0 x1 x2 x3 ≤ z18 x0 x1 x2 x3
                      · have a10 := Ev.asOk_cons (Ev.asOk_le (is17 I) (is18 I) (Ev.dt h10)) a9
                        by_cases h11 : z19 x0 x1 x2 x3 = z5 x0 x1 x2 x3
                        · have a11 := Ev.asOk_cons (Ev.asOk_eq (is19 I) (is5 I) (Ev.dt h11)) a10
                          by_cases h12 : z21 x0 x1 x2 x3 = z16 x0 x1 x2 x3
                          · have a12 := Ev.asOk_cons (Ev.asOk_eq (is21 I) (is16 I) (Ev.dt h12)) a11
                            by_cases h13 : z22 x0 x1 x2 x3 ≤ z24 x0 x1 x2 x3
                            · have a13 := Ev.asOk_cons (Ev.asOk_le (is22 I) (is24 I) (Ev.dt h13)) a12
                              by_cases h14 : z21 x0 x1 x2 x3 = z12 x0 x1 x2 x3
                              · exact (dead116 x0 x1 x2 x3 B (z0 x0 x1 x2 x3) (z1 x0 x1 x2 x3) (z2 x0 x1 x2 x3) (z3 x0 x1 x2 x3) (z4 x0 x1 x2 x3) (z43 x0 x1 x2 x3) (z44 x0 x1 x2 x3) (z5 x0 x1 x2 x3) (z6 x0 x1 x2 x3) (z7 x0 x1 x2 x3) (z8 x0 x1 x2 x3) (z9 x0 x1 x2 x3) (z10 x0 x1 x2 x3) (z11 x0 x1 x2 x3) (z12 x0 x1 x2 x3) (z13 x0 x1 x2 x3) (z14 x0 x1 x2 x3) (z15 x0 x1 x2 x3) (z16 x0 x1 x2 x3) (z17 x0 x1 x2 x3) (z18 x0 x1 x2 x3) (z19 x0 x1 x2 x3) (z20 x0 x1 x2 x3) (z21 x0 x1 x2 x3) (z22 x0 x1 x2 x3) (z23 x0 x1 x2 x3) (z24 x0 x1 x2 x3) rfl rfl rfl rfl rfl rfl rfl rfl rfl rfl rfl rfl rfl rfl rfl rfl rfl rfl rfl rfl rfl rfl rfl rfl rfl rfl rfl h0 h1 h2 h3 h4 h5 h6 h7 h8 h9 h10 h11 h12 h13 h14).elim
                              · have a14 := Ev.asOk_cons (Ev.asOk_eq (is21 I) (is12 I) (Ev.df h14)) a13
                                exact fin I a14 run72 w
                            · have a13 := Ev.asOk_cons (Ev.asOk_le (is22 I) (is24 I) (Ev.df h13)) a12
                              by_cases h14 : z0 x0 x1 x2 x3 ≤ z27 x0 x1 x2 x3
                              · have a14 := Ev.asOk_cons (Ev.asOk_le (is0 I) (is27 I) (Ev.dt h14)) a13
                                by_cases h15 : z0 x0 x1 x2 x3 ≤ z28 x0 x1 x2 x3
                                · have a15 := Ev.asOk_cons (Ev.asOk_le (is0 I) (is28 I) (Ev.dt h15)) a14
                                  by_cases h16 : z3 x0 x1 x2 x3 ≤ z27 x0 x1 x2 x3
                                  · have a16 := Ev.asOk_cons (Ev.asOk_le (is3 I) (is27 I) (Ev.dt h16)) a15
                                    by_cases h17 : z21 x0 x1 x2 x3 = z12 x0 x1 x2 x3
                                    · exact (dead117 x0 x1 x2 x3 B (z0 x0 x1 x2 x3) (z1 x0 x1 x2 x3) (z2 x0 x1 x2 x3) (z3 x0 x1 x2 x3) (z4 x0 x1 x2 x3) (z43 x0 x1 x2 x3) (z44 x0 x1 x2 x3) (z5 x0 x1 x2 x3) (z6 x0 x1 x2 x3) (z7 x0 x1 x2 x3) (z8 x0 x1 x2 x3) (z9 x0 x1 x2 x3) (z10 x0 x1 x2 x3) (z11 x0 x1 x2 x3) (z12 x0 x1 x2 x3) (z13 x0 x1 x2 x3) (z14 x0 x1 x2 x3) (z15 x0 x1 x2 x3) (z16 x0 x1 x2 x3) (z17 x0 x1 x2 x3) (z18 x0 x1 x2 x3) (z19 x0 x1 x2 x3) (z20 x0 x1 x2 x3) (z21 x0 x1 x2 x3) (z22 x0 x1 x2 x3) (z23 x0 x1 x2 x3) (z24 x0 x1 x2 x3) (z25 x0 x1 x2 x3) (z26 x0 x1 x2 x3) (z27 x0 x1 x2 x3) (z28 x0 x1 x2 x3) rfl rfl rfl rfl rfl rfl rfl rfl rfl rfl rfl rfl rfl rfl rfl rfl rfl rfl rfl rfl rfl rfl rfl rfl rfl rfl rfl rfl rfl rfl rfl h0 h1 h2 h3 h4 h5 h6 h7 h8 h9 h10 h11 h12 h13 h14 h15 h16 h17).elim
                                    · have a17 := Ev.asOk_cons (Ev.asOk_eq (is21 I) (is12 I) (Ev.df h17)) a16
                                      exact fin I a17 run73 w
                                  · have a16 := Ev.asOk_cons (Ev.asOk_le (is3 I) (is27 I) (Ev.df h16)) a15
                                    by_cases h17 : z3 x0 x1 x2 x3 ≤ z28 x0 x1 x2 x3
                                    · exact (dead118 x0 x1 x2 x3 B (z0 x0 x1 x2 x3) (z1 x0 x1 x2 x3) (z2 x0 x1 x2 x3) (z3 x0 x1 x2 x3) (z4 x0 x1 x2 x3) (z43 x0 x1 x2 x3) (z44 x0 x1 x2 x3) (z5 x0 x1 x2 x3) (z6 x0 x1 x2 x3) (z7 x0 x1 x2 x3) (z8 x0 x1 x2 x3) (z9 x0 x1 x2 x3) (z10 x0 x1 x2 x3) (z11 x0 x1 x2 x3) (z12 x0 x1 x2 x3) (z13 x0 x1 x2 x3) (z14 x0 x1 x2 x3) (z15 x0 x1 x2 x3) (z16 x0 x1 x2 x3) (z17 x0 x1 x2 x3) (z18 x0 x1 x2 x3) (z19 x0 x1 x2 x3) (z20 x0 x1 x2 x3) (z21 x0 x1 x2 x3) (z22 x0 x1 x2 x3) (z23 x0 x1 x2 x3) (z24 x0 x1 x2 x3) (z25 x0 x1 x2 x3) (z26 x0 x1 x2 x3) (z27 x0 x1 x2 x3) (z28 x0 x1 x2 x3) rfl rfl rfl rfl rfl rfl rfl rfl rfl rfl rfl rfl rfl rfl rfl rfl rfl rfl rfl rfl rfl rfl rfl rfl rfl rfl rfl rfl rfl rfl rfl h0 h1 h2 h3 h4 h5 h6 h7 h8 h9 h10 h11 h12 h13 h14 h15 h16 h17).elim
                                    · have a17 := Ev.asOk_cons (Ev.asOk_le (is3 I) (is28 I) (Ev.df h17)) a16
                                      by_cases h18 : z30 x0 x1 x2 x3 ≤ z3 x0 x1 x2 x3
                                      · have a18 := Ev.asOk_cons (Ev.asOk_le (is30 I) (is3 I) (Ev.dt h18)) a17
                                        by_cases h19 : z37 x0 x1 x2 x3 = z20 x0 x1 x2 x3
                                        · have a19 := Ev.asOk_cons (Ev.asOk_eq (is37 I) (is20 I) (Ev.dt h19)) a18
                                          exact fin I a19 run74 w
                                        · exact (dead119 x0 x1 x2 x3 B (z0 x0 x1 x2 x3) (z1 x0 x1 x2 x3) (z2 x0 x1 x2 x3) (z3 x0 x1 x2 x3) (z4 x0 x1 x2 x3) (z43 x0 x1 x2 x3) (z44 x0 x1 x2 x3) (z5 x0 x1 x2 x3) (z6 x0 x1 x2 x3) (z7 x0 x1 x2 x3) (z8 x0 x1 x2 x3) (z9 x0 x1 x2 x3) (z10 x0 x1 x2 x3) (z11 x0 x1 x2 x3) (z12 x0 x1 x2 x3) (z13 x0 x1 x2 x3) (z14 x0 x1 x2 x3) (z15 x0 x1 x2 x3) (z16 x0 x1 x2 x3) (z17 x0 x1 x2 x3) (z18 x0 x1 x2 x3) (z19 x0 x1 x2 x3) (z20 x0 x1 x2 x3) (z21 x0 x1 x2 x3) (z22 x0 x1 x2 x3) (z23 x0 x1 x2 x3) (z24 x0 x1 x2 x3) (z25 x0 x1 x2 x3) (z26 x0 x1 x2 x3) (z27 x0 x1 x2 x3) (z28 x0 x1 x2 x3) (z29 x0 x1 x2 x3) (z30 x0 x1 x2 x3) (z31 x0 x1 x2 x3) (z32 x0 x1 x2 x3) (z33 x0 x1 x2 x3) (z34 x0 x1 x2 x3) (z35 x0 x1 x2 x3) (z36 x0 x1 x2 x3) (z37 x0 x1 x2 x3) rfl rfl rfl rfl rfl rfl rfl rfl rfl rfl rfl rfl rfl rfl rfl rfl rfl rfl rfl rfl rfl rfl rfl rfl rfl rfl rfl rfl rfl rfl rfl rfl rfl rfl rfl rfl rfl rfl rfl rfl h0 h1 h2 h3 h4 h5 h6 h7 h8 h9 h10 h11 h12 h13 h14 h15 h16 h17 h18 h19).elim
                                      · have a18 := Ev.asOk_cons (Ev.asOk_le (is30 I) (is3 I) (Ev.df h18)) a17
                                        by_cases h19 : z21 x0 x1 x2 x3 = z12 x0 x1 x2 x3
                                        · exact (dead120 x0 x1 x2 x3 B (z0 x0 x1 x2 x3) (z1 x0 x1 x2 x3) (z2 x0 x1 x2 x3) (z3 x0 x1 x2 x3) (z4 x0 x1 x2 x3) (z43 x0 x1 x2 x3) (z44 x0 x1 x2 x3) (z5 x0 x1 x2 x3) (z6 x0 x1 x2 x3) (z7 x0 x1 x2 x3) (z8 x0 x1 x2 x3) (z9 x0 x1 x2 x3) (z10 x0 x1 x2 x3) (z11 x0 x1 x2 x3) (z12 x0 x1 x2 x3) (z13 x0 x1 x2 x3) (z14 x0 x1 x2 x3) (z15 x0 x1 x2 x3) (z16 x0 x1 x2 x3) (z17 x0 x1 x2 x3) (z18 x0 x1 x2 x3) (z19 x0 x1 x2 x3) (z20 x0 x1 x2 x3) (z21 x0 x1 x2 x3) (z22 x0 x1 x2 x3) (z23 x0 x1 x2 x3) (z24 x0 x1 x2 x3) (z25 x0 x1 x2 x3) (z26 x0 x1 x2 x3) (z27 x0 x1 x2 x3) (z28 x0 x1 x2 x3) (z29 x0 x1 x2 x3) (z30 x0 x1 x2 x3) rfl rfl rfl rfl rfl rfl rfl rfl rfl rfl rfl rfl rfl rfl rfl rfl rfl rfl rfl rfl rfl rfl rfl rfl rfl rfl rfl rfl rfl rfl rfl rfl rfl h0 h1 h2 h3 h4 h5 h6 h7 h8 h9 h10 h11 h12 h13 h14 h15 h16 h17 h18 h19).elim
                                        · have a19 := Ev.asOk_cons (Ev.asOk_eq (is21 I) (is12 I) (Ev.df h19)) a18
                                          exact fin I a19 run75 w
                                · exact (dead121 x0 x1 x2 x3 B (z0 x0 x1 x2 x3) (z1 x0 x1 x2 x3) (z2 x0 x1 x2 x3) (z3 x0 x1 x2 x3) (z4 x0 x1 x2 x3) (z43 x0 x1 x2 x3) (z44 x0 x1 x2 x3) (z5 x0 x1 x2 x3) (z6 x0 x1 x2 x3) (z7 x0 x1 x2 x3) (z8 x0 x1 x2 x3) (z9 x0 x1 x2 x3) (z10 x0 x1 x2 x3) (z11 x0 x1 x2 x3) (z12 x0 x1 x2 x3) (z13 x0 x1 x2 x3) (z14 x0 x1 x2 x3) (z15 x0 x1 x2 x3) (z16 x0 x1 x2 x3) (z17 x0 x1 x2 x3) (z18 x0 x1 x2 x3) (z19 x0 x1 x2 x3) (z20 x0 x1 x2 x3) (z21 x0 x1 x2 x3) (z22 x0 x1 x2 x3) (z23 x0 x1 x2 x3) (z24 x0 x1 x2 x3) (z25 x0 x1 x2 x3) (z26 x0 x1 x2 x3) (z27 x0 x1 x2 x3) (z28 x0 x1 x2 x3) rfl rfl rfl rfl rfl rfl rfl rfl rfl rfl rfl rfl rfl rfl rfl rfl rfl rfl rfl rfl rfl rfl rfl rfl rfl rfl rfl rfl rfl rfl rfl h0 h1 h2 h3 h4 h5 h6 h7 h8 h9 h10 h11 h12 h13 h14 h15).elim
                              · exact (dead122 x0 x1 x2 x3 B (z0 x0 x1 x2 x3) (z1 x0 x1 x2 x3) (z2 x0 x1 x2 x3) (z3 x0 x1 x2 x3) (z4 x0 x1 x2 x3) (z43 x0 x1 x2 x3) (z44 x0 x1 x2 x3) (z5 x0 x1 x2 x3) (z6 x0 x1 x2 x3) (z7 x0 x1 x2 x3) (z8 x0 x1 x2 x3) (z9 x0 x1 x2 x3) (z10 x0 x1 x2 x3) (z11 x0 x1 x2 x3) (z12 x0 x1 x2 x3) (z13 x0 x1 x2 x3) (z14 x0 x1 x2 x3) (z15 x0 x1 x2 x3) (z16 x0 x1 x2 x3) (z17 x0 x1 x2 x3) (z18 x0 x1 x2 x3) (z19 x0 x1 x2 x3) (z20 x0 x1 x2 x3) (z21 x0 x1 x2 x3) (z22 x0 x1 x2 x3) (z23 x0 x1 x2 x3) (z24 x0 x1 x2 x3) (z25 x0 x1 x2 x3) (z26 x0 x1 x2 x3) (z27 x0 x1 x2 x3) rfl rfl rfl rfl rfl rfl rfl rfl rfl rfl rfl rfl rfl rfl rfl rfl rfl rfl rfl rfl rfl rfl rfl rfl rfl rfl rfl rfl rfl rfl h0 h1 h2 h3 h4 h5 h6 h7 h8 h9 h10 h11 h12 h13 h14).elim
                          · have a12 := Ev.asOk_cons (Ev.asOk_eq (is21 I) (is16 I) (Ev.df h12)) a11
                            by_cases h13 : z21 x0 x1 x2 x3 = z12 x0 x1 x2 x3
                            · have a13 := Ev.asOk_cons (Ev.asOk_eq (is21 I) (is12 I) (Ev.dt h13)) a12
                              by_cases h14 : z16 x0 x1 x2 x3 ≤ z25 x0 x1 x2 x3
                              · have a14 := Ev.asOk_cons (Ev.asOk_le (is16 I) (is25 I) (Ev.dt h14)) a13
                                by_cases h15 : z25 x0 x1 x2 x3 ≤ z18 x0 x1 x2 x3
                                · have a15 := Ev.asOk_cons (Ev.asOk_le (is25 I) (is18 I) (Ev.dt h15)) a14
                                  by_cases h16 : z4 x0 x1 x2 x3 ≤ z38 x0 x1 x2 x3
                                  · have a16 := Ev.asOk_cons (Ev.asOk_le (is4 I) (is38 I) (Ev.dt h16)) a15
                                    by_cases h17 : z38 x0 x1 x2 x3 ≤ z6 x0 x1 x2 x3
                                    · have a17 := Ev.asOk_cons (Ev.asOk_le (is38 I) (is6 I) (Ev.dt h17)) a16
                                      by_cases h18 : z42 x0 x1 x2 x3 = z20 x0 x1 x2 x3
                                      · have a18 := Ev.asOk_cons (Ev.asOk_eq (is42 I) (is20 I) (Ev.dt h18)) a17
                                        exact fin I a18 run76 w
                                      · exact (dead123 x0 x1 x2 x3 B (z0 x0 x1 x2 x3) (z1 x0 x1 x2 x3) (z2 x0 x1 x2 x3) (z3 x0 x1 x2 x3) (z4 x0 x1 x2 x3) (z43 x0 x1 x2 x3) (z44 x0 x1 x2 x3) (z5 x0 x1 x2 x3) (z6 x0 x1 x2 x3) (z7 x0 x1 x2 x3) (z8 x0 x1 x2 x3) (z9 x0 x1 x2 x3) (z10 x0 x1 x2 x3) (z11 x0 x1 x2 x3) (z12 x0 x1 x2 x3) (z13 x0 x1 x2 x3) (z14 x0 x1 x2 x3) (z15 x0 x1 x2 x3) (z16 x0 x1 x2 x3) (z17 x0 x1 x2 x3) (z18 x0 x1 x2 x3) (z19 x0 x1 x2 x3) (z20 x0 x1 x2 x3) (z21 x0 x1 x2 x3) (z25 x0 x1 x2 x3) (z38 x0 x1 x2 x3) (z39 x0 x1 x2 x3) (z40 x0 x1 x2 x3) (z41 x0 x1 x2 x3) (z42 x0 x1 x2 x3) rfl rfl rfl rfl rfl rfl rfl rfl rfl rfl rfl rfl rfl rfl rfl rfl rfl rfl rfl rfl rfl rfl rfl rfl rfl rfl rfl rfl rfl rfl h0 h1 h2 h3 h4 h5 h6 h7 h8 h9 h10 h11 h12 h13 h14 h15 h16 h17 h18).elim
                                    · exact (dead124 x0 x1 x2 x3 B (z0 x0 x1 x2 x3) (z1 x0 x1 x2 x3) (z2 x0 x1 x2 x3) (z3 x0 x1 x2 x3) (z4 x0 x1 x2 x3) (z43 x0 x1 x2 x3) (z44 x0 x1 x2 x3) (z5 x0 x1 x2 x3) (z6 x0 x1 x2 x3) (z7 x0 x1 x2 x3) (z8 x0 x1 x2 x3) (z9 x0 x1 x2 x3) (z10 x0 x1 x2 x3) (z11 x0 x1 x2 x3) (z12 x0 x1 x2 x3) (z13 x0 x1 x2 x3) (z14 x0 x1 x2 x3) (z15 x0 x1 x2 x3) (z16 x0 x1 x2 x3) (z17 x0 x1 x2 x3) (z18 x0 x1 x2 x3) (z19 x0 x1 x2 x3) (z20 x0 x1 x2 x3) (z21 x0 x1 x2 x3) (z25 x0 x1 x2 x3) (z38 x0 x1 x2 x3) rfl rfl rfl rfl rfl rfl rfl rfl rfl rfl rfl rfl rfl rfl rfl rfl rfl rfl rfl rfl rfl rfl rfl rfl rfl rfl h0 h1 h2 h3 h4 h5 h6 h7 h8 h9 h10 h11 h12 h13 h14 h15 h16 h17).elim
                                  · exact (dead125 x0 x1 x2 x3 B (z0 x0 x1 x2 x3) (z1 x0 x1 x2 x3) (z2 x0 x1 x2 x3) (z3 x0 x1 x2 x3) (z4 x0 x1 x2 x3) (z43 x0 x1 x2 x3) (z44 x0 x1 x2 x3) (z5 x0 x1 x2 x3) (z6 x0 x1 x2 x3) (z7 x0 x1 x2 x3) (z8 x0 x1 x2 x3) (z9 x0 x1 x2 x3) (z10 x0 x1 x2 x3) (z11 x0 x1 x2 x3) (z12 x0 x1 x2 x3) (z13 x0 x1 x2 x3) (z14 x0 x1 x2 x3) (z15 x0 x1 x2 x3) (z16 x0 x1 x2 x3) (z17 x0 x1 x2 x3) (z18 x0 x1 x2 x3) (z19 x0 x1 x2 x3) (z20 x0 x1 x2 x3) (z21 x0 x1 x2 x3) (z25 x0 x1 x2 x3) (z38 x0 x1 x2 x3) rfl rfl rfl rfl rfl rfl rfl rfl rfl rfl rfl rfl rfl rfl rfl rfl rfl rfl rfl rfl rfl rfl rfl rfl rfl rfl h0 h1 h2 h3 h4 h5 h6 h7 h8 h9 h10 h11 h12 h13 h14 h15 h16).elim
                                · have a15 := Ev.asOk_cons (Ev.asOk_le (is25 I) (is18 I) (Ev.df h15)) a14
                                  exact fin I a15 run77 w
                              · have a14 := Ev.asOk_cons (Ev.asOk_le (is16 I) (is25 I) (Ev.df h14)) a13
                                exact fin I a14 run78 w
                            · have a13 := Ev.asOk_cons (Ev.asOk_eq (is21 I) (is12 I) (Ev.df h13)) a12
                              exact fin I a13 run79 w
                        · exact (dead126 x0 x1 x2 x3 B (z0 x0 x1 x2 x3) (z1 x0 x1 x2 x3) (z2 x0 x1 x2 x3) (z3 x0 x1 x2 x3) (z4 x0 x1 x2 x3) (z43 x0 x1 x2 x3) (z44 x0 x1 x2 x3) (z5 x0 x1 x2 x3) (z6 x0 x1 x2 x3) (z7 x0 x1 x2 x3) (z8 x0 x1 x2 x3) (z9 x0 x1 x2 x3) (z10 x0 x1 x2 x3) (z11 x0 x1 x2 x3) (z12 x0 x1 x2 x3) (z13 x0 x1 x2 x3) (z14 x0 x1 x2 x3) (z15 x0 x1 x2 x3) (z16 x0 x1 x2 x3) (z17 x0 x1 x2 x3) (z18 x0 x1 x2 x3) (z19 x0 x1 x2 x3) rfl rfl rfl rfl rfl rfl rfl rfl rfl rfl rfl rfl rfl rfl rfl rfl rfl rfl rfl rfl rfl rfl h0 h1 h2 h3 h4 h5 h6 h7 h8 h9 h10 h11).elim
                      · exact (dead127 x0 x1 x2 x3 B (z0 x0 x1 x2 x3) (z1 x0 x1 x2 x3) (z2 x0 x1 x2 x3) (z3 x0 x1 x2 x3) (z4 x0 x1 x2 x3) (z43 x0 x1 x2 x3) (z44 x0 x1 x2 x3) (z5 x0 x1 x2 x3) (z6 x0 x1 x2 x3) (z7 x0 x1 x2 x3) (z8 x0 x1 x2 x3) (z9 x0 x1 x2 x3) (z10 x0 x1 x2 x3) (z11 x0 x1 x2 x3) (z12 x0 x1 x2 x3) (z13 x0 x1 x2 x3) (z14 x0 x1 x2 x3) (z15 x0 x1 x2 x3) (z16 x0 x1 x2 x3) (z17 x0 x1 x2 x3) (z18 x0 x1 x2 x3) rfl rfl rfl rfl rfl rfl rfl rfl rfl rfl rfl rfl rfl rfl rfl rfl rfl rfl rfl rfl rfl h0 h1 h2 h3 h4 h5 h6 h7 h8 h9 h10).elim
                    · exact (dead128 x0 x1 x2 x3 B (z0 x0 x1 x2 x3) (z1 x0 x1 x2 x3) (z2 x0 x1 x2 x3) (z3 x0 x1 x2 x3) (z4 x0 x1 x2 x3) (z43 x0 x1 x2 x3) (z44 x0 x1 x2 x3) (z5 x0 x1 x2 x3) (z6 x0 x1 x2 x3) (z7 x0 x1 x2 x3) (z8 x0 x1 x2 x3) (z9 x0 x1 x2 x3) (z10 x0 x1 x2 x3) (z11 x0 x1 x2 x3) (z12 x0 x1 x2 x3) (z13 x0 x1 x2 x3) (z14 x0 x1 x2 x3) (z15 x0 x1 x2 x3) (z16 x0 x1 x2 x3) (z17 x0 x1 x2 x3) rfl rfl rfl rfl rfl rfl rfl rfl rfl rfl rfl rfl rfl rfl rfl rfl rfl rfl rfl rfl h0 h1 h2 h3 h4 h5 h6 h7 h8 h9).elim
                  · exact (dead129 x0 x1 x2 x3 B (z0 x0 x1 x2 x3) (z1 x0 x1 x2 x3) (z2 x0 x1 x2 x3) (z3 x0 x1 x2 x3) (z4 x0 x1 x2 x3) (z43 x0 x1 x2 x3) (z44 x0 x1 x2 x3) (z5 x0 x1 x2 x3) (z6 x0 x1 x2 x3) (z7 x0 x1 x2 x3) (z8 x0 x1 x2 x3) (z9 x0 x1 x2 x3) (z10 x0 x1 x2 x3) (z11 x0 x1 x2 x3) (z12 x0 x1 x2 x3) (z13 x0 x1 x2 x3) (z14 x0 x1 x2 x3) (z15 x0 x1 x2 x3) (z16 x0 x1 x2 x3) rfl rfl rfl rfl rfl rfl rfl rfl rfl rfl rfl rfl rfl rfl rfl rfl rfl rfl rfl h0 h1 h2 h3 h4 h5 h6 h7 h8).elim
              · have a6 := Ev.asOk_cons (Ev.asOk_le (is5 I) (is6 I) (Ev.df h6)) a5
                by_cases h7 : z21 x0 x1 x2 x3 = z16 x0 x1 x2 x3
                · have a7 := Ev.asOk_cons (Ev.asOk_eq (is21 I) (is16 I) (Ev.dt h7)) a6
                  by_cases h8 : z22 x0 x1 x2 x3 ≤ z24 x0 x1 x2 x3
                  · have a8 := Ev.asOk_cons (Ev.asOk_le (is22 I) (is24 I) (Ev.dt h8)) a7
                    by_cases h9 : z21 x0 x1 x2 x3 = z12 x0 x1 x2 x3
                    · exact (dead130 x0 x1 x2 x3 B (z0 x0 x1 x2 x3) (z1 x0 x1 x2 x3) (z2 x0 x1 x2 x3) (z3 x0 x1 x2 x3) (z4 x0 x1 x2 x3) (z43 x0 x1 x2 x3) (z44 x0 x1 x2 x3) (z5 x0 x1 x2 x3) (z6 x0 x1 x2 x3) (z20 x0 x1 x2 x3) (z14 x0 x1 x2 x3) (z21 x0 x1 x2 x3) (z16 x0 x1 x2 x3) (z22 x0 x1 x2 x3) (z23 x0 x1 x2 x3) (z24 x0 x1 x2 x3) (z12 x0 x1 x2 x3) rfl rfl rfl rfl rfl rfl rfl rfl rfl rfl rfl rfl rfl rfl rfl rfl rfl h0 h1 h2 h3 h4 h5 h6 h7 h8 h9).elim
                    · have a9 := Ev.asOk_cons (Ev.asOk_eq (is21 I) (is12 I) (Ev.df h9)) a8
                      exact fin I a9 run80 w
                  · have a8 := Ev.asOk_cons (Ev.asOk_le (is22 I) (is24 I) (Ev.df h8)) a7
                    by_cases h9 : z0 x0 x1 x2 x3 ≤ z27 x0 x1 x2 x3
                    · have a9 := Ev.asOk_cons (Ev.asOk_le (is0 I) (is27 I) (Ev.dt h9)) a8
                      by_cases h10 : z0 x0 x1 x2 x3 ≤ z28 x0 x1 x2 x3
                      · have a10 := Ev.asOk_cons (Ev.asOk_le (is0 I) (is28 I) (Ev.dt h10)) a9
                        by_cases h11 : z3 x0 x1 x2 x3 ≤ z27 x0 x1 x2 x3
                        · have a11 := Ev.asOk_cons (Ev.asOk_le (is3 I) (is27 I) (Ev.dt h11)) a10
                          by_cases h12 : z21 x0 x1 x2 x3 = z12 x0 x1 x2 x3
                          · exact (dead131 x0 x1 x2 x3 B (z0 x0 x1 x2 x3) (z1 x0 x1 x2 x3) (z2 x0 x1 x2 x3) (z3 x0 x1 x2 x3) (z4 x0 x1 x2 x3) (z43 x0 x1 x2 x3) (z44 x0 x1 x2 x3) (z5 x0 x1 x2 x3) (z6 x0 x1 x2 x3) (z20 x0 x1 x2 x3) (z14 x0 x1 x2 x3) (z21 x0 x1 x2 x3) (z16 x0 x1 x2 x3) (z22 x0 x1 x2 x3) (z23 x0 x1 x2 x3) (z24 x0 x1 x2 x3) (z9 x0 x1 x2 x3) (z25 x0 x1 x2 x3) (z26 x0 x1 x2 x3) (z27 x0 x1 x2 x3) (z28 x0 x1 x2 x3) (z12 x0 x1 x2 x3) rfl rfl rfl rfl rfl rfl rfl rfl rfl rfl rfl rfl rfl rfl rfl rfl rfl rfl rfl rfl rfl rfl h0 h1 h2 h3 h4 h5 h6 h7 h8 h9 h10 h11 h12).elim
                          · have a12 := Ev.asOk_cons (Ev.asOk_eq (is21 I) (is12 I) (Ev.df h12)) a11
                            exact fin I a12 run81 w
                        · have a11 := Ev.asOk_cons (Ev.asOk_le (is3 I) (is27 I) (Ev.df h11)) a10
                          by_cases h12 : z3 x0 x1 x2 x3 ≤ z28 x0 x1 x2 x3
                          · exact (dead132 x0 x1 x2 x3 B (z0 x0 x1 x2 x3) (z1 x0 x1 x2 x3) (z2 x0 x1 x2 x3) (z3 x0 x1 x2 x3) (z4 x0 x1 x2 x3) (z43 x0 x1 x2 x3) (z44 x0 x1 x2 x3) (z5 x0 x1 x2 x3) (z6 x0 x1 x2 x3) (z20 x0 x1 x2 x3) (z14 x0 x1 x2 x3) (z21 x0 x1 x2 x3) (z16 x0 x1 x2 x3) (z22 x0 x1 x2 x3) (z23 x0 x1 x2 x3) (z24 x0 x1 x2 x3) (z9 x0 x1 x2 x3) (z25 x0 x1 x2 x3) (z26 x0 x1 x2 x3) (z27 x0 x1 x2 x3) (z28 x0 x1 x2 x3) rfl rfl rfl rfl rfl rfl rfl rfl rfl rfl rfl rfl rfl rfl rfl rfl rfl rfl rfl rfl rfl h0 h1 h2 h3 h4 h5 h6 h7 h8 h9 h10 h11 h12).elim
                          · have a12 := Ev.asOk_cons (Ev.asOk_le (is3 I) (is28 I) (Ev.df h12)) a11
                            by_cases h13 : z30 x0 x1 x2 x3 ≤ z3 x0 x1 x2 x3
                            · have a13 := Ev.asOk_cons (Ev.asOk_le (is30 I) (is3 I) (Ev.dt h13)) a12
                              by_cases h14 : z37 x0 x1 x2 x3 = z20 x0 x1 x2 x3
                              · have a14 := Ev.asOk_cons (Ev.asOk_eq (is37 I) (is20 I) (Ev.dt h14)) a13
                                exact fin I a14 run82 w
                              · exact (dead133 x0 x1 x2 x3 B (z0 x0 x1 x2 x3) (z1 x0 x1 x2 x3) (z2 x0 x1 x2 x3) (z3 x0 x1 x2 x3) (z4 x0 x1 x2 x3) (z43 x0 x1 x2 x3) (z44 x0 x1 x2 x3) (z5 x0 x1 x2 x3) (z6 x0 x1 x2 x3) (z20 x0 x1 x2 x3) (z14 x0 x1 x2 x3) (z21 x0 x1 x2 x3) (z16 x0 x1 x2 x3) (z22 x0 x1 x2 x3) (z23 x0 x1 x2 x3) (z24 x0 x1 x2 x3) (z9 x0 x1 x2 x3) (z25 x0 x1 x2 x3) (z26 x0 x1 x2 x3) (z27 x0 x1 x2 x3) (z28 x0 x1 x2 x3) (z29 x0 x1 x2 x3) (z30 x0 x1 x2 x3) (z7 x0 x1 x2 x3) (z31 x0 x1 x2 x3) (z32 x0 x1 x2 x3) (z33 x0 x1 x2 x3) (z34 x0 x1 x2 x3) (z35 x0 x1 x2 x3) (z36 x0 x1 x2 x3) (z37 x0 x1 x2 x3) rfl rfl rfl rfl rfl rfl rfl rfl rfl rfl rfl rfl rfl rfl rfl rfl rfl rfl rfl rfl rfl rfl rfl rfl rfl rfl rfl rfl rfl rfl rfl h0 h1 h2 h3 h4 h5 h6 h7 h8 h9 h10 h11 h12 h13 h14).elim
                            · have a13 := Ev.asOk_cons (Ev.asOk_le (is30 I) (is3 I) (Ev.df h13)) a12
                              by_cases h14 : z21 x0 x1 x2 x3 = z12 x0 x1 x2 x3
                              · exact (dead134 x0 x1 x2 x3 B (z0 x0 x1 x2 x3) (z1 x0 x1 x2 x3) (z2 x0 x1 x2 x3) (z3 x0 x1 x2 x3) (z4 x0 x1 x2 x3) (z43 x0 x1 x2 x3) (z44 x0 x1 x2 x3) (z5 x0 x1 x2 x3) (z6 x0 x1 x2 x3) (z20 x0 x1 x2 x3) (z14 x0 x1 x2 x3) (z21 x0 x1 x2 x3) (z16 x0 x1 x2 x3) (z22 x0 x1 x2 x3) (z23 x0 x1 x2 x3) (z24 x0 x1 x2 x3) (z9 x0 x1 x2 x3) (z25 x0 x1 x2 x3) (z26 x0 x1 x2 x3) (z27 x0 x1 x2 x3) (z28 x0 x1 x2 x3) (z29 x0 x1 x2 x3) (z30 x0 x1 x2 x3) (z12 x0 x1 x2 x3) rfl rfl rfl rfl rfl rfl rfl rfl rfl rfl rfl rfl rfl rfl rfl rfl rfl rfl rfl rfl rfl rfl rfl rfl h0 h1 h2 h3 h4 h5 h6 h7 h8 h9 h10 h11 h12 h13 h14).elim
                              · have a14 := Ev.asOk_cons (Ev.asOk_eq (is21 I) (is12 I) (Ev.df h14)) a13
                                exact fin I a14 run83 w
                      · exact (dead135 x0 x1 x2 x3 B (z0 x0 x1 x2 x3) (z1 x0 x1 x2 x3) (z2 x0 x1 x2 x3) (z3 x0 x1 x2 x3) (z4 x0 x1 x2 x3) (z43 x0 x1 x2 x3) (z44 x0 x1 x2 x3) (z5 x0 x1 x2 x3) (z6 x0 x1 x2 x3) (z20 x0 x1 x2 x3) (z14 x0 x1 x2 x3) (z21 x0 x1 x2 x3) (z16 x0 x1 x2 x3) (z22 x0 x1 x2 x3) (z23 x0 x1 x2 x3) (z24 x0 x1 x2 x3) (z9 x0 x1 x2 x3) (z25 x0 x1 x2 x3) (z26 x0 x1 x2 x3) (z27 x0 x1 x2 x3) (z28 x0 x1 x2 x3) rfl rfl rfl rfl rfl rfl rfl rfl rfl rfl rfl rfl rfl rfl rfl rfl rfl rfl rfl rfl rfl h0 h1 h2 h3 h4 h5 h6 h7 h8 h9 h10).elim
                    · exact (dead136 x0 x1 x2 x3 B (z0 x0 x1 x2 x3) (z1 x0 x1 x2 x3) (z2 x0 x1 x2 x3) (z3 x0 x1 x2 x3) (z4 x0 x1 x2 x3) (z43 x0 x1 x2 x3) (z44 x0 x1 x2 x3) (z5 x0 x1 x2 x3) (z6 x0 x1 x2 x3) (z20 x0 x1 x2 x3) (z14 x0 x1 x2 x3) (z21 x0 x1 x2 x3) (z16 x0 x1 x2 x3) (z22 x0 x1 x2 x3) (z23 x0 x1 x2 x3) (z24 x0 x1 x2 x3) (z9 x0 x1 x2 x3) (z25 x0 x1 x2 x3) (z26 x0 x1 x2 x3) (z27 x0 x1 x2 x3) rfl rfl rfl rfl rfl rfl rfl rfl rfl rfl rfl rfl rfl rfl rfl rfl rfl rfl rfl rfl h0 h1 h2 h3 h4 h5 h6 h7 h8 h9).elim
                · have a7 := Ev.asOk_cons (Ev.asOk_eq (is21 I) (is16 I) (Ev.df h7)) a6
                  by_cases h8 : z21 x0 x1 x2 x3 = z12 x0 x1 x2 x3
                  · have a8 := Ev.asOk_cons (Ev.asOk_eq (is21 I) (is12 I) (Ev.dt h8)) a7
                    by_cases h9 : z16 x0 x1 x2 x3 ≤ z25 x0 x1 x2 x3
                    · have a9 := Ev.asOk_cons (Ev.asOk_le (is16 I) (is25 I) (Ev.dt h9)) a8
                      by_cases h10 : z25 x0 x1 x2 x3 ≤ z18 x0 x1 x2 x3
                      · have a10 := Ev.asOk_cons (Ev.asOk_le (is25 I) (is18 I) (Ev.dt h10)) a9
                        by_cases h11 : z4 x0 x1 x2 x3 ≤ z38 x0 x1 x2 x3
                        · have a11 := Ev.asOk_cons (Ev.asOk_le (is4 I) (is38 I) (Ev.dt h11)) a10
                          by_cases h12 : z38 x0 x1 x2 x3 ≤ z6 x0 x1 x2 x3
                          · have a12 := Ev.asOk_cons (Ev.asOk_le (is38 I) (is6 I) (Ev.dt h12)) a11
                            by_cases h13 : z42 x0 x1 x2 x3 = z20 x0 x1 x2 x3
                            · have a13 := Ev.asOk_cons (Ev.asOk_eq (is42 I) (is20 I) (Ev.dt h13)) a12
                              exact fin I a13 run84 w
                            · exact (dead137 x0 x1 x2 x3 B (z0 x0 x1 x2 x3) (z1 x0 x1 x2 x3) (z2 x0 x1 x2 x3) (z3 x0 x1 x2 x3) (z4 x0 x1 x2 x3) (z43 x0 x1 x2 x3) (z44 x0 x1 x2 x3) (z5 x0 x1 x2 x3) (z6 x0 x1 x2 x3) (z20 x0 x1 x2 x3) (z14 x0 x1 x2 x3) (z21 x0 x1 x2 x3) (z16 x0 x1 x2 x3) (z12 x0 x1 x2 x3) (z9 x0 x1 x2 x3) (z25 x0 x1 x2 x3) (z18 x0 x1 x2 x3) (z38 x0 x1 x2 x3) (z7 x0 x1 x2 x3) (z39 x0 x1 x2 x3) (z40 x0 x1 x2 x3) (z41 x0 x1 x2 x3) (z42 x0 x1 x2 x3) rfl rfl rfl rfl rfl rfl rfl rfl rfl rfl rfl rfl rfl rfl rfl rfl rfl rfl rfl rfl rfl rfl rfl h0 h1 h2 h3 h4 h5 h6 h7 h8 h9 h10 h11 h12 h13).elim
                          · exact (dead138 x0 x1 x2 x3 B (z0 x0 x1 x2 x3) (z1 x0 x1 x2 x3) (z2 x0 x1 x2 x3) (z3 x0 x1 x2 x3) (z4 x0 x1 x2 x3) (z43 x0 x1 x2 x3) (z44 x0 x1 x2 x3) (z5 x0 x1 x2 x3) (z6 x0 x1 x2 x3) (z20 x0 x1 x2 x3) (z14 x0 x1 x2 x3) (z21 x0 x1 x2 x3) (z16 x0 x1 x2 x3) (z12 x0 x1 x2 x3) (z9 x0 x1 x2 x3) (z25 x0 x1 x2 x3) (z18 x0 x1 x2 x3) (z38 x0 x1 x2 x3) rfl rfl rfl rfl rfl rfl rfl rfl rfl rfl rfl rfl rfl rfl rfl rfl rfl rfl h0 h1 h2 h3 h4 h5 h6 h7 h8 h9 h10 h11 h12).elim
                        · exact (dead139 x0 x1 x2 x3 B (z0 x0 x1 x2 x3) (z1 x0 x1 x2 x3) (z2 x0 x1 x2 x3) (z3 x0 x1 x2 x3) (z4 x0 x1 x2 x3) (z43 x0 x1 x2 x3) (z44 x0 x1 x2 x3) (z5 x0 x1 x2 x3) (z6 x0 x1 x2 x3) (z20 x0 x1 x2 x3) (z14 x0 x1 x2 x3) (z21 x0 x1 x2 x3) (z16 x0 x1 x2 x3) (z12 x0 x1 x2 x3) (z9 x0 x1 x2 x3) (z25 x0 x1 x2 x3) (z18 x0 x1 x2 x3) (z38 x0 x1 x2 x3) rfl rfl rfl rfl rfl rfl rfl rfl rfl rfl rfl rfl rfl rfl rfl rfl rfl rfl h0 h1 h2 h3 h4 h5 h6 h7 h8 h9 h10 h11).elim
                      · have a10 := Ev.asOk_cons (Ev.asOk_le (is25 I) (is18 I) (Ev.df h10)) a9
                        exact fin I a10 run85 w
                    · have a9 := Ev.asOk_cons (Ev.asOk_le (is16 I) (is25 I) (Ev.df h9)) a8
                      exact fin I a9 run86 w
                  · have a8 := Ev.asOk_cons (Ev.asOk_eq (is21 I) (is12 I) (Ev.df h8)) a7
                    exact fin I a8 run87 w
            · have a5 := Ev.asOk_cons (Ev.asOk_le (is4 I) (is5 I) (Ev.df h5)) a4
              by_cases h6 : z21 x0 x1 x2 x3 = z16 x0 x1 x2 x3
              · have a6 := Ev.asOk_cons (Ev.asOk_eq (is21 I) (is16 I) (Ev.dt h6)) a5
                by_cases h7 : z22 x0 x1 x2 x3 ≤ z24 x0 x1 x2 x3
                · have a7 := Ev.asOk_cons (Ev.asOk_le (is22 I) (is24 I) (Ev.dt h7)) a6
                  by_cases h8 : z21 x0 x1 x2 x3 = z12 x0 x1 x2 x3
                  · exact (dead140 x0 x1 x2 x3 B (z0 x0 x1 x2 x3) (z1 x0 x1 x2 x3) (z2 x0 x1 x2 x3) (z3 x0 x1 x2 x3) (z4 x0 x1 x2 x3) (z43 x0 x1 x2 x3) (z44 x0 x1 x2 x3) (z5 x0 x1 x2 x3) (z20 x0 x1 x2 x3) (z14 x0 x1 x2 x3) (z21 x0 x1 x2 x3) (z16 x0 x1 x2 x3) (z22 x0 x1 x2 x3) (z23 x0 x1 x2 x3) (z24 x0 x1 x2 x3) (z12 x0 x1 x2 x3) rfl rfl rfl rfl rfl rfl rfl rfl rfl rfl rfl rfl rfl rfl rfl rfl h0 h1 h2 h3 h4 h5 h6 h7 h8).elim
                  · have a8 := Ev.asOk_cons (Ev.asOk_eq (is21 I) (is12 I) (Ev.df h8)) a7
                    exact fin I a8 run88 w
                · have a7 := Ev.asOk_cons (Ev.asOk_le (is22 I) (is24 I) (Ev.df h7)) a6
                  by_cases h8 : z0 x0 x1 x2 x3 ≤ z27 x0 x1 x2 x3
                  · have a8 := Ev.asOk_cons (Ev.asOk_le (is0 I) (is27 I) (Ev.dt h8)) a7
                    by_cases h9 : z0 x0 x1 x2 x3 ≤ z28 x0 x1 x2 x3
                    · have a9 := Ev.asOk_cons (Ev.asOk_le (is0 I) (is28 I) (Ev.dt h9)) a8
                      by_cases h10 : z3 x0 x1 x2 x3 ≤ z27 x0 x1 x2 x3
                      · have a10 := Ev.asOk_cons (Ev.asOk_le (is3 I) (is27 I) (Ev.dt h10)) a9
                        by_cases h11 : z21 x0 x1 x2 x3 = z12 x0 x1 x2 x3
                        · exact (dead141 x0 x1 x2 x3 B (z0 x0 x1 x2 x3) (z1 x0 x1 x2 x3) (z2 x0 x1 x2 x3) (z3 x0 x1 x2 x3) (z4 x0 x1 x2 x3) (z43 x0 x1 x2 x3) (z44 x0 x1 x2 x3) (z5 x0 x1 x2 x3) (z20 x0 x1 x2 x3) (z14 x0 x1 x2 x3) (z21 x0 x1 x2 x3) (z16 x0 x1 x2 x3) (z22 x0 x1 x2 x3) (z23 x0 x1 x2 x3) (z24 x0 x1 x2 x3) (z9 x0 x1 x2 x3) (z25 x0 x1 x2 x3) (z26 x0 x1 x2 x3) (z27 x0 x1 x2 x3) (z28 x0 x1 x2 x3) (z12 x0 x1 x2 x3) rfl rfl rfl rfl rfl rfl rfl rfl rfl rfl rfl rfl rfl rfl rfl rfl rfl rfl rfl rfl rfl h0 h1 h2 h3 h4 h5 h6 h7 h8 h9 h10 h11).elim
                        · have a11 := Ev.asOk_cons (Ev.asOk_eq (is21 I) (is12 I) (Ev.df h11)) a10
                          exact fin I a11 run89 w
                      · have a10 := Ev.asOk_cons (Ev.asOk_le (is3 I) (is27 I) (Ev.df h10)) a9
                        by_cases h11 : z3 x0 x1 x2 x3 ≤ z28 x0 x1 x2 x3
                        · exact (dead142 x0 x1 x2 x3 B (z0 x0 x1 x2 x3) (z1 x0 x1 x2 x3) (z2 x0 x1 x2 x3) (z3 x0 x1 x2 x3) (z4 x0 x1 x2 x3) (z43 x0 x1 x2 x3) (z44 x0 x1 x2 x3) (z5 x0 x1 x2 x3) (z20 x0 x1 x2 x3) (z14 x0 x1 x2 x3) (z21 x0 x1 x2 x3) (z16 x0 x1 x2 x3) (z22 x0 x1 x2 x3) (z23 x0 x1 x2 x3) (z24 x0 x1 x2 x3) (z9 x0 x1 x2 x3) (z25 x0 x1 x2 x3) (z26 x0 x1 x2 x3) (z27 x0 x1 x2 x3) (z28 x0 x1 x2 x3) rfl rfl rfl rfl rfl rfl rfl rfl rfl rfl rfl rfl rfl rfl rfl rfl rfl rfl rfl rfl h0 h1 h2 h3 h4 h5 h6 h7 h8 h9 h10 h11).elim
                        · have a11 := Ev.asOk_cons (Ev.asOk_le (is3 I) (is28 I) (Ev.df h11)) a10
                          by_cases h12 : z30 x0 x1 x2 x3 ≤ z3 x0 x1 x2 x3
                          · have a12 := Ev.asOk_cons (Ev.asOk_le (is30 I) (is3 I) (Ev.dt h12)) a11
                            by_cases h13 : z37 x0 x1 x2 x3 = z20 x0 x1 x2 x3
                            · have a13 := Ev.asOk_cons (Ev.asOk_eq (is37 I) (is20 I) (Ev.dt h13)) a12
                              exact fin I a13 run90 w
                            · exact (dead143 x0 x1 x2 x3 B (z0 x0 x1 x2 x3) (z1 x0 x1 x2 x3) (z2 x0 x1 x2 x3) (z3 x0 x1 x2 x3) (z4 x0 x1 x2 x3) (z43 x0 x1 x2 x3) (z44 x0 x1 x2 x3) (z5 x0 x1 x2 x3) (z20 x0 x1 x2 x3) (z14 x0 x1 x2 x3) (z21 x0 x1 x2 x3) (z16 x0 x1 x2 x3) (z22 x0 x1 x2 x3) (z23 x0 x1 x2 x3) (z24 x0 x1 x2 x3) (z9 x0 x1 x2 x3) (z25 x0 x1 x2 x3) (z26 x0 x1 x2 x3) (z27 x0 x1 x2 x3) (z28 x0 x1 x2 x3) (z29 x0 x1 x2 x3) (z30 x0 x1 x2 x3) (z7 x0 x1 x2 x3) (z31 x0 x1 x2 x3) (z32 x0 x1 x2 x3) (z33 x0 x1 x2 x3) (z34 x0 x1 x2 x3) (z35 x0 x1 x2 x3) (z36 x0 x1 x2 x3) (z37 x0 x1 x2 x3) rfl rfl rfl rfl rfl rfl rfl rfl rfl rfl rfl rfl rfl rfl rfl rfl rfl rfl rfl rfl rfl rfl rfl rfl rfl rfl rfl rfl rfl rfl h0 h1 h2 h3 h4 h5 h6 h7 h8 h9 h10 h11 h12 h13).elim
                          · have a12 := Ev.asOk_cons (Ev.asOk_le (is30 I) (is3 I) (Ev.df h12)) a11
                            by_cases h13 : z21 x0 x1 x2 x3 = z12 x0 x1 x2 x3
                            · exact (dead144 x0 x1 x2 x3 B (z0 x0 x1 x2 x3) (z1 x0 x1 x2 x3) (z2 x0 x1 x2 x3) (z3 x0 x1 x2 x3) (z4 x0 x1 x2 x3) (z43 x0 x1 x2 x3) (z44 x0 x1 x2 x3) (z5 x0 x1 x2 x3) (z20 x0 x1 x2 x3) (z14 x0 x1 x2 x3) (z21 x0 x1 x2 x3) (z16 x0 x1 x2 x3) (z22 x0 x1 x2 x3) (z23 x0 x1 x2 x3) (z24 x0 x1 x2 x3) (z9 x0 x1 x2 x3) (z25 x0 x1 x2 x3) (z26 x0 x1 x2 x3) (z27 x0 x1 x2 x3) (z28 x0 x1 x2 x3) (z29 x0 x1 x2 x3) (z30 x0 x1 x2 x3) (z12 x0 x1 x2 x3) rfl rfl rfl rfl rfl rfl rfl rfl rfl rfl rfl rfl rfl rfl rfl rfl rfl rfl rfl rfl rfl rfl rfl h0 h1 h2 h3 h4 h5 h6 h7 h8 h9 h10 h11 h12 h13).elim
                            · have a13 := Ev.asOk_cons (Ev.asOk_eq (is21 I) (is12 I) (Ev.df h13)) a12
                              exact fin I a13 run91 w
                    · exact (dead145 x0 x1 x2 x3 B (z0 x0 x1 x2 x3) (z1 x0 x1 x2 x3) (z2 x0 x1 x2 x3) (z3 x0 x1 x2 x3) (z4 x0 x1 x2 x3) (z43 x0 x1 x2 x3) (z44 x0 x1 x2 x3) (z5 x0 x1 x2 x3) (z20 x0 x1 x2 x3) (z14 x0 x1 x2 x3) (z21 x0 x1 x2 x3) (z16 x0 x1 x2 x3) (z22 x0 x1 x2 x3) (z23 x0 x1 x2 x3) (z24 x0 x1 x2 x3) (z9 x0 x1 x2 x3) (z25 x0 x1 x2 x3) (z26 x0 x1 x2 x3) (z27 x0 x1 x2 x3) (z28 x0 x1 x2 x3) rfl rfl rfl rfl rfl rfl rfl rfl rfl rfl rfl rfl rfl rfl rfl rfl rfl rfl rfl rfl h0 h1 h2 h3 h4 h5 h6 h7 h8 h9).elim
                  · exact (dead146 x0 x1 x2 x3 B (z0 x0 x1 x2 x3) (z1 x0 x1 x2 x3) (z2 x0 x1 x2 x3) (z3 x0 x1 x2 x3) (z4 x0 x1 x2 x3) (z43 x0 x1 x2 x3) (z44 x0 x1 x2 x3) (z5 x0 x1 x2 x3) (z20 x0 x1 x2 x3) (z14 x0 x1 x2 x3) (z21 x0 x1 x2 x3) (z16 x0 x1 x2 x3) (z22 x0 x1 x2 x3) (z23 x0 x1 x2 x3) (z24 x0 x1 x2 x3) (z9 x0 x1 x2 x3) (z25 x0 x1 x2 x3) (z26 x0 x1 x2 x3) (z27 x0 x1 x2 x3) rfl rfl rfl rfl rfl rfl rfl rfl rfl rfl rfl rfl rfl rfl rfl rfl rfl rfl rfl h0 h1 h2 h3 h4 h5 h6 h7 h8).elim
              · have a6 := Ev.asOk_cons (Ev.asOk_eq (is21 I) (is16 I) (Ev.df h6)) a5
                by_cases h7 : z21 x0 x1 x2 x3 = z12 x0 x1 x2 x3
                · have a7 := Ev.asOk_cons (Ev.asOk_eq (is21 I) (is12 I) (Ev.dt h7)) a6
                  by_cases h8 : z16 x0 x1 x2 x3 ≤ z25 x0 x1 x2 x3
                  · have a8 := Ev.asOk_cons (Ev.asOk_le (is16 I) (is25 I) (Ev.dt h8)) a7
                    by_cases h9 : z25 x0 x1 x2 x3 ≤ z18 x0 x1 x2 x3
                    · have a9 := Ev.asOk_cons (Ev.asOk_le (is25 I) (is18 I) (Ev.dt h9)) a8
                      by_cases h10 : z4 x0 x1 x2 x3 ≤ z38 x0 x1 x2 x3
                      · have a10 := Ev.asOk_cons (Ev.asOk_le (is4 I) (is38 I) (Ev.dt h10)) a9
                        by_cases h11 : z38 x0 x1 x2 x3 ≤ z6 x0 x1 x2 x3
                        · have a11 := Ev.asOk_cons (Ev.asOk_le (is38 I) (is6 I) (Ev.dt h11)) a10
                          by_cases h12 : z42 x0 x1 x2 x3 = z20 x0 x1 x2 x3
                          · have a12 := Ev.asOk_cons (Ev.asOk_eq (is42 I) (is20 I) (Ev.dt h12)) a11
                            exact fin I a12 run92 w
                          · exact (dead147 x0 x1 x2 x3 B (z0 x0 x1 x2 x3) (z1 x0 x1 x2 x3) (z2 x0 x1 x2 x3) (z3 x0 x1 x2 x3) (z4 x0 x1 x2 x3) (z43 x0 x1 x2 x3) (z44 x0 x1 x2 x3) (z5 x0 x1 x2 x3) (z20 x0 x1 x2 x3) (z14 x0 x1 x2 x3) (z21 x0 x1 x2 x3) (z16 x0 x1 x2 x3) (z12 x0 x1 x2 x3) (z9 x0 x1 x2 x3) (z25 x0 x1 x2 x3) (z18 x0 x1 x2 x3) (z38 x0 x1 x2 x3) (z6 x0 x1 x2 x3) (z7 x0 x1 x2 x3) (z39 x0 x1 x2 x3) (z40 x0 x1 x2 x3) (z41 x0 x1 x2 x3) (z42 x0 x1 x2 x3) rfl rfl rfl rfl rfl rfl rfl rfl rfl rfl rfl rfl rfl rfl rfl rfl rfl rfl rfl rfl rfl rfl rfl h0 h1 h2 h3 h4 h5 h6 h7 h8 h9 h10 h11 h12).elim
                        · exact (dead148 x0 x1 x2 x3 B (z0 x0 x1 x2 x3) (z1 x0 x1 x2 x3) (z2 x0 x1 x2 x3) (z3 x0 x1 x2 x3) (z4 x0 x1 x2 x3) (z43 x0 x1 x2 x3) (z44 x0 x1 x2 x3) (z5 x0 x1 x2 x3) (z20 x0 x1 x2 x3) (z14 x0 x1 x2 x3) (z21 x0 x1 x2 x3) (z16 x0 x1 x2 x3) (z12 x0 x1 x2 x3) (z9 x0 x1 x2 x3) (z25 x0 x1 x2 x3) (z18 x0 x1 x2 x3) (z38 x0 x1 x2 x3) (z6 x0 x1 x2 x3) rfl rfl rfl rfl rfl rfl rfl rfl rfl rfl rfl rfl rfl rfl rfl rfl rfl rfl h0 h1 h2 h3 h4 h5 h6 h7 h8 h9 h10 h11).elim
                      · exact (dead149 x0 x1 x2 x3 B (z0 x0 x1 x2 x3) (z1 x0 x1 x2 x3) (z2 x0 x1 x2 x3) (z3 x0 x1 x2 x3) (z4 x0 x1 x2 x3) (z43 x0 x1 x2 x3) (z44 x0 x1 x2 x3) (z5 x0 x1 x2 x3) (z20 x0 x1 x2 x3) (z14 x0 x1 x2 x3) (z21 x0 x1 x2 x3) (z16 x0 x1 x2 x3) (z12 x0 x1 x2 x3) (z9 x0 x1 x2 x3) (z25 x0 x1 x2 x3) (z18 x0 x1 x2 x3) (z38 x0 x1 x2 x3) rfl rfl rfl rfl rfl rfl rfl rfl rfl rfl rfl rfl rfl rfl rfl rfl rfl h0 h1 h2 h3 h4 h5 h6 h7 h8 h9 h10).elim
                    · have a9 := Ev.asOk_cons (Ev.asOk_le (is25 I) (is18 I) (Ev.df h9)) a8
                      exact fin I a9 run93 w
                  · have a8 := Ev.asOk_cons (Ev.asOk_le (is16 I) (is25 I) (Ev.df h8)) a7
                    exact fin I a8 run94 w
                · have a7 := Ev.asOk_cons (Ev.asOk_eq (is21 I) (is12 I) (Ev.df h7)) a6
                  exact fin I a7 run95 w
    · have a1 := Ev.asOk_cons (Ev.asOk_le (is0 I) (is2 I) (Ev.df h1)) a0
      by_cases h2 : z4 x0 x1 x2 x3 ≤ z5 x0 x1 x2 x3
      · have a2 := Ev.asOk_cons (Ev.asOk_le (is4 I) (is5 I) (Ev.dt h2)) a1
        by_cases h3 : z5 x0 x1 x2 x3 ≤ z6 x0 x1 x2 x3
        · have a3 := Ev.asOk_cons (Ev.asOk_le (is5 I) (is6 I) (Ev.dt h3)) a2
          by_cases h4 : z15 x0 x1 x2 x3 = z16 x0 x1 x2 x3
          · exact (dead150 x0 x1 x2 x3 B (z0 x0 x1 x2 x3) (z1 x0 x1 x2 x3) (z2 x0 x1 x2 x3) (z4 x0 x1 x2 x3) (z5 x0 x1 x2 x3) (z6 x0 x1 x2 x3) (z7 x0 x1 x2 x3) (z8 x0 x1 x2 x3) (z9 x0 x1 x2 x3) (z10 x0 x1 x2 x3) (z11 x0 x1 x2 x3) (z12 x0 x1 x2 x3) (z13 x0 x1 x2 x3) (z14 x0 x1 x2 x3) (z15 x0 x1 x2 x3) (z16 x0 x1 x2 x3) rfl rfl rfl rfl rfl rfl rfl rfl rfl rfl rfl rfl rfl rfl rfl rfl h0 h1 h2 h3 h4).elim
          · have a4 := Ev.asOk_cons (Ev.asOk_eq (is15 I) (is16 I) (Ev.df h4)) a3
            by_cases h5 : z15 x0 x1 x2 x3 = z12 x0 x1 x2 x3
            · have a5 := Ev.asOk_cons (Ev.asOk_eq (is15 I) (is12 I) (Ev.dt h5)) a4
              by_cases h6 : z16 x0 x1 x2 x3 ≤ z17 x0 x1 x2 x3
              · have a6 := Ev.asOk_cons (Ev.asOk_le (is16 I) (is17 I) (Ev.dt h6)) a5
                by_cases h7 : z17 x0 x1 x2 x3 ≤ z18 x0 x1 x2 x3
                · have a7 := Ev.asOk_cons (Ev.asOk_le (is17 I) (is18 I) (Ev.dt h7)) a6
                  by_cases h8 : z19 x0 x1 x2 x3 = z5 x0 x1 x2 x3
                  · have a8 := Ev.asOk_cons (Ev.asOk_eq (is19 I) (is5 I) (Ev.dt h8)) a7
                    by_cases h9 : z21 x0 x1 x2 x3 = z16 x0 x1 x2 x3
                    · have a9 := Ev.asOk_cons (Ev.asOk_eq (is21 I) (is16 I) (Ev.dt h9)) a8
                      by_cases h10 : z22 x0 x1 x2 x3 ≤ z24 x0 x1 x2 x3
                      · have a10 := Ev.asOk_cons (Ev.asOk_le (is22 I) (is24 I) (Ev.dt h10)) a9
                        by_cases h11 : z21 x0 x1 x2 x3 = z12 x0 x1 x2 x3
                        · exact (dead151 x0 x1 x2 x3 B (z0 x0 x1 x2 x3) (z1 x0 x1 x2 x3) (z2 x0 x1 x2 x3) (z4 x0 x1 x2 x3) (z5 x0 x1 x2 x3) (z6 x0 x1 x2 x3) (z7 x0 x1 x2 x3) (z8 x0 x1 x2 x3) (z9 x0 x1 x2 x3) (z10 x0 x1 x2 x3) (z11 x0 x1 x2 x3) (z12 x0 x1 x2 x3) (z13 x0 x1 x2 x3) (z14 x0 x1 x2 x3) (z15 x0 x1 x2 x3) (z16 x0 x1 x2 x3) (z17 x0 x1 x2 x3) (z18 x0 x1 x2 x3) (z19 x0 x1 x2 x3) (z20 x0 x1 x2 x3) (z21 x0 x1 x2 x3) (z22 x0 x1 x2 x3) (z23 x0 x1 x2 x3) (z24 x0 x1 x2 x3) rfl rfl rfl rfl rfl rfl rfl rfl rfl rfl rfl rfl rfl rfl rfl rfl rfl rfl rfl rfl rfl rfl rfl rfl h0 h1 h2 h3 h4 h5 h6 h7 h8 h9 h10 h11).elim
                        · have a11 := Ev.asOk_cons (Ev.asOk_eq (is21 I) (is12 I) (Ev.df h11)) a10
                          exact fin I a11 run96 w
                      · have a10 := Ev.asOk_cons (Ev.asOk_le (is22 I) (is24 I) (Ev.df h10)) a9
                        by_cases h11 : z0 x0 x1 x2 x3 ≤ z27 x0 x1 x2 x3
                        · have a11 := Ev.asOk_cons (Ev.asOk_le (is0 I) (is27 I) (Ev.dt h11)) a10
                          by_cases h12 : z0 x0 x1 x2 x3 ≤ z28 x0 x1 x2 x3
                          · have a12 := Ev.asOk_cons (Ev.asOk_le (is0 I) (is28 I) (Ev.dt h12)) a11
                            by_cases h13 : z3 x0 x1 x2 x3 ≤ z27 x0 x1 x2 x3
                            · have a13 := Ev.asOk_cons (Ev.asOk_le (is3 I) (is27 I) (Ev.dt h13)) a12
                              by_cases h14 : z21 x0 x1 x2 x3 = z12 x0 x1 x2 x3
                              · exact (dead152 x0 x1 x2 x3 B (z0 x0 x1 x2 x3) (z1 x0 x1 x2 x3) (z2 x0 x1 x2 x3) (z4 x0 x1 x2 x3) (z5 x0 x1 x2 x3) (z6 x0 x1 x2 x3) (z7 x0 x1 x2 x3) (z8 x0 x1 x2 x3) (z9 x0 x1 x2 x3) (z10 x0 x1 x2 x3) (z11 x0 x1 x2 x3) (z12 x0 x1 x2 x3) (z13 x0 x1 x2 x3) (z14 x0 x1 x2 x3) (z15 x0 x1 x2 x3) (z16 x0 x1 x2 x3) (z17 x0 x1 x2 x3) (z18 x0 x1 x2 x3) (z19 x0 x1 x2 x3) (z20 x0 x1 x2 x3) (z21 x0 x1 x2 x3) (z22 x0 x1 x2 x3) (z23 x0 x1 x2 x3) (z24 x0 x1 x2 x3) (z25 x0 x1 x2 x3) (z26 x0 x1 x2 x3) (z27 x0 x1 x2 x3) (z28 x0 x1 x2 x3) (z3 x0 x1 x2 x3) rfl rfl rfl rfl rfl rfl rfl rfl rfl rfl rfl rfl rfl rfl rfl rfl rfl rfl rfl rfl rfl rfl rfl rfl rfl rfl rfl rfl rfl h0 h1 h2 h3 h4 h5 h6 h7 h8 h9 h10 h11 h12 h13 h14).elim
                              · have a14 := Ev.asOk_cons (Ev.asOk_eq (is21 I) (is12 I) (Ev.df h14)) a13
                                exact fin I a14 run97 w
                            · have a13 := Ev.asOk_cons (Ev.asOk_le (is3 I) (is27 I) (Ev.df h13)) a12
                              by_cases h14 : z3 x0 x1 x2 x3 ≤ z28 x0 x1 x2 x3
                              · exact (dead153 x0 x1 x2 x3 B (z0 x0 x1 x2 x3) (z1 x0 x1 x2 x3) (z2 x0 x1 x2 x3) (z4 x0 x1 x2 x3) (z5 x0 x1 x2 x3) (z6 x0 x1 x2 x3) (z7 x0 x1 x2 x3) (z8 x0 x1 x2 x3) (z9 x0 x1 x2 x3) (z10 x0 x1 x2 x3) (z11 x0 x1 x2 x3) (z12 x0 x1 x2 x3) (z13 x0 x1 x2 x3) (z14 x0 x1 x2 x3) (z15 x0 x1 x2 x3) (z16 x0 x1 x2 x3) (z17 x0 x1 x2 x3) (z18 x0 x1 x2 x3) (z19 x0 x1 x2 x3) (z20 x0 x1 x2 x3) (z21 x0 x1 x2 x3) (z22 x0 x1 x2 x3) (z23 x0 x1 x2 x3) (z24 x0 x1 x2 x3) (z25 x0 x1 x2 x3) (z26 x0 x1 x2 x3) (z27 x0 x1 x2 x3) (z28 x0 x1 x2 x3) (z3 x0 x1 x2 x3) rfl rfl rfl rfl rfl rfl rfl rfl rfl rfl rfl rfl rfl rfl rfl rfl rfl rfl rfl rfl rfl rfl rfl rfl rfl rfl rfl rfl rfl h0 h1 h2 h3 h4 h5 h6 h7 h8 h9 h10 h11 h12 h13 h14).elim
                              · have a14 := Ev.asOk_cons (Ev.asOk_le (is3 I) (is28 I) (Ev.df h14)) a13
                                by_cases h15 : z30 x0 x1 x2 x3 ≤ z3 x0 x1 x2 x3
                                · have a15 := Ev.asOk_cons (Ev.asOk_le (is30 I) (is3 I) (Ev.dt h15)) a14
                                  by_cases h16 : z37 x0 x1 x2 x3 = z20 x0 x1 x2 x3
                                  · have a16 := Ev.asOk_cons (Ev.asOk_eq (is37 I) (is20 I) (Ev.dt h16)) a15
                                    exact fin I a16 run98 w
                                  · exact (dead154 x0 x1 x2 x3 B (z0 x0 x1 x2 x3) (z1 x0 x1 x2 x3) (z2 x0 x1 x2 x3) (z4 x0 x1 x2 x3) (z5 x0 x1 x2 x3) (z6 x0 x1 x2 x3) (z7 x0 x1 x2 x3) (z8 x0 x1 x2 x3) (z9 x0 x1 x2 x3) (z10 x0 x1 x2 x3) (z11 x0 x1 x2 x3) (z12 x0 x1 x2 x3) (z13 x0 x1 x2 x3) (z14 x0 x1 x2 x3) (z15 x0 x1 x2 x3) (z16 x0 x1 x2 x3) (z17 x0 x1 x2 x3) (z18 x0 x1 x2 x3) (z19 x0 x1 x2 x3) (z20 x0 x1 x2 x3) (z21 x0 x1 x2 x3) (z22 x0 x1 x2 x3) (z23 x0 x1 x2 x3) (z24 x0 x1 x2 x3) (z25 x0 x1 x2 x3) (z26 x0 x1 x2 x3) (z27 x0 x1 x2 x3) (z28 x0 x1 x2 x3) (z3 x0 x1 x2 x3) (z29 x0 x1 x2 x3) (z30 x0 x1 x2 x3) (z31 x0 x1 x2 x3) (z32 x0 x1 x2 x3) (z33 x0 x1 x2 x3) (z34 x0 x1 x2 x3) (z35 x0 x1 x2 x3) (z36 x0 x1 x2 x3) (z37 x0 x1 x2 x3) rfl rfl rfl rfl rfl rfl rfl rfl rfl rfl rfl rfl rfl rfl rfl rfl rfl rfl rfl rfl rfl rfl rfl rfl rfl rfl rfl rfl rfl rfl rfl rfl rfl rfl rfl rfl rfl rfl h0 h1 h2 h3 h4 h5 h6 h7 h8 h9 h10 h11 h12 h13 h14 h15 h16).elim
                                · have a15 := Ev.asOk_cons (Ev.asOk_le (is30 I) (is3 I) (Ev.df h15)) a14
                                  by_cases h16 : z21 x0 x1 x2 x3 = z12 x0 x1 x2 x3
                                  · exact (dead155 x0 x1 x2 x3 B (z0 x0 x1 x2 x3) (z1 x0 x1 x2 x3) (z2 x0 x1 x2 x3) (z4 x0 x1 x2 x3) (z5 x0 x1 x2 x3) (z6 x0 x1 x2 x3) (z7 x0 x1 x2 x3) (z8 x0 x1 x2 x3) (z9 x0 x1 x2 x3) (z10 x0 x1 x2 x3) (z11 x0 x1 x2 x3) (z12 x0 x1 x2 x3) (z13 x0 x1 x2 x3) (z14 x0 x1 x2 x3) (z15 x0 x1 x2 x3) (z16 x0 x1 x2 x3) (z17 x0 x1 x2 x3) (z18 x0 x1 x2 x3) (z19 x0 x1 x2 x3) (z20 x0 x1 x2 x3) (z21 x0 x1 x2 x3) (z22 x0 x1 x2 x3) (z23 x0 x1 x2 x3) (z24 x0 x1 x2 x3) (z25 x0 x1 x2 x3) (z26 x0 x1 x2 x3) (z27 x0 x1 x2 x3) (z28 x0 x1 x2 x3) (z3 x0 x1 x2 x3) (z29 x0 x1 x2 x3) (z30 x0 x1 x2 x3) rfl rfl rfl rfl rfl rfl rfl rfl rfl rfl rfl rfl rfl rfl rfl rfl rfl rfl rfl rfl rfl rfl rfl rfl rfl rfl rfl rfl rfl rfl rfl h0 h1 h2 h3 h4 h5 h6 h7 h8 h9 h10 h11 h12 h13 h14 h15 h16).elim
                                  · have a16 := Ev.asOk_cons (Ev.asOk_eq (is21 I) (is12 I) (Ev.df h16)) a15
                                    exact fin I a16 run99 w
                          · exact (dead156 x0 x1 x2 x3 B (z0 x0 x1 x2 x3) (z1 x0 x1 x2 x3) (z2 x0 x1 x2 x3) (z4 x0 x1 x2 x3) (z5 x0 x1 x2 x3) (z6 x0 x1 x2 x3) (z7 x0 x1 x2 x3) (z8 x0 x1 x2 x3) (z9 x0 x1 x2 x3) (z10 x0 x1 x2 x3) (z11 x0 x1 x2 x3) (z12 x0 x1 x2 x3) (z13 x0 x1 x2 x3) (z14 x0 x1 x2 x3) (z15 x0 x1 x2 x3) (z16 x0 x1 x2 x3) (z17 x0 x1 x2 x3) (z18 x0 x1 x2 x3) (z19 x0 x1 x2 x3) (z20 x0 x1 x2 x3) (z21 x0 x1 x2 x3) (z22 x0 x1 x2 x3) (z23 x0 x1 x2 x3) (z24 x0 x1 x2 x3) (z25 x0 x1 x2 x3) (z26 x0 x1 x2 x3) (z27 x0 x1 x2 x3) (z28 x0 x1 x2 x3) rfl rfl rfl rfl rfl rfl rfl rfl rfl rfl rfl rfl rfl rfl rfl rfl rfl rfl rfl rfl rfl rfl rfl rfl rfl rfl rfl rfl h0 h1 h2 h3 h4 h5 h6 h7 h8 h9 h10 h11 h12).elim
                        · exact (dead157 x0 x1 x2 x3 B (z0 x0 x1 x2 x3) (z1 x0 x1 x2 x3) (z2 x0 x1 x2 x3) (z4 x0 x1 x2 x3) (z5 x0 x1 x2 x3) (z6 x0 x1 x2 x3) (z7 x0 x1 x2 x3) (z8 x0 x1 x2 x3) (z9 x0 x1 x2 x3) (z10 x0 x1 x2 x3) (z11 x0 x1 x2 x3) (z12 x0 x1 x2 x3) (z13 x0 x1 x2 x3) (z14 x0 x1 x2 x3) (z15 x0 x1 x2 x3) (z16 x0 x1 x2 x3) (z17 x0 x1 x2 x3) (z18 x0 x1 x2 x3) (z19 x0 x1 x2 x3) (z20 x0 x1 x2 x3) (z21 x0 x1 x2 x3) (z22 x0 x1 x2 x3) (z23 x0 x1 x2 x3) (z24 x0 x1 x2 x3) (z25 x0 x1 x2 x3) (z26 x0 x1 x2 x3) (z27 x0 x1 x2 x3) rfl rfl rfl rfl rfl rfl rfl rfl rfl rfl rfl rfl rfl rfl rfl rfl rfl rfl rfl rfl rfl rfl rfl rfl rfl rfl rfl h0 h1 h2 h3 h4 h5 h6 h7 h8 h9 h10 h11).elim
                    · have a9 := Ev.asOk_cons (Ev.asOk_eq (is21 I) (is16 I) (Ev.df h9)) a8
                      by_cases h10 : z21 x0 x1 x2 x3 = z12 x0 x1 x2 x3
                      · have a10 := Ev.asOk_cons (Ev.asOk_eq (is21 I) (is12 I) (Ev.dt h10)) a9
                        by_cases h11 : z16 x0 x1 x2 x3 ≤ z25 x0 x1 x2 x3
                        · have a11 := Ev.asOk_cons (Ev.asOk_le (is16 I) (is25 I) (Ev.dt h11)) a10
                          by_cases h12 : z25 x0 x1 x2 x3 ≤ z18 x0 x1 x2 x3
                          · have a12 := Ev.asOk_cons (Ev.asOk_le (is25 I) (is18 I) (Ev.dt h12)) a11
                            by_cases h13 : z4 x0 x1 x2 x3 ≤ z38 x0 x1 x2 x3
                            · have a13 := Ev.asOk_cons (Ev.asOk_le (is4 I) (is38 I) (Ev.dt h13)) a12
                              by_cases h14 : z38 x0 x1 x2 x3 ≤ z6 x0 x1 x2 x3
                              · have a14 := Ev.asOk_cons (Ev.asOk_le (is38 I) (is6 I) (Ev.dt h14)) a13
                                by_cases h15 : z42 x0 x1 x2 x3 = z20 x0 x1 x2 x3
                                · have a15 := Ev.asOk_cons (Ev.asOk_eq (is42 I) (is20 I) (Ev.dt h15)) a14
                                  exact fin I a15 run100 w
                                · exact (dead158 x0 x1 x2 x3 B (z0 x0 x1 x2 x3) (z1 x0 x1 x2 x3) (z2 x0 x1 x2 x3) (z4 x0 x1 x2 x3) (z5 x0 x1 x2 x3) (z6 x0 x1 x2 x3) (z7 x0 x1 x2 x3) (z8 x0 x1 x2 x3) (z9 x0 x1 x2 x3) (z10 x0 x1 x2 x3) (z11 x0 x1 x2 x3) (z12 x0 x1 x2 x3) (z13 x0 x1 x2 x3) (z14 x0 x1 x2 x3) (z15 x0 x1 x2 x3) (z16 x0 x1 x2 x3) (z17 x0 x1 x2 x3) (z18 x0 x1 x2 x3) (z19 x0 x1 x2 x3) (z20 x0 x1 x2 x3) (z21 x0 x1 x2 x3) (z25 x0 x1 x2 x3) (z38 x0 x1 x2 x3) (z39 x0 x1 x2 x3) (z40 x0 x1 x2 x3) (z41 x0 x1 x2 x3) (z42 x0 x1 x2 x3) rfl rfl rfl rfl rfl rfl rfl rfl rfl rfl rfl rfl rfl rfl rfl rfl rfl rfl rfl rfl rfl rfl rfl rfl rfl rfl rfl h0 h1 h2 h3 h4 h5 h6 h7 h8 h9 h10 h11 h12 h13 h14 h15).elim
                              · exact (dead159 x0 x1 x2 x3 B (z0 x0 x1 x2 x3) (z1 x0 x1 x2 x3) (z2 x0 x1 x2 x3) (z4 x0 x1 x2 x3) (z5 x0 x1 x2 x3) (z6 x0 x1 x2 x3) (z7 x0 x1 x2 x3) (z8 x0 x1 x2 x3) (z9 x0 x1 x2 x3) (z10 x0 x1 x2 x3) (z11 x0 x1 x2 x3) (z12 x0 x1 x2 x3) (z13 x0 x1 x2 x3) (z14 x0 x1 x2 x3) (z15 x0 x1 x2 x3) (z16 x0 x1 x2 x3) (z17 x0 x1 x2 x3) (z18 x0 x1 x2 x3) (z19 x0 x1 x2 x3) (z20 x0 x1 x2 x3) (z21 x0 x1 x2 x3) (z25 x0 x1 x2 x3) (z38 x0 x1 x2 x3) rfl rfl rfl rfl rfl rfl rfl rfl rfl rfl rfl rfl rfl rfl rfl rfl rfl rfl rfl rfl rfl rfl rfl h0 h1 h2 h3 h4 h5 h6 h7 h8 h9 h10 h11 h12 h13 h14).elim
                            · exact (dead160 x0 x1 x2 x3 B (z0 x0 x1 x2 x3) (z1 x0 x1 x2 x3) (z2 x0 x1 x2 x3) (z4 x0 x1 x2 x3) (z5 x0 x1 x2 x3) (z6 x0 x1 x2 x3) (z7 x0 x1 x2 x3) (z8 x0 x1 x2 x3) (z9 x0 x1 x2 x3) (z10 x0 x1 x2 x3) (z11 x0 x1 x2 x3) (z12 x0 x1 x2 x3) (z13 x0 x1 x2 x3) (z14 x0 x1 x2 x3) (z15 x0 x1 x2 x3) (z16 x0 x1 x2 x3) (z17 x0 x1 x2 x3) (z18 x0 x1 x2 x3) (z19 x0 x1 x2 x3) (z20 x0 x1 x2 x3) (z21 x0 x1 x2 x3) (z25 x0 x1 x2 x3) (z38 x0 x1 x2 x3) rfl rfl rfl rfl rfl rfl rfl rfl rfl rfl rfl rfl rfl rfl rfl rfl rfl rfl rfl rfl rfl rfl rfl h0 h1 h2 h3 h4 h5 h6 h7 h8 h9 h10 h11 h12 h13).elim
                          · have a12 := Ev.asOk_cons (Ev.asOk_le (is25 I) (is18 I) (Ev.df h12)) a11
                            exact fin I a12 run101 w
                        · have a11 := Ev.asOk_cons (Ev.asOk_le (is16 I) (is25 I) (Ev.df h11)) a10
                          exact fin I a11 run102 w
                      · have a10 := Ev.asOk_cons (Ev.asOk_eq (is21 I) (is12 I) (Ev.df h10)) a9
                        exact fin I a10 run103 w
                  · exact (dead161 x0 x1 x2 x3 B (z0 x0 x1 x2 x3) (z1 x0 x1 x2 x3) (z2 x0 x1 x2 x3) (z4 x0 x1 x2 x3) (z5 x0 x1 x2 x3) (z6 x0 x1 x2 x3) (z7 x0 x1 x2 x3) (z8 x0 x1 x2 x3) (z9 x0 x1 x2 x3) (z10 x0 x1 x2 x3) (z11 x0 x1 x2 x3) (z12 x0 x1 x2 x3) (z13 x0 x1 x2 x3) (z14 x0 x1 x2 x3) (z15 x0 x1 x2 x3) (z16 x0 x1 x2 x3) (z17 x0 x1 x2 x3) (z18 x0 x1 x2 x3) (z19 x0 x1 x2 x3) rfl rfl rfl rfl rfl rfl rfl rfl rfl rfl rfl rfl rfl rfl rfl rfl rfl rfl rfl h0 h1 h2 h3 h4 h5 h6 h7 h8).elim
                · exact (dead162 x0 x1 x2 x3 B (z0 x0 x1 x2 x3) (z1 x0 x1 x2 x3) (z2 x0 x1 x2 x3) (z4 x0 x1 x2 x3) (z5 x0 x1 x2 x3) (z6 x0 x1 x2 x3) (z7 x0 x1 x2 x3) (z8 x0 x1 x2 x3) (z9 x0 x1 x2 x3) (z10 x0 x1 x2 x3) (z11 x0 x1 x2 x3) (z12 x0 x1 x2 x3) (z13 x0 x1 x2 x3) (z14 x0 x1 x2 x3) (z15 x0 x1 x2 x3) (z16 x0 x1 x2 x3) (z17 x0 x1 x2 x3) (z18 x0 x1 x2 x3) rfl rfl rfl rfl rfl rfl rfl rfl rfl rfl rfl rfl rfl rfl rfl rfl rfl rfl h0 h1 h2 h3 h4 h5 h6 h7).elim
              · exact (dead163 x0 x1 x2 x3 B (z0 x0 x1 x2 x3) (z1 x0 x1 x2 x3) (z2 x0 x1 x2 x3) (z4 x0 x1 x2 x3) (z5 x0 x1 x2 x3) (z6 x0 x1 x2 x3) (z7 x0 x1 x2 x3) (z8 x0 x1 x2 x3) (z9 x0 x1 x2 x3) (z10 x0 x1 x2 x3) (z11 x0 x1 x2 x3) (z12 x0 x1 x2 x3) (z13 x0 x1 x2 x3) (z14 x0 x1 x2 x3) (z15 x0 x1 x2 x3) (z16 x0 x1 x2 x3) (z17 x0 x1 x2 x3) rfl rfl rfl rfl rfl rfl rfl rfl rfl rfl rfl rfl rfl rfl rfl rfl rfl h0 h1 h2 h3 h4 h5 h6).elim
            · exact (dead164 x0 x1 x2 x3 B (z0 x0 x1 x2 x3) (z1 x0 x1 x2 x3) (z2 x0 x1 x2 x3) (z4 x0 x1 x2 x3) (z5 x0 x1 x2 x3) (z6 x0 x1 x2 x3) (z7 x0 x1 x2 x3) (z8 x0 x1 x2 x3) (z9 x0 x1 x2 x3) (z10 x0 x1 x2 x3) (z11 x0 x1 x2 x3) (z12 x0 x1 x2 x3) (z13 x0 x1 x2 x3) (z14 x0 x1 x2 x3) (z15 x0 x1 x2 x3) (z16 x0 x1 x2 x3) rfl rfl rfl rfl rfl rfl rfl rfl rfl rfl rfl rfl rfl rfl rfl rfl h0 h1 h2 h3 h4 h5).elim
        · have a3 := Ev.asOk_cons (Ev.asOk_le (is5 I) (is6 I) (Ev.df h3)) a2
          by_cases h4 : z21 x0 x1 x2 x3 = z16 x0 x1 x2 x3
          · have a4 := Ev.asOk_cons (Ev.asOk_eq (is21 I) (is16 I) (Ev.dt h4)) a3
            by_cases h5 : z22 x0 x1 x2 x3 ≤ z24 x0 x1 x2 x3
            · have a5 := Ev.asOk_cons (Ev.asOk_le (is22 I) (is24 I) (Ev.dt h5)) a4
              by_cases h6 : z21 x0 x1 x2 x3 = z12 x0 x1 x2 x3
              · exact (dead165 x0 x1 x2 x3 B (z0 x0 x1 x2 x3) (z1 x0 x1 x2 x3) (z2 x0 x1 x2 x3) (z4 x0 x1 x2 x3) (z5 x0 x1 x2 x3) (z6 x0 x1 x2 x3) (z20 x0 x1 x2 x3) (z14 x0 x1 x2 x3) (z21 x0 x1 x2 x3) (z16 x0 x1 x2 x3) (z22 x0 x1 x2 x3) (z23 x0 x1 x2 x3) (z24 x0 x1 x2 x3) (z12 x0 x1 x2 x3) rfl rfl rfl rfl rfl rfl rfl rfl rfl rfl rfl rfl rfl rfl h0 h1 h2 h3 h4 h5 h6).elim
              · have a6 := Ev.asOk_cons (Ev.asOk_eq (is21 I) (is12 I) (Ev.df h6)) a5
                exact fin I a6 run104 w
            · have a5 := Ev.asOk_cons (Ev.asOk_le (is22 I) (is24 I) (Ev.df h5)) a4
              by_cases h6 : z0 x0 x1 x2 x3 ≤ z27 x0 x1 x2 x3
              · have a6 := Ev.asOk_cons (Ev.asOk_le (is0 I) (is27 I) (Ev.dt h6)) a5
                by_cases h7 : z0 x0 x1 x2 x3 ≤ z28 x0 x1 x2 x3
                · have a7 := Ev.asOk_cons (Ev.asOk_le (is0 I) (is28 I) (Ev.dt h7)) a6
                  by_cases h8 : z3 x0 x1 x2 x3 ≤ z27 x0 x1 x2 x3
                  · have a8 := Ev.asOk_cons (Ev.asOk_le (is3 I) (is27 I) (Ev.dt h8)) a7
                    by_cases h9 : z21 x0 x1 x2 x3 = z12 x0 x1 x2 x3
                    · exact (dead166 x0 x1 x2 x3 B (z0 x0 x1 x2 x3) (z1 x0 x1 x2 x3) (z2 x0 x1 x2 x3) (z4 x0 x1 x2 x3) (z5 x0 x1 x2 x3) (z6 x0 x1 x2 x3) (z20 x0 x1 x2 x3) (z14 x0 x1 x2 x3) (z21 x0 x1 x2 x3) (z16 x0 x1 x2 x3) (z22 x0 x1 x2 x3) (z23 x0 x1 x2 x3) (z24 x0 x1 x2 x3) (z9 x0 x1 x2 x3) (z25 x0 x1 x2 x3) (z26 x0 x1 x2 x3) (z27 x0 x1 x2 x3) (z28 x0 x1 x2 x3) (z3 x0 x1 x2 x3) (z12 x0 x1 x2 x3) rfl rfl rfl rfl rfl rfl rfl rfl rfl rfl rfl rfl rfl rfl rfl rfl rfl rfl rfl rfl h0 h1 h2 h3 h4 h5 h6 h7 h8 h9).elim
                    · have a9 := Ev.asOk_cons (Ev.asOk_eq (is21 I) (is12 I) (Ev.df h9)) a8
                      exact fin I a9 run105 w
                  · have a8 := Ev.asOk_cons (Ev.asOk_le (is3 I) (is27 I) (Ev.df h8)) a7
                    by_cases h9 : z3 x0 x1 x2 x3 ≤ z28 x0 x1 x2 x3
                    · exact (dead167 x0 x1 x2 x3 B (z0 x0 x1 x2 x3) (z1 x0 x1 x2 x3) (z2 x0 x1 x2 x3) (z4 x0 x1 x2 x3) (z5 x0 x1 x2 x3) (z6 x0 x1 x2 x3) (z20 x0 x1 x2 x3) (z14 x0 x1 x2 x3) (z21 x0 x1 x2 x3) (z16 x0 x1 x2 x3) (z22 x0 x1 x2 x3) (z23 x0 x1 x2 x3) (z24 x0 x1 x2 x3) (z9 x0 x1 x2 x3) (z25 x0 x1 x2 x3) (z26 x0 x1 x2 x3) (z27 x0 x1 x2 x3) (z28 x0 x1 x2 x3) (z3 x0 x1 x2 x3) rfl rfl rfl rfl rfl rfl rfl rfl rfl rfl rfl rfl rfl rfl rfl rfl rfl rfl rfl h0 h1 h2 h3 h4 h5 h6 h7 h8 h9).elim
                    · have a9 := Ev.asOk_cons (Ev.asOk_le (is3 I) (is28 I) (Ev.df h9)) a8
                      by_cases h10 : z30 x0 x1 x2 x3 ≤ z3 x0 x1 x2 x3
                      · have a10 := Ev.asOk_cons (Ev.asOk_le (is30 I) (is3 I) (Ev.dt h10)) a9
                        by_cases h11 : z37 x0 x1 x2 x3 = z20 x0 x1 x2 x3
                        · have a11 := Ev.asOk_cons (Ev.asOk_eq (is37 I) (is20 I) (Ev.dt h11)) a10
                          exact fin I a11 run106 w
                        · exact (dead168 x0 x1 x2 x3 B (z0 x0 x1 x2 x3) (z1 x0 x1 x2 x3) (z2 x0 x1 x2 x3) (z4 x0 x1 x2 x3) (z5 x0 x1 x2 x3) (z6 x0 x1 x2 x3) (z20 x0 x1 x2 x3) (z14 x0 x1 x2 x3) (z21 x0 x1 x2 x3) (z16 x0 x1 x2 x3) (z22 x0 x1 x2 x3) (z23 x0 x1 x2 x3) (z24 x0 x1 x2 x3) (z9 x0 x1 x2 x3) (z25 x0 x1 x2 x3) (z26 x0 x1 x2 x3) (z27 x0 x1 x2 x3) (z28 x0 x1 x2 x3) (z3 x0 x1 x2 x3) (z29 x0 x1 x2 x3) (z30 x0 x1 x2 x3) (z7 x0 x1 x2 x3) (z31 x0 x1 x2 x3) (z32 x0 x1 x2 x3) (z33 x0 x1 x2 x3) (z34 x0 x1 x2 x3) (z35 x0 x1 x2 x3) (z36 x0 x1 x2 x3) (z37 x0 x1 x2 x3) rfl rfl rfl rfl rfl rfl rfl rfl rfl rfl rfl rfl rfl rfl rfl rfl rfl rfl rfl rfl rfl rfl rfl rfl rfl rfl rfl rfl rfl h0 h1 h2 h3 h4 h5 h6 h7 h8 h9 h10 h11).elim
                      · have a10 := Ev.asOk_cons (Ev.asOk_le (is30 I) (is3 I) (Ev.df h10)) a9
                        by_cases h11 : z21 x0 x1 x2 x3 = z12 x0 x1 x2 x3
                        · exact (dead169 x0 x1 x2 x3 B (z0 x0 x1 x2 x3) (z1 x0 x1 x2 x3) (z2 x0 x1 x2 x3) (z4 x0 x1 x2 x3) (z5 x0 x1 x2 x3) (z6 x0 x1 x2 x3) (z20 x0 x1 x2 x3) (z14 x0 x1 x2 x3) (z21 x0 x1 x2 x3) (z16 x0 x1 x2 x3) (z22 x0 x1 x2 x3) (z23 x0 x1 x2 x3) (z24 x0 x1 x2 x3) (z9 x0 x1 x2 x3) (z25 x0 x1 x2 x3) (z26 x0 x1 x2 x3) (z27 x0 x1 x2 x3) (z28 x0 x1 x2 x3) (z3 x0 x1 x2 x3) (z29 x0 x1 x2 x3) (z30 x0 x1 x2 x3) (z12 x0 x1 x2 x3) rfl rfl rfl rfl rfl rfl rfl rfl rfl rfl rfl rfl rfl rfl rfl rfl rfl rfl rfl rfl rfl rfl h0 h1 h2 h3 h4 h5 h6 h7 h8 h9 h10 h11).elim
                        · have a11 := Ev.asOk_cons (Ev.asOk_eq (is21 I) (is12 I) (Ev.df h11)) a10
                          exact fin I a11 run107 w
                · exact (dead170 x0 x1 x2 x3 B (z0 x0 x1 x2 x3) (z1 x0 x1 x2 x3) (z2 x0 x1 x2 x3) (z4 x0 x1 x2 x3) (z5 x0 x1 x2 x3) (z6 x0 x1 x2 x3) (z20 x0 x1 x2 x3) (z14 x0 x1 x2 x3) (z21 x0 x1 x2 x3) (z16 x0 x1 x2 x3) (z22 x0 x1 x2 x3) (z23 x0 x1 x2 x3) (z24 x0 x1 x2 x3) (z9 x0 x1 x2 x3) (z25 x0 x1 x2 x3) (z26 x0 x1 x2 x3) (z27 x0 x1 x2 x3) (z28 x0 x1 x2 x3) rfl rfl rfl rfl rfl rfl rfl rfl rfl rfl rfl rfl rfl rfl rfl rfl rfl rfl h0 h1 h2 h3 h4 h5 h6 h7).elim
              · exact (dead171 x0 x1 x2 x3 B (z0 x0 x1 x2 x3) (z1 x0 x1 x2 x3) (z2 x0 x1 x2 x3) (z4 x0 x1 x2 x3) (z5 x0 x1 x2 x3) (z6 x0 x1 x2 x3) (z20 x0 x1 x2 x3) (z14 x0 x1 x2 x3) (z21 x0 x1 x2 x3) (z16 x0 x1 x2 x3) (z22 x0 x1 x2 x3) (z23 x0 x1 x2 x3) (z24 x0 x1 x2 x3) (z9 x0 x1 x2 x3) (z25 x0 x1 x2 x3) (z26 x0 x1 x2 x3) (z27 x0 x1 x2 x3) rfl rfl rfl rfl rfl rfl rfl rfl rfl rfl rfl rfl rfl rfl rfl rfl rfl h0 h1 h2 h3 h4 h5 h6).elim
          · have a4 := Ev.asOk_cons (Ev.asOk_eq (is21 I) (is16 I) (Ev.df h4)) a3
            by_cases h5 : z21 x0 x1 x2 x3 = z12 x0 x1 x2 x3
            · have a5 := Ev.asOk_cons (Ev.asOk_eq (is21 I) (is12 I) (Ev.dt h5)) a4
              by_cases h6 : z16 x0 x1 x2 x3 ≤ z25 x0 x1 x2 x3
              · have a6 := Ev.asOk_cons (Ev.asOk_le (is16 I) (is25 I) (Ev.dt h6)) a5
                by_cases h7 : z25 x0 x1 x2 x3 ≤ z18 x0 x1 x2 x3
                · have a7 := Ev.asOk_cons (Ev.asOk_le (is25 I) (is18 I) (Ev.dt h7)) a6
                  by_cases h8 : z4 x0 x1 x2 x3 ≤ z38 x0 x1 x2 x3
                  · have a8 := Ev.asOk_cons (Ev.asOk_le (is4 I) (is38 I) (Ev.dt h8)) a7
                    by_cases h9 : z38 x0 x1 x2 x3 ≤ z6 x0 x1 x2 x3
                    · have a9 := Ev.asOk_cons (Ev.asOk_le (is38 I) (is6 I) (Ev.dt h9)) a8
                      by_cases h10 : z42 x0 x1 x2 x3 = z20 x0 x1 x2 x3
                      · have a10 := Ev.asOk_cons (Ev.asOk_eq (is42 I) (is20 I) (Ev.dt h10)) a9
                        exact fin I a10 run108 w
                      · exact (dead172 x0 x1 x2 x3 B (z0 x0 x1 x2 x3) (z1 x0 x1 x2 x3) (z2 x0 x1 x2 x3) (z4 x0 x1 x2 x3) (z5 x0 x1 x2 x3) (z6 x0 x1 x2 x3) (z20 x0 x1 x2 x3) (z14 x0 x1 x2 x3) (z21 x0 x1 x2 x3) (z16 x0 x1 x2 x3) (z12 x0 x1 x2 x3) (z9 x0 x1 x2 x3) (z25 x0 x1 x2 x3) (z18 x0 x1 x2 x3) (z38 x0 x1 x2 x3) (z7 x0 x1 x2 x3) (z39 x0 x1 x2 x3) (z40 x0 x1 x2 x3) (z41 x0 x1 x2 x3) (z42 x0 x1 x2 x3) rfl rfl rfl rfl rfl rfl rfl rfl rfl rfl rfl rfl rfl rfl rfl rfl rfl rfl rfl rfl h0 h1 h2 h3 h4 h5 h6 h7 h8 h9 h10).elim
                    · exact (dead173 x0 x1 x2 x3 B (z0 x0 x1 x2 x3) (z1 x0 x1 x2 x3) (z2 x0 x1 x2 x3) (z4 x0 x1 x2 x3) (z5 x0 x1 x2 x3) (z6 x0 x1 x2 x3) (z20 x0 x1 x2 x3) (z14 x0 x1 x2 x3) (z21 x0 x1 x2 x3) (z16 x0 x1 x2 x3) (z12 x0 x1 x2 x3) (z9 x0 x1 x2 x3) (z25 x0 x1 x2 x3) (z18 x0 x1 x2 x3) (z38 x0 x1 x2 x3) rfl rfl rfl rfl rfl rfl rfl rfl rfl rfl rfl rfl rfl rfl rfl h0 h1 h2 h3 h4 h5 h6 h7 h8 h9).elim
                  · exact (dead174 x0 x1 x2 x3 B (z0 x0 x1 x2 x3) (z1 x0 x1 x2 x3) (z2 x0 x1 x2 x3) (z4 x0 x1 x2 x3) (z5 x0 x1 x2 x3) (z6 x0 x1 x2 x3) (z20 x0 x1 x2 x3) (z14 x0 x1 x2 x3) (z21 x0 x1 x2 x3) (z16 x0 x1 x2 x3) (z12 x0 x1 x2 x3) (z9 x0 x1 x2 x3) (z25 x0 x1 x2 x3) (z18 x0 x1 x2 x3) (z38 x0 x1 x2 x3) rfl rfl rfl rfl rfl rfl rfl rfl rfl rfl rfl rfl rfl rfl rfl h0 h1 h2 h3 h4 h5 h6 h7 h8).elim
                · have a7 := Ev.asOk_cons (Ev.asOk_le (is25 I) (is18 I) (Ev.df h7)) a6
                  exact fin I a7 run109 w
              · have a6 := Ev.asOk_cons (Ev.asOk_le (is16 I) (is25 I) (Ev.df h6)) a5
                exact fin I a6 run110 w
            · have a5 := Ev.asOk_cons (Ev.asOk_eq (is21 I) (is12 I) (Ev.df h5)) a4
              exact fin I a5 run111 w
      · have a2 := Ev.asOk_cons (Ev.asOk_le (is4 I) (is5 I) (Ev.df h2)) a1
        by_cases h3 : z21 x0 x1 x2 x3 = z16 x0 x1 x2 x3
        · have a3 := Ev.asOk_cons (Ev.asOk_eq (is21 I) (is16 I) (Ev.dt h3)) a2
          by_cases h4 : z22 x0 x1 x2 x3 ≤ z24 x0 x1 x2 x3
          · have a4 := Ev.asOk_cons (Ev.asOk_le (is22 I) (is24 I) (Ev.dt h4)) a3
            by_cases h5 : z21 x0 x1 x2 x3 = z12 x0 x1 x2 x3
            · exact (dead175 x0 x1 x2 x3 B (z0 x0 x1 x2 x3) (z1 x0 x1 x2 x3) (z2 x0 x1 x2 x3) (z4 x0 x1 x2 x3) (z5 x0 x1 x2 x3) (z20 x0 x1 x2 x3) (z14 x0 x1 x2 x3) (z21 x0 x1 x2 x3) (z16 x0 x1 x2 x3) (z22 x0 x1 x2 x3) (z23 x0 x1 x2 x3) (z24 x0 x1 x2 x3) (z12 x0 x1 x2 x3) rfl rfl rfl rfl rfl rfl rfl rfl rfl rfl rfl rfl rfl h0 h1 h2 h3 h4 h5).elim
            · have a5 := Ev.asOk_cons (Ev.asOk_eq (is21 I) (is12 I) (Ev.df h5)) a4
              exact fin I a5 run112 w
          · have a4 := Ev.asOk_cons (Ev.asOk_le (is22 I) (is24 I) (Ev.df h4)) a3
            by_cases h5 : z0 x0 x1 x2 x3 ≤ z27 x0 x1 x2 x3
            · have a5 := Ev.asOk_cons (Ev.asOk_le (is0 I) (is27 I) (Ev.dt h5)) a4
              by_cases h6 : z0 x0 x1 x2 x3 ≤ z28 x0 x1 x2 x3
              · have a6 := Ev.asOk_cons (Ev.asOk_le (is0 I) (is28 I) (Ev.dt h6)) a5
                by_cases h7 : z3 x0 x1 x2 x3 ≤ z27 x0 x1 x2 x3
                · have a7 := Ev.asOk_cons (Ev.asOk_le (is3 I) (is27 I) (Ev.dt h7)) a6
                  by_cases h8 : z21 x0 x1 x2 x3 = z12 x0 x1 x2 x3
                  · exact (dead176 x0 x1 x2 x3 B (z0 x0 x1 x2 x3) (z1 x0 x1 x2 x3) (z2 x0 x1 x2 x3) (z4 x0 x1 x2 x3) (z5 x0 x1 x2 x3) (z20 x0 x1 x2 x3) (z14 x0 x1 x2 x3) (z21 x0 x1 x2 x3) (z16 x0 x1 x2 x3) (z22 x0 x1 x2 x3) (z23 x0 x1 x2 x3) (z24 x0 x1 x2 x3) (z9 x0 x1 x2 x3) (z25 x0 x1 x2 x3) (z26 x0 x1 x2 x3) (z27 x0 x1 x2 x3) (z28 x0 x1 x2 x3) (z3 x0 x1 x2 x3) (z12 x0 x1 x2 x3) rfl rfl rfl rfl rfl rfl rfl rfl rfl rfl rfl rfl rfl rfl rfl rfl rfl rfl rfl h0 h1 h2 h3 h4 h5 h6 h7 h8).elim
                  · have a8 := Ev.asOk_cons (Ev.asOk_eq (is21 I) (is12 I) (Ev.df h8)) a7
                    exact fin I a8 run113 w
                · have a7 := Ev.asOk_cons (Ev.asOk_le (is3 I) (is27 I) (Ev.df h7)) a6
                  by_cases h8 : z3 x0 x1 x2 x3 ≤ z28 x0 x1 x2 x3
                  · exact (dead177 x0 x1 x2 x3 B (z0 x0 x1 x2 x3) (z1 x0 x1 x2 x3) (z2 x0 x1 x2 x3) (z4 x0 x1 x2 x3) (z5 x0 x1 x2 x3) (z20 x0 x1 x2 x3) (z14 x0 x1 x2 x3) (z21 x0 x1 x2 x3) (z16 x0 x1 x2 x3) (z22 x0 x1 x2 x3) (z23 x0 x1 x2 x3) (z24 x0 x1 x2 x3) (z9 x0 x1 x2 x3) (z25 x0 x1 x2 x3) (z26 x0 x1 x2 x3) (z27 x0 x1 x2 x3) (z28 x0 x1 x2 x3) (z3 x0 x1 x2 x3) rfl rfl rfl rfl rfl rfl rfl rfl rfl rfl rfl rfl rfl rfl rfl rfl rfl rfl h0 h1 h2 h3 h4 h5 h6 h7 h8).elim
                  · have a8 := Ev.asOk_cons (Ev.asOk_le (is3 I) (is28 I) (Ev.df h8)) a7
                    by_cases h9 : z30 x0 x1 x2 x3 ≤ z3 x0 x1 x2 x3
                    · have a9 := Ev.asOk_cons (Ev.asOk_le (is30 I) (is3 I) (Ev.dt h9)) a8
                      by_cases h10 : z37 x0 x1 x2 x3 = z20 x0 x1 x2 x3
                      · have a10 := Ev.asOk_cons (Ev.asOk_eq (is37 I) (is20 I) (Ev.dt h10)) a9
                        exact fin I a10 run114 w
                      · exact (dead178 x0 x1 x2 x3 B (z0 x0 x1 x2 x3) (z1 x0 x1 x2 x3) (z2 x0 x1 x2 x3) (z4 x0 x1 x2 x3) (z5 x0 x1 x2 x3) (z20 x0 x1 x2 x3) (z14 x0 x1 x2 x3) (z21 x0 x1 x2 x3) (z16 x0 x1 x2 x3) (z22 x0 x1 x2 x3) (z23 x0 x1 x2 x3) (z24 x0 x1 x2 x3) (z9 x0 x1 x2 x3) (z25 x0 x1 x2 x3) (z26 x0 x1 x2 x3) (z27 x0 x1 x2 x3) (z28 x0 x1 x2 x3) (z3 x0 x1 x2 x3) (z29 x0 x1 x2 x3) (z30 x0 x1 x2 x3) (z7 x0 x1 x2 x3) (z31 x0 x1 x2 x3) (z32 x0 x1 x2 x3) (z33 x0 x1 x2 x3) (z34 x0 x1 x2 x3) (z35 x0 x1 x2 x3) (z36 x0 x1 x2 x3) (z37 x0 x1 x2 x3) rfl rfl rfl rfl rfl rfl rfl rfl rfl rfl rfl rfl rfl rfl rfl rfl rfl rfl rfl rfl rfl rfl rfl rfl rfl rfl rfl rfl h0 h1 h2 h3 h4 h5 h6 h7 h8 h9 h10).elim
                    · have a9 := Ev.asOk_cons (Ev.asOk_le (is30 I) (is3 I) (Ev.df h9)) a8
                      by_cases h10 : z21 x0 x1 x2 x3 = z12 x0 x1 x2 x3
                      · exact (dead179 x0 x1 x2 x3 B (z0 x0 x1 x2 x3) (z1 x0 x1 x2 x3) (z2 x0 x1 x2 x3) (z4 x0 x1 x2 x3) (z5 x0 x1 x2 x3) (z20 x0 x1 x2 x3) (z14 x0 x1 x2 x3) (z21 x0 x1 x2 x3) (z16 x0 x1 x2 x3) (z22 x0 x1 x2 x3) (z23 x0 x1 x2 x3) (z24 x0 x1 x2 x3) (z9 x0 x1 x2 x3) (z25 x0 x1 x2 x3) (z26 x0 x1 x2 x3) (z27 x0 x1 x2 x3) (z28 x0 x1 x2 x3) (z3 x0 x1 x2 x3) (z29 x0 x1 x2 x3) (z30 x0 x1 x2 x3) (z12 x0 x1 x2 x3) rfl rfl rfl rfl rfl rfl rfl rfl rfl rfl rfl rfl rfl rfl rfl rfl rfl rfl rfl rfl rfl h0 h1 h2 h3 h4 h5 h6 h7 h8 h9 h10).elim
                      · have a10 := Ev.asOk_cons (Ev.asOk_eq (is21 I) (is12 I) (Ev.df h10)) a9
                        exact fin I a10 run115 w
              · exact (dead180 x0 x1 x2 x3 B (z0 x0 x1 x2 x3) (z1 x0 x1 x2 x3) (z2 x0 x1 x2 x3) (z4 x0 x1 x2 x3) (z5 x0 x1 x2 x3) (z20 x0 x1 x2 x3) (z14 x0 x1 x2 x3) (z21 x0 x1 x2 x3) (z16 x0 x1 x2 x3) (z22 x0 x1 x2 x3) (z23 x0 x1 x2 x3) (z24 x0 x1 x2 x3) (z9 x0 x1 x2 x3) (z25 x0 x1 x2 x3) (z26 x0 x1 x2 x3) (z27 x0 x1 x2 x3) (z28 x0 x1 x2 x3) rfl rfl rfl rfl rfl rfl rfl rfl rfl rfl rfl rfl rfl rfl rfl rfl rfl h0 h1 h2 h3 h4 h5 h6).elim
            · exact (dead181 x0 x1 x2 x3 B (z0 x0 x1 x2 x3) (z1 x0 x1 x2 x3) (z2 x0 x1 x2 x3) (z4 x0 x1 x2 x3) (z5 x0 x1 x2 x3) (z20 x0 x1 x2 x3) (z14 x0 x1 x2 x3) (z21 x0 x1 x2 x3) (z16 x0 x1 x2 x3) (z22 x0 x1 x2 x3) (z23 x0 x1 x2 x3) (z24 x0 x1 x2 x3) (z9 x0 x1 x2 x3) (z25 x0 x1 x2 x3) (z26 x0 x1 x2 x3) (z27 x0 x1 x2 x3) rfl rfl rfl rfl rfl rfl rfl rfl rfl rfl rfl rfl rfl rfl rfl rfl h0 h1 h2 h3 h4 h5).elim
        · have a3 := Ev.asOk_cons (Ev.asOk_eq (is21 I) (is16 I) (Ev.df h3)) a2
          by_cases h4 : z21 x0 x1 x2 x3 = z12 x0 x1 x2 x3
          · have a4 := Ev.asOk_cons (Ev.asOk_eq (is21 I) (is12 I) (Ev.dt h4)) a3
            by_cases h5 : z16 x0 x1 x2 x3 ≤ z25 x0 x1 x2 x3
            · have a5 := Ev.asOk_cons (Ev.asOk_le (is16 I) (is25 I) (Ev.dt h5)) a4
              by_cases h6 : z25 x0 x1 x2 x3 ≤ z18 x0 x1 x2 x3
              · have a6 := Ev.asOk_cons (Ev.asOk_le (is25 I) (is18 I) (Ev.dt h6)) a5
                by_cases h7 : z4 x0 x1 x2 x3 ≤ z38 x0 x1 x2 x3
                · have a7 := Ev.asOk_cons (Ev.asOk_le (is4 I) (is38 I) (Ev.dt h7)) a6
                  by_cases h8 : z38 x0 x1 x2 x3 ≤ z6 x0 x1 x2 x3
                  · have a8 := Ev.asOk_cons (Ev.asOk_le (is38 I) (is6 I) (Ev.dt h8)) a7
                    by_cases h9 : z42 x0 x1 x2 x3 = z20 x0 x1 x2 x3
                    · have a9 := Ev.asOk_cons (Ev.asOk_eq (is42 I) (is20 I) (Ev.dt h9)) a8
                      exact fin I a9 run116 w
                    · exact (dead182 x0 x1 x2 x3 B (z0 x0 x1 x2 x3) (z1 x0 x1 x2 x3) (z2 x0 x1 x2 x3) (z4 x0 x1 x2 x3) (z5 x0 x1 x2 x3) (z20 x0 x1 x2 x3) (z14 x0 x1 x2 x3) (z21 x0 x1 x2 x3) (z16 x0 x1 x2 x3) (z12 x0 x1 x2 x3) (z9 x0 x1 x2 x3) (z25 x0 x1 x2 x3) (z18 x0 x1 x2 x3) (z38 x0 x1 x2 x3) (z6 x0 x1 x2 x3) (z7 x0 x1 x2 x3) (z39 x0 x1 x2 x3) (z40 x0 x1 x2 x3) (z41 x0 x1 x2 x3) (z42 x0 x1 x2 x3) rfl rfl rfl rfl rfl rfl rfl rfl rfl rfl rfl rfl rfl rfl rfl rfl rfl rfl rfl rfl h0 h1 h2 h3 h4 h5 h6 h7 h8 h9).elim
                  · exact (dead183 x0 x1 x2 x3 B (z0 x0 x1 x2 x3) (z1 x0 x1 x2 x3) (z2 x0 x1 x2 x3) (z4 x0 x1 x2 x3) (z5 x0 x1 x2 x3) (z20 x0 x1 x2 x3) (z14 x0 x1 x2 x3) (z21 x0 x1 x2 x3) (z16 x0 x1 x2 x3) (z12 x0 x1 x2 x3) (z9 x0 x1 x2 x3) (z25 x0 x1 x2 x3) (z18 x0 x1 x2 x3) (z38 x0 x1 x2 x3) (z6 x0 x1 x2 x3) rfl rfl rfl rfl rfl rfl rfl rfl rfl rfl rfl rfl rfl rfl rfl h0 h1 h2 h3 h4 h5 h6 h7 h8).elim
                · exact (dead184 x0 x1 x2 x3 B (z0 x0 x1 x2 x3) (z1 x0 x1 x2 x3) (z2 x0 x1 x2 x3) (z4 x0 x1 x2 x3) (z5 x0 x1 x2 x3) (z20 x0 x1 x2 x3) (z14 x0 x1 x2 x3) (z21 x0 x1 x2 x3) (z16 x0 x1 x2 x3) (z12 x0 x1 x2 x3) (z9 x0 x1 x2 x3) (z25 x0 x1 x2 x3) (z18 x0 x1 x2 x3) (z38 x0 x1 x2 x3) rfl rfl rfl rfl rfl rfl rfl rfl rfl rfl rfl rfl rfl rfl h0 h1 h2 h3 h4 h5 h6 h7).elim
              · have a6 := Ev.asOk_cons (Ev.asOk_le (is25 I) (is18 I) (Ev.df h6)) a5
                exact fin I a6 run117 w
            · have a5 := Ev.asOk_cons (Ev.asOk_le (is16 I) (is25 I) (Ev.df h5)) a4
              exact fin I a5 run118 w
          · have a4 := Ev.asOk_cons (Ev.asOk_eq (is21 I) (is12 I) (Ev.df h4)) a3
            exact fin I a4 run119 w
  · have a0 := Ev.asOk_cons (Ev.asOk_le (is0 I) (is1 I) (Ev.df h0)) Ev.asOk_nil
    by_cases h1 : z4 x0 x1 x2 x3 ≤ z5 x0 x1 x2 x3
    · have a1 := Ev.asOk_cons (Ev.asOk_le (is4 I) (is5 I) (Ev.dt h1)) a0
      by_cases h2 : z5 x0 x1 x2 x3 ≤ z6 x0 x1 x2 x3
      · have a2 := Ev.asOk_cons (Ev.asOk_le (is5 I) (is6 I) (Ev.dt h2)) a1
        by_cases h3 : z15 x0 x1 x2 x3 = z16 x0 x1 x2 x3
        · exact (dead185 x0 x1 x2 x3 B (z0 x0 x1 x2 x3) (z1 x0 x1 x2 x3) (z4 x0 x1 x2 x3) (z5 x0 x1 x2 x3) (z6 x0 x1 x2 x3) (z7 x0 x1 x2 x3) (z8 x0 x1 x2 x3) (z9 x0 x1 x2 x3) (z10 x0 x1 x2 x3) (z11 x0 x1 x2 x3) (z12 x0 x1 x2 x3) (z13 x0 x1 x2 x3) (z14 x0 x1 x2 x3) (z15 x0 x1 x2 x3) (z16 x0 x1 x2 x3) rfl rfl rfl rfl rfl rfl rfl rfl rfl rfl rfl rfl rfl rfl rfl h0 h1 h2 h3).elim
        · have a3 := Ev.asOk_cons (Ev.asOk_eq (is15 I) (is16 I) (Ev.df h3)) a2
          by_cases h4 : z15 x0 x1 x2 x3 = z12 x0 x1 x2 x3
          · have a4 := Ev.asOk_cons (Ev.asOk_eq (is15 I) (is12 I) (Ev.dt h4)) a3
            by_cases h5 : z16 x0 x1 x2 x3 ≤ z17 x0 x1 x2 x3
            · have a5 := Ev.asOk_cons (Ev.asOk_le (is16 I) (is17 I) (Ev.dt h5)) a4
              by_cases h6 : z17 x0 x1 x2 x3 ≤ z18 x0 x1 x2 x3
              · have a6 := Ev.asOk_cons (Ev.asOk_le (is17 I) (is18 I) (Ev.dt h6)) a5
                by_cases h7 : z19 x0 x1 x2 x3 = z5 x0 x1 x2 x3
                · have a7 := Ev.asOk_cons (Ev.asOk_eq (is19 I) (is5 I) (Ev.dt h7)) a6
                  by_cases h8 : z21 x0 x1 x2 x3 = z16 x0 x1 x2 x3
                  · have a8 := Ev.asOk_cons (Ev.asOk_eq (is21 I) (is16 I) (Ev.dt h8)) a7
                    by_cases h9 : z22 x0 x1 x2 x3 ≤ z24 x0 x1 x2 x3
                    · have a9 := Ev.asOk_cons (Ev.asOk_le (is22 I) (is24 I) (Ev.dt h9)) a8
                      by_cases h10 : z21 x0 x1 x2 x3 = z12 x0 x1 x2 x3
                      · exact (dead186 x0 x1 x2 x3 B (z0 x0 x1 x2 x3) (z1 x0 x1 x2 x3) (z4 x0 x1 x2 x3) (z5 x0 x1 x2 x3) (z6 x0 x1 x2 x3) (z7 x0 x1 x2 x3) (z8 x0 x1 x2 x3) (z9 x0 x1 x2 x3) (z10 x0 x1 x2 x3) (z11 x0 x1 x2 x3) (z12 x0 x1 x2 x3) (z13 x0 x1 x2 x3) (z14 x0 x1 x2 x3) (z15 x0 x1 x2 x3) (z16 x0 x1 x2 x3) (z17 x0 x1 x2 x3) (z18 x0 x1 x2 x3) (z19 x0 x1 x2 x3) (z20 x0 x1 x2 x3) (z21 x0 x1 x2 x3) (z22 x0 x1 x2 x3) (z23 x0 x1 x2 x3) (z24 x0 x1 x2 x3) rfl rfl rfl rfl rfl rfl rfl rfl rfl rfl rfl rfl rfl rfl rfl rfl rfl rfl rfl rfl rfl rfl rfl h0 h1 h2 h3 h4 h5 h6 h7 h8 h9 h10).elim
                      · have a10 := Ev.asOk_cons (Ev.asOk_eq (is21 I) (is12 I) (Ev.df h10)) a9
                        exact fin I a10 run120 w
                    · have a9 := Ev.asOk_cons (Ev.asOk_le (is22 I) (is24 I) (Ev.df h9)) a8
                      by_cases h10 : z0 x0 x1 x2 x3 ≤ z27 x0 x1 x2 x3
                      · have a10 := Ev.asOk_cons (Ev.asOk_le (is0 I) (is27 I) (Ev.dt h10)) a9
                        by_cases h11 : z0 x0 x1 x2 x3 ≤ z28 x0 x1 x2 x3
                        · have a11 := Ev.asOk_cons (Ev.asOk_le (is0 I) (is28 I) (Ev.dt h11)) a10
                          by_cases h12 : z3 x0 x1 x2 x3 ≤ z27 x0 x1 x2 x3
                          · have a12 := Ev.asOk_cons (Ev.asOk_le (is3 I) (is27 I) (Ev.dt h12)) a11
                            by_cases h13 : z21 x0 x1 x2 x3 = z12 x0 x1 x2 x3
                            · exact (dead187 x0 x1 x2 x3 B (z0 x0 x1 x2 x3) (z1 x0 x1 x2 x3) (z4 x0 x1 x2 x3) (z5 x0 x1 x2 x3) (z6 x0 x1 x2 x3) (z7 x0 x1 x2 x3) (z8 x0 x1 x2 x3) (z9 x0 x1 x2 x3) (z10 x0 x1 x2 x3) (z11 x0 x1 x2 x3) (z12 x0 x1 x2 x3) (z13 x0 x1 x2 x3) (z14 x0 x1 x2 x3) (z15 x0 x1 x2 x3) (z16 x0 x1 x2 x3) (z17 x0 x1 x2 x3) (z18 x0 x1 x2 x3) (z19 x0 x1 x2 x3) (z20 x0 x1 x2 x3) (z21 x0 x1 x2 x3) (z22 x0 x1 x2 x3) (z23 x0 x1 x2 x3) (z24 x0 x1 x2 x3) (z25 x0 x1 x2 x3) (z26 x0 x1 x2 x3) (z27 x0 x1 x2 x3) (z28 x0 x1 x2 x3) (z3 x0 x1 x2 x3) rfl rfl rfl rfl rfl rfl rfl rfl rfl rfl rfl rfl rfl rfl rfl rfl rfl rfl rfl rfl rfl rfl rfl rfl rfl rfl rfl rfl h0 h1 h2 h3 h4 h5 h6 h7 h8 h9 h10 h11 h12 h13).elim
                            · have a13 := Ev.asOk_cons (Ev.asOk_eq (is21 I) (is12 I) (Ev.df h13)) a12
                              exact fin I a13 run121 w
                          · have a12 := Ev.asOk_cons (Ev.asOk_le (is3 I) (is27 I) (Ev.df h12)) a11
                            by_cases h13 : z3 x0 x1 x2 x3 ≤ z28 x0 x1 x2 x3
                            · exact (dead188 x0 x1 x2 x3 B (z0 x0 x1 x2 x3) (z1 x0 x1 x2 x3) (z4 x0 x1 x2 x3) (z5 x0 x1 x2 x3) (z6 x0 x1 x2 x3) (z7 x0 x1 x2 x3) (z8 x0 x1 x2 x3) (z9 x0 x1 x2 x3) (z10 x0 x1 x2 x3) (z11 x0 x1 x2 x3) (z12 x0 x1 x2 x3) (z13 x0 x1 x2 x3) (z14 x0 x1 x2 x3) (z15 x0 x1 x2 x3) (z16 x0 x1 x2 x3) (z17 x0 x1 x2 x3) (z18 x0 x1 x2 x3) (z19 x0 x1 x2 x3) (z20 x0 x1 x2 x3) (z21 x0 x1 x2 x3) (z22 x0 x1 x2 x3) (z23 x0 x1 x2 x3) (z24 x0 x1 x2 x3) (z25 x0 x1 x2 x3) (z26 x0 x1 x2 x3) (z27 x0 x1 x2 x3) (z28 x0 x1 x2 x3) (z3 x0 x1 x2 x3) rfl rfl rfl rfl rfl rfl rfl rfl rfl rfl rfl rfl rfl rfl rfl rfl rfl rfl rfl rfl rfl rfl rfl rfl rfl rfl rfl rfl h0 h1 h2 h3 h4 h5 h6 h7 h8 h9 h10 h11 h12 h13).elim
                            · have a13 := Ev.asOk_cons (Ev.asOk_le (is3 I) (is28 I) (Ev.df h13)) a12
                              by_cases h14 : z30 x0 x1 x2 x3 ≤ z3 x0 x1 x2 x3
                              · have a14 := Ev.asOk_cons (Ev.asOk_le (is30 I) (is3 I) (Ev.dt h14)) a13
                                by_cases h15 : z37 x0 x1 x2 x3 = z20 x0 x1 x2 x3
                                · have a15 := Ev.asOk_cons (Ev.asOk_eq (is37 I) (is20 I) (Ev.dt h15)) a14
                                  exact fin I a15 run122 w
                                · exact (dead189 x0 x1 x2 x3 B (z0 x0 x1 x2 x3) (z1 x0 x1 x2 x3) (z4 x0 x1 x2 x3) (z5 x0 x1 x2 x3) (z6 x0 x1 x2 x3) (z7 x0 x1 x2 x3) (z8 x0 x1 x2 x3) (z9 x0 x1 x2 x3) (z10 x0 x1 x2 x3) (z11 x0 x1 x2 x3) (z12 x0 x1 x2 x3) (z13 x0 x1 x2 x3) (z14 x0 x1 x2 x3) (z15 x0 x1 x2 x3) (z16 x0 x1 x2 x3) (z17 x0 x1 x2 x3) (z18 x0 x1 x2 x3) (z19 x0 x1 x2 x3) (z20 x0 x1 x2 x3) (z21 x0 x1 x2 x3) (z22 x0 x1 x2 x3) (z23 x0 x1 x2 x3) (z24 x0 x1 x2 x3) (z25 x0 x1 x2 x3) (z26 x0 x1 x2 x3) (z27 x0 x1 x2 x3) (z28 x0 x1 x2 x3) (z3 x0 x1 x2 x3) (z29 x0 x1 x2 x3) (z30 x0 x1 x2 x3) (z31 x0 x1 x2 x3) (z32 x0 x1 x2 x3) (z33 x0 x1 x2 x3) (z34 x0 x1 x2 x3) (z35 x0 x1 x2 x3) (z36 x0 x1 x2 x3) (z37 x0 x1 x2 x3) rfl rfl rfl rfl rfl rfl rfl rfl rfl rfl rfl rfl rfl rfl rfl rfl rfl rfl rfl rfl rfl rfl rfl rfl rfl rfl rfl rfl rfl rfl rfl rfl rfl rfl rfl rfl rfl h0 h1 h2 h3 h4 h5 h6 h7 h8 h9 h10 h11 h12 h13 h14 h15).elim
                              · have a14 := Ev.asOk_cons (Ev.asOk_le (is30 I) (is3 I) (Ev.df h14)) a13
                                by_cases h15 : z21 x0 x1 x2 x3 = z12 x0 x1 x2 x3
                                · exact (dead190 x0 x1 x2 x3 B (z0 x0 x1 x2 x3) (z1 x0 x1 x2 x3) (z4 x0 x1 x2 x3) (z5 x0 x1 x2 x3) (z6 x0 x1 x2 x3) (z7 x0 x1 x2 x3) (z8 x0 x1 x2 x3) (z9 x0 x1 x2 x3) (z10 x0 x1 x2 x3) (z11 x0 x1 x2 x3) (z12 x0 x1 x2 x3) (z13 x0 x1 x2 x3) (z14 x0 x1 x2 x3) (z15 x0 x1 x2 x3) (z16 x0 x1 x2 x3) (z17 x0 x1 x2 x3) (z18 x0 x1 x2 x3) (z19 x0 x1 x2 x3) (z20 x0 x1 x2 x3) (z21 x0 x1 x2 x3) (z22 x0 x1 x2 x3) (z23 x0 x1 x2 x3) (z24 x0 x1 x2 x3) (z25 x0 x1 x2 x3) (z26 x0 x1 x2 x3) (z27 x0 x1 x2 x3) (z28 x0 x1 x2 x3) (z3 x0 x1 x2 x3) (z29 x0 x1 x2 x3) (z30 x0 x1 x2 x3) rfl rfl rfl rfl rfl rfl rfl rfl rfl rfl rfl rfl rfl rfl rfl rfl rfl rfl rfl rfl rfl rfl rfl rfl rfl rfl rfl rfl rfl rfl h0 h1 h2 h3 h4 h5 h6 h7 h8 h9 h10 h11 h12 h13 h14 h15).elim
                                · have a15 := Ev.asOk_cons (Ev.asOk_eq (is21 I) (is12 I) (Ev.df h15)) a14
                                  exact fin I a15 run123 w
                        · exact (dead191 x0 x1 x2 x3 B (z0 x0 x1 x2 x3) (z1 x0 x1 x2 x3) (z4 x0 x1 x2 x3) (z5 x0 x1 x2 x3) (z6 x0 x1 x2 x3) (z7 x0 x1 x2 x3) (z8 x0 x1 x2 x3) (z9 x0 x1 x2 x3) (z10 x0 x1 x2 x3) (z11 x0 x1 x2 x3) (z12 x0 x1 x2 x3) (z13 x0 x1 x2 x3) (z14 x0 x1 x2 x3) (z15 x0 x1 x2 x3) (z16 x0 x1 x2 x3) (z17 x0 x1 x2 x3) (z18 x0 x1 x2 x3) (z19 x0 x1 x2 x3) (z20 x0 x1 x2 x3) (z21 x0 x1 x2 x3) (z22 x0 x1 x2 x3) (z23 x0 x1 x2 x3) (z24 x0 x1 x2 x3) (z25 x0 x1 x2 x3) (z26 x0 x1 x2 x3) (z27 x0 x1 x2 x3) (z28 x0 x1 x2 x3) rfl rfl rfl rfl rfl rfl rfl rfl rfl rfl rfl rfl rfl rfl rfl rfl rfl rfl rfl rfl rfl rfl rfl rfl rfl rfl rfl h0 h1 h2 h3 h4 h5 h6 h7 h8 h9 h10 h11).elim
                      · exact (dead192 x0 x1 x2 x3 B (z0 x0 x1 x2 x3) (z1 x0 x1 x2 x3) (z4 x0 x1 x2 x3) (z5 x0 x1 x2 x3) (z6 x0 x1 x2 x3) (z7 x0 x1 x2 x3) (z8 x0 x1 x2 x3) (z9 x0 x1 x2 x3) (z10 x0 x1 x2 x3) (z11 x0 x1 x2 x3) (z12 x0 x1 x2 x3) (z13 x0 x1 x2 x3) (z14 x0 x1 x2 x3) (z15 x0 x1 x2 x3) (z16 x0 x1 x2 x3) (z17 x0 x1 x2 x3) (z18 x0 x1 x2 x3) (z19 x0 x1 x2 x3) (z20 x0 x1 x2 x3) (z21 x0 x1 x2 x3) (z22 x0 x1 x2 x3) (z23 x0 x1 x2 x3) (z24 x0 x1 x2 x3) (z25 x0 x1 x2 x3) (z26 x0 x1 x2 x3) (z27 x0 x1 x2 x3) rfl rfl rfl rfl rfl rfl rfl rfl rfl rfl rfl rfl rfl rfl rfl rfl rfl rfl rfl rfl rfl rfl rfl rfl rfl rfl h0 h1 h2 h3 h4 h5 h6 h7 h8 h9 h10).elim
                  · have a8 := Ev.asOk_cons (Ev.asOk_eq (is21 I) (is16 I) (Ev.df h8)) a7
                    by_cases h9 : z21 x0 x1 x2 x3 = z12 x0 x1 x2 x3
                    · have a9 := Ev.asOk_cons (Ev.asOk_eq (is21 I) (is12 I) (Ev.dt h9)) a8
                      by_cases h10 : z16 x0 x1 x2 x3 ≤ z25 x0 x1 x2 x3
                      · have a10 := Ev.asOk_cons (Ev.asOk_le (is16 I) (is25 I) (Ev.dt h10)) a9
                        by_cases h11 : z25 x0 x1 x2 x3 ≤ z18 x0 x1 x2 x3
                        · have a11 := Ev.asOk_cons (Ev.asOk_le (is25 I) (is18 I) (Ev.dt h11)) a10
                          by_cases h12 : z4 x0 x1 x2 x3 ≤ z38 x0 x1 x2 x3
                          · have a12 := Ev.asOk_cons (Ev.asOk_le (is4 I) (is38 I) (Ev.dt h12)) a11
                            by_cases h13 : z38 x0 x1 x2 x3 ≤ z6 x0 x1 x2 x3
                            · have a13 := Ev.asOk_cons (Ev.asOk_le (is38 I) (is6 I) (Ev.dt h13)) a12
                              by_cases h14 : z42 x0 x1 x2 x3 = z20 x0 x1 x2 x3
                              · have a14 := Ev.asOk_cons (Ev.asOk_eq (is42 I) (is20 I) (Ev.dt h14)) a13
                                exact fin I a14 run124 w
                              · exact (dead193 x0 x1 x2 x3 B (z0 x0 x1 x2 x3) (z1 x0 x1 x2 x3) (z4 x0 x1 x2 x3) (z5 x0 x1 x2 x3) (z6 x0 x1 x2 x3) (z7 x0 x1 x2 x3) (z8 x0 x1 x2 x3) (z9 x0 x1 x2 x3) (z10 x0 x1 x2 x3) (z11 x0 x1 x2 x3) (z12 x0 x1 x2 x3) (z13 x0 x1 x2 x3) (z14 x0 x1 x2 x3) (z15 x0 x1 x2 x3) (z16 x0 x1 x2 x3) (z17 x0 x1 x2 x3) (z18 x0 x1 x2 x3) (z19 x0 x1 x2 x3) (z20 x0 x1 x2 x3) (z21 x0 x1 x2 x3) (z25 x0 x1 x2 x3) (z38 x0 x1 x2 x3) (z39 x0 x1 x2 x3) (z40 x0 x1 x2 x3) (z41 x0 x1 x2 x3) (z42 x0 x1 x2 x3) rfl rfl rfl rfl rfl rfl rfl rfl rfl rfl rfl rfl rfl rfl rfl rfl rfl rfl rfl rfl rfl rfl rfl rfl rfl rfl h0 h1 h2 h3 h4 h5 h6 h7 h8 h9 h10 h11 h12 h13 h14).elim
                            · exact (dead194 x0 x1 x2 x3 B (z0 x0 x1 x2 x3) (z1 x0 x1 x2 x3) (z4 x0 x1 x2 x3) (z5 x0 x1 x2 x3) (z6 x0 x1 x2 x3) (z7 x0 x1 x2 x3) (z8 x0 x1 x2 x3) (z9 x0 x1 x2 x3) (z10 x0 x1 x2 x3) (z11 x0 x1 x2 x3) (z12 x0 x1 x2 x3) (z13 x0 x1 x2 x3) (z14 x0 x1 x2 x3) (z15 x0 x1 x2 x3) (z16 x0 x1 x2 x3) (z17 x0 x1 x2 x3) (z18 x0 x1 x2 x3) (z19 x0 x1 x2 x3) (z20 x0 x1 x2 x3) (z21 x0 x1 x2 x3) (z25 x0 x1 x2 x3) (z38 x0 x1 x2 x3) rfl rfl rfl rfl rfl rfl rfl rfl rfl rfl rfl rfl rfl rfl rfl rfl rfl rfl rfl rfl rfl rfl h0 h1 h2 h3 h4 h5 h6 h7 h8 h9 h10 h11 h12 h13).elim
                          · exact (dead195 x0 x1 x2 x3 B (z0 x0 x1 x2 x3) (z1 x0 x1 x2 x3) (z4 x0 x1 x2 x3) (z5 x0 x1 x2 x3) (z6 x0 x1 x2 x3) (z7 x0 x1 x2 x3) (z8 x0 x1 x2 x3) (z9 x0 x1 x2 x3) (z10 x0 x1 x2 x3) (z11 x0 x1 x2 x3) (z12 x0 x1 x2 x3) (z13 x0 x1 x2 x3) (z14 x0 x1 x2 x3) (z15 x0 x1 x2 x3) (z16 x0 x1 x2 x3) (z17 x0 x1 x2 x3) (z18 x0 x1 x2 x3) (z19 x0 x1 x2 x3) (z20 x0 x1 x2 x3) (z21 x0 x1 x2 x3) (z25 x0 x1 x2 x3) (z38 x0 x1 x2 x3) rfl rfl rfl rfl rfl rfl rfl rfl rfl rfl rfl rfl rfl rfl rfl rfl rfl rfl rfl rfl rfl rfl h0 h1 h2 h3 h4 h5 h6 h7 h8 h9 h10 h11 h12).elim
                        · have a11 := Ev.asOk_cons (Ev.asOk_le (is25 I) (is18 I) (Ev.df h11)) a10
                          exact fin I a11 run125 w
                      · have a10 := Ev.asOk_cons (Ev.asOk_le (is16 I) (is25 I) (Ev.df h10)) a9
                        exact fin I a10 run126 w
                    · have a9 := Ev.asOk_cons (Ev.asOk_eq (is21 I) (is12 I) (Ev.df h9)) a8
                      exact fin I a9 run127 w
                · exact (dead196 x0 x1 x2 x3 B (z0 x0 x1 x2 x3) (z1 x0 x1 x2 x3) (z4 x0 x1 x2 x3) (z5 x0 x1 x2 x3) (z6 x0 x1 x2 x3) (z7 x0 x1 x2 x3) (z8 x0 x1 x2 x3) (z9 x0 x1 x2 x3) (z10 x0 x1 x2 x3) (z11 x0 x1 x2 x3) (z12 x0 x1 x2 x3) (z13 x0 x1 x2 x3) (z14 x0 x1 x2 x3) (z15 x0 x1 x2 x3) (z16 x0 x1 x2 x3) (z17 x0 x1 x2 x3) (z18 x0 x1 x2 x3) (z19 x0 x1 x2 x3) rfl rfl rfl rfl rfl rfl rfl rfl rfl rfl rfl rfl rfl rfl rfl rfl rfl rfl h0 h1 h2 h3 h4 h5 h6 h7).elim
              · exact (dead197 x0 x1 x2 x3 B (z0 x0 x1 x2 x3) (z1 x0 x1 x2 x3) (z4 x0 x1 x2 x3) (z5 x0 x1 x2 x3) (z6 x0 x1 x2 x3) (z7 x0 x1 x2 x3) (z8 x0 x1 x2 x3) (z9 x0 x1 x2 x3) (z10 x0 x1 x2 x3) (z11 x0 x1 x2 x3) (z12 x0 x1 x2 x3) (z13 x0 x1 x2 x3) (z14 x0 x1 x2 x3) (z15 x0 x1 x2 x3) (z16 x0 x1 x2 x3) (z17 x0 x1 x2 x3) (z18 x0 x1 x2 x3) rfl rfl rfl rfl rfl rfl rfl rfl rfl rfl rfl rfl rfl rfl rfl rfl rfl h0 h1 h2 h3 h4 h5 h6).elim
            · exact (dead198 x0 x1 x2 x3 B (z0 x0 x1 x2 x3) (z1 x0 x1 x2 x3) (z4 x0 x1 x2 x3) (z5 x0 x1 x2 x3) (z6 x0 x1 x2 x3) (z7 x0 x1 x2 x3) (z8 x0 x1 x2 x3) (z9 x0 x1 x2 x3) (z10 x0 x1 x2 x3) (z11 x0 x1 x2 x3) (z12 x0 x1 x2 x3) (z13 x0 x1 x2 x3) (z14 x0 x1 x2 x3) (z15 x0 x1 x2 x3) (z16 x0 x1 x2 x3) (z17 x0 x1 x2 x3) rfl rfl rfl rfl rfl rfl rfl rfl rfl rfl rfl rfl rfl rfl rfl rfl h0 h1 h2 h3 h4 h5).elim
          · exact (dead199 x0 x1 x2 x3 B (z0 x0 x1 x2 x3) (z1 x0 x1 x2 x3) (z4 x0 x1 x2 x3) (z5 x0 x1 x2 x3) (z6 x0 x1 x2 x3) (z7 x0 x1 x2 x3) (z8 x0 x1 x2 x3) (z9 x0 x1 x2 x3) (z10 x0 x1 x2 x3) (z11 x0 x1 x2 x3) (z12 x0 x1 x2 x3) (z13 x0 x1 x2 x3) (z14 x0 x1 x2 x3) (z15 x0 x1 x2 x3) (z16 x0 x1 x2 x3) rfl rfl rfl rfl rfl rfl rfl rfl rfl rfl rfl rfl rfl rfl rfl h0 h1 h2 h3 h4).elim
      · have a2 := Ev.asOk_cons (Ev.asOk_le (is5 I) (is6 I) (Ev.df h2)) a1
        by_cases h3 : z21 x0 x1 x2 x3 = z16 x0 x1 x2 x3
        · have a3 := Ev.asOk_cons (Ev.asOk_eq (is21 I) (is16 I) (Ev.dt h3)) a2
          by_cases h4 : z22 x0 x1 x2 x3 ≤ z24 x0 x1 x2 x3
          · have a4 := Ev.asOk_cons (Ev.asOk_le (is22 I) (is24 I) (Ev.dt h4)) a3
            by_cases h5 : z21 x0 x1 x2 x3 = z12 x0 x1 x2 x3
            · exact (dead200 x0 x1 x2 x3 B (z0 x0 x1 x2 x3) (z1 x0 x1 x2 x3) (z4 x0 x1 x2 x3) (z5 x0 x1 x2 x3) (z6 x0 x1 x2 x3) (z20 x0 x1 x2 x3) (z14 x0 x1 x2 x3) (z21 x0 x1 x2 x3) (z16 x0 x1 x2 x3) (z22 x0 x1 x2 x3) (z23 x0 x1 x2 x3) (z24 x0 x1 x2 x3) (z12 x0 x1 x2 x3) rfl rfl rfl rfl rfl rfl rfl rfl rfl rfl rfl rfl rfl h0 h1 h2 h3 h4 h5).elim
            · have a5 := Ev.asOk_cons (Ev.asOk_eq (is21 I) (is12 I) (Ev.df h5)) a4
              exact fin I a5 run128 w
          · have a4 := Ev.asOk_cons (Ev.asOk_le (is22 I) (is24 I) (Ev.df h4)) a3
            by_cases h5 : z0 x0 x1 x2 x3 ≤ z27 x0 x1 x2 x3
            · have a5 := Ev.asOk_cons (Ev.asOk_le (is0 I) (is27 I) (Ev.dt h5)) a4
              by_cases h6 : z0 x0 x1 x2 x3 ≤ z28 x0 x1 x2 x3
              · have a6 := Ev.asOk_cons (Ev.asOk_le (is0 I) (is28 I) (Ev.dt h6)) a5
                by_cases h7 : z3 x0 x1 x2 x3 ≤ z27 x0 x1 x2 x3
                · have a7 := Ev.asOk_cons (Ev.asOk_le (is3 I) (is27 I) (Ev.dt h7)) a6
                  by_cases h8 : z21 x0 x1 x2 x3 = z12 x0 x1 x2 x3
                  · exact (dead201 x0 x1 x2 x3 B (z0 x0 x1 x2 x3) (z1 x0 x1 x2 x3) (z4 x0 x1 x2 x3) (z5 x0 x1 x2 x3) (z6 x0 x1 x2 x3) (z20 x0 x1 x2 x3) (z14 x0 x1 x2 x3) (z21 x0 x1 x2 x3) (z16 x0 x1 x2 x3) (z22 x0 x1 x2 x3) (z23 x0 x1 x2 x3) (z24 x0 x1 x2 x3) (z9 x0 x1 x2 x3) (z25 x0 x1 x2 x3) (z26 x0 x1 x2 x3) (z27 x0 x1 x2 x3) (z28 x0 x1 x2 x3) (z3 x0 x1 x2 x3) (z12 x0 x1 x2 x3) rfl rfl rfl rfl rfl rfl rfl rfl rfl rfl rfl rfl rfl rfl rfl rfl rfl rfl rfl h0 h1 h2 h3 h4 h5 h6 h7 h8).elim
                  · have a8 := Ev.asOk_cons (Ev.asOk_eq (is21 I) (is12 I) (Ev.df h8)) a7
                    exact fin I a8 run129 w
                · have a7 := Ev.asOk_cons (Ev.asOk_le (is3 I) (is27 I) (Ev.df h7)) a6
                  by_cases h8 : z3 x0 x1 x2 x3 ≤ z28 x0 x1 x2 x3
                  · exact (dead202 x0 x1 x2 x3 B (z0 x0 x1 x2 x3) (z1 x0 x1 x2 x3) (z4 x0 x1 x2 x3) (z5 x0 x1 x2 x3) (z6 x0 x1 x2 x3) (z20 x0 x1 x2 x3) (z14 x0 x1 x2 x3) (z21 x0 x1 x2 x3) (z16 x0 x1 x2 x3) (z22 x0 x1 x2 x3) (z23 x0 x1 x2 x3) (z24 x0 x1 x2 x3) (z9 x0 x1 x2 x3) (z25 x0 x1 x2 x3) (z26 x0 x1 x2 x3) (z27 x0 x1 x2 x3) (z28 x0 x1 x2 x3) (z3 x0 x1 x2 x3) rfl rfl rfl rfl rfl rfl rfl rfl rfl rfl rfl rfl rfl rfl rfl rfl rfl rfl h0 h1 h2 h3 h4 h5 h6 h7 h8).elim
                  · have a8 := Ev.asOk_cons (Ev.asOk_le (is3 I) (is28 I) (Ev.df h8)) a7
                    by_cases h9 : z30 x0 x1 x2 x3 ≤ z3 x0 x1 x2 x3
                    · have a9 := Ev.asOk_cons (Ev.asOk_le (is30 I) (is3 I) (Ev.dt h9)) a8
                      by_cases h10 : z37 x0 x1 x2 x3 = z20 x0 x1 x2 x3
                      · have a10 := Ev.asOk_cons (Ev.asOk_eq (is37 I) (is20 I) (Ev.dt h10)) a9
                        exact fin I a10 run130 w
                      · exact (dead203 x0 x1 x2 x3 B (z0 x0 x1 x2 x3) (z1 x0 x1 x2 x3) (z4 x0 x1 x2 x3) (z5 x0 x1 x2 x3) (z6 x0 x1 x2 x3) (z20 x0 x1 x2 x3) (z14 x0 x1 x2 x3) (z21 x0 x1 x2 x3) (z16 x0 x1 x2 x3) (z22 x0 x1 x2 x3) (z23 x0 x1 x2 x3) (z24 x0 x1 x2 x3) (z9 x0 x1 x2 x3) (z25 x0 x1 x2 x3) (z26 x0 x1 x2 x3) (z27 x0 x1 x2 x3) (z28 x0 x1 x2 x3) (z3 x0 x1 x2 x3) (z29 x0 x1 x2 x3) (z30 x0 x1 x2 x3) (z7 x0 x1 x2 x3) (z31 x0 x1 x2 x3) (z32 x0 x1 x2 x3) (z33 x0 x1 x2 x3) (z34 x0 x1 x2 x3) (z35 x0 x1 x2 x3) (z36 x0 x1 x2 x3) (z37 x0 x1 x2 x3) rfl rfl rfl rfl rfl rfl rfl rfl rfl rfl rfl rfl rfl rfl rfl rfl rfl rfl rfl rfl rfl rfl rfl rfl rfl rfl rfl rfl h0 h1 h2 h3 h4 h5 h6 h7 h8 h9 h10).elim
                    · have a9 := Ev.asOk_cons (Ev.asOk_le (is30 I) (is3 I) (Ev.df h9)) a8
                      by_cases h10 : z21 x0 x1 x2 x3 = z12 x0 x1 x2 x3
                      · exact (dead204 x0 x1 x2 x3 B (z0 x0 x1 x2 x3) (z1 x0 x1 x2 x3) (z4 x0 x1 x2 x3) (z5 x0 x1 x2 x3) (z6 x0 x1 x2 x3) (z20 x0 x1 x2 x3) (z14 x0 x1 x2 x3) (z21 x0 x1 x2 x3) (z16 x0 x1 x2 x3) (z22 x0 x1 x2 x3) (z23 x0 x1 x2 x3) (z24 x0 x1 x2 x3) (z9 x0 x1 x2 x3) (z25 x0 x1 x2 x3) (z26 x0 x1 x2 x3) (z27 x0 x1 x2 x3) (z28 x0 x1 x2 x3) (z3 x0 x1 x2 x3) (z29 x0 x1 x2 x3) (z30 x0 x1 x2 x3) (z12 x0 x1 x2 x3) rfl rfl rfl rfl rfl rfl rfl rfl rfl rfl rfl rfl rfl rfl rfl rfl rfl rfl rfl rfl rfl h0 h1 h2 h3 h4 h5 h6 h7 h8 h9 h10).elim
                      · have a10 := Ev.asOk_cons (Ev.asOk_eq (is21 I) (is12 I) (Ev.df h10)) a9
                        exact fin I a10 run131 w
              · exact (dead205 x0 x1 x2 x3 B (z0 x0 x1 x2 x3) (z1 x0 x1 x2 x3) (z4 x0 x1 x2 x3) (z5 x0 x1 x2 x3) (z6 x0 x1 x2 x3) (z20 x0 x1 x2 x3) (z14 x0 x1 x2 x3) (z21 x0 x1 x2 x3) (z16 x0 x1 x2 x3) (z22 x0 x1 x2 x3) (z23 x0 x1 x2 x3) (z24 x0 x1 x2 x3) (z9 x0 x1 x2 x3) (z25 x0 x1 x2 x3) (z26 x0 x1 x2 x3) (z27 x0 x1 x2 x3) (z28 x0 x1 x2 x3) rfl rfl rfl rfl rfl rfl rfl rfl rfl rfl rfl rfl rfl rfl rfl rfl rfl h0 h1 h2 h3 h4 h5 h6).elim
            · exact (dead206 x0 x1 x2 x3 B (z0 x0 x1 x2 x3) (z1 x0 x1 x2 x3) (z4 x0 x1 x2 x3) (z5 x0 x1 x2 x3) (z6 x0 x1 x2 x3) (z20 x0 x1 x2 x3) (z14 x0 x1 x2 x3) (z21 x0 x1 x2 x3) (z16 x0 x1 x2 x3) (z22 x0 x1 x2 x3) (z23 x0 x1 x2 x3) (z24 x0 x1 x2 x3) (z9 x0 x1 x2 x3) (z25 x0 x1 x2 x3) (z26 x0 x1 x2 x3) (z27 x0 x1 x2 x3) rfl rfl rfl rfl rfl rfl rfl rfl rfl rfl rfl rfl rfl rfl rfl rfl h0 h1 h2 h3 h4 h5).elim
        · have a3 := Ev.asOk_cons (Ev.asOk_eq (is21 I) (is16 I) (Ev.df h3)) a2
          by_cases h4 : z21 x0 x1 x2 x3 = z12 x0 x1 x2 x3
          · have a4 := Ev.asOk_cons (Ev.asOk_eq (is21 I) (is12 I) (Ev.dt h4)) a3
            by_cases h5 : z16 x0 x1 x2 x3 ≤ z25 x0 x1 x2 x3
            · have a5 := Ev.asOk_cons (Ev.asOk_le (is16 I) (is25 I) (Ev.dt h5)) a4
              by_cases h6 : z25 x0 x1 x2 x3 ≤ z18 x0 x1 x2 x3
              · have a6 := Ev.asOk_cons (Ev.asOk_le (is25 I) (is18 I) (Ev.dt h6)) a5
                by_cases h7 : z4 x0 x1 x2 x3 ≤ z38 x0 x1 x2 x3
                · have a7 := Ev.asOk_cons (Ev.asOk_le (is4 I) (is38 I) (Ev.dt h7)) a6
                  by_cases h8 : z38 x0 x1 x2 x3 ≤ z6 x0 x1 x2 x3
                  · have a8 := Ev.asOk_cons (Ev.asOk_le (is38 I) (is6 I) (Ev.dt h8)) a7
                    by_cases h9 : z42 x0 x1 x2 x3 = z20 x0 x1 x2 x3
                    · have a9 := Ev.asOk_cons (Ev.asOk_eq (is42 I) (is20 I) (Ev.dt h9)) a8
                      exact fin I a9 run132 w
                    · exact (dead207 x0 x1 x2 x3 B (z0 x0 x1 x2 x3) (z1 x0 x1 x2 x3) (z4 x0 x1 x2 x3) (z5 x0 x1 x2 x3) (z6 x0 x1 x2 x3) (z20 x0 x1 x2 x3) (z14 x0 x1 x2 x3) (z21 x0 x1 x2 x3) (z16 x0 x1 x2 x3) (z12 x0 x1 x2 x3) (z9 x0 x1 x2 x3) (z25 x0 x1 x2 x3) (z18 x0 x1 x2 x3) (z38 x0 x1 x2 x3) (z7 x0 x1 x2 x3) (z39 x0 x1 x2 x3) (z40 x0 x1 x2 x3) (z41 x0 x1 x2 x3) (z42 x0 x1 x2 x3) rfl rfl rfl rfl rfl rfl rfl rfl rfl rfl rfl rfl rfl rfl rfl rfl rfl rfl rfl h0 h1 h2 h3 h4 h5 h6 h7 h8 h9).elim
                  · exact (dead208 x0 x1 x2 x3 B (z0 x0 x1 x2 x3) (z1 x0 x1 x2 x3) (z4 x0 x1 x2 x3) (z5 x0 x1 x2 x3) (z6 x0 x1 x2 x3) (z20 x0 x1 x2 x3) (z14 x0 x1 x2 x3) (z21 x0 x1 x2 x3) (z16 x0 x1 x2 x3) (z12 x0 x1 x2 x3) (z9 x0 x1 x2 x3) (z25 x0 x1 x2 x3) (z18 x0 x1 x2 x3) (z38 x0 x1 x2 x3) rfl rfl rfl rfl rfl rfl rfl rfl rfl rfl rfl rfl rfl rfl h0 h1 h2 h3 h4 h5 h6 h7 h8).elim
                · exact (dead209 x0 x1 x2 x3 B (z0 x0 x1 x2 x3) (z1 x0 x1 x2 x3) (z4 x0 x1 x2 x3) (z5 x0 x1 x2 x3) (z6 x0 x1 x2 x3) (z20 x0 x1 x2 x3) (z14 x0 x1 x2 x3) (z21 x0 x1 x2 x3) (z16 x0 x1 x2 x3) (z12 x0 x1 x2 x3) (z9 x0 x1 x2 x3) (z25 x0 x1 x2 x3) (z18 x0 x1 x2 x3) (z38 x0 x1 x2 x3) rfl rfl rfl rfl rfl rfl rfl rfl rfl rfl rfl rfl rfl rfl h0 h1 h2 h3 h4 h5 h6 h7).elim
              · have a6 := Ev.asOk_cons (Ev.asOk_le (is25 I) (is18 I) (Ev.df h6)) a5
                exact fin I a6 run133 w
            · have a5 := Ev.asOk_cons (Ev.asOk_le (is16 I) (is25 I) (Ev.df h5)) a4
              exact fin I a5 run134 w
          · have a4 := Ev.asOk_cons (Ev.asOk_eq (is21 I) (is12 I) (Ev.df h4)) a3
            exact fin I a4 run135 w
    · have a1 := Ev.asOk_cons (Ev.asOk_le (is4 I) (is5 I) (Ev.df h1)) a0
      by_cases h2 : z21 x0 x1 x2 x3 = z16 x0 x1 x2 x3
      · have a2 := Ev.asOk_cons (Ev.asOk_eq (is21 I) (is16 I) (Ev.dt h2)) a1
        by_cases h3 : z22 x0 x1 x2 x3 ≤ z24 x0 x1 x2 x3
        · have a3 := Ev.asOk_cons (Ev.asOk_le (is22 I) (is24 I) (Ev.dt h3)) a2
          by_cases h4 : z21 x0 x1 x2 x3 = z12 x0 x1 x2 x3
          · exact (dead210 x0 x1 x2 x3 B (z0 x0 x1 x2 x3) (z1 x0 x1 x2 x3) (z4 x0 x1 x2 x3) (z5 x0 x1 x2 x3) (z20 x0 x1 x2 x3) (z14 x0 x1 x2 x3) (z21 x0 x1 x2 x3) (z16 x0 x1 x2 x3) (z22 x0 x1 x2 x3) (z23 x0 x1 x2 x3) (z24 x0 x1 x2 x3) (z12 x0 x1 x2 x3) rfl rfl rfl rfl rfl rfl rfl rfl rfl rfl rfl rfl h0 h1 h2 h3 h4).elim
          · have a4 := Ev.asOk_cons (Ev.asOk_eq (is21 I) (is12 I) (Ev.df h4)) a3
            exact fin I a4 run136 w
        · have a3 := Ev.asOk_cons (Ev.asOk_le (is22 I) (is24 I) (Ev.df h3)) a2
          by_cases h4 : z0 x0 x1 x2 x3 ≤ z27 x0 x1 x2 x3
          · have a4 := Ev.asOk_cons (Ev.asOk_le (is0 I) (is27 I) (Ev.dt h4)) a3
            by_cases h5 : z0 x0 x1 x2 x3 ≤ z28 x0 x1 x2 x3
            · have a5 := Ev.asOk_cons (Ev.asOk_le (is0 I) (is28 I) (Ev.dt h5)) a4
              by_cases h6 : z3 x0 x1 x2 x3 ≤ z27 x0 x1 x2 x3
              · have a6 := Ev.asOk_cons (Ev.asOk_le (is3 I) (is27 I) (Ev.dt h6)) a5
                by_cases h7 : z21 x0 x1 x2 x3 = z12 x0 x1 x2 x3
                · exact (dead211 x0 x1 x2 x3 B (z0 x0 x1 x2 x3) (z1 x0 x1 x2 x3) (z4 x0 x1 x2 x3) (z5 x0 x1 x2 x3) (z20 x0 x1 x2 x3) (z14 x0 x1 x2 x3) (z21 x0 x1 x2 x3) (z16 x0 x1 x2 x3) (z22 x0 x1 x2 x3) (z23 x0 x1 x2 x3) (z24 x0 x1 x2 x3) (z9 x0 x1 x2 x3) (z25 x0 x1 x2 x3) (z26 x0 x1 x2 x3) (z27 x0 x1 x2 x3) (z28 x0 x1 x2 x3) (z3 x0 x1 x2 x3) (z12 x0 x1 x2 x3) rfl rfl rfl rfl rfl rfl rfl rfl rfl rfl rfl rfl rfl rfl rfl rfl rfl rfl h0 h1 h2 h3 h4 h5 h6 h7).elim
                · have a7 := Ev.asOk_cons (Ev.asOk_eq (is21 I) (is12 I) (Ev.df h7)) a6
                  exact fin I a7 run137 w
              · have a6 := Ev.asOk_cons (Ev.asOk_le (is3 I) (is27 I) (Ev.df h6)) a5
                by_cases h7 : z3 x0 x1 x2 x3 ≤ z28 x0 x1 x2 x3
                · exact (dead212 x0 x1 x2 x3 B (z0 x0 x1 x2 x3) (z1 x0 x1 x2 x3) (z4 x0 x1 x2 x3) (z5 x0 x1 x2 x3) (z20 x0 x1 x2 x3) (z14 x0 x1 x2 x3) (z21 x0 x1 x2 x3) (z16 x0 x1 x2 x3) (z22 x0 x1 x2 x3) (z23 x0 x1 x2 x3) (z24 x0 x1 x2 x3) (z9 x0 x1 x2 x3) (z25 x0 x1 x2 x3) (z26 x0 x1 x2 x3) (z27 x0 x1 x2 x3) (z28 x0 x1 x2 x3) (z3 x0 x1 x2 x3) rfl rfl rfl rfl rfl rfl rfl rfl rfl rfl rfl rfl rfl rfl rfl rfl rfl h0 h1 h2 h3 h4 h5 h6 h7).elim
                · have a7 := Ev.asOk_cons (Ev.asOk_le (is3 I) (is28 I) (Ev.df h7)) a6
                  by_cases h8 : z30 x0 x1 x2 x3 ≤ z3 x0 x1 x2 x3
                  · have a8 := Ev.asOk_cons (Ev.asOk_le (is30 I) (is3 I) (Ev.dt h8)) a7
                    by_cases h9 : z37 x0 x1 x2 x3 = z20 x0 x1 x2 x3
                    · have a9 := Ev.asOk_cons (Ev.asOk_eq (is37 I) (is20 I) (Ev.dt h9)) a8
                      exact fin I a9 run138 w
                    · exact (dead213 x0 x1 x2 x3 B (z0 x0 x1 x2 x3) (z1 x0 x1 x2 x3) (z4 x0 x1 x2 x3) (z5 x0 x1 x2 x3) (z20 x0 x1 x2 x3) (z14 x0 x1 x2 x3) (z21 x0 x1 x2 x3) (z16 x0 x1 x2 x3) (z22 x0 x1 x2 x3) (z23 x0 x1 x2 x3) (z24 x0 x1 x2 x3) (z9 x0 x1 x2 x3) (z25 x0 x1 x2 x3) (z26 x0 x1 x2 x3) (z27 x0 x1 x2 x3) (z28 x0 x1 x2 x3) (z3 x0 x1 x2 x3) (z29 x0 x1 x2 x3) (z30 x0 x1 x2 x3) (z7 x0 x1 x2 x3) (z31 x0 x1 x2 x3) (z32 x0 x1 x2 x3) (z33 x0 x1 x2 x3) (z34 x0 x1 x2 x3) (z35 x0 x1 x2 x3) (z36 x0 x1 x2 x3) (z37 x0 x1 x2 x3) rfl rfl rfl rfl rfl rfl rfl rfl rfl rfl rfl rfl rfl rfl rfl rfl rfl rfl rfl rfl rfl rfl rfl rfl rfl rfl rfl h0 h1 h2 h3 h4 h5 h6 h7 h8 h9).elim
                  · have a8 := Ev.asOk_cons (Ev.asOk_le (is30 I) (is3 I) (Ev.df h8)) a7
                    by_cases h9 : z21 x0 x1 x2 x3 = z12 x0 x1 x2 x3
                    · exact (dead214 x0 x1 x2 x3 B (z0 x0 x1 x2 x3) (z1 x0 x1 x2 x3) (z4 x0 x1 x2 x3) (z5 x0 x1 x2 x3) (z20 x0 x1 x2 x3) (z14 x0 x1 x2 x3) (z21 x0 x1 x2 x3) (z16 x0 x1 x2 x3) (z22 x0 x1 x2 x3) (z23 x0 x1 x2 x3) (z24 x0 x1 x2 x3) (z9 x0 x1 x2 x3) (z25 x0 x1 x2 x3) (z26 x0 x1 x2 x3) (z27 x0 x1 x2 x3) (z28 x0 x1 x2 x3) (z3 x0 x1 x2 x3) (z29 x0 x1 x2 x3) (z30 x0 x1 x2 x3) (z12 x0 x1 x2 x3) rfl rfl rfl rfl rfl rfl rfl rfl rfl rfl rfl rfl rfl rfl rfl rfl rfl rfl rfl rfl h0 h1 h2 h3 h4 h5 h6 h7 h8 h9).elim
                    · have a9 := Ev.asOk_cons (Ev.asOk_eq (is21 I) (is12 I) (Ev.df h9)) a8
                      exact fin I a9 run139 w
            · exact (dead215 x0 x1 x2 x3 B (z0 x0 x1 x2 x3) (z1 x0 x1 x2 x3) (z4 x0 x1 x2 x3) (z5 x0 x1 x2 x3) (z20 x0 x1 x2 x3) (z14 x0 x1 x2 x3) (z21 x0 x1 x2 x3) (z16 x0 x1 x2 x3) (z22 x0 x1 x2 x3) (z23 x0 x1 x2 x3) (z24 x0 x1 x2 x3) (z9 x0 x1 x2 x3) (z25 x0 x1 x2 x3) (z26 x0 x1 x2 x3) (z27 x0 x1 x2 x3) (z28 x0 x1 x2 x3) rfl rfl rfl rfl rfl rfl rfl rfl rfl rfl rfl rfl rfl rfl rfl rfl h0 h1 h2 h3 h4 h5).elim
          · exact (dead216 x0 x1 x2 x3 B (z0 x0 x1 x2 x3) (z1 x0 x1 x2 x3) (z4 x0 x1 x2 x3) (z5 x0 x1 x2 x3) (z20 x0 x1 x2 x3) (z14 x0 x1 x2 x3) (z21 x0 x1 x2 x3) (z16 x0 x1 x2 x3) (z22 x0 x1 x2 x3) (z23 x0 x1 x2 x3) (z24 x0 x1 x2 x3) (z9 x0 x1 x2 x3) (z25 x0 x1 x2 x3) (z26 x0 x1 x2 x3) (z27 x0 x1 x2 x3) rfl rfl rfl rfl rfl rfl rfl rfl rfl rfl rfl rfl rfl rfl rfl h0 h1 h2 h3 h4).elim
      · have a2 := Ev.asOk_cons (Ev.asOk_eq (is21 I) (is16 I) (Ev.df h2)) a1
        by_cases h3 : z21 x0 x1 x2 x3 = z12 x0 x1 x2 x3
        · have a3 := Ev.asOk_cons (Ev.asOk_eq (is21 I) (is12 I) (Ev.dt h3)) a2
          by_cases h4 : z16 x0 x1 x2 x3 ≤ z25 x0 x1 x2 x3
          · have a4 := Ev.asOk_cons (Ev.asOk_le (is16 I) (is25 I) (Ev.dt h4)) a3
            by_cases h5 : z25 x0 x1 x2 x3 ≤ z18 x0 x1 x2 x3
            · have a5 := Ev.asOk_cons (Ev.asOk_le (is25 I) (is18 I) (Ev.dt h5)) a4
              by_cases h6 : z4 x0 x1 x2 x3 ≤ z38 x0 x1 x2 x3
              · have a6 := Ev.asOk_cons (Ev.asOk_le (is4 I) (is38 I) (Ev.dt h6)) a5
                by_cases h7 : z38 x0 x1 x2 x3 ≤ z6 x0 x1 x2 x3
                · have a7 := Ev.asOk_cons (Ev.asOk_le (is38 I) (is6 I) (Ev.dt h7)) a6
                  by_cases h8 : z42 x0 x1 x2 x3 = z20 x0 x1 x2 x3
                  · have a8 := Ev.asOk_cons (Ev.asOk_eq (is42 I) (is20 I) (Ev.dt h8)) a7
                    exact fin I a8 run140 w
                  · exact (dead217 x0 x1 x2 x3 B (z0 x0 x1 x2 x3) (z1 x0 x1 x2 x3) (z4 x0 x1 x2 x3) (z5 x0 x1 x2 x3) (z20 x0 x1 x2 x3) (z14 x0 x1 x2 x3) (z21 x0 x1 x2 x3) (z16 x0 x1 x2 x3) (z12 x0 x1 x2 x3) (z9 x0 x1 x2 x3) (z25 x0 x1 x2 x3) (z18 x0 x1 x2 x3) (z38 x0 x1 x2 x3) (z6 x0 x1 x2 x3) (z7 x0 x1 x2 x3) (z39 x0 x1 x2 x3) (z40 x0 x1 x2 x3) (z41 x0 x1 x2 x3) (z42 x0 x1 x2 x3) rfl rfl rfl rfl rfl rfl rfl rfl rfl rfl rfl rfl rfl rfl rfl rfl rfl rfl rfl h0 h1 h2 h3 h4 h5 h6 h7 h8).elim
                · exact (dead218 x0 x1 x2 x3 B (z0 x0 x1 x2 x3) (z1 x0 x1 x2 x3) (z4 x0 x1 x2 x3) (z5 x0 x1 x2 x3) (z20 x0 x1 x2 x3) (z14 x0 x1 x2 x3) (z21 x0 x1 x2 x3) (z16 x0 x1 x2 x3) (z12 x0 x1 x2 x3) (z9 x0 x1 x2 x3) (z25 x0 x1 x2 x3) (z18 x0 x1 x2 x3) (z38 x0 x1 x2 x3) (z6 x0 x1 x2 x3) rfl rfl rfl rfl rfl rfl rfl rfl rfl rfl rfl rfl rfl rfl h0 h1 h2 h3 h4 h5 h6 h7).elim
              · exact (dead219 x0 x1 x2 x3 B (z0 x0 x1 x2 x3) (z1 x0 x1 x2 x3) (z4 x0 x1 x2 x3) (z5 x0 x1 x2 x3) (z20 x0 x1 x2 x3) (z14 x0 x1 x2 x3) (z21 x0 x1 x2 x3) (z16 x0 x1 x2 x3) (z12 x0 x1 x2 x3) (z9 x0 x1 x2 x3) (z25 x0 x1 x2 x3) (z18 x0 x1 x2 x3) (z38 x0 x1 x2 x3) rfl rfl rfl rfl rfl rfl rfl rfl rfl rfl rfl rfl rfl h0 h1 h2 h3 h4 h5 h6).elim
            · have a5 := Ev.asOk_cons (Ev.asOk_le (is25 I) (is18 I) (Ev.df h5)) a4
              exact fin I a5 run141 w
          · have a4 := Ev.asOk_cons (Ev.asOk_le (is16 I) (is25 I) (Ev.df h4)) a3
            exact fin I a4 run142 w
        · have a3 := Ev.asOk_cons (Ev.asOk_eq (is21 I) (is12 I) (Ev.df h3)) a2
          exact fin I a3 run143 w
end

theorem walk (x0 x1 x2 x3 : Int) (B : Bd x0 x1 x2 x3) (w : World) :
    Calls Try.prog 4 #[.agg #[.int .i64 x0, .int .i64 x1], .int .i64 x2, .int .u64 x3] w fun e w' => e = .returned (.bool true) ∧ Below w.heap.size w w' := by
  letI : Inhabited Ev.Val := ⟨⟨fun j => match j with | 0 => .int .i64 x0 | 1 => .int .i64 x1 | 2 => .int .i64 x2 | 3 => .int .u64 x3 | _ => .nilIface⟩⟩
  have I : In x0 x1 x2 x3 := ⟨⟨1, rfl⟩, ⟨1, rfl⟩, ⟨1, rfl⟩, ⟨1, rfl⟩⟩
  exact main I B w

theorem own : ownKnob Try.prog.godebug = none := by kernel_rfl
theorem cells30 : Try.prog.cellsOf 30 = 2 := by kernel_rfl

set_option maxRecDepth 100000 in
theorem lifted (os : Os) (started : os.Started) (H : Type) (enc : TypeId × Value → H) :
    ReturnsInHanded {} Try.checked os 4 .any (Rows.headerBackSpec.pre6 enc Try.prog Try.f4 Rows.headerBackRow.domain false) (Rows.headerBackSpec.post enc Try.prog Try.f4 false true false false) := by
  refine returnsInHanded_of_change (C := Try.checked) own started (by kernel_rfl) Try.func4
    (ChangeSpec.witness6 (enc := enc) (C := Try.checked) false ⟨#[], #[.agg #[.int .i64 0, .int .i64 0], .int .i64 0, .int .u64 0], []⟩ 8 (by kernel_rfl) (by kernel_rfl) (by kernel_rfl) (by kernel_rfl)) ?_
  intro W base args ds gs before hval0 hW hcnd _
  have hval : ∀ (j : Nat) t v, Try.f4.params[j]? = some t → args[j]? = some v → Value.okWide Try.prog W .any base t v := hval0
  have hW' := hW
  obtain ⟨p, q, hA0, hV, rfl, hfz, hnd⟩ := hW
  have hA : DataW.TrodAll enc Try.prog W 0 (fun _ => true) true Try.f4.params.toList args.toList ds p := hA0
  rw [Try.params4] at hA hval
  obtain ⟨rfl, rfl⟩ := trodVars_none hV
  simp only [List.append_nil] at hW'
  obtain ⟨v0, vs0, d0, ds0, p0, q0, hv0, rfl, rfl, t0, hA0⟩ := trodAll_cons hA
  obtain ⟨v1, vs1, d1, ds1, p1, q1, hv1, rfl, rfl, t1, hA1⟩ := trodAll_cons hA0
  obtain ⟨v2, vs2, d2, ds2, p2, q2, hv2, rfl, rfl, t2, hA2⟩ := trodAll_cons hA1
  obtain ⟨rfl, rfl, rfl⟩ := trodAll_nil hA2
  obtain rfl : args = #[v0, v1, v2] := by
    apply Array.ext'
    rw [hv0]
    rw [hv1]
    rw [hv2]
  clear hv0 hv1 hv2
  obtain ⟨c0a, c0b, y0a, y0b, m0, rfl, hd0, hp0, hy0a, hy0b⟩ := open_agg2 Try.underlying30 (by kernel_rfl) cells30 (hval 0 30 v0 rfl rfl) t0
  obtain ⟨x0, e0a, r0a, wa0⟩ := DataW.trod_int Try.underlying3 hy0a
  obtain ⟨x1, e0b, r0b, wa1⟩ := DataW.trod_int Try.underlying3 hy0b
  simp at e0a e0b r0a r0b
  subst e0a e0b
  obtain ⟨x2, rfl, hd1, hp1, wa2⟩ := open_int Try.underlying3 (hval 1 3 v1 rfl rfl) t1
  obtain ⟨x3, rfl, hd2, hp2, wa3⟩ := open_int Try.underlying22 (hval 2 22 v2 rfl rfl) t2
  refine (walk x0 x1 x2 x3 ⟨(Frm.i64wf wa0).1, (Frm.i64wf wa0).2, (Frm.i64wf wa1).1, (Frm.i64wf wa1).2, (Frm.i64wf wa2).1, (Frm.i64wf wa2).2, (Frm.u64wf wa3).1, (Frm.u64wf wa3).2⟩ W).mono fun e W' ⟨he, hg⟩ => ?_
  subst he
  exact ⟨_, rfl, Frm.post_true (by kernel_rfl) (by kernel_rfl) rfl rfl Try.underlying4 hW' hg rfl⟩

theorem over : Rows.headerBackRow.holds Try.pinned (OpenSpec.ofChange Rows.headerBackSpec) :=
  OpenClaim.holds_of_wide 4 Try.f4 rfl rfl rfl rfl rfl rfl rfl ⟨rfl, rfl, rfl, rfl, rfl⟩ rfl rfl rfl rfl rfl (by kernel_rfl) Try.func4 (by kernel_rfl)
    (of_decide_eq_true (by kernel_rfl)) (by unfold Func.isWrapper; first | (rw [if_pos (by decide +kernel)]; kernel_rfl) | (rw [if_neg (by decide +kernel)]; exact ⟨rfl, rfl⟩))
    (fun os started H enc _ => lifted os started H enc)

theorem proved : Rows.HeaderBackSaid := over
#print axioms proved
end Go.Proofs.Ytknifojinmnkfaa.headerBack
