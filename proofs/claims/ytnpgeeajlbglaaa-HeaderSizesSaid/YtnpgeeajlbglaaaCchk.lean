/-
  'shunterconfig.Cchk' returns true for every input: the evaluator goes through its text with the numbers left open; each comparison parts the ways. CONDITIONS: none but those of the row.
-/
import Derived.Test.YtnpgeeajlbglaaaCchk1
import Derived.Test.YtnpgeeajlbglaaaCchk2
import Derived.Lib.SmallJoins
namespace Go.Proofs.Ytnpgeeajlbglaaa.cchk
open Go.ChangeShapes Go.WideShapes Go.ChangeAt Go.RowKit Go.Joins

section
variable [Inhabited Ev.Val]
theorem agg2 {S : Ev.Sig} {l l' : List Value} (h : Ev.LR S l l') : Ev.VR S (.agg ⟨l⟩) (.agg ⟨l'⟩) := .agg h.1 h.2
theorem fin {x0 x1 x2 x3 x4 : Int} (I : In x0 x1 x2 x3 x4) {A : List Ev.As} {v v' : Value} (hA : ∀ a ∈ A, Ev.AsOk a) (hr : Ev.runV ⟨Try.prog, Ev.mkTT Try.prog, Ev.mkFT Try.prog, A, Qs, Cs, none⟩ 100000 78 [.agg ⟨[Ev.inp .i64 0, Ev.inp .i64 1, Ev.inp .i64 2, Ev.inp .i64 3, Ev.inp .i64 4]⟩] = some v) (hv : ∀ S u, Ev.VR S v u → u = v') (w : World) :
    Calls Try.prog 78 #[.agg #[.int .i64 x0, .int .i64 x1, .int .i64 x2, .int .i64 x3, .int .i64 x4]] w fun e w' => e = .returned v' ∧ Below w.heap.size w w' :=
  (Ev.run_val (Ev.envOkA Try.prog A Qs Cs hA qs cs) mixed hr (.cons (agg2 (.cons (.sym I.i0) (.cons (.sym I.i1) (.cons (.sym I.i2) (.cons (.sym I.i3) (.cons (.sym I.i4) .nil)))))) .nil) w).mono fun _ _ ⟨⟨S, u, he, hu⟩, hb⟩ => ⟨hv S u hu ▸ he, hb⟩

set_option maxRecDepth 100000 in
set_option maxHeartbeats 4000000 in
theorem main {x0 x1 x2 x3 x4 : Int} (I : In x0 x1 x2 x3 x4) (_B : Bd x0 x1 x2 x3 x4) (w : World) :
    Calls Try.prog 78 #[.agg #[.int .i64 x0, .int .i64 x1, .int .i64 x2, .int .i64 x3, .int .i64 x4]] w fun e w' => e = .returned (.int .i64 (r0 x0 x1 x2 x3 x4)) ∧ Below w.heap.size w w' := by
  by_cases h0 : z4 x0 x1 x2 x3 x4 = z0 x0 x1 x2 x3 x4
  · have a0 := Ev.asOk_cons (Ev.asOk_eq (is4 I) (is0 I) (Ev.dt h0)) Ev.asOk_nil
    by_cases h1 : z9 x0 x1 x2 x3 x4 = z5 x0 x1 x2 x3 x4
    · have a1 := Ev.asOk_cons (Ev.asOk_eq (is9 I) (is5 I) (Ev.dt h1)) a0
      by_cases h2 : z13 x0 x1 x2 x3 x4 = z10 x0 x1 x2 x3 x4
      · have a2 := Ev.asOk_cons (Ev.asOk_eq (is13 I) (is10 I) (Ev.dt h2)) a1
        by_cases h3 : z17 x0 x1 x2 x3 x4 = z14 x0 x1 x2 x3 x4
        · have a3 := Ev.asOk_cons (Ev.asOk_eq (is17 I) (is14 I) (Ev.dt h3)) a2
          by_cases h4 : z22 x0 x1 x2 x3 x4 = z18 x0 x1 x2 x3 x4
          · have a4 := Ev.asOk_cons (Ev.asOk_eq (is22 I) (is18 I) (Ev.dt h4)) a3
            exact fin I a4 run0 (fun _ _ hu => Ev.inv1 hu (is23 I) (by unfold r0; rw [if_pos h0, if_pos h1, if_pos h2, if_pos h3, if_pos h4])) w
          · have a4 := Ev.asOk_cons (Ev.asOk_eq (is22 I) (is18 I) (Ev.df h4)) a3
            exact fin I a4 run1 (fun _ _ hu => Ev.inv1 hu (is6 I) (by unfold r0; rw [if_pos h0, if_pos h1, if_pos h2, if_pos h3, if_neg h4])) w
        · have a3 := Ev.asOk_cons (Ev.asOk_eq (is17 I) (is14 I) (Ev.df h3)) a2
          by_cases h4 : z22 x0 x1 x2 x3 x4 = z18 x0 x1 x2 x3 x4
          · have a4 := Ev.asOk_cons (Ev.asOk_eq (is22 I) (is18 I) (Ev.dt h4)) a3
            exact fin I a4 run2 (fun _ _ hu => Ev.inv1 hu (is6 I) (by unfold r0; rw [if_pos h0, if_pos h1, if_pos h2, if_neg h3, if_pos h4])) w
          · have a4 := Ev.asOk_cons (Ev.asOk_eq (is22 I) (is18 I) (Ev.df h4)) a3
            exact fin I a4 run3 (fun _ _ hu => Ev.inv1 hu (is6 I) (by unfold r0; rw [if_pos h0, if_pos h1, if_pos h2, if_neg h3, if_neg h4])) w
      · have a2 := Ev.asOk_cons (Ev.asOk_eq (is13 I) (is10 I) (Ev.df h2)) a1
        by_cases h3 : z17 x0 x1 x2 x3 x4 = z14 x0 x1 x2 x3 x4
        · have a3 := Ev.asOk_cons (Ev.asOk_eq (is17 I) (is14 I) (Ev.dt h3)) a2
          by_cases h4 : z22 x0 x1 x2 x3 x4 = z18 x0 x1 x2 x3 x4
          · have a4 := Ev.asOk_cons (Ev.asOk_eq (is22 I) (is18 I) (Ev.dt h4)) a3
            exact fin I a4 run4 (fun _ _ hu => Ev.inv1 hu (is6 I) (by unfold r0; rw [if_pos h0, if_pos h1, if_neg h2, if_pos h3, if_pos h4])) w
          · have a4 := Ev.asOk_cons (Ev.asOk_eq (is22 I) (is18 I) (Ev.df h4)) a3
            exact fin I a4 run5 (fun _ _ hu => Ev.inv1 hu (is6 I) (by unfold r0; rw [if_pos h0, if_pos h1, if_neg h2, if_pos h3, if_neg h4])) w
        · have a3 := Ev.asOk_cons (Ev.asOk_eq (is17 I) (is14 I) (Ev.df h3)) a2
          by_cases h4 : z22 x0 x1 x2 x3 x4 = z18 x0 x1 x2 x3 x4
          · have a4 := Ev.asOk_cons (Ev.asOk_eq (is22 I) (is18 I) (Ev.dt h4)) a3
            exact fin I a4 run6 (fun _ _ hu => Ev.inv1 hu (is6 I) (by unfold r0; rw [if_pos h0, if_pos h1, if_neg h2, if_neg h3, if_pos h4])) w
          · have a4 := Ev.asOk_cons (Ev.asOk_eq (is22 I) (is18 I) (Ev.df h4)) a3
            exact fin I a4 run7 (fun _ _ hu => Ev.inv1 hu (is6 I) (by unfold r0; rw [if_pos h0, if_pos h1, if_neg h2, if_neg h3, if_neg h4])) w
    · have a1 := Ev.asOk_cons (Ev.asOk_eq (is9 I) (is5 I) (Ev.df h1)) a0
      by_cases h2 : z13 x0 x1 x2 x3 x4 = z10 x0 x1 x2 x3 x4
      · have a2 := Ev.asOk_cons (Ev.asOk_eq (is13 I) (is10 I) (Ev.dt h2)) a1
        by_cases h3 : z17 x0 x1 x2 x3 x4 = z14 x0 x1 x2 x3 x4
        · have a3 := Ev.asOk_cons (Ev.asOk_eq (is17 I) (is14 I) (Ev.dt h3)) a2
          by_cases h4 : z22 x0 x1 x2 x3 x4 = z18 x0 x1 x2 x3 x4
          · have a4 := Ev.asOk_cons (Ev.asOk_eq (is22 I) (is18 I) (Ev.dt h4)) a3
            exact fin I a4 run8 (fun _ _ hu => Ev.inv1 hu (is6 I) (by unfold r0; rw [if_pos h0, if_neg h1, if_pos h2, if_pos h3, if_pos h4])) w
          · have a4 := Ev.asOk_cons (Ev.asOk_eq (is22 I) (is18 I) (Ev.df h4)) a3
            exact fin I a4 run9 (fun _ _ hu => Ev.inv1 hu (is6 I) (by unfold r0; rw [if_pos h0, if_neg h1, if_pos h2, if_pos h3, if_neg h4])) w
        · have a3 := Ev.asOk_cons (Ev.asOk_eq (is17 I) (is14 I) (Ev.df h3)) a2
          by_cases h4 : z22 x0 x1 x2 x3 x4 = z18 x0 x1 x2 x3 x4
          · have a4 := Ev.asOk_cons (Ev.asOk_eq (is22 I) (is18 I) (Ev.dt h4)) a3
            exact fin I a4 run10 (fun _ _ hu => Ev.inv1 hu (is6 I) (by unfold r0; rw [if_pos h0, if_neg h1, if_pos h2, if_neg h3, if_pos h4])) w
          · have a4 := Ev.asOk_cons (Ev.asOk_eq (is22 I) (is18 I) (Ev.df h4)) a3
            exact fin I a4 run11 (fun _ _ hu => Ev.inv1 hu (is6 I) (by unfold r0; rw [if_pos h0, if_neg h1, if_pos h2, if_neg h3, if_neg h4])) w
      · have a2 := Ev.asOk_cons (Ev.asOk_eq (is13 I) (is10 I) (Ev.df h2)) a1
        by_cases h3 : z17 x0 x1 x2 x3 x4 = z14 x0 x1 x2 x3 x4
        · have a3 := Ev.asOk_cons (Ev.asOk_eq (is17 I) (is14 I) (Ev.dt h3)) a2
          by_cases h4 : z22 x0 x1 x2 x3 x4 = z18 x0 x1 x2 x3 x4
          · have a4 := Ev.asOk_cons (Ev.asOk_eq (is22 I) (is18 I) (Ev.dt h4)) a3
            exact fin I a4 run12 (fun _ _ hu => Ev.inv1 hu (is6 I) (by unfold r0; rw [if_pos h0, if_neg h1, if_neg h2, if_pos h3, if_pos h4])) w
          · have a4 := Ev.asOk_cons (Ev.asOk_eq (is22 I) (is18 I) (Ev.df h4)) a3
            exact fin I a4 run13 (fun _ _ hu => Ev.inv1 hu (is6 I) (by unfold r0; rw [if_pos h0, if_neg h1, if_neg h2, if_pos h3, if_neg h4])) w
        · have a3 := Ev.asOk_cons (Ev.asOk_eq (is17 I) (is14 I) (Ev.df h3)) a2
          by_cases h4 : z22 x0 x1 x2 x3 x4 = z18 x0 x1 x2 x3 x4
          · have a4 := Ev.asOk_cons (Ev.asOk_eq (is22 I) (is18 I) (Ev.dt h4)) a3
            exact fin I a4 run14 (fun _ _ hu => Ev.inv1 hu (is6 I) (by unfold r0; rw [if_pos h0, if_neg h1, if_neg h2, if_neg h3, if_pos h4])) w
          · have a4 := Ev.asOk_cons (Ev.asOk_eq (is22 I) (is18 I) (Ev.df h4)) a3
            exact fin I a4 run15 (fun _ _ hu => Ev.inv1 hu (is6 I) (by unfold r0; rw [if_pos h0, if_neg h1, if_neg h2, if_neg h3, if_neg h4])) w
  · have a0 := Ev.asOk_cons (Ev.asOk_eq (is4 I) (is0 I) (Ev.df h0)) Ev.asOk_nil
    by_cases h1 : z9 x0 x1 x2 x3 x4 = z5 x0 x1 x2 x3 x4
    · have a1 := Ev.asOk_cons (Ev.asOk_eq (is9 I) (is5 I) (Ev.dt h1)) a0
      by_cases h2 : z13 x0 x1 x2 x3 x4 = z10 x0 x1 x2 x3 x4
      · have a2 := Ev.asOk_cons (Ev.asOk_eq (is13 I) (is10 I) (Ev.dt h2)) a1
        by_cases h3 : z17 x0 x1 x2 x3 x4 = z14 x0 x1 x2 x3 x4
        · have a3 := Ev.asOk_cons (Ev.asOk_eq (is17 I) (is14 I) (Ev.dt h3)) a2
          by_cases h4 : z22 x0 x1 x2 x3 x4 = z18 x0 x1 x2 x3 x4
          · have a4 := Ev.asOk_cons (Ev.asOk_eq (is22 I) (is18 I) (Ev.dt h4)) a3
            exact fin I a4 run16 (fun _ _ hu => Ev.inv1 hu (is6 I) (by unfold r0; rw [if_neg h0, if_pos h1, if_pos h2, if_pos h3, if_pos h4])) w
          · have a4 := Ev.asOk_cons (Ev.asOk_eq (is22 I) (is18 I) (Ev.df h4)) a3
            exact fin I a4 run17 (fun _ _ hu => Ev.inv1 hu (is6 I) (by unfold r0; rw [if_neg h0, if_pos h1, if_pos h2, if_pos h3, if_neg h4])) w
        · have a3 := Ev.asOk_cons (Ev.asOk_eq (is17 I) (is14 I) (Ev.df h3)) a2
          by_cases h4 : z22 x0 x1 x2 x3 x4 = z18 x0 x1 x2 x3 x4
          · have a4 := Ev.asOk_cons (Ev.asOk_eq (is22 I) (is18 I) (Ev.dt h4)) a3
            exact fin I a4 run18 (fun _ _ hu => Ev.inv1 hu (is6 I) (by unfold r0; rw [if_neg h0, if_pos h1, if_pos h2, if_neg h3, if_pos h4])) w
          · have a4 := Ev.asOk_cons (Ev.asOk_eq (is22 I) (is18 I) (Ev.df h4)) a3
            exact fin I a4 run19 (fun _ _ hu => Ev.inv1 hu (is6 I) (by unfold r0; rw [if_neg h0, if_pos h1, if_pos h2, if_neg h3, if_neg h4])) w
      · have a2 := Ev.asOk_cons (Ev.asOk_eq (is13 I) (is10 I) (Ev.df h2)) a1
        by_cases h3 : z17 x0 x1 x2 x3 x4 = z14 x0 x1 x2 x3 x4
        · have a3 := Ev.asOk_cons (Ev.asOk_eq (is17 I) (is14 I) (Ev.dt h3)) a2
          by_cases h4 : z22 x0 x1 x2 x3 x4 = z18 x0 x1 x2 x3 x4
          · have a4 := Ev.asOk_cons (Ev.asOk_eq (is22 I) (is18 I) (Ev.dt h4)) a3
            exact fin I a4 run20 (fun _ _ hu => Ev.inv1 hu (is6 I) (by unfold r0; rw [if_neg h0, if_pos h1, if_neg h2, if_pos h3, if_pos h4])) w
          · have a4 := Ev.asOk_cons (Ev.asOk_eq (is22 I) (is18 I) (Ev.df h4)) a3
            exact fin I a4 run21 (fun _ _ hu => Ev.inv1 hu (is6 I) (by unfold r0; rw [if_neg h0, if_pos h1, if_neg h2, if_pos h3, if_neg h4])) w
        · have a3 := Ev.asOk_cons (Ev.asOk_eq (is17 I) (is14 I) (Ev.df h3)) a2
          by_cases h4 : z22 x0 x1 x2 x3 x4 = z18 x0 x1 x2 x3 x4
          · have a4 := Ev.asOk_cons (Ev.asOk_eq (is22 I) (is18 I) (Ev.dt h4)) a3
            exact fin I a4 run22 (fun _ _ hu => Ev.inv1 hu (is6 I) (by unfold r0; rw [if_neg h0, if_pos h1, if_neg h2, if_neg h3, if_pos h4])) w
          · have a4 := Ev.asOk_cons (Ev.asOk_eq (is22 I) (is18 I) (Ev.df h4)) a3
            exact fin I a4 run23 (fun _ _ hu => Ev.inv1 hu (is6 I) (by unfold r0; rw [if_neg h0, if_pos h1, if_neg h2, if_neg h3, if_neg h4])) w
    · have a1 := Ev.asOk_cons (Ev.asOk_eq (is9 I) (is5 I) (Ev.df h1)) a0
      by_cases h2 : z13 x0 x1 x2 x3 x4 = z10 x0 x1 x2 x3 x4
      · have a2 := Ev.asOk_cons (Ev.asOk_eq (is13 I) (is10 I) (Ev.dt h2)) a1
        by_cases h3 : z17 x0 x1 x2 x3 x4 = z14 x0 x1 x2 x3 x4
        · have a3 := Ev.asOk_cons (Ev.asOk_eq (is17 I) (is14 I) (Ev.dt h3)) a2
          by_cases h4 : z22 x0 x1 x2 x3 x4 = z18 x0 x1 x2 x3 x4
          · have a4 := Ev.asOk_cons (Ev.asOk_eq (is22 I) (is18 I) (Ev.dt h4)) a3
            exact fin I a4 run24 (fun _ _ hu => Ev.inv1 hu (is6 I) (by unfold r0; rw [if_neg h0, if_neg h1, if_pos h2, if_pos h3, if_pos h4])) w
          · have a4 := Ev.asOk_cons (Ev.asOk_eq (is22 I) (is18 I) (Ev.df h4)) a3
            exact fin I a4 run25 (fun _ _ hu => Ev.inv1 hu (is6 I) (by unfold r0; rw [if_neg h0, if_neg h1, if_pos h2, if_pos h3, if_neg h4])) w
        · have a3 := Ev.asOk_cons (Ev.asOk_eq (is17 I) (is14 I) (Ev.df h3)) a2
          by_cases h4 : z22 x0 x1 x2 x3 x4 = z18 x0 x1 x2 x3 x4
          · have a4 := Ev.asOk_cons (Ev.asOk_eq (is22 I) (is18 I) (Ev.dt h4)) a3
            exact fin I a4 run26 (fun _ _ hu => Ev.inv1 hu (is6 I) (by unfold r0; rw [if_neg h0, if_neg h1, if_pos h2, if_neg h3, if_pos h4])) w
          · have a4 := Ev.asOk_cons (Ev.asOk_eq (is22 I) (is18 I) (Ev.df h4)) a3
            exact fin I a4 run27 (fun _ _ hu => Ev.inv1 hu (is6 I) (by unfold r0; rw [if_neg h0, if_neg h1, if_pos h2, if_neg h3, if_neg h4])) w
      · have a2 := Ev.asOk_cons (Ev.asOk_eq (is13 I) (is10 I) (Ev.df h2)) a1
        by_cases h3 : z17 x0 x1 x2 x3 x4 = z14 x0 x1 x2 x3 x4
        · have a3 := Ev.asOk_cons (Ev.asOk_eq (is17 I) (is14 I) (Ev.dt h3)) a2
          by_cases h4 : z22 x0 x1 x2 x3 x4 = z18 x0 x1 x2 x3 x4
          · have a4 := Ev.asOk_cons (Ev.asOk_eq (is22 I) (is18 I) (Ev.dt h4)) a3
            exact fin I a4 run28 (fun _ _ hu => Ev.inv1 hu (is6 I) (by unfold r0; rw [if_neg h0, if_neg h1, if_neg h2, if_pos h3, if_pos h4])) w
          · have a4 := Ev.asOk_cons (Ev.asOk_eq (is22 I) (is18 I) (Ev.df h4)) a3
            exact fin I a4 run29 (fun _ _ hu => Ev.inv1 hu (is6 I) (by unfold r0; rw [if_neg h0, if_neg h1, if_neg h2, if_pos h3, if_neg h4])) w
        · have a3 := Ev.asOk_cons (Ev.asOk_eq (is17 I) (is14 I) (Ev.df h3)) a2
          by_cases h4 : z22 x0 x1 x2 x3 x4 = z18 x0 x1 x2 x3 x4
          · have a4 := Ev.asOk_cons (Ev.asOk_eq (is22 I) (is18 I) (Ev.dt h4)) a3
            exact fin I a4 run30 (fun _ _ hu => Ev.inv1 hu (is6 I) (by unfold r0; rw [if_neg h0, if_neg h1, if_neg h2, if_neg h3, if_pos h4])) w
          · have a4 := Ev.asOk_cons (Ev.asOk_eq (is22 I) (is18 I) (Ev.df h4)) a3
            exact fin I a4 run31 (fun _ _ hu => Ev.inv1 hu (is6 I) (by unfold r0; rw [if_neg h0, if_neg h1, if_neg h2, if_neg h3, if_neg h4])) w
end

theorem own : ownKnob Try.prog.godebug = none := by kernel_rfl
end Go.Proofs.Ytnpgeeajlbglaaa.cchk
