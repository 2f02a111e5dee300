/-
  'shunterlaw04.CKind' returns true for every input: the evaluator goes through its text with the numbers left open; each comparison parts the ways. CONDITIONS: none but those of the row.
-/
import Derived.Test.YtknifojinmnkfaaCKind1
import Derived.Test.YtknifojinmnkfaaCKind2
import Derived.Test.YtknifojinmnkfaaCKind3
import Derived.Lib.SmallJoins
namespace Go.Proofs.Ytknifojinmnkfaa.cKind
open Go.ChangeShapes Go.WideShapes Go.ChangeAt Go.RowKit Go.Joins

section
variable [Inhabited Ev.Val]
theorem agg2 {S : Ev.Sig} {l l' : List Value} (h : Ev.LR S l l') : Ev.VR S (.agg ⟨l⟩) (.agg ⟨l'⟩) := .agg h.1 h.2
theorem fin {x0 : Int} (I : In x0) {A : List Ev.As} {v v' : Value} (hA : ∀ a ∈ A, Ev.AsOk a) (hr : Ev.runV ⟨Try.prog, Ev.mkTT Try.prog, Ev.mkFT Try.prog, A, Qs, Cs⟩ 100000 19 [Ev.inp .u64 0] = some v) (hv : ∀ S u, Ev.VR S v u → u = v') (w : World) :
    Calls Try.prog 19 #[.int .u64 x0] w fun e w' => e = .returned v' ∧ Below w.heap.size w w' :=
  (Ev.run_val (Ev.envOkA Try.prog A Qs Cs hA qs cs) mixed hr (.cons (.sym I.i0) .nil) w).mono fun _ _ ⟨⟨S, u, he, hu⟩, hb⟩ => ⟨hv S u hu ▸ he, hb⟩

set_option maxRecDepth 100000 in
set_option maxHeartbeats 4000000 in
theorem main {x0 : Int} (I : In x0) (B : Bd x0) (w : World) :
    Calls Try.prog 19 #[.int .u64 x0] w fun e w' => e = .returned (.int .i64 (r0 x0)) ∧ Below w.heap.size w w' := by
  by_cases h0 : z2 x0 = z3 x0
  · have a0 := Ev.asOk_cons (Ev.asOk_eq (is2 I) (is3 I) (Ev.dt h0)) Ev.asOk_nil
    by_cases h1 : z4 x0 ≤ z6 x0
    · have a1 := Ev.asOk_cons (Ev.asOk_le (is4 I) (is6 I) (Ev.dt h1)) a0
      by_cases h2 : z2 x0 = z7 x0
      · exact (dead0 x0 B (z0 x0) (z1 x0) (z2 x0) (z3 x0) (z4 x0) (z5 x0) (z6 x0) (z7 x0) rfl rfl rfl rfl rfl rfl rfl rfl h0 h1 h2).elim
      · have a2 := Ev.asOk_cons (Ev.asOk_eq (is2 I) (is7 I) (Ev.df h2)) a1
        exact fin I a2 run0 (fun _ _ hu => Ev.inv1 hu (is8 I) (by unfold r0; rw [if_pos h0, if_pos h1, if_neg h2])) w
    · have a1 := Ev.asOk_cons (Ev.asOk_le (is4 I) (is6 I) (Ev.df h1)) a0
      by_cases h2 : z8 x0 ≤ z12 x0
      · have a2 := Ev.asOk_cons (Ev.asOk_le (is8 I) (is12 I) (Ev.dt h2)) a1
        by_cases h3 : z8 x0 ≤ z13 x0
        · have a3 := Ev.asOk_cons (Ev.asOk_le (is8 I) (is13 I) (Ev.dt h3)) a2
          by_cases h4 : z14 x0 ≤ z12 x0
          · have a4 := Ev.asOk_cons (Ev.asOk_le (is14 I) (is12 I) (Ev.dt h4)) a3
            by_cases h5 : z2 x0 = z7 x0
            · exact (dead1 x0 B (z0 x0) (z1 x0) (z2 x0) (z3 x0) (z4 x0) (z5 x0) (z6 x0) (z8 x0) (z9 x0) (z10 x0) (z11 x0) (z12 x0) (z13 x0) (z14 x0) (z7 x0) rfl rfl rfl rfl rfl rfl rfl rfl rfl rfl rfl rfl rfl rfl rfl h0 h1 h2 h3 h4 h5).elim
            · have a5 := Ev.asOk_cons (Ev.asOk_eq (is2 I) (is7 I) (Ev.df h5)) a4
              exact fin I a5 run1 (fun _ _ hu => Ev.inv1 hu (is8 I) (by unfold r0; rw [if_pos h0, if_neg h1, if_pos h2, if_pos h3, if_pos h4, if_neg h5])) w
          · have a4 := Ev.asOk_cons (Ev.asOk_le (is14 I) (is12 I) (Ev.df h4)) a3
            by_cases h5 : z14 x0 ≤ z13 x0
            · exact (dead2 x0 B (z0 x0) (z1 x0) (z2 x0) (z3 x0) (z4 x0) (z5 x0) (z6 x0) (z8 x0) (z9 x0) (z10 x0) (z11 x0) (z12 x0) (z13 x0) (z14 x0) rfl rfl rfl rfl rfl rfl rfl rfl rfl rfl rfl rfl rfl rfl h0 h1 h2 h3 h4 h5).elim
            · have a5 := Ev.asOk_cons (Ev.asOk_le (is14 I) (is13 I) (Ev.df h5)) a4
              by_cases h6 : z17 x0 ≤ z14 x0
              · have a6 := Ev.asOk_cons (Ev.asOk_le (is17 I) (is14 I) (Ev.dt h6)) a5
                exact fin I a6 run2 (fun _ _ hu => Ev.inv1 hu (is15 I) (by unfold r0; rw [if_pos h0, if_neg h1, if_pos h2, if_pos h3, if_neg h4, if_neg h5, if_pos h6])) w
              · have a6 := Ev.asOk_cons (Ev.asOk_le (is17 I) (is14 I) (Ev.df h6)) a5
                by_cases h7 : z2 x0 = z7 x0
                · exact (dead3 x0 B (z0 x0) (z1 x0) (z2 x0) (z3 x0) (z4 x0) (z5 x0) (z6 x0) (z8 x0) (z9 x0) (z10 x0) (z11 x0) (z12 x0) (z13 x0) (z14 x0) (z15 x0) (z16 x0) (z17 x0) (z7 x0) rfl rfl rfl rfl rfl rfl rfl rfl rfl rfl rfl rfl rfl rfl rfl rfl rfl rfl h0 h1 h2 h3 h4 h5 h6 h7).elim
                · have a7 := Ev.asOk_cons (Ev.asOk_eq (is2 I) (is7 I) (Ev.df h7)) a6
                  exact fin I a7 run3 (fun _ _ hu => Ev.inv1 hu (is8 I) (by unfold r0; rw [if_pos h0, if_neg h1, if_pos h2, if_pos h3, if_neg h4, if_neg h5, if_neg h6, if_neg h7])) w
        · exact (dead4 x0 B (z0 x0) (z1 x0) (z2 x0) (z3 x0) (z4 x0) (z5 x0) (z6 x0) (z8 x0) (z9 x0) (z10 x0) (z11 x0) (z12 x0) (z13 x0) rfl rfl rfl rfl rfl rfl rfl rfl rfl rfl rfl rfl rfl h0 h1 h2 h3).elim
      · exact (dead5 x0 B (z0 x0) (z1 x0) (z2 x0) (z3 x0) (z4 x0) (z5 x0) (z6 x0) (z8 x0) (z9 x0) (z10 x0) (z11 x0) (z12 x0) rfl rfl rfl rfl rfl rfl rfl rfl rfl rfl rfl rfl h0 h1 h2).elim
  · have a0 := Ev.asOk_cons (Ev.asOk_eq (is2 I) (is3 I) (Ev.df h0)) Ev.asOk_nil
    by_cases h1 : z2 x0 = z7 x0
    · have a1 := Ev.asOk_cons (Ev.asOk_eq (is2 I) (is7 I) (Ev.dt h1)) a0
      by_cases h2 : z3 x0 ≤ z10 x0
      · have a2 := Ev.asOk_cons (Ev.asOk_le (is3 I) (is10 I) (Ev.dt h2)) a1
        by_cases h3 : z10 x0 ≤ z18 x0
        · have a3 := Ev.asOk_cons (Ev.asOk_le (is10 I) (is18 I) (Ev.dt h3)) a2
          exact fin I a3 run4 (fun _ _ hu => Ev.inv1 hu (is19 I) (by unfold r0; rw [if_neg h0, if_pos h1, if_pos h2, if_pos h3])) w
        · have a3 := Ev.asOk_cons (Ev.asOk_le (is10 I) (is18 I) (Ev.df h3)) a2
          exact fin I a3 run5 (fun _ _ hu => Ev.inv1 hu (is8 I) (by unfold r0; rw [if_neg h0, if_pos h1, if_pos h2, if_neg h3])) w
      · have a2 := Ev.asOk_cons (Ev.asOk_le (is3 I) (is10 I) (Ev.df h2)) a1
        exact fin I a2 run6 (fun _ _ hu => Ev.inv1 hu (is8 I) (by unfold r0; rw [if_neg h0, if_pos h1, if_neg h2])) w
    · have a1 := Ev.asOk_cons (Ev.asOk_eq (is2 I) (is7 I) (Ev.df h1)) a0
      exact fin I a1 run7 (fun _ _ hu => Ev.inv1 hu (is8 I) (by unfold r0; rw [if_neg h0, if_neg h1])) w
end

theorem walk (x0 : Int) (B : Bd x0) (w : World) :
    Calls Try.prog 19 #[.int .u64 x0] w fun e w' => e = .returned (.int .i64 (r0 x0)) ∧ Below w.heap.size w w' := by
  letI : Inhabited Ev.Val := ⟨⟨fun j => match j with | 0 => .int .u64 x0 | _ => .nilIface⟩⟩
  have I : In x0 := ⟨⟨1, rfl⟩⟩
  exact main I B w

theorem own : ownKnob Try.prog.godebug = none := by kernel_rfl
end Go.Proofs.Ytknifojinmnkfaa.cKind
