/-
  'shunterlaw02.ConfigPlaces' returns true for every input: the evaluator goes through its text with the numbers left open; each comparison parts the ways. CONDITIONS: none but those of the row.
-/
import Derived.Test.YtffaikcaenkkhaaDoorConfigPlaces1
import Derived.Test.YtffaikcaenkkhaaDoorConfigPlaces2
import Derived.Test.YtffaikcaenkkhaaDoorConfigPlaces3
import Derived.Test.YtffaikcaenkkhaaDoorArr2
import Derived.Test.YtffaikcaenkkhaaDoorCards
import Derived.Test.YtffaikcaenkkhaaDoorTie
import Derived.LaidMore
import Derived.SevenTiedAt
import Derived.Lib.SmallJoins
namespace Go.Proofs.YtffaikcaenkkhaaDoor.configPlaces
open Go.ChangeShapes Go.WideShapes Go.ChangeAt Go.RowKit Go.Joins

section
variable [Inhabited Ev.Val]
theorem agg2 {S : Ev.Sig} {l l' : List Value} (h : Ev.LR S l l') : Ev.VR S (.agg ⟨l⟩) (.agg ⟨l'⟩) := .agg h.1 h.2
theorem fin {x0 x1 x2 x3 x4 x5 x6 x7 x8 x9 x10 x11 x12 x13 : Int} (I : In x0 x1 x2 x3 x4 x5 x6 x7 x8 x9 x10 x11 x12 x13) (cs : Ev.CsOk Tryd.prog Cs) {A : List Ev.As} (hA : ∀ a ∈ A, Ev.AsOk a) (hr : Ev.run ⟨Tryd.prog, Ev.mkTT Tryd.prog, Ev.mkFT Tryd.prog, A, Qs, Cs, none⟩ 100000 5 [.agg ⟨[Ev.inp .i64 0, Ev.inp .i64 1, Ev.inp .i64 2, Ev.inp .i64 3, Ev.inp .i64 4]⟩, Ev.inp .i64 5, .agg ⟨[Ev.inp .i64 6, Ev.inp .i64 7]⟩] = some true) (w : World) :
    Calls Tryd.prog 5 #[.agg #[.int .i64 x0, .int .i64 x1, .int .i64 x2, .int .i64 x3, .int .i64 x4], .int .i64 x5, .agg #[.int .i64 x6, .int .i64 x7]] w fun e w' => e = .returned (.bool true) ∧ Below w.heap.size w w' :=
  Ev.run_calls (Ev.envOkA Tryd.prog A Qs Cs hA qs cs) mixed hr (.cons (agg2 (.cons (.sym I.i0) (.cons (.sym I.i1) (.cons (.sym I.i2) (.cons (.sym I.i3) (.cons (.sym I.i4) .nil)))))) (.cons (.sym I.i5) (.cons (agg2 (.cons (.sym I.i6) (.cons (.sym I.i7) .nil))) .nil))) w

set_option maxRecDepth 100000 in
set_option maxHeartbeats 4000000 in
theorem main {x0 x1 x2 x3 x4 x5 x6 x7 x8 x9 x10 x11 x12 x13 : Int} (I : In x0 x1 x2 x3 x4 x5 x6 x7 x8 x9 x10 x11 x12 x13) (cs : Ev.CsOk Tryd.prog Cs) (B : Bd x0 x1 x2 x3 x4 x5 x6 x7 x8 x9 x10 x11 x12 x13) (w : World) :
    Calls Tryd.prog 5 #[.agg #[.int .i64 x0, .int .i64 x1, .int .i64 x2, .int .i64 x3, .int .i64 x4], .int .i64 x5, .agg #[.int .i64 x6, .int .i64 x7]] w fun e w' => e = .returned (.bool true) ∧ Below w.heap.size w w' := by
  by_cases h0 : z0 x0 x1 x2 x3 x4 x5 x6 x7 x8 x9 x10 x11 x12 x13 = z1 x0 x1 x2 x3 x4 x5 x6 x7 x8 x9 x10 x11 x12 x13
  · have a0 := Ev.asOk_cons (Ev.asOk_eq (is0 I) (is1 I) (Ev.dt h0)) Ev.asOk_nil
    by_cases h1 : z1 x0 x1 x2 x3 x4 x5 x6 x7 x8 x9 x10 x11 x12 x13 ≤ z2 x0 x1 x2 x3 x4 x5 x6 x7 x8 x9 x10 x11 x12 x13
    · have a1 := Ev.asOk_cons (Ev.asOk_le (is1 I) (is2 I) (Ev.dt h1)) a0
      by_cases h2 : z5 x0 x1 x2 x3 x4 x5 x6 x7 x8 x9 x10 x11 x12 x13 ≤ z2 x0 x1 x2 x3 x4 x5 x6 x7 x8 x9 x10 x11 x12 x13
      · have a2 := Ev.asOk_cons (Ev.asOk_le (is5 I) (is2 I) (Ev.dt h2)) a1
        by_cases h3 : z2 x0 x1 x2 x3 x4 x5 x6 x7 x8 x9 x10 x11 x12 x13 ≤ z7 x0 x1 x2 x3 x4 x5 x6 x7 x8 x9 x10 x11 x12 x13
        · exact (dead0 x0 x1 x2 x3 x4 x5 x6 x7 x8 x9 x10 x11 x12 x13 B (z0 x0 x1 x2 x3 x4 x5 x6 x7 x8 x9 x10 x11 x12 x13) (z1 x0 x1 x2 x3 x4 x5 x6 x7 x8 x9 x10 x11 x12 x13) (z2 x0 x1 x2 x3 x4 x5 x6 x7 x8 x9 x10 x11 x12 x13) (z3 x0 x1 x2 x3 x4 x5 x6 x7 x8 x9 x10 x11 x12 x13) (z4 x0 x1 x2 x3 x4 x5 x6 x7 x8 x9 x10 x11 x12 x13) (z5 x0 x1 x2 x3 x4 x5 x6 x7 x8 x9 x10 x11 x12 x13) (z6 x0 x1 x2 x3 x4 x5 x6 x7 x8 x9 x10 x11 x12 x13) (z7 x0 x1 x2 x3 x4 x5 x6 x7 x8 x9 x10 x11 x12 x13) rfl rfl rfl rfl rfl rfl rfl rfl h0 h1 h2 h3).elim
        · have a3 := Ev.asOk_cons (Ev.asOk_le (is2 I) (is7 I) (Ev.df h3)) a2
          exact fin I cs a3 run0 w
      · have a2 := Ev.asOk_cons (Ev.asOk_le (is5 I) (is2 I) (Ev.df h2)) a1
        by_cases h3 : z2 x0 x1 x2 x3 x4 x5 x6 x7 x8 x9 x10 x11 x12 x13 ≤ z7 x0 x1 x2 x3 x4 x5 x6 x7 x8 x9 x10 x11 x12 x13
        · have a3 := Ev.asOk_cons (Ev.asOk_le (is2 I) (is7 I) (Ev.dt h3)) a2
          exact fin I cs a3 run1 w
        · exact (dead1 x0 x1 x2 x3 x4 x5 x6 x7 x8 x9 x10 x11 x12 x13 B (z0 x0 x1 x2 x3 x4 x5 x6 x7 x8 x9 x10 x11 x12 x13) (z1 x0 x1 x2 x3 x4 x5 x6 x7 x8 x9 x10 x11 x12 x13) (z2 x0 x1 x2 x3 x4 x5 x6 x7 x8 x9 x10 x11 x12 x13) (z3 x0 x1 x2 x3 x4 x5 x6 x7 x8 x9 x10 x11 x12 x13) (z4 x0 x1 x2 x3 x4 x5 x6 x7 x8 x9 x10 x11 x12 x13) (z5 x0 x1 x2 x3 x4 x5 x6 x7 x8 x9 x10 x11 x12 x13) (z6 x0 x1 x2 x3 x4 x5 x6 x7 x8 x9 x10 x11 x12 x13) (z7 x0 x1 x2 x3 x4 x5 x6 x7 x8 x9 x10 x11 x12 x13) rfl rfl rfl rfl rfl rfl rfl rfl h0 h1 h2 h3).elim
    · have a1 := Ev.asOk_cons (Ev.asOk_le (is1 I) (is2 I) (Ev.df h1)) a0
      exact fin I cs a1 run2 w
  · have a0 := Ev.asOk_cons (Ev.asOk_eq (is0 I) (is1 I) (Ev.df h0)) Ev.asOk_nil
    exact fin I cs a0 run3 w
end

theorem walk (x0 x1 x2 x3 x4 x5 x6 x7 x8 x9 x10 x11 x12 x13 : Int) (cs : ∀ [Inhabited Ev.Val], In x0 x1 x2 x3 x4 x5 x6 x7 x8 x9 x10 x11 x12 x13 → Ev.CsOk Tryd.prog Cs) (B : Bd x0 x1 x2 x3 x4 x5 x6 x7 x8 x9 x10 x11 x12 x13) (w : World) :
    Calls Tryd.prog 5 #[.agg #[.int .i64 x0, .int .i64 x1, .int .i64 x2, .int .i64 x3, .int .i64 x4], .int .i64 x5, .agg #[.int .i64 x6, .int .i64 x7]] w fun e w' => e = .returned (.bool true) ∧ Below w.heap.size w w' := by
  letI : Inhabited Ev.Val := ⟨⟨fun j => match j with | 0 => .int .i64 x0 | 1 => .int .i64 x1 | 2 => .int .i64 x2 | 3 => .int .i64 x3 | 4 => .int .i64 x4 | 5 => .int .i64 x5 | 6 => .int .i64 x6 | 7 => .int .i64 x7 | 8 => .int .i64 x8 | 9 => .int .i64 x9 | 10 => .int .i64 x10 | 11 => .int .i64 x11 | 12 => .int .i64 x12 | 13 => .int .i64 x13 | _ => .nilIface⟩⟩
  have I : In x0 x1 x2 x3 x4 x5 x6 x7 x8 x9 x10 x11 x12 x13 := ⟨⟨1, rfl⟩, ⟨1, rfl⟩, ⟨1, rfl⟩, ⟨1, rfl⟩, ⟨1, rfl⟩, ⟨1, rfl⟩, ⟨1, rfl⟩, ⟨1, rfl⟩, ⟨1, rfl⟩, ⟨1, rfl⟩, ⟨1, rfl⟩, ⟨1, rfl⟩, ⟨1, rfl⟩, ⟨1, rfl⟩⟩
  exact main I (cs I) B w

theorem own : ownKnob Tryd.prog.godebug = none := by kernel_rfl
theorem len2 {l : List Value} (h : l.length = 2) : ∃ a0 a1, l = [a0, a1] := by
  match l, h with
  | [a0, a1], _ => exact ⟨a0, a1, rfl⟩
theorem len5 {l : List Value} (h : l.length = 5) : ∃ a0 a1 a2 a3 a4, l = [a0, a1, a2, a3, a4] := by
  match l, h with
  | [a0, a1, a2, a3, a4], _ => exact ⟨a0, a1, a2, a3, a4, rfl⟩
theorem cells23 : Tryd.prog.cellsOf 23 = 5 := by kernel_rfl
theorem cells33 : Tryd.prog.cellsOf 33 = 2 := by kernel_rfl
theorem walkW {x0 x1 x2 x3 x4 x5 x6 x7 : Int} (h0 : Good.In64 x0) (h1 : Good.In64 x1) (h2 : Good.In64 x2) (h3 : Good.In64 x3) (h4 : Good.In64 x4) (h5 : Good.In64 x5) (h6 : Good.In64 x6) (h7 : Good.In64 x7) (w : World) :
    Calls Tryd.prog 5 #[.agg #[.int .i64 x0, .int .i64 x1, .int .i64 x2, .int .i64 x3, .int .i64 x4], .int .i64 x5, .agg #[.int .i64 x6, .int .i64 x7]] w fun e w' => e = .returned (.bool true) ∧ Below w.heap.size w w' := by
  have hs := Places.s_bd (x0 := x0) (x1 := x1) (x2 := x2) (x3 := x3) (x4 := x4) (k := x6)
  have hp := Places.p_bd (x0 := x0) (x1 := x1) (x2 := x2) (x3 := x3) (x4 := x4) (a := x5) h0 h2
  refine walk x0 x1 x2 x3 x4 x5 x6 x7 (Places.S0 x0 x1 x2 x3 x4 x6) (Places.S1 x0 x1 x2 x3 x4 x6) (Places.S2 x0 x1 x2 x3 x4 x6) (Places.PC x0 x1 x2 x3 x4 x5) (Places.PO x0 x1 x2 x3 x4 x5) (Places.PE x0 x1 x2 x3 x4 x5) (fun I => ?_) ?_ w
  · exact (Ev.csOk_bool (Ev.run_closedJ mixed Jn.jok closed15) (Ev.csOk_cons (Places.pl_c (fun w => (Places.space_any h0 h1 h2 h3 h4 h6 w).1) I.i0 I.i1 I.i2 I.i3 I.i4 I.i6 I.i8 I.i9 I.i10) (Ev.csOk_cons (Places.pl_c (fun w => (Places.space_any h0 h1 h2 h3 h4 h6 w).2) I.i0 I.i1 I.i2 I.i3 I.i4 I.i6 I.i8 I.i9 I.i10) (Ev.csOk_cons (Places.pl_c (fun w => (Places.place_any h0 h1 h2 h3 h4  w).1) I.i0 I.i1 I.i2 I.i3 I.i4 I.i5 I.i11 I.i12 I.i13) (Ev.csOk_cons (Places.pl_c (fun w => (Places.place_any h0 h1 h2 h3 h4  w).2) I.i0 I.i1 I.i2 I.i3 I.i4 I.i5 I.i11 I.i12 I.i13) (Ev.csOk_nil _))))))
  · exact { l0 := h0.1, u0 := h0.2, l1 := h1.1, u1 := h1.2, l2 := h2.1, u2 := h2.2, l3 := h3.1, u3 := h3.2, l4 := h4.1, u4 := h4.2, l5 := h5.1, u5 := h5.2, l6 := h6.1, u6 := h6.2, l7 := h7.1, u7 := h7.2, l8 := (by omega), u8 := (by omega), l9 := (by omega), u9 := (by omega), l10 := (by omega), u10 := (by omega), l11 := hp.1.1, u11 := hp.1.2, l12 := hp.2.1.1, u12 := hp.2.1.2, l13 := hp.2.2.1, u13 := hp.2.2.2, g0 := hs.1 }
abbrev laid : List (String × DataW Unit) := Rows.configPlacesRow.laid
theorem door_met (os : Os) (args : Array Value) : laidMetH Tryd.prog laid ((World.doorLaid Tryd.prog 400 os).forCall (fun _ _ => 0) ⟨#[], args, []⟩).memory :=
  laidMetH_of_parts3 (fuel := 8) (laidMet_of_run' 8 (by kernel_rfl) (by kernel_rfl)) (by kernel_rfl) (by kernel_rfl)

set_option maxRecDepth 100000 in
set_option maxHeartbeats 4000000 in
theorem lifted (os : Os) (started : os.Started) (H : Type) (enc : TypeId × Value → H) :
    ReturnsInHanded {} Tryd.checked os 5 .any (fun w args => (Rows.configPlacesSpec.pre enc Tryd.prog Tryd.f5 [] false w args ∧ laidMetH Tryd.prog laid w) ∧ sizedMet enc Tryd.prog Tryd.f5 (OpenSpec.ofChange Rows.configPlacesSpec) false w args) (Rows.configPlacesSpec.post enc Tryd.prog Tryd.f5 false true false false) := by
  refine returnsInHanded_of_change_and (C := Tryd.checked) (X := fun w _ => laidMetH Tryd.prog laid w) (fun _ _ _ hh h => h.of_heap hh) own started (by kernel_rfl) Tryd.func5
    (ChangeSpec.witness_shaped (enc := enc) (C := Tryd.checked) (os := os) (X := fun w _ => laidMetH Tryd.prog laid w) false (World.doorLaid Tryd.prog 400 os) #[.agg #[.int .i64 0, .int .i64 0, .int .i64 0, .int .i64 0, .int .i64 0], .int .i64 0, .agg #[.int .i64 0, .int .i64 0]] 8 rfl (World.shaped_of_RefB (by kernel_rfl) (by kernel_rfl)) (by kernel_rfl) (by kernel_rfl) (by kernel_rfl) (door_met os _)) ?_
  intro W base args ds gs before hval0 hW _ _ _ _
  have hval : ∀ (j : Nat) t v, Tryd.f5.params[j]? = some t → args[j]? = some v → Value.okWide Tryd.prog W .any base t v := hval0
  have hW' := hW
  obtain ⟨p, q, hA0, hV, rfl, hfz, hnd⟩ := hW
  have hA : DataW.TrodAll enc Tryd.prog W 0 (fun _ => true) true Tryd.f5.params.toList args.toList ds p := hA0
  rw [Tryd.params5] at hA hval
  obtain ⟨rfl, rfl⟩ := trodVars_none hV
  simp only [List.append_nil] at hW'
  obtain ⟨v0, vs0, d0, ds0, p0, q0, hv0, rfl, rfl, t0, hA0⟩ := trodAll_cons hA
  obtain ⟨v1, vs1, d1, ds1, p1, q1, hv1, rfl, rfl, t1, hA1⟩ := trodAll_cons hA0
  obtain ⟨v2, vs2, d2, ds2, p2, q2, hv2, rfl, rfl, t2, hA2⟩ := trodAll_cons hA1
  obtain ⟨rfl, rfl, rfl⟩ := trodAll_nil hA2
  obtain rfl : args = #[v0, v1, v2] := by
    apply Array.ext'
    rw [hv0]
    rw [hv1]
    rw [hv2]
  clear hv0 hv1 hv2
  obtain ⟨vl0, yl0, n0, rfl, hvl0, hf0⟩ := Ev.open_fields Tryd.underlying23 (by kernel_rfl) cells23 (hval 0 23 v0 rfl rfl) t0
  obtain ⟨u0_0, u0_1, u0_2, u0_3, u0_4, rfl⟩ : ∃ u0_0 u0_1 u0_2 u0_3 u0_4, vl0 = [u0_0, u0_1, u0_2, u0_3, u0_4] := by
    exact len5 (hvl0.trans (by kernel_rfl))
  obtain ⟨w0_0, y0_0, hw0_0, hy0_0⟩ := hf0 0 _ rfl
  obtain rfl : u0_0 = w0_0 := Option.some.inj hw0_0
  obtain ⟨x0, e0_0, -, wa0⟩ := DataW.trod_int Tryd.underlying3 hy0_0
  simp at e0_0
  subst e0_0
  obtain ⟨w0_1, y0_1, hw0_1, hy0_1⟩ := hf0 1 _ rfl
  obtain rfl : u0_1 = w0_1 := Option.some.inj hw0_1
  obtain ⟨x1, e0_1, -, wa1⟩ := DataW.trod_int Tryd.underlying3 hy0_1
  simp at e0_1
  subst e0_1
  obtain ⟨w0_2, y0_2, hw0_2, hy0_2⟩ := hf0 2 _ rfl
  obtain rfl : u0_2 = w0_2 := Option.some.inj hw0_2
  obtain ⟨x2, e0_2, -, wa2⟩ := DataW.trod_int Tryd.underlying3 hy0_2
  simp at e0_2
  subst e0_2
  obtain ⟨w0_3, y0_3, hw0_3, hy0_3⟩ := hf0 3 _ rfl
  obtain rfl : u0_3 = w0_3 := Option.some.inj hw0_3
  obtain ⟨x3, e0_3, -, wa3⟩ := DataW.trod_int Tryd.underlying3 hy0_3
  simp at e0_3
  subst e0_3
  obtain ⟨w0_4, y0_4, hw0_4, hy0_4⟩ := hf0 4 _ rfl
  obtain rfl : u0_4 = w0_4 := Option.some.inj hw0_4
  obtain ⟨x4, e0_4, -, wa4⟩ := DataW.trod_int Tryd.underlying3 hy0_4
  simp at e0_4
  subst e0_4
  obtain ⟨x5, rfl, hd1, hp1, wa5⟩ := open_int Tryd.underlying3 (hval 1 3 v1 rfl rfl) t1
  obtain ⟨c2a, c2b, y2a, y2b, m2, rfl, hd2, hp2, hy2a, hy2b⟩ := Arr2.open_arr2 Tryd.underlying33 (show Tryd.prog.cellsOf 3 = 1 by kernel_rfl) cells33 (hval 2 33 v2 rfl rfl) t2
  obtain ⟨x6, e2a, -, wa6⟩ := DataW.trod_int Tryd.underlying3 hy2a
  simp at e2a
  subst e2a
  obtain ⟨x7, e2b, -, wa7⟩ := DataW.trod_int Tryd.underlying3 hy2b
  simp at e2b
  subst e2b
  refine (walkW (Frm.i64wf wa0) (Frm.i64wf wa1) (Frm.i64wf wa2) (Frm.i64wf wa3) (Frm.i64wf wa4) (Frm.i64wf wa5) (Frm.i64wf wa6) (Frm.i64wf wa7) W).mono fun e W' ⟨he, hg⟩ => ?_
  subst he
  exact ⟨_, rfl, Frm.post_true (by kernel_rfl) (by kernel_rfl) rfl rfl Tryd.underlying4 hW' hg rfl⟩

theorem over : Rows.configPlacesRow.holds Tryd.pinned (OpenSpec.ofChange Rows.configPlacesSpec) :=
  OpenClaim.holds_of_wide 5 Tryd.f5 rfl rfl rfl rfl rfl rfl rfl ⟨rfl, rfl, rfl, rfl, rfl⟩ rfl rfl rfl rfl rfl (by kernel_rfl) Tryd.func5 (by kernel_rfl)
    (of_decide_eq_true (by kernel_rfl)) (by unfold Func.isWrapper; first | (rw [if_pos (by decide +kernel)]; kernel_rfl) | (rw [if_neg (by decide +kernel)]; exact ⟨rfl, rfl⟩))
    (fun os started H enc _ => lifted os started H enc)

theorem proved : Rows.ConfigPlacesCardSaid :=
  Claim7.holds_tied_plain_at .later [] [.data, .data, .data] true (true, "1f6f1f8f860284e0591a7fe2d8bd932cfbdd727a3e60724e1188f917b1c5c143") true
    over (fun _ h => by cases h) (by kernel_rfl) (fun _ h => by cases h) configPlaces_row_tie rfl ⟨rfl, rfl⟩ (by kernel_rfl) rfl
    (fun f fn hf hfn => by
      obtain rfl : f = 5 := Option.some.inj ((show Tryd.prog.funcNamed "shunter/shunterlaw02.ConfigPlaces" = some 5 by kernel_rfl).symm.trans hf) |>.symm
      obtain rfl : fn = Tryd.f5 := (Option.some.inj (Tryd.func5.symm.trans hfn)).symm
      exact ⟨by kernel_rfl, fun j t ht => by
        rw [Tryd.params5] at ht
        have h3 : Tryd.prog.wantsStandIn t = false := by
          have hm := Array.mem_of_getElem? ht
          simp only [Array.mem_def, List.mem_cons, or_false, List.not_mem_nil] at hm
          rcases hm with rfl | rfl | rfl
          · exact (show Tryd.prog.wantsStandIn 23 = false by kernel_rfl)
          · exact (show Tryd.prog.wantsStandIn 3 = false by kernel_rfl)
          · exact (show Tryd.prog.wantsStandIn 33 = false by kernel_rfl)
        exact h3⟩)
    (by kernel_rfl)
#print axioms proved
end Go.Proofs.YtffaikcaenkkhaaDoor.configPlaces
