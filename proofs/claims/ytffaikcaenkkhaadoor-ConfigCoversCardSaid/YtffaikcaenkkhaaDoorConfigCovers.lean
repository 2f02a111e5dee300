/-
  'shunterlaw02.ConfigCovers' returns true for every input: what 'Words', 'Space', 'Place', 'Car' and 'Address' return is known by contracts; the law's own loops are walked. CONDITIONS: none but those of the row.
-/
import Derived.Test.YtffaikcaenkkhaaDoorCovers2
import Derived.Test.YtffaikcaenkkhaaDoorCards
import Derived.Test.YtffaikcaenkkhaaDoorTie
import Derived.LaidMore
import Derived.SevenTiedAt
import Derived.Lib.SmallJoins
namespace Go.Proofs.YtffaikcaenkkhaaDoor.configCovers
open Go.ChangeShapes Go.WideShapes Go.ChangeAt Go.RowKit Go.Joins

theorem own : ownKnob Tryd.prog.godebug = none := by kernel_rfl
theorem len5 {l : List Value} (h : l.length = 5) : ∃ a0 a1 a2 a3 a4, l = [a0, a1, a2, a3, a4] := by
  match l, h with
  | [a0, a1, a2, a3, a4], _ => exact ⟨a0, a1, a2, a3, a4, rfl⟩
theorem cells23 : Tryd.prog.cellsOf 23 = 5 := by kernel_rfl
theorem walkW {x0 x1 x2 x3 x4 : Int} (h0 : Good.In64 x0) (h1 : Good.In64 x1) (h2 : Good.In64 x2) (h3 : Good.In64 x3) (h4 : Good.In64 x4) (w : World) :
    Calls Tryd.prog 7 #[.agg #[.int .i64 x0, .int .i64 x1, .int .i64 x2, .int .i64 x3, .int .i64 x4]] w fun e w' => e = .returned (.bool true) ∧ Below w.heap.size w w' := by
  have HW := Places.wdp h0 h1 h2 h3 h4
  by_cases g : Good.good x0 x1 x2 x3 x4
  · obtain ⟨⟨v0, v1⟩, -⟩ := Places.wvals g
    rw [Good.chk_good g, v0, v1] at HW
    have bd := fun {k : Int} => Places.at_bd (k := k) g
    have hP : ∀ {a k : Int}, -1 ≤ k → k < x1 → Places.at_ x0 x2 k ≤ a → a < Places.at_ x0 x2 (k + 1) → ∀ w, Places.Pl 28 x0 x1 x2 x3 x4 a k (a - Places.at_ x0 x2 k) 0 w := fun {a k} k0 k1 l u w => by
      have P := (Places.place_any h0 h1 h2 h3 h4 (a := a) w).1
      obtain ⟨e0, e1, e2⟩ := Places.p_at g k0 k1 l u
      rw [e0, e1, e2] at P
      exact P
    have hC : ∀ {a : Int}, ¬ (1 ≤ a ∧ a < 1 + x2 + x1 * x0) → ∀ w, Places.Cr x0 x1 x2 x3 x4 a 0 7 w := fun {a} ho w =>
      Places.car26 (q := Places.PO x0 x1 x2 x3 x4 a) (Lib.hid fun w => by
        have P := (Places.place_any h0 h1 h2 h3 h4 (a := a) w).1
        obtain ⟨e0, e2⟩ := Places.p_out g ho
        rw [e0, e2] at P
        exact P) w
    refine Places.cov_good (n := 1 + x2 + x1 * x0) g.2.2.1 g.2.2.2.1 (by have := bd (k := -1) (by omega) (by have := g.2.2.1; omega); omega) (Lib.hid HW) (Places.at_ x0 x2) (Lib.hid fun k k0 k1 => ?_) (Lib.hid fun k a k0 k1 l u => ?_) (Lib.hid ⟨fun w => hC (by omega) w, fun w => hC (by omega) w⟩) (Lib.hid ⟨rfl, ?_⟩) w
    · obtain ⟨b1, b2, b3, b4⟩ := bd k0 k1
      refine ⟨fun w => ?_, b1, b2, b3, fun w => (Places.addr30 h0 h1 h2 h3 h4 g k0 k1 (by omega) w).2 rfl⟩
      have P := (Places.space_any h0 h1 h2 h3 h4 (k := k) (by obtain ⟨-, -, g2, g3, -⟩ := id g; omega) w).1
      obtain ⟨e0, e1, e2⟩ := Places.s_at g k0 k1
      rw [e0, e1, e2] at P
      exact P
    · refine ⟨fun w => hP k0 k1 l u w, fun w => Places.car26 (Lib.hid (hP k0 k1 l u)) w, fun w => ?_⟩
      have A := (Places.addr30 h0 h1 h2 h3 h4 g k0 k1 (o := a - Places.at_ x0 x2 k) (by omega) w).1 (by omega)
      rw [show Places.at_ x0 x2 k + (a - Places.at_ x0 x2 k) = a by omega] at A
      exact A
    · obtain ⟨-, -, g2, -⟩ := id g
      unfold Places.at_
      rw [if_neg (by omega)]
  · rw [Places.chk7 g] at HW
    exact Places.cov_err (c := 7) (Lib.hid HW) (by decide) w
abbrev laid : List (String × DataW Unit) := Rows.configCoversRow.laid
theorem door_met (os : Os) (args : Array Value) : laidMetH Tryd.prog laid ((World.doorLaid Tryd.prog 400 os).forCall (fun _ _ => 0) ⟨#[], args, []⟩).memory :=
  laidMetH_of_parts3 (fuel := 8) (laidMet_of_run' 8 (by kernel_rfl) (by kernel_rfl)) (by kernel_rfl) (by kernel_rfl)

set_option maxRecDepth 100000 in
set_option maxHeartbeats 4000000 in
theorem lifted (os : Os) (started : os.Started) (H : Type) (enc : TypeId × Value → H) :
    ReturnsInHanded {} Tryd.checked os 7 .any (fun w args => (Rows.configCoversSpec.pre enc Tryd.prog Tryd.f7 [] false w args ∧ laidMetH Tryd.prog laid w) ∧ sizedMet enc Tryd.prog Tryd.f7 (OpenSpec.ofChange Rows.configCoversSpec) false w args) (Rows.configCoversSpec.post enc Tryd.prog Tryd.f7 false true false false) := by
  refine returnsInHanded_of_change_and (C := Tryd.checked) (X := fun w _ => laidMetH Tryd.prog laid w) (fun _ _ _ hh h => h.of_heap hh) own started (by kernel_rfl) Tryd.func7
    (ChangeSpec.witness_shaped (enc := enc) (C := Tryd.checked) (os := os) (X := fun w _ => laidMetH Tryd.prog laid w) false (World.doorLaid Tryd.prog 400 os) #[.agg #[.int .i64 0, .int .i64 0, .int .i64 0, .int .i64 0, .int .i64 0]] 8 rfl (World.shaped_of_RefB (by kernel_rfl) (by kernel_rfl)) (by kernel_rfl) (by kernel_rfl) (by kernel_rfl) (door_met os _)) ?_
  intro W base args ds gs before hval0 hW _ _ _ _
  have hval : ∀ (j : Nat) t v, Tryd.f7.params[j]? = some t → args[j]? = some v → Value.okWide Tryd.prog W .any base t v := hval0
  have hW' := hW
  obtain ⟨p, q, hA0, hV, rfl, hfz, hnd⟩ := hW
  have hA : DataW.TrodAll enc Tryd.prog W 0 (fun _ => true) true Tryd.f7.params.toList args.toList ds p := hA0
  rw [Tryd.params7] at hA hval
  obtain ⟨rfl, rfl⟩ := trodVars_none hV
  simp only [List.append_nil] at hW'
  obtain ⟨v0, vs0, d0, ds0, p0, q0, hv0, rfl, rfl, t0, hA0⟩ := trodAll_cons hA
  obtain ⟨rfl, rfl, rfl⟩ := trodAll_nil hA0
  obtain rfl : args = #[v0] := by
    apply Array.ext'
    rw [hv0]
  clear hv0
  obtain ⟨vl0, yl0, n0, rfl, hvl0, hf0⟩ := Ev.open_fields Tryd.underlying23 (by kernel_rfl) cells23 (hval 0 23 v0 rfl rfl) t0
  obtain ⟨u0_0, u0_1, u0_2, u0_3, u0_4, rfl⟩ : ∃ u0_0 u0_1 u0_2 u0_3 u0_4, vl0 = [u0_0, u0_1, u0_2, u0_3, u0_4] := by
    exact len5 (hvl0.trans (by kernel_rfl))
  obtain ⟨w0_0, y0_0, hw0_0, hy0_0⟩ := hf0 0 _ rfl
  obtain rfl : u0_0 = w0_0 := Option.some.inj hw0_0
  obtain ⟨x0, e0_0, -, wa0⟩ := DataW.trod_int Tryd.underlying3 hy0_0
  simp at e0_0
  subst e0_0
  obtain ⟨w0_1, y0_1, hw0_1, hy0_1⟩ := hf0 1 _ rfl
  obtain rfl : u0_1 = w0_1 := Option.some.inj hw0_1
  obtain ⟨x1, e0_1, -, wa1⟩ := DataW.trod_int Tryd.underlying3 hy0_1
  simp at e0_1
  subst e0_1
  obtain ⟨w0_2, y0_2, hw0_2, hy0_2⟩ := hf0 2 _ rfl
  obtain rfl : u0_2 = w0_2 := Option.some.inj hw0_2
  obtain ⟨x2, e0_2, -, wa2⟩ := DataW.trod_int Tryd.underlying3 hy0_2
  simp at e0_2
  subst e0_2
  obtain ⟨w0_3, y0_3, hw0_3, hy0_3⟩ := hf0 3 _ rfl
  obtain rfl : u0_3 = w0_3 := Option.some.inj hw0_3
  obtain ⟨x3, e0_3, -, wa3⟩ := DataW.trod_int Tryd.underlying3 hy0_3
  simp at e0_3
  subst e0_3
  obtain ⟨w0_4, y0_4, hw0_4, hy0_4⟩ := hf0 4 _ rfl
  obtain rfl : u0_4 = w0_4 := Option.some.inj hw0_4
  obtain ⟨x4, e0_4, -, wa4⟩ := DataW.trod_int Tryd.underlying3 hy0_4
  simp at e0_4
  subst e0_4
  refine (walkW (Frm.i64wf wa0) (Frm.i64wf wa1) (Frm.i64wf wa2) (Frm.i64wf wa3) (Frm.i64wf wa4) W).mono fun e W' ⟨he, hg⟩ => ?_
  subst he
  exact ⟨_, rfl, Frm.post_true (by kernel_rfl) (by kernel_rfl) rfl rfl Tryd.underlying4 hW' hg rfl⟩

theorem over : Rows.configCoversRow.holds Tryd.pinned (OpenSpec.ofChange Rows.configCoversSpec) :=
  OpenClaim.holds_of_wide 7 Tryd.f7 rfl rfl rfl rfl rfl rfl rfl ⟨rfl, rfl, rfl, rfl, rfl⟩ rfl rfl rfl rfl rfl (by kernel_rfl) Tryd.func7 (by kernel_rfl)
    (of_decide_eq_true (by kernel_rfl)) (by unfold Func.isWrapper; first | (rw [if_pos (by decide +kernel)]; kernel_rfl) | (rw [if_neg (by decide +kernel)]; exact ⟨rfl, rfl⟩))
    (fun os started H enc _ => lifted os started H enc)

theorem proved : Rows.ConfigCoversCardSaid :=
  Claim7.holds_tied_plain_at .later [] [.data, .data, .data] true (true, "1f6f1f8f860284e0591a7fe2d8bd932cfbdd727a3e60724e1188f917b1c5c143") true
    over (fun _ h => by cases h) (by kernel_rfl) (fun _ h => by cases h) configCovers_row_tie rfl ⟨rfl, rfl⟩ (by kernel_rfl) rfl
    (fun f fn hf hfn => by
      obtain rfl : f = 7 := Option.some.inj ((show Tryd.prog.funcNamed "shunter/shunterlaw02.ConfigCovers" = some 7 by kernel_rfl).symm.trans hf) |>.symm
      obtain rfl : fn = Tryd.f7 := (Option.some.inj (Tryd.func7.symm.trans hfn)).symm
      exact ⟨by kernel_rfl, fun j t ht => by
        rw [Tryd.params7] at ht
        have h3 : Tryd.prog.wantsStandIn t = false := by
          have hm := Array.mem_of_getElem? ht
          simp only [Array.mem_def, List.mem_cons, or_false, List.not_mem_nil] at hm
          rcases hm with rfl
          · exact (show Tryd.prog.wantsStandIn 23 = false by kernel_rfl)
        exact h3⟩)
    (by kernel_rfl)
#print axioms proved
end Go.Proofs.YtffaikcaenkkhaaDoor.configCovers
