/-
  'shunterlaw04.HeaderShapes' returns true for every shape: Check, Size and Pack of the program and of the reference return the same. CONDITIONS: none but those of the row.
-/
import Derived.Test.YtclplccbpmkomaaHdr4
import Derived.Test.YtclplccbpmkomaaFrm
namespace Go.Proofs.Ytclplccbpmkomaa.headerShapes
open Go.ChangeShapes Go.WideShapes Go.ChangeAt Go.RowKit Go.Joins
open Hdr

/-- The worlds that are below: a region's calls lead from one to another. -/
structure QW (W : World) where
  val : World
  low : Below W.heap.size W val
def QC (W : World) (w' : World) : Prop := ∃ x : QW W, w' = x.val
theorem qc_drew (W : World) (n : Nat) : QC W { W with drawn := n } := ⟨⟨{ W with drawn := n }, ⟨rfl, rfl, rfl, Nat.le_refl _, fun _ _ => rfl⟩⟩, rfl⟩
theorem qc_calls {P : Program} {f : FuncId} {args : Array Value} {W : World} {x : QW W} {v : Value} (h : Calls P f args x.val fun e w' => e = .returned v ∧ Below x.val.heap.size x.val w') :
    Calls P f args x.val fun e w'' => e = .returned v ∧ ∃ y : QW W, w'' = y.val :=
  h.mono fun _ w2 ⟨he, hb⟩ => ⟨he, ⟨w2, x.low.trans (hb.mono x.low.size)⟩, rfl⟩

theorem c14 (p r c : Int) (hp : i64ok p) (hr : i64ok r) (h : chk p r = c) (w : World) : Calls Try.prog 14 #[.agg #[.int .i64 p, .int .i64 r]] w fun e w' => e = .returned (.int .i64 c) ∧ Below w.heap.size w w' := by
  have := check14 p r w hp hr
  rw [h] at this; exact this
theorem c15 (p r c : Int) (hp : i64ok p) (hr : i64ok r) (h : chk p r = c) (w : World) : Calls Try.prog 15 #[.agg #[.int .i64 p, .int .i64 r]] w fun e w' => e = .returned (.int .i64 c) ∧ Below w.heap.size w w' := by
  have := check15 p r w hp hr
  rw [h] at this; exact this

theorem walk (p r : Int) (w : World) (hp : i64ok p) (hr : i64ok r) :
    Calls Try.prog 3 #[.agg #[.int .i64 p, .int .i64 r]] w fun e w' => e = .returned (.bool true) ∧ Below w.heap.size w w' := by
  obtain ⟨c, hc⟩ : ∃ c, chk p r = c := ⟨_, rfl⟩
  obtain ⟨z, hz⟩ : ∃ z, sz p r = z := ⟨_, rfl⟩
  obtain ⟨k, hk⟩ : ∃ k, pk p r = k := ⟨_, rfl⟩
  have HC := Lib.hid hc
  have HZ := Lib.hid hz
  have HK := Lib.hid hk
  clear hc hz hk
  go_enter Try.func3, Try.ntmps3
  go_wp2_with fail
  refine (size10 _ _ _ hp hr).mono ?_
  rw [HC.out, HZ.out]
  rintro e w1 ⟨rfl, hb⟩
  have hv1 : Below w.heap.size w w1 := via (by go_grown) hb
  obtain ⟨hc1, hf1⟩ := bcell hb
  have hz1 : w.heap.size < w1.heap.size := by have := hb.size; simp at this; omega
  clear hb
  go_wp2_with fail
  refine (size11 _ _ _ hp hr).mono ?_
  rw [HC.out, HZ.out]
  rintro e w2 ⟨rfl, hb⟩
  have hv2 : Below w.heap.size w w2 := via (by go_grown) hb
  obtain ⟨hc2, hf2⟩ := bcell hb
  have hz2 : w.heap.size < w2.heap.size := by have := hb.size; omega
  clear hb
  go_wp2_with fail
  refine (pack12 _ _ _ hp hr).mono ?_
  rw [HC.out, HK.out]
  rintro e w3 ⟨rfl, hb⟩
  have hv3 : Below w.heap.size w w3 := via (by go_grown) hb
  obtain ⟨hc3, hf3⟩ := bcell hb
  have hz3 : w.heap.size < w3.heap.size := by have := hb.size; omega
  clear hb
  go_wp2_with fail
  refine (pack13 _ _ _ hp hr).mono ?_
  rw [HC.out, HK.out]
  rintro e w4 ⟨rfl, hb⟩
  have hv4 : Below w.heap.size w w4 := via (by go_grown) hb
  obtain ⟨hc4, hf4⟩ := bcell hb
  have hz4 : w.heap.size < w4.heap.size := by have := hb.size; omega
  clear hb
  have b0 : w4.cell? ⟨w.heap.size, 0, none⟩ = some (.int .i64 p) := by
    rw [hc4 _ _ hz3, hc3 _ _ hz2, hc2 _ _ hz1, hc1 _ _ (by simp)]; simp [go_sem]
  have b1 : w4.cell? ⟨w.heap.size, 1, none⟩ = some (.int .i64 r) := by
    rw [hc4 _ _ hz3, hc3 _ _ hz2, hc2 _ _ hz1, hc1 _ _ (by simp)]; simp [go_sem]
  clear hc1 hf1 hc2 hf2 hc3 hf3 hc4 hf4 hv1 hv2 hv3 hz1 hz2 hz3
  go_wp2
  have q0 : ∀ x : QW w4, x.val.cell? ⟨w.heap.size, 0, none⟩ = some (.int .i64 p) := fun x => by rw [x.low.cell (p := ⟨w.heap.size, 0, none⟩) hz4]; exact b0
  have q1 : ∀ x : QW w4, x.val.cell? ⟨w.heap.size, 1, none⟩ = some (.int .i64 r) := fun x => by rw [x.low.cell (p := ⟨w.heap.size, 1, none⟩) hz4]; exact b1
  haveI : Nonempty (QW w4) := ⟨⟨w4, Below.refl _ _⟩⟩
  clear b0 b1
  refine wp_region_quiet (C := QC w4) (by kernel_rfl) (by kernel_rfl) (qc_drew _ _) ?_
  unfold QC
  repeat (quiet_step ((first | (go_at_call 14; exact qc_calls (c14 p r c hp hr HC.out _)) | (go_at_call 15; exact qc_calls (c15 p r c hp hr HC.out _)) | (go_at_call 16; exact qc_calls (awake16 _)))))
  refine wpQuiet_nil ?_
  rintro _ ⟨w5, rfl⟩
  have hv5 : Below w.heap.size w w5.val := via hv4 w5.low
  go_wp2
  go_ret
  exact ⟨rfl, by go_grown⟩

theorem own : ownKnob Try.prog.godebug = none := by kernel_rfl
theorem cells23 : Try.prog.cellsOf 23 = 2 := by kernel_rfl

set_option maxRecDepth 100000 in
theorem lifted (os : Os) (started : os.Started) (H : Type) (enc : TypeId × Value → H) :
    ReturnsInHanded {} Try.checked os 3 .any (Rows.headerShapesSpec.pre6 enc Try.prog Try.f3 Rows.headerShapesRow.domain false) (Rows.headerShapesSpec.post enc Try.prog Try.f3 false true false false) := by
  refine returnsInHanded_of_change (C := Try.checked) own started (by kernel_rfl) Try.func3
    (ChangeSpec.witness6 (enc := enc) (C := Try.checked) false ⟨#[], #[.agg #[.int .i64 0, .int .i64 0]], []⟩ 8 (by kernel_rfl) (by kernel_rfl) (by kernel_rfl) (by kernel_rfl)) ?_
  intro W base args ds gs before hval0 hW hcnd _
  have hval : ∀ (j : Nat) t v, Try.f3.params[j]? = some t → args[j]? = some v → Value.okWide Try.prog W .any base t v := hval0
  have hW' := hW
  obtain ⟨p, q, hA0, hV, rfl, hfz, hnd⟩ := hW
  have hA : DataW.TrodAll enc Try.prog W 0 (fun _ => true) true Try.f3.params.toList args.toList ds p := hA0
  rw [Try.params3] at hA hval
  obtain ⟨v0, d0, rfl, rfl, h0⟩ := trodAll_one hA
  obtain ⟨rfl, rfl⟩ := trodVars_none hV
  simp only [List.append_nil] at hW'
  obtain ⟨c0, c1, y0, y1, m, rfl, rfl, rfl, hy0, hy1⟩ := open_agg2 Try.underlying23 (by kernel_rfl) cells23 (hval 0 23 v0 rfl rfl) h0
  obtain ⟨a, e0, rfl, wa⟩ := DataW.trod_int Try.underlying3 hy0
  obtain ⟨b, e1, rfl, wb⟩ := DataW.trod_int Try.underlying3 hy1
  simp at e0 e1
  subst e0 e1
  refine (walk a b W (Frm.i64wf wa) (Frm.i64wf wb)).mono fun e W' ⟨he, hg⟩ => ?_
  subst he
  exact ⟨_, rfl, Frm.post_true (by kernel_rfl) (by kernel_rfl) rfl rfl Try.underlying4 hW' hg rfl⟩

theorem over : Rows.headerShapesRow.holds Try.pinned (OpenSpec.ofChange Rows.headerShapesSpec) :=
  OpenClaim.holds_of_wide 3 Try.f3 rfl rfl rfl rfl rfl rfl rfl ⟨rfl, rfl, rfl, rfl, rfl⟩ rfl rfl rfl rfl rfl (by kernel_rfl) Try.func3 (by kernel_rfl)
    (of_decide_eq_true (by kernel_rfl)) (by unfold Func.isWrapper; first | (rw [if_pos (by decide +kernel)]; kernel_rfl) | (rw [if_neg (by decide +kernel)]; exact ⟨rfl, rfl⟩))
    (fun os started H enc _ => lifted os started H enc)

theorem proved : Rows.HeaderShapesSaid := over
#print axioms proved
end Go.Proofs.Ytclplccbpmkomaa.headerShapes
