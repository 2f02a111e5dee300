/-
  'shunterlaw04.HeaderWords' returns true for every word: Kind, Shape and Target of the program and of the reference return the same. CONDITIONS: none but those of the row.
-/
import Derived.Test.YtclplccbpmkomaaHdr4
import Derived.Test.YtclplccbpmkomaaFrm
namespace Go.Proofs.Ytclplccbpmkomaa.headerWords
open Go.ChangeShapes Go.WideShapes Go.ChangeAt Go.RowKit Go.Joins
open Hdr

theorem shv_form (v : Int) : ∃ a b c, shv v = .tuple #[.agg #[.int .i64 a, .int .i64 b], .int .i64 c] := by
  unfold shv; split <;> exact ⟨_, _, _, rfl⟩
theorem trg_form (v : Int) : ∃ a c, trg v = .tuple #[.int .i64 a, .int .i64 c] := by
  unfold trg; split <;> exact ⟨_, _, rfl⟩

theorem walk (v : Int) (w : World) (hv : u64ok v) :
    Calls Try.prog 4 #[.int .u64 v] w fun e w' => e = .returned (.bool true) ∧ Below w.heap.size w w' := by
  obtain ⟨a, b, c, hs⟩ := shv_form v
  obtain ⟨d, f, ht⟩ := trg_form v
  obtain ⟨k, hk⟩ : ∃ k, knd v = k := ⟨_, rfl⟩
  have HS := Lib.hid hs
  have HT := Lib.hid ht
  have HK := Lib.hid hk
  clear hs ht hk
  go_enter Try.func4, Try.ntmps4
  go_wp2_with fail
  refine (shape17 _ _ hv).mono ?_
  rw [HS.out]
  rintro e w1 ⟨rfl, hb⟩
  have hv1 : Below w.heap.size w w1 := via (by go_grown) hb
  have hs1 := hv1.size
  clear hb
  go_wp2_with fail
  refine (shape18 _ _ hv).mono ?_
  rw [HS.out]
  rintro e w2 ⟨rfl, hb⟩
  have hv2 : Below w.heap.size w w2 := via (by go_grown) hb
  have hs2 := hv2.size
  obtain ⟨hc2, -⟩ := bcell hb
  have hz2 : w1.heap.size < w2.heap.size := by have := hb.size; simp at this; omega
  have a0 : w2.cell? ⟨w1.heap.size, 0, none⟩ = some (.int .i64 a) := by rw [hc2 _ _ (by simp)]; simp [go_sem]
  have a1 : w2.cell? ⟨w1.heap.size, 1, none⟩ = some (.int .i64 b) := by rw [hc2 _ _ (by simp)]; simp [go_sem]
  clear hb hc2
  go_wp2_with fail
  refine (target19 _ _ hv).mono ?_
  rw [HT.out]
  rintro e w3 ⟨rfl, hb⟩
  have hv3 : Below w.heap.size w w3 := via (by go_grown) hb
  obtain ⟨hc3, -⟩ := bcell hb
  have hz3 : w2.heap.size < w3.heap.size := by have := hb.size; simp at this; omega
  have b0 : w3.cell? ⟨w1.heap.size, 0, none⟩ = some (.int .i64 a) := by rw [hc3 _ _ (by simp; omega)]; simpa [go_sem, hz2] using a0
  have b1 : w3.cell? ⟨w1.heap.size, 1, none⟩ = some (.int .i64 b) := by rw [hc3 _ _ (by simp; omega)]; simpa [go_sem, hz2] using a1
  have b2 : w3.cell? ⟨w2.heap.size, 0, none⟩ = some (.int .i64 a) := by rw [hc3 _ _ (by simp)]; simp [go_sem]
  have b3 : w3.cell? ⟨w2.heap.size, 1, none⟩ = some (.int .i64 b) := by rw [hc3 _ _ (by simp)]; simp [go_sem]
  clear hb hc3 a0 a1
  have hz13 : w1.heap.size < w3.heap.size := by omega
  go_wp2_with fail
  refine (target20 _ _ hv).mono ?_
  rw [HT.out]
  rintro e w4 ⟨rfl, hb⟩
  have hv4 : Below w.heap.size w w4 := via (by go_grown) hb
  have hb4 : Below w3.heap.size w3 w4 := hb
  clear hb
  go_wp2_with fail
  refine (kind21 _ _ hv).mono ?_
  rw [HK.out]
  rintro e w5 ⟨rfl, hb⟩
  have hv5 : Below w.heap.size w w5 := via (by go_grown) hb
  have hb5 : Below w3.heap.size w3 w5 := hb4.trans (hb.mono hb4.size)
  clear hb
  go_wp2_with fail
  refine (kind22 _ _ hv).mono ?_
  rw [HK.out]
  rintro e w6 ⟨rfl, hb⟩
  have hv6 : Below w.heap.size w w6 := via (by go_grown) hb
  have hb6 : Below w3.heap.size w3 w6 := hb5.trans (hb.mono hb5.size)
  obtain ⟨hc6, -⟩ := bcell hb6
  rw [← hc6 _ _ hz13] at b0 b1
  rw [← hc6 _ _ hz3] at b2 b3
  clear hb hc6 hb4 hb5 hb6
  go_wp2_with fail
  refine (awake16 _).mono ?_
  rintro e w7 ⟨rfl, hb⟩
  have hv7 : Below w.heap.size w w7 := via (by go_grown) hb
  go_wp2
  go_ret
  exact ⟨rfl, by go_grown⟩

theorem own : ownKnob Try.prog.godebug = none := by kernel_rfl

set_option maxRecDepth 100000 in
theorem lifted (os : Os) (started : os.Started) (H : Type) (enc : TypeId × Value → H) :
    ReturnsInHanded {} Try.checked os 4 .any (Rows.headerWordsSpec.pre6 enc Try.prog Try.f4 Rows.headerWordsRow.domain false) (Rows.headerWordsSpec.post enc Try.prog Try.f4 false true false false) := by
  refine returnsInHanded_of_change (C := Try.checked) own started (by kernel_rfl) Try.func4
    (ChangeSpec.witness6 (enc := enc) (C := Try.checked) false ⟨#[], #[.int .u64 0], []⟩ 8 (by kernel_rfl) (by kernel_rfl) (by kernel_rfl) (by kernel_rfl)) ?_
  intro W base args ds gs before hval0 hW hcnd _
  have hval : ∀ (j : Nat) t v, Try.f4.params[j]? = some t → args[j]? = some v → Value.okWide Try.prog W .any base t v := hval0
  have hW' := hW
  obtain ⟨p, q, hA0, hV, rfl, hfz, hnd⟩ := hW
  have hA : DataW.TrodAll enc Try.prog W 0 (fun _ => true) true Try.f4.params.toList args.toList ds p := hA0
  rw [Try.params4] at hA hval
  obtain ⟨rfl, rfl⟩ := trodVars_none hV
  simp only [List.append_nil] at hW'
  obtain ⟨v0, d0, rfl, rfl, h0⟩ := trodAll_one hA
  obtain ⟨a, rfl, rfl, rfl, wa⟩ := open_int Try.underlying27 (hval 0 27 v0 rfl rfl) h0
  refine (walk a W (Frm.u64wf wa)).mono fun e W' ⟨he, hg⟩ => ?_
  subst he
  exact ⟨_, rfl, Frm.post_true (by kernel_rfl) (by kernel_rfl) rfl rfl Try.underlying4 hW' hg rfl⟩

theorem over : Rows.headerWordsRow.holds Try.pinned (OpenSpec.ofChange Rows.headerWordsSpec) :=
  OpenClaim.holds_of_wide 4 Try.f4 rfl rfl rfl rfl rfl rfl rfl ⟨rfl, rfl, rfl, rfl, rfl⟩ rfl rfl rfl rfl rfl (by kernel_rfl) Try.func4 (by kernel_rfl)
    (of_decide_eq_true (by kernel_rfl)) (by unfold Func.isWrapper; first | (rw [if_pos (by decide +kernel)]; kernel_rfl) | (rw [if_neg (by decide +kernel)]; exact ⟨rfl, rfl⟩))
    (fun os started H enc _ => lifted os started H enc)

theorem proved : Rows.HeaderWordsSaid := over
#print axioms proved
end Go.Proofs.Ytclplccbpmkomaa.headerWords
