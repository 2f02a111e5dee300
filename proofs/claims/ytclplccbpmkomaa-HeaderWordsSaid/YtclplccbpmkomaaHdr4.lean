/-
  What the functions of package header, and of its reference, return, each by a contract: the reference's shape and kind. CONDITIONS: numbers are of their kinds.
-/
import Derived.Test.YtclplccbpmkomaaHdr3
import Derived.Test.YtclplccbpmkomaaSnd
namespace Go.Proofs.Ytclplccbpmkomaa.Hdr
open Go.ChangeShapes Go.WideShapes Go.ChangeAt Go.RowKit

theorem shape18 (v : Int) (w : World) (hv : u64ok v) :
    Calls Try.prog 18 #[.int .u64 v] w fun e w' => e = .returned (shv v) ∧ Below w.heap.size w w' := by
  obtain ⟨p, hp⟩ : ∃ p, v / 256 % 256 = p := ⟨_, rfl⟩
  obtain ⟨r, hr⟩ : ∃ r, v / 65536 % 256 = r := ⟨_, rfl⟩
  have k1 := knd_one v hv
  rw [hp, hr] at k1
  have hp2 : 0 ≤ p ∧ p < 256 := by omega
  have hr2 : 0 ≤ r ∧ r < 256 := by omega
  by_cases h : knd v = 1
  · obtain ⟨h1, h2⟩ := k1.1 h
    have hr3 : v / 65536 = r := by have := chk_zero h1; omega
    have hs : shv v = .tuple #[.agg #[.int .i64 p, .int .i64 r], .int .i64 0] := by simp [shv, h, hp, hr3]
    rw [hs]
    have hk : pk p r = v := by simp [pk, h1, h2]
    have HK := Lib.hid hk
    have H1 := Lib.hid h1
    have HP := Lib.hid hp
    have HR := Lib.hid hr
    have hb1 : (v != v) = false := by simp
    clear hs hk h1 hp hr hr3 h2 k1 h
    go_enter Try.func18, Try.ntmps18
    go_wp2_with fail
    rw [HP.out, HR.out]
    refine (pack13 _ _ _ ⟨by omega, by omega⟩ ⟨by omega, by omega⟩).mono ?_
    rw [HK.out, H1.out]
    rintro e w1 ⟨rfl, hb⟩
    have hv1 : Below w.heap.size w w1 := via (by go_grown) hb
    obtain ⟨hc1, hf1⟩ := bcell hb
    clear hb
    have f0 := hc1 w.heap.size 0 (by simp; omega)
    have f1 := hc1 w.heap.size 1 (by simp; omega)
    go_wp2
    refine bodyPost_ret (v := .tuple #[.agg #[.int .i64 p, .int .i64 r], .int .i64 0]) (by simp [results, Try.results18, go_sem, f0, f1]) rfl ⟨rfl, by go_grown⟩
  · have hs : shv v = .tuple #[.agg #[.int .i64 0, .int .i64 0], .int .i64 6] := by simp [shv, h]
    rw [hs]
    obtain ⟨c, hcc⟩ : ∃ c, chk p r = c := ⟨_, rfl⟩
    obtain ⟨m, hm⟩ : ∃ m, pk p r = m := ⟨_, rfl⟩
    have hor : (c == 0) = false ∨ (c == 0) = true ∧ (m != v) = true := by
      by_cases hc0 : c = 0
      · refine .inr ⟨by simpa using hc0, ?_⟩
        simp only [bne_iff_ne, ne_eq]
        intro hmv
        rw [hc0] at hcc
        apply h
        refine k1.2 ⟨hcc, ?_⟩
        rw [← hmv, ← hm]
        simp [pk, hcc]
      · exact .inl (by simpa using hc0)
    have HC := Lib.hid hcc
    have HM := Lib.hid hm
    have HP := Lib.hid hp
    have HR := Lib.hid hr
    clear hs hcc hm hp hr k1 h
    rcases hor with hc0 | ⟨hc0, hm0⟩
    · have hc2 : (c != 0) = true := by simpa using hc0
      go_enter Try.func18, Try.ntmps18
      go_wp2_with fail
      rw [HP.out, HR.out]
      refine (pack13 _ _ _ ⟨by omega, by omega⟩ ⟨by omega, by omega⟩).mono ?_
      rw [HC.out, HM.out]
      rintro e w1 ⟨rfl, hb⟩
      have hv1 : Below w.heap.size w w1 := via (by go_grown) hb
      obtain ⟨hc1, hf1⟩ := bcell hb
      clear hb
      have f0 := hc1 w.heap.size 0 (by simp; omega)
      have f1 := hc1 w.heap.size 1 (by simp; omega)
      go_wp2
      refine bodyPost_ret (v := .tuple #[.agg #[.int .i64 0, .int .i64 0], .int .i64 6]) (by simp [results, Try.results18, go_sem, f0, f1]) rfl ⟨rfl, by go_grown⟩
    · have hc2 : (c != 0) = false := by simpa using hc0
      go_enter Try.func18, Try.ntmps18
      go_wp2_with fail
      rw [HP.out, HR.out]
      refine (pack13 _ _ _ ⟨by omega, by omega⟩ ⟨by omega, by omega⟩).mono ?_
      rw [HC.out, HM.out]
      rintro e w1 ⟨rfl, hb⟩
      have hv1 : Below w.heap.size w w1 := via (by go_grown) hb
      obtain ⟨hc1, hf1⟩ := bcell hb
      clear hb
      have f0 := hc1 w.heap.size 0 (by simp; omega)
      have f1 := hc1 w.heap.size 1 (by simp; omega)
      go_wp2
      refine bodyPost_ret (v := .tuple #[.agg #[.int .i64 0, .int .i64 0], .int .i64 6]) (by simp [results, Try.results18, go_sem, f0, f1]) rfl ⟨rfl, by go_grown⟩

theorem kind22 (v : Int) (w : World) (hv : u64ok v) :
    Calls Try.prog 22 #[.int .u64 v] w fun e w' => e = .returned (.int .i64 (knd v)) ∧ Below w.heap.size w w' := by
  rcases knd_vals v with h | h | h
  · have hs : shv v = .tuple #[.agg #[.int .i64 0, .int .i64 0], .int .i64 6] := by simp [shv, h]
    have ht : trg v = .tuple #[.int .i64 0, .int .i64 6] := by simp [trg, h]
    rw [h]
    have HS := Lib.hid hs
    have HT := Lib.hid ht
    clear hs ht h
    go_enter Try.func22, Try.ntmps22
    go_wp2_with fail
    refine (shape18 _ _ hv).mono ?_
    rw [HS.out]
    rintro e w1 ⟨rfl, hb⟩
    have hv1 : Below w.heap.size w w1 := via (by go_grown) hb
    have hz1 : w.heap.size ≤ w1.heap.size := hv1.size
    clear hb
    go_wp2_with fail
    refine (target20 _ _ hv).mono ?_
    rw [HT.out]
    rintro e w2 ⟨rfl, hb⟩
    have hv2 : Below w.heap.size w w2 := via (by go_grown) hb
    clear hb
    go_wp2
    go_ret
    exact ⟨rfl, by go_grown⟩
  · have hs : shv v = .tuple #[.agg #[.int .i64 (v / 256 % 256), .int .i64 (v / 65536)], .int .i64 0] := by simp [shv, h]
    rw [h]
    have HS := Lib.hid hs
    clear hs h
    go_enter Try.func22, Try.ntmps22
    go_wp2_with fail
    refine (shape18 _ _ hv).mono ?_
    rw [HS.out]
    rintro e w1 ⟨rfl, hb⟩
    have hv1 : Below w.heap.size w w1 := via (by go_grown) hb
    have hz1 : w.heap.size ≤ w1.heap.size := hv1.size
    clear hb
    go_wp2
    go_ret
    exact ⟨rfl, by go_grown⟩
  · have hs : shv v = .tuple #[.agg #[.int .i64 0, .int .i64 0], .int .i64 6] := by simp [shv, h]
    have ht : trg v = .tuple #[.int .i64 (v / 256), .int .i64 0] := by simp [trg, h]
    rw [h]
    have HS := Lib.hid hs
    have HT := Lib.hid ht
    clear hs ht h
    go_enter Try.func22, Try.ntmps22
    go_wp2_with fail
    refine (shape18 _ _ hv).mono ?_
    rw [HS.out]
    rintro e w1 ⟨rfl, hb⟩
    have hv1 : Below w.heap.size w w1 := via (by go_grown) hb
    have hz1 : w.heap.size ≤ w1.heap.size := hv1.size
    clear hb
    go_wp2_with fail
    refine (target20 _ _ hv).mono ?_
    rw [HT.out]
    rintro e w2 ⟨rfl, hb⟩
    have hv2 : Below w.heap.size w w2 := via (by go_grown) hb
    clear hb
    go_wp2
    go_ret
    exact ⟨rfl, by go_grown⟩

/-! ### The law's own look -/
noncomputable def env : Ev.Env := ⟨Try.prog, Ev.mkTT Try.prog, Ev.mkFT Try.prog⟩
set_option maxRecDepth 1000000 in
theorem awake_reckoned : Ev.run env 100000 16 [] = some true := by kernel_rfl
theorem awake16 (w : World) : Calls Try.prog 16 #[] w fun e w' => e = .returned (.bool true) ∧ Below w.heap.size w w' := Ev.run_calls (Ev.envOk Try.prog) awake_reckoned w
end Go.Proofs.Ytclplccbpmkomaa.Hdr
