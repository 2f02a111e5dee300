/-
  What the functions of package header, and of its reference, return, each by a contract: shapes, marks and their targets. CONDITIONS: numbers are of their kinds.
-/
import Derived.Test.YtclplccbpmkomaaHdr2
namespace Go.Proofs.Ytclplccbpmkomaa.Hdr
open Go.ChangeShapes Go.WideShapes Go.ChangeAt Go.RowKit

theorem knd_vals (v : Int) : knd v = 0 ∨ knd v = 1 ∨ knd v = 2 := by unfold knd; (repeat' split) <;> simp
def shv (v : Int) : Value := if knd v = 1 then .tuple #[.agg #[.int .i64 (v / 256 % 256), .int .i64 (v / 65536)], .int .i64 0] else .tuple #[.agg #[.int .i64 0, .int .i64 0], .int .i64 6]
theorem shape17 (v : Int) (w : World) (hv : u64ok v) :
    Calls Try.prog 17 #[.int .u64 v] w fun e w' => e = .returned (shv v) ∧ Below w.heap.size w w' := by
  by_cases h : knd v = 1
  · have hs : shv v = .tuple #[.agg #[.int .i64 (v / 256 % 256), .int .i64 (v / 65536)], .int .i64 0] := by simp [shv, h]
    rw [hs]
    have H := Lib.hid h
    clear hs h
    go_enter Try.func17, Try.ntmps17
    go_wp2_with fail
    refine (kind21 _ _ hv).mono ?_
    rw [H.out]
    rintro e w1 ⟨rfl, hb⟩
    have hv1 : Below w.heap.size w w1 := via (by go_grown) hb
    obtain ⟨hc1, hf1⟩ := bcell hb
    have hz1 : w.heap.size < w1.heap.size := by have := hb.size; simp at this; omega
    clear hb
    go_wp2_with fail
    refine (shape29 _ _ hv).mono ?_
    rintro e w2 ⟨rfl, hb⟩
    have hv2 : Below w.heap.size w w2 := via (by go_grown) hb
    obtain ⟨hc2, hf2⟩ := bcell hb
    clear hb
    go_wp2
    refine bodyPost_ret (v := .tuple #[.agg #[.int .i64 (v / 256 % 256), .int .i64 (v / 65536)], .int .i64 0]) (by simp [results, Try.results17, go_sem, hc1, hc2, hz1]) rfl ⟨rfl, by go_grown⟩
  · have hs : shv v = .tuple #[.agg #[.int .i64 0, .int .i64 0], .int .i64 6] := by simp [shv, h]
    rw [hs]
    have hne : (knd v == 1) = false := by simpa using h
    clear hs h
    obtain ⟨k, hk⟩ : ∃ k, knd v = k := ⟨_, rfl⟩
    rw [hk] at hne
    have H := Lib.hid hk
    clear hk
    go_enter Try.func17, Try.ntmps17
    go_wp2_with fail
    refine (kind21 _ _ hv).mono ?_
    rw [H.out]
    rintro e w1 ⟨rfl, hb⟩
    have hv1 : Below w.heap.size w w1 := via (by go_grown) hb
    obtain ⟨hc1, hf1⟩ := bcell hb
    clear hb
    go_wp2
    refine bodyPost_ret (v := .tuple #[.agg #[.int .i64 0, .int .i64 0], .int .i64 6]) (by simp [results, Try.results17, go_sem, hc1]) rfl ⟨rfl, by go_grown⟩

/-! ### Targets, marks -/
def trg (v : Int) : Value := if knd v = 2 then .tuple #[.int .i64 (v / 256), .int .i64 0] else .tuple #[.int .i64 0, .int .i64 6]
theorem target19 (v : Int) (w : World) (hv : u64ok v) :
    Calls Try.prog 19 #[.int .u64 v] w fun e w' => e = .returned (trg v) ∧ Below w.heap.size w w' := by
  by_cases h : knd v = 2
  · have hs : trg v = .tuple #[.int .i64 (v / 256), .int .i64 0] := by simp [trg, h]
    rw [hs]
    have H := Lib.hid h
    have hr : v / 256 ≤ 1600 := by unfold knd at h; (repeat' split at h) <;> omega
    clear hs h
    go_enter Try.func19, Try.ntmps19
    go_wp2_with fail
    refine (kind21 _ _ hv).mono ?_
    rw [H.out]
    rintro e w1 ⟨rfl, hb⟩
    have hv1 : Below w.heap.size w w1 := via (by go_grown) hb
    clear hb
    go_wp2_with fail
    refine (target30 _ _ hv).mono ?_
    rintro e w2 ⟨rfl, rfl⟩
    go_wp2
    go_ret2
    exact ⟨rfl, by go_grown⟩
  · have hs : trg v = .tuple #[.int .i64 0, .int .i64 6] := by simp [trg, h]
    rw [hs]
    have hne : (knd v == 2) = false := by simpa using h
    clear hs h
    obtain ⟨k, hk⟩ : ∃ k, knd v = k := ⟨_, rfl⟩
    rw [hk] at hne
    have H := Lib.hid hk
    clear hk
    go_enter Try.func19, Try.ntmps19
    go_wp2_with fail
    refine (kind21 _ _ hv).mono ?_
    rw [H.out]
    rintro e w1 ⟨rfl, hb⟩
    have hv1 : Below w.heap.size w w1 := via (by go_grown) hb
    clear hb
    go_wp2
    go_ret2
    exact ⟨rfl, by go_grown⟩
theorem knd_two (v : Int) : knd v = 2 ↔ v % 256 = 2 ∧ 1 ≤ v / 256 ∧ v / 256 ≤ 1600 := by
  unfold knd
  (repeat' split) <;> constructor <;> intro h <;> omega
theorem target20 (v : Int) (w : World) (hv : u64ok v) :
    Calls Try.prog 20 #[.int .u64 v] w fun e w' => e = .returned (trg v) ∧ Below w.heap.size w w' := by
  by_cases h : knd v = 2
  · have hs : trg v = .tuple #[.int .i64 (v / 256), .int .i64 0] := by simp [trg, h]
    rw [hs]
    obtain ⟨h1, h2, h3⟩ := (knd_two v).1 h
    have hb1 : (v % 256 == 2) = true := by simpa using h1
    have hb2 : (v % 256 != 2) = false := by simp [h1]
    clear hs h h1
    go_enter Try.func20, Try.ntmps20
    go_wp2
    go_ret2
    exact ⟨rfl, by go_grown⟩
  · have hs : trg v = .tuple #[.int .i64 0, .int .i64 6] := by simp [trg, h]
    rw [hs]
    have hn := mt (knd_two v).2 h
    clear hs h
    by_cases h1 : v % 256 = 2
    · have hb1 : (v % 256 == 2) = true := by simpa using h1
      have hb2 : (v % 256 != 2) = false := by simp [h1]
      have hn2 : v / 256 < 1 ∨ 1600 < v / 256 := by omega
      clear hn h1
      rcases hn2 with h2 | h2
      · go_enter Try.func20, Try.ntmps20
        go_wp2
        go_ret2
        exact ⟨rfl, by go_grown⟩
      · go_enter Try.func20, Try.ntmps20
        go_wp2
        go_ret2
        exact ⟨rfl, by go_grown⟩
    · have hb1 : (v % 256 == 2) = false := by simpa using h1
      have hb2 : (v % 256 != 2) = true := by simpa using h1
      clear hn h1
      go_enter Try.func20, Try.ntmps20
      go_wp2
      go_ret2
      exact ⟨rfl, by go_grown⟩
def frw (a : Int) : Value := if 1 ≤ a ∧ a ≤ 1600 then .tuple #[.int .u64 (2 + 256 * a), .int .i64 0] else .tuple #[.int .u64 0, .int .i64 7]
theorem forward23 (a : Int) (w : World) (ha : i64ok a) :
    Calls Try.prog 23 #[.int .i64 a] w fun e w' => e = .returned (frw a) ∧ Below w.heap.size w w' := by
  by_cases h1 : a < 1
  · have hs : frw a = .tuple #[.int .u64 0, .int .i64 7] := by simp [frw]; omega
    rw [hs]
    clear hs
    go_enter Try.func23, Try.ntmps23
    go_wp2
    go_ret2
    exact ⟨rfl, by go_grown⟩
  · by_cases h2 : 1600 < a
    · have hs : frw a = .tuple #[.int .u64 0, .int .i64 7] := by simp [frw]; omega
      rw [hs]
      clear hs
      go_enter Try.func23, Try.ntmps23
      go_wp2
      go_ret2
      exact ⟨rfl, by go_grown⟩
    · have hs : frw a = .tuple #[.int .u64 (2 + 256 * a), .int .i64 0] := by simp [frw]; omega
      rw [hs]
      clear hs
      go_enter Try.func23, Try.ntmps23
      go_wp2_with fail
      refine (pack28_mark _ _ (by omega) (by omega)).mono ?_
      rintro e w2 ⟨rfl, rfl⟩
      go_wp2
      go_ret2
      exact ⟨rfl, by go_grown⟩
theorem forward24 (a : Int) (w : World) (ha : i64ok a) :
    Calls Try.prog 24 #[.int .i64 a] w fun e w' => e = .returned (frw a) ∧ Below w.heap.size w w' := by
  by_cases h1 : a < 1
  · have hs : frw a = .tuple #[.int .u64 0, .int .i64 7] := by simp [frw]; omega
    rw [hs]
    clear hs
    go_enter Try.func24, Try.ntmps24
    go_wp2
    go_ret2
    exact ⟨rfl, by go_grown⟩
  · by_cases h2 : 1600 < a
    · have hs : frw a = .tuple #[.int .u64 0, .int .i64 7] := by simp [frw]; omega
      rw [hs]
      clear hs
      go_enter Try.func24, Try.ntmps24
      go_wp2
      go_ret2
      exact ⟨rfl, by go_grown⟩
    · have hs : frw a = .tuple #[.int .u64 (2 + 256 * a), .int .i64 0] := by simp [frw]; omega
      rw [hs]
      clear hs
      go_enter Try.func24, Try.ntmps24
      go_wp2
      go_ret2
      exact ⟨rfl, by go_grown⟩

/-! ### The reference's shape and kind -/
theorem knd_one (v : Int) (hv : u64ok v) : knd v = 1 ↔ chk (v / 256 % 256) (v / 65536 % 256) = 0 ∧ 1 + 256 * (v / 256 % 256) + 65536 * (v / 65536 % 256) = v := by
  unfold knd
  constructor
  · intro h
    split at h
    · rename_i hh
      obtain ⟨h1, h2, h3⟩ := hh
      have e : v / 65536 % 256 = v / 65536 := by omega
      rw [e]
      exact ⟨h3, by omega⟩
    · split at h <;> omega
  · rintro ⟨h1, h2⟩
    have hz := chk_zero h1
    have e : v / 65536 % 256 = v / 65536 := by omega
    rw [e] at h1
    rw [if_pos ⟨by omega, by omega, h1⟩]
end Go.Proofs.Ytclplccbpmkomaa.Hdr
