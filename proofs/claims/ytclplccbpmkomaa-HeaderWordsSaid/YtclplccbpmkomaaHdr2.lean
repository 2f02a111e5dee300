/-
  What the functions of package header, and of its reference, return, each by a contract: kinds, shapes, marks. CONDITIONS: numbers are of their kinds.
-/
import Derived.Test.YtclplccbpmkomaaHdr
import Derived.Deep.QuietTactic
import Derived.BigQuiet
import Derived.Outline
import Derived.Lib.Hide
namespace Go.Proofs.Ytclplccbpmkomaa.Hdr
open Go.ChangeShapes Go.WideShapes Go.ChangeAt Go.RowKit

theorem shape29 (v : Int) (w : World) (hv : u64ok v) :
    Calls Try.prog 29 #[.int .u64 v] w fun e w' => e = .returned (.agg #[.int .i64 (v / 256 % 256), .int .i64 (v / 65536)]) ∧ Below w.heap.size w w' := by
  go_enter Try.func29, Try.ntmps29
  go_wp2_with fail
  refine (pointers32 _ _ hv).mono ?_
  rintro e w2 ⟨rfl, rfl⟩
  go_wp2_with fail
  refine (raws33 _ _ hv).mono ?_
  rintro e w2 ⟨rfl, rfl⟩
  go_wp2
  go_returns
  exact ⟨rfl, by go_grown⟩

theorem kind31_a (v : Int) (w : World) (hv : u64ok v) (h1 : v % 256 = 1) (h2 : v / 65536 < 64) (h3 : chk (v / 256 % 256) (v / 65536) = 0) :
    Calls Try.prog 31 #[.int .u64 v] w fun e w' => e = .returned (.int .i64 1) ∧ Below w.heap.size w w' := by
  have H3 := Lib.hid h3
  clear h3
  go_enter Try.func31, Try.ntmps31
  go_wp2_with fail
  refine (tag34 _ _ hv).mono ?_
  rw [h1]
  clear h1
  rintro e w2 ⟨rfl, rfl⟩
  go_wp2_with fail
  refine (raws33 _ _ hv).mono ?_
  rintro e w2 ⟨rfl, rfl⟩
  go_wp2_with fail
  refine (shape29 _ _ hv).mono ?_
  rintro e w1 ⟨rfl, hb⟩
  have hv1 : Below w.heap.size w w1 := via (by go_grown) hb
  obtain ⟨hc1, hf1⟩ := bcell hb
  clear hb
  go_wp2_with fail
  refine (check14 _ _ _ ⟨by omega, by omega⟩ ⟨by omega, by omega⟩).mono ?_
  rw [H3.out]
  rintro e w2 ⟨rfl, hb⟩
  have hv2 : Below w.heap.size w w2 := via (by go_grown) hb
  obtain ⟨hc2, hf2⟩ := bcell hb
  clear hb
  go_wp2
  go_ret
  exact ⟨rfl, by go_grown⟩

theorem kind31_b (v : Int) (w : World) (hv : u64ok v) (h1 : v % 256 = 1) (h2 : v / 65536 < 64) (c : Int) (hc : (c == 0) = false) (h3 : chk (v / 256 % 256) (v / 65536) = c) :
    Calls Try.prog 31 #[.int .u64 v] w fun e w' => e = .returned (.int .i64 0) ∧ Below w.heap.size w w' := by
  have H3 := Lib.hid h3
  have H1 := Lib.hid h1
  clear h3 h1
  go_enter Try.func31, Try.ntmps31
  go_wp2_with fail
  refine (tag34 _ _ hv).mono ?_
  rw [H1.out]
  rintro e w2 ⟨rfl, rfl⟩
  go_wp2_with fail
  refine (raws33 _ _ hv).mono ?_
  rintro e w2 ⟨rfl, rfl⟩
  go_wp2_with fail
  refine (shape29 _ _ hv).mono ?_
  rintro e w1 ⟨rfl, hb⟩
  have hv1 : Below w.heap.size w w1 := via (by go_grown) hb
  obtain ⟨hc1, hf1⟩ := bcell hb
  clear hb
  go_wp2_with fail
  refine (check14 _ _ _ ⟨by omega, by omega⟩ ⟨by omega, by omega⟩).mono ?_
  rw [H3.out]
  rintro e w2 ⟨rfl, hb⟩
  have hv2 : Below w.heap.size w w2 := via (by go_grown) hb
  obtain ⟨hc2, hf2⟩ := bcell hb
  clear hb
  go_wp2_with fail
  refine (tag34 _ _ hv).mono ?_
  rw [H1.out]
  rintro e w2 ⟨rfl, rfl⟩
  go_wp2
  go_ret
  exact ⟨rfl, by go_grown⟩

theorem kind31_c (v : Int) (w : World) (hv : u64ok v) (h1 : v % 256 = 1) (h2 : 64 ≤ v / 65536) :
    Calls Try.prog 31 #[.int .u64 v] w fun e w' => e = .returned (.int .i64 0) ∧ Below w.heap.size w w' := by
  have H1 := Lib.hid h1
  clear h1
  go_enter Try.func31, Try.ntmps31
  go_wp2_with fail
  refine (tag34 _ _ hv).mono ?_
  rw [H1.out]
  rintro e w2 ⟨rfl, rfl⟩
  go_wp2_with fail
  refine (raws33 _ _ hv).mono ?_
  rintro e w2 ⟨rfl, rfl⟩
  go_wp2_with fail
  refine (tag34 _ _ hv).mono ?_
  rw [H1.out]
  rintro e w2 ⟨rfl, rfl⟩
  go_wp2
  go_ret
  exact ⟨rfl, by go_grown⟩

theorem kind31_d (v : Int) (w : World) (hv : u64ok v) (h1 : v % 256 = 2) (h2 : 1 ≤ v / 256) (h3 : v / 256 ≤ 1600) :
    Calls Try.prog 31 #[.int .u64 v] w fun e w' => e = .returned (.int .i64 2) ∧ Below w.heap.size w w' := by
  have H1 := Lib.hid h1
  clear h1
  go_enter Try.func31, Try.ntmps31
  go_wp2_with fail
  refine (tag34 _ _ hv).mono ?_
  rw [H1.out]
  rintro e w2 ⟨rfl, rfl⟩
  go_wp2_with fail
  refine (tag34 _ _ hv).mono ?_
  rw [H1.out]
  rintro e w2 ⟨rfl, rfl⟩
  go_wp2_with fail
  refine (target30 _ _ hv).mono ?_
  rintro e w2 ⟨rfl, rfl⟩
  go_wp2_with fail
  refine (target30 _ _ hv).mono ?_
  rintro e w2 ⟨rfl, rfl⟩
  go_wp2
  go_ret
  exact ⟨rfl, by go_grown⟩

theorem kind31_e (v : Int) (w : World) (hv : u64ok v) (h1 : v % 256 = 2) (h2 : v / 256 < 1) :
    Calls Try.prog 31 #[.int .u64 v] w fun e w' => e = .returned (.int .i64 0) ∧ Below w.heap.size w w' := by
  have H1 := Lib.hid h1
  clear h1
  go_enter Try.func31, Try.ntmps31
  go_wp2_with fail
  refine (tag34 _ _ hv).mono ?_
  rw [H1.out]
  rintro e w2 ⟨rfl, rfl⟩
  go_wp2_with fail
  refine (tag34 _ _ hv).mono ?_
  rw [H1.out]
  rintro e w2 ⟨rfl, rfl⟩
  go_wp2_with fail
  refine (target30 _ _ hv).mono ?_
  rintro e w2 ⟨rfl, rfl⟩
  go_wp2
  go_ret
  exact ⟨rfl, by go_grown⟩

theorem kind31_f (v : Int) (w : World) (hv : u64ok v) (h1 : v % 256 = 2) (h3 : 1600 < v / 256) :
    Calls Try.prog 31 #[.int .u64 v] w fun e w' => e = .returned (.int .i64 0) ∧ Below w.heap.size w w' := by
  have H1 := Lib.hid h1
  clear h1
  go_enter Try.func31, Try.ntmps31
  go_wp2_with fail
  refine (tag34 _ _ hv).mono ?_
  rw [H1.out]
  rintro e w2 ⟨rfl, rfl⟩
  go_wp2_with fail
  refine (tag34 _ _ hv).mono ?_
  rw [H1.out]
  rintro e w2 ⟨rfl, rfl⟩
  go_wp2_with fail
  refine (target30 _ _ hv).mono ?_
  rintro e w2 ⟨rfl, rfl⟩
  go_wp2_with fail
  refine (target30 _ _ hv).mono ?_
  rintro e w2 ⟨rfl, rfl⟩
  go_wp2
  go_ret
  exact ⟨rfl, by go_grown⟩

theorem kind31_g (v : Int) (w : World) (hv : u64ok v) (m : Int) (hm1 : (m == 1) = false) (hm2 : (m == 2) = false) (h1 : v % 256 = m) :
    Calls Try.prog 31 #[.int .u64 v] w fun e w' => e = .returned (.int .i64 0) ∧ Below w.heap.size w w' := by
  have H1 := Lib.hid h1
  clear h1
  go_enter Try.func31, Try.ntmps31
  go_wp2_with fail
  refine (tag34 _ _ hv).mono ?_
  rw [H1.out]
  rintro e w2 ⟨rfl, rfl⟩
  go_wp2_with fail
  refine (tag34 _ _ hv).mono ?_
  rw [H1.out]
  rintro e w2 ⟨rfl, rfl⟩
  go_wp2
  go_ret
  exact ⟨rfl, by go_grown⟩

def knd (v : Int) : Int := if v % 256 = 1 ∧ v / 65536 < 64 ∧ chk (v / 256 % 256) (v / 65536) = 0 then 1 else if v % 256 = 2 ∧ 1 ≤ v / 256 ∧ v / 256 ≤ 1600 then 2 else 0
theorem kind31 (v : Int) (w : World) (hv : u64ok v) :
    Calls Try.prog 31 #[.int .u64 v] w fun e w' => e = .returned (.int .i64 (knd v)) ∧ Below w.heap.size w w' := by
  unfold knd
  by_cases h1 : v % 256 = 1
  · by_cases h2 : v / 65536 < 64
    · by_cases h3 : chk (v / 256 % 256) (v / 65536) = 0
      · rw [if_pos ⟨h1, h2, h3⟩]; exact kind31_a v w hv h1 h2 h3
      · rw [if_neg (fun h => h3 h.2.2), if_neg (fun h => by omega)]; exact kind31_b v w hv h1 h2 _ (by simpa using h3) rfl
    · rw [if_neg (fun h => h2 h.2.1), if_neg (fun h => by omega)]; exact kind31_c v w hv h1 (by omega)
  · rw [if_neg (fun h => h1 h.1)]
    by_cases h2 : v % 256 = 2
    · by_cases h3 : 1 ≤ v / 256
      · by_cases h4 : v / 256 ≤ 1600
        · rw [if_pos ⟨h2, h3, h4⟩]; exact kind31_d v w hv h2 h3 h4
        · rw [if_neg (fun h => h4 h.2.2)]; exact kind31_f v w hv h2 (by omega)
      · rw [if_neg (fun h => h3 h.2.1)]; exact kind31_e v w hv h2 (by omega)
    · rw [if_neg (fun h => h2 h.1)]; exact kind31_g v w hv _ (by simpa using h1) (by simpa using h2) rfl
theorem kind21 (v : Int) (w : World) (hv : u64ok v) :
    Calls Try.prog 21 #[.int .u64 v] w fun e w' => e = .returned (.int .i64 (knd v)) ∧ Below w.heap.size w w' := by
  go_enter Try.func21, Try.ntmps21
  go_wp2_with fail
  refine (kind31 _ _ hv).mono ?_
  rintro e w1 ⟨rfl, hb⟩
  have hv1 : Below w.heap.size w w1 := via (by go_grown) hb
  clear hb
  go_wp2
  go_ret
  exact ⟨rfl, by go_grown⟩
end Go.Proofs.Ytclplccbpmkomaa.Hdr
