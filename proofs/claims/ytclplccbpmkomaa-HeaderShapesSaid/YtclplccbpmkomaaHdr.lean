/-
  What the functions of package header, and of its reference, return, each by a contract. CONDITIONS: numbers are of their kinds.
-/
import Derived.Test.YtclplccbpmkomaaRows
import Derived.WalkKit
import Derived.ProofKit
import Derived.OpenShut
import Derived.WalkSpells
import Derived.Handy
import Derived.Outline
import Derived.Laws.BitsLemmas
namespace Go.Proofs.Ytclplccbpmkomaa.Hdr
open Go.ChangeShapes Go.WideShapes Go.ChangeAt Go.RowKit

def chk (p r : Int) : Int := if p < 0 ∨ r < 0 then 7 else if 64 < 1 + p + r then 11 else 0
theorem ret_int {k : IntKind} {a b : Int} (h : a = b) : Ending.returned (.int k a) = .returned (.int k b) := by rw [h]
abbrev i64ok (x : Int) : Prop := -9223372036854775808 ≤ x ∧ x ≤ 9223372036854775807
abbrev u64ok (x : Int) : Prop := 0 ≤ x ∧ x ≤ 18446744073709551615

theorem check14 (p r : Int) (w : World) (hp : i64ok p) (hr : i64ok r) :
    Calls Try.prog 14 #[.agg #[.int .i64 p, .int .i64 r]] w fun e w' => e = .returned (.int .i64 (chk p r)) ∧ Below w.heap.size w w' := by
  go_enter Try.func14, Try.ntmps14
  go_wp2
  all_goals go_ret
  all_goals refine ⟨ret_int ?_, by go_grown⟩
  all_goals (unfold chk; (repeat' split) <;> first | rfl | omega)
theorem check15 (p r : Int) (w : World) (hp : i64ok p) (hr : i64ok r) :
    Calls Try.prog 15 #[.agg #[.int .i64 p, .int .i64 r]] w fun e w' => e = .returned (.int .i64 (chk p r)) ∧ Below w.heap.size w w' := by
  go_enter Try.func15, Try.ntmps15
  go_wp2
  all_goals go_ret
  all_goals refine ⟨ret_int ?_, by go_grown⟩
  all_goals (unfold chk; (repeat' split) <;> first | rfl | omega)

def sz (p r : Int) : Int := if chk p r = 0 then 1 + p + r else 0
theorem chk_vals (p r : Int) : chk p r = 0 ∨ chk p r = 7 ∨ chk p r = 11 := by unfold chk; (repeat' split) <;> simp
theorem chk_zero {p r : Int} (h : chk p r = 0) : 0 ≤ p ∧ 0 ≤ r ∧ p + r ≤ 63 := by unfold chk at h; (repeat' split at h) <;> omega
/-- A call's world, behind a world that is below. -/
theorem via {W w1 w2 : World} (h1 : Below W.heap.size W w1) (h2 : Below w1.heap.size w1 w2) : Below W.heap.size W w2 := h1.trans (h2.mono h1.size)

theorem bcell {W w1 : World} (hb : Below W.heap.size W w1) : (∀ b o, b < W.heap.size → w1.cell? ⟨b, o, none⟩ = W.cell? ⟨b, o, none⟩) ∧ (∀ b o, b < W.heap.size → w1.frozen? ⟨b, o, none⟩ = W.frozen? ⟨b, o, none⟩) :=
  ⟨fun b o h => hb.cell (p := ⟨b, o, none⟩) h, fun b o h => hb.frozen (p := ⟨b, o, none⟩) h⟩

theorem size10 (p r : Int) (w : World) (hp : i64ok p) (hr : i64ok r) :
    Calls Try.prog 10 #[.agg #[.int .i64 p, .int .i64 r]] w fun e w' => e = .returned (.tuple #[.int .i64 (sz p r), .int .i64 (chk p r)]) ∧ Below w.heap.size w w' := by
  by_cases hc : chk p r = 0
  · have hz := chk_zero hc
    have hs : sz p r = 1 + p + r := by simp [sz, hc]
    rw [hs, hc]
    clear hs
    go_enter Try.func10, Try.ntmps10
    go_wp2_with fail
    refine (check14 _ _ _ hp hr).mono ?_
    rw [hc]
    clear hc
    rintro e w1 ⟨rfl, hb⟩
    have hv : Below w.heap.size w w1 := via (by go_grown) hb
    obtain ⟨hc1, hf1⟩ := bcell hb
    clear hb
    go_wp2
    go_ret2
    exact ⟨rfl, by go_grown⟩
  · have hs : sz p r = 0 := by simp [sz, hc]
    rw [hs]
    have hne : (chk p r == 0) = false := by simpa using hc
    clear hs hc
    generalize hcc : chk p r = c at *
    have H := hcc
    go_enter Try.func10, Try.ntmps10
    go_wp2_with fail
    refine (check14 _ _ _ hp hr).mono ?_
    rw [hcc]
    clear hcc H
    rintro e w1 ⟨rfl, hb⟩
    have hv : Below w.heap.size w w1 := via (by go_grown) hb
    obtain ⟨hc1, hf1⟩ := bcell hb
    clear hb
    go_wp2
    go_ret2
    exact ⟨rfl, by go_grown⟩
theorem size11 (p r : Int) (w : World) (hp : i64ok p) (hr : i64ok r) :
    Calls Try.prog 11 #[.agg #[.int .i64 p, .int .i64 r]] w fun e w' => e = .returned (.tuple #[.int .i64 (sz p r), .int .i64 (chk p r)]) ∧ Below w.heap.size w w' := by
  by_cases hc : chk p r = 0
  · have hz := chk_zero hc
    have hs : sz p r = 1 + p + r := by simp [sz, hc]
    rw [hs, hc]
    clear hs
    go_enter Try.func11, Try.ntmps11
    go_wp2_with fail
    refine (check15 _ _ _ hp hr).mono ?_
    rw [hc]
    clear hc
    rintro e w1 ⟨rfl, hb⟩
    have hv : Below w.heap.size w w1 := via (by go_grown) hb
    obtain ⟨hc1, hf1⟩ := bcell hb
    clear hb
    go_wp2
    go_ret2
    exact ⟨rfl, by go_grown⟩
  · have hs : sz p r = 0 := by simp [sz, hc]
    rw [hs]
    have hne : (chk p r == 0) = false := by simpa using hc
    clear hs hc
    generalize hcc : chk p r = c at *
    have H := hcc
    go_enter Try.func11, Try.ntmps11
    go_wp2_with fail
    refine (check15 _ _ _ hp hr).mono ?_
    rw [hcc]
    clear hcc H
    rintro e w1 ⟨rfl, hb⟩
    have hv : Below w.heap.size w w1 := via (by go_grown) hb
    obtain ⟨hc1, hf1⟩ := bcell hb
    clear hb
    go_wp2
    go_ret2
    exact ⟨rfl, by go_grown⟩

def pk (p r : Int) : Int := if chk p r = 0 then 1 + 256 * p + 65536 * r else 0
theorem pack28_obj (p r : Int) (w : World) (hp : 0 ≤ p) (hr : 0 ≤ r) (h : p + r ≤ 63) :
    Calls Try.prog 28 #[.int .i64 1, .int .i64 p, .int .i64 r] w fun e w' => e = .returned (.int .u64 (1 + 256 * p + 65536 * r)) ∧ w = w' := by
  go_enter Try.func28, Try.ntmps28
  go_wp2
  go_ret
  exact ⟨ret_int (by omega), rfl⟩
theorem pack28_mark (a : Int) (w : World) (h0 : 1 ≤ a) (h1 : a ≤ 1600) :
    Calls Try.prog 28 #[.int .i64 2, .int .i64 a, .int .i64 0] w fun e w' => e = .returned (.int .u64 (2 + 256 * a)) ∧ w = w' := by
  go_enter Try.func28, Try.ntmps28
  go_wp2
  go_ret
  exact ⟨ret_int (by omega), rfl⟩
theorem pack12 (p r : Int) (w : World) (hp : i64ok p) (hr : i64ok r) :
    Calls Try.prog 12 #[.agg #[.int .i64 p, .int .i64 r]] w fun e w' => e = .returned (.tuple #[.int .u64 (pk p r), .int .i64 (chk p r)]) ∧ Below w.heap.size w w' := by
  by_cases hc : chk p r = 0
  · have hz := chk_zero hc
    have hs : pk p r = 1 + 256 * p + 65536 * r := by simp [pk, hc]
    rw [hs, hc]
    clear hs
    go_enter Try.func12, Try.ntmps12
    go_wp2_with fail
    refine (check14 _ _ _ hp hr).mono ?_
    rw [hc]
    clear hc
    rintro e w1 ⟨rfl, hb⟩
    have hv : Below w.heap.size w w1 := via (by go_grown) hb
    obtain ⟨hc1, hf1⟩ := bcell hb
    clear hb
    go_wp2_with fail
    refine (pack28_obj _ _ _ hz.1 hz.2.1 hz.2.2).mono ?_
    rintro e w2 ⟨rfl, rfl⟩
    go_wp2
    go_ret2
    exact ⟨rfl, by go_grown⟩
  · have hs : pk p r = 0 := by simp [pk, hc]
    rw [hs]
    have hne : (chk p r == 0) = false := by simpa using hc
    clear hs hc
    generalize hcc : chk p r = c at *
    go_enter Try.func12, Try.ntmps12
    go_wp2_with fail
    refine (check14 _ _ _ hp hr).mono ?_
    rw [hcc]
    clear hcc
    rintro e w1 ⟨rfl, hb⟩
    have hv : Below w.heap.size w w1 := via (by go_grown) hb
    obtain ⟨hc1, hf1⟩ := bcell hb
    clear hb
    go_wp2
    go_ret2
    exact ⟨rfl, by go_grown⟩
theorem pack13 (p r : Int) (w : World) (hp : i64ok p) (hr : i64ok r) :
    Calls Try.prog 13 #[.agg #[.int .i64 p, .int .i64 r]] w fun e w' => e = .returned (.tuple #[.int .u64 (pk p r), .int .i64 (chk p r)]) ∧ Below w.heap.size w w' := by
  by_cases hc : chk p r = 0
  · have hz := chk_zero hc
    have hs : pk p r = 1 + 256 * p + 65536 * r := by simp [pk, hc]
    rw [hs, hc]
    clear hs
    go_enter Try.func13, Try.ntmps13
    go_wp2_with fail
    refine (check15 _ _ _ hp hr).mono ?_
    rw [hc]
    clear hc
    rintro e w1 ⟨rfl, hb⟩
    have hv : Below w.heap.size w w1 := via (by go_grown) hb
    obtain ⟨hc1, hf1⟩ := bcell hb
    clear hb
    go_wp2
    go_ret2
    exact ⟨rfl, by go_grown⟩
  · have hs : pk p r = 0 := by simp [pk, hc]
    rw [hs]
    have hne : (chk p r == 0) = false := by simpa using hc
    clear hs hc
    generalize hcc : chk p r = c at *
    go_enter Try.func13, Try.ntmps13
    go_wp2_with fail
    refine (check15 _ _ _ hp hr).mono ?_
    rw [hcc]
    clear hcc
    rintro e w1 ⟨rfl, hb⟩
    have hv : Below w.heap.size w w1 := via (by go_grown) hb
    obtain ⟨hc1, hf1⟩ := bcell hb
    clear hb
    go_wp2
    go_ret2
    exact ⟨rfl, by go_grown⟩

/-! ### The parts of a word -/
theorem and255 (v : Int) (h0 : 0 ≤ v) (h1 : v < 18446744073709551616) : bits .and .u64 v 255 = v % 256 :=
  bits_mask .u64 64 (by decide) (fun n h0 h1 => IntWalk.u64_in n ⟨h0, by omega⟩) 8 (by decide) v h0 h1
theorem tag34 (v : Int) (w : World) (hv : u64ok v) :
    Calls Try.prog 34 #[.int .u64 v] w fun e w' => e = .returned (.int .u64 (v % 256)) ∧ w = w' := by
  have ha := and255 v hv.1 (by omega)
  go_enter Try.func34, Try.ntmps34
  go_wp2
  go_ret
  exact ⟨ret_int (by omega), rfl⟩
theorem raws33 (v : Int) (w : World) (_hv : u64ok v) :
    Calls Try.prog 33 #[.int .u64 v] w fun e w' => e = .returned (.int .u64 (v / 65536)) ∧ w = w' := by
  go_enter Try.func33, Try.ntmps33
  go_wp2
  go_ret
  exact ⟨ret_int (by omega), rfl⟩
theorem target30 (v : Int) (w : World) (_hv : u64ok v) :
    Calls Try.prog 30 #[.int .u64 v] w fun e w' => e = .returned (.int .u64 (v / 256)) ∧ w = w' := by
  go_enter Try.func30, Try.ntmps30
  go_wp2
  go_ret
  exact ⟨ret_int (by omega), rfl⟩
theorem pointers32 (v : Int) (w : World) (hv : u64ok v) :
    Calls Try.prog 32 #[.int .u64 v] w fun e w' => e = .returned (.int .i64 (v / 256 % 256)) ∧ w = w' := by
  have ha := and255 (v / 256) (by omega) (by omega)
  go_enter Try.func32, Try.ntmps32
  go_wp2
  go_ret
  exact ⟨ret_int (by omega), rfl⟩
end Go.Proofs.Ytclplccbpmkomaa.Hdr
