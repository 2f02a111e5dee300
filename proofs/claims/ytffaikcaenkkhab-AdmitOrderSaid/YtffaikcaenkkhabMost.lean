/-
  What the reference's 'Most' returns: a loop that goes down till a number is admitted. CONDITIONS: numbers are of their kinds. No project text.
-/
import Derived.Test.YtffaikcaenkkhabGood
import Derived.Test.YtffaikcaenkkhabW19
import Derived.Test.YtffaikcaenkkhabW23
import Derived.Test.YtffaikcaenkkhabW31
import Derived.WalkKit
import Derived.ProofKit
import Derived.OpenShut
import Derived.WalkSpells
import Derived.Handy
import Derived.Outline
import Derived.Lib.Hide
namespace Go.Proofs.Ytffaikcaenkkhab.Most
open Go.ChangeShapes Go.WideShapes Go.ChangeAt Go.RowKit Go.Proofs.Ytffaikcaenkkhab.Good

theorem ret_int {k : IntKind} {a b : Int} (h : a = b) : Ending.returned (.int k a) = .returned (.int k b) := by rw [h]
theorem via {W w1 w2 : World} (h1 : Below W.heap.size W w1) (h2 : Below w1.heap.size w1 w2) : Below W.heap.size W w2 := h1.trans (h2.mono h1.size)
theorem bcell {W w1 : World} (hb : Below W.heap.size W w1) : (∀ b o, b < W.heap.size → w1.cell? ⟨b, o, none⟩ = W.cell? ⟨b, o, none⟩) ∧ (∀ b o, b < W.heap.size → w1.frozen? ⟨b, o, none⟩ = W.frozen? ⟨b, o, none⟩) :=
  ⟨fun b o h => hb.cell (p := ⟨b, o, none⟩) h, fun b o h => hb.frozen (p := ⟨b, o, none⟩) h⟩

section
variable {x0 x1 x2 x3 x4 : Int}
/-- The budget of a good config; the largest object. -/
theorem nl (h : good x0 x1 x2 x3 x4) : 56 ≤ x1 * x0 ∧ x1 * x0 ≤ 1536 ∧ x0 * (x1 - 6) = x1 * x0 - 6 * x0 ∧ x0 ≤ x0 * (x1 - 6) := by
  obtain ⟨h1, h2, h3, h4, -⟩ := h
  have l1 : 7 * 8 ≤ x1 * x0 := Int.mul_le_mul h3 h1 (by omega) (by omega)
  have l2 : x1 * x0 ≤ 24 * 64 := Int.mul_le_mul h4 h2 (by omega) (by omega)
  have l3 : x0 * (x1 - 6) = x1 * x0 - 6 * x0 := by rw [Int.mul_sub, Int.mul_comm x0 x1, Int.mul_comm x0 6]
  have l4 : 0 ≤ x0 * (x1 - 7) := Int.mul_nonneg (by omega) (by omega)
  rw [Int.mul_sub, Int.mul_comm x0 x1, Int.mul_comm x0 7] at l4
  omega
theorem bud (h : good x0 x1 x2 x3 x4) : w19.r0 x0 x1 x2 x3 x4 = x1 * x0 - 6 * x0 := by
  obtain ⟨n1, n2, n3, n4⟩ := nl h
  generalize hp : w19.r0 x0 x1 x2 x3 x4 = p
  simp only [w19.r0, w19.z0, w19.z1, w19.z2, w19.z3, w19.z4, w19.z5, w19.z6, w19.z7, w19.z8, w19.z9, w19.z10, w19.z11, w19.z12, w19.z13, w19.z14, w19.z15, w19.z16] at hp
  rw [show (x1 - 6 + 9223372036854775808) % 18446744073709551616 - 9223372036854775808 = x1 - 6 by omega, n3] at hp
  repeat' split at hp
  all_goals omega
theorem lrg (h : good x0 x1 x2 x3 x4) : w23.r0 x0 x1 x2 x3 x4 = if x0 / 2 ≤ x2 then x0 / 2 else x2 := by
  generalize hp : w23.r0 x0 x1 x2 x3 x4 = p
  simp only [w23.r0, w23.z0, w23.z1, w23.z2, w23.z3, w23.z4, w23.z5, w23.z6, w23.z7, w23.z8, w23.z9, w23.z10, w23.z11, w23.z12, w23.z13, w23.z14, w23.z15] at hp
  split
  all_goals (repeat' split at hp)
  all_goals omega
theorem st31 {x5 x6 : Int} (i5 : In64 x5) (i6 : In64 x6) (h : w31.r0 x0 x1 x2 x3 x4 x5 x6 = 0) : good x0 x1 x2 x3 x4 ∧ 0 ≤ x5 ∧ x5 ≤ x1 * x0 + x2 ∧ 0 ≤ x6 ∧ x6 ≤ x2 ∧ x2 ≤ x5 + x6 := by
  unfold w31.r0 at h
  by_cases g : good x0 x1 x2 x3 x4
  · obtain ⟨n1, n2, -, -⟩ := nl g
    obtain ⟨g0, g1, g2, g3, g4, g5, g6, g7, g8, g9⟩ := g
    rw [if_pos (c := w31.z0 x0 x1 x2 x3 x4 x5 x6 ≤ w31.z1 x0 x1 x2 x3 x4 x5 x6) g0, if_pos (c := w31.z1 x0 x1 x2 x3 x4 x5 x6 ≤ w31.z2 x0 x1 x2 x3 x4 x5 x6) g1, if_pos (c := w31.z3 x0 x1 x2 x3 x4 x5 x6 ≤ w31.z4 x0 x1 x2 x3 x4 x5 x6) g2, if_pos (c := w31.z4 x0 x1 x2 x3 x4 x5 x6 ≤ w31.z5 x0 x1 x2 x3 x4 x5 x6) g3, if_pos (c := w31.z6 x0 x1 x2 x3 x4 x5 x6 ≤ w31.z7 x0 x1 x2 x3 x4 x5 x6) g4, if_pos (c := w31.z7 x0 x1 x2 x3 x4 x5 x6 ≤ w31.z2 x0 x1 x2 x3 x4 x5 x6) g5, if_pos (c := w31.z8 x0 x1 x2 x3 x4 x5 x6 ≤ w31.z9 x0 x1 x2 x3 x4 x5 x6) g6, if_pos (c := w31.z9 x0 x1 x2 x3 x4 x5 x6 ≤ w31.z0 x0 x1 x2 x3 x4 x5 x6) g7, if_pos (c := w31.z10 x0 x1 x2 x3 x4 x5 x6 ≤ w31.z11 x0 x1 x2 x3 x4 x5 x6) g8, if_pos (c := w31.z11 x0 x1 x2 x3 x4 x5 x6 ≤ w31.z12 x0 x1 x2 x3 x4 x5 x6) g9] at h
    simp only [w31.z1, w31.z3, w31.z4, w31.z7, w31.z13, w31.z14, w31.z15, w31.z16, w31.z17, w31.z18] at h
    refine ⟨⟨g0, g1, g2, g3, g4, g5, g6, g7, g8, g9⟩, ?_, ?_, ?_, ?_, ?_⟩ <;> omega
  · exfalso
    simp only [w31.z0, w31.z1, w31.z2, w31.z3, w31.z4, w31.z5, w31.z6, w31.z7, w31.z8, w31.z9, w31.z10, w31.z11, w31.z12, w31.z13, w31.z14, w31.z15, w31.z16, w31.z17, w31.z18] at h
    omega
end

section
variable {x0 x1 x2 x3 x4 : Int}
abbrev cfg (x0 x1 x2 x3 x4 : Int) : Value := .agg #[.int .i64 x0, .int .i64 x1, .int .i64 x2, .int .i64 x3, .int .i64 x4]
theorem bd (h0 : In64 x0) (h1 : In64 x1) (h2 : In64 x2) (h3 : In64 x3) (h4 : In64 x4) : w19.Bd x0 x1 x2 x3 x4 := ⟨h0.1, h0.2, h1.1, h1.2, h2.1, h2.2, h3.1, h3.2, h4.1, h4.2⟩
/-- What 'admitted' says. -/
def adm (b x5 x6 n : Int) : Bool := decide (n ≤ x6 ∧ 2 * (x5 + n) ≤ b)
set_option maxHeartbeats 4000000 in
theorem adm32 (h0 : In64 x0) (h1 : In64 x1) (h2 : In64 x2) (h3 : In64 x3) (h4 : In64 x4) (x5 x6 n : Int) (i5 : 0 ≤ x5) (j5 : x5 ≤ 2000) (_i6 : 0 ≤ x6) (_j6 : x6 ≤ 64) (i7 : 0 ≤ n) (j7 : n ≤ 64) (b c : Int) (hb : w19.r0 x0 x1 x2 x3 x4 = b) (hc : w19.r1 x0 x1 x2 x3 x4 = c) (w : World) :
    Calls Try.prog 32 #[cfg x0 x1 x2 x3 x4, .int .i64 x5, .int .i64 x6, .int .i64 n] w fun e w' => e = .returned (.bool (adm b x5 x6 n)) ∧ Below w.heap.size w w' := by
  have B := bd h0 h1 h2 h3 h4
  clear h0 h1 h2 h3 h4
  by_cases k1 : n ≤ x6
  · by_cases k2 : 2 * (x5 + n) ≤ b
    all_goals
      have H : Hid (adm b x5 x6 n = decide (2 * (x5 + n) ≤ b)) := Lib.hid (by simp [adm, k1])
      go_enter Try.func32, Try.ntmps32
      go_wp2_with fail
      refine (w19.walk _ _ _ _ _ B _).mono ?_
      rw [hb, hc]
      rintro e w1 ⟨rfl, hB⟩
      have hv : Below w.heap.size w w1 := via (by go_grown) hB
      obtain ⟨hc1, hf1⟩ := bcell hB
      clear hB
      go_wp2
      go_ret
      refine ⟨?_, by go_grown⟩
      rw [H.out]
      simp [k2]
  · have H : Hid (adm b x5 x6 n = false) := Lib.hid (by simp [adm, k1])
    go_enter Try.func32, Try.ntmps32
    go_wp2_with fail
    refine (w19.walk _ _ _ _ _ B _).mono ?_
    rw [hb, hc]
    rintro e w1 ⟨rfl, hB⟩
    have hv : Below w.heap.size w w1 := via (by go_grown) hB
    obtain ⟨hc1, hf1⟩ := bcell hB
    clear hB
    go_wp2
    go_ret
    refine ⟨?_, by go_grown⟩
    rw [H.out]
    rfl
def top (x0 x2 : Int) : Int := if x0 / 2 ≤ x2 then x0 / 2 else x2
def least (a b : Int) : Int := if a ≤ b then a else b
/-- What is admitted at most. -/
def M (x0 x1 x2 x5 x6 : Int) : Int := if 0 ≤ least (least (top x0 x2) x6) ((x1 * x0 - 6 * x0) / 2 - x5) then least (least (top x0 x2) x6) ((x1 * x0 - 6 * x0) / 2 - x5) else 0
theorem M_spec {x5 x6 : Int} (g : good x0 x1 x2 x3 x4) (h6 : 0 ≤ x6) : 0 ≤ M x0 x1 x2 x5 x6 ∧ M x0 x1 x2 x5 x6 ≤ top x0 x2 ∧ 0 ≤ top x0 x2 ∧ top x0 x2 ≤ 32 ∧
    ∀ k, 0 < k → k ≤ top x0 x2 → (adm (x1 * x0 - 6 * x0) x5 x6 k = true ↔ k ≤ M x0 x1 x2 x5 x6) := by
  have ht : 0 ≤ top x0 x2 ∧ top x0 x2 ≤ 32 := by unfold top; split <;> omega
  generalize hq : x1 * x0 - 6 * x0 = q
  unfold M
  rw [hq]
  generalize top x0 x2 = t at ht
  unfold least adm
  refine ⟨by omega, by omega, ht.1, ht.2, fun k h1 h2 => ?_⟩
  rw [decide_eq_true_iff]
  omega
def most (x0 x1 x2 x3 x4 x5 x6 : Int) : Int := if w31.r0 x0 x1 x2 x3 x4 x5 x6 = 0 then M x0 x1 x2 x5 x6 else 0
theorem bd7 {x5 x6 : Int} (h0 : In64 x0) (h1 : In64 x1) (h2 : In64 x2) (h3 : In64 x3) (h4 : In64 x4) (h5 : In64 x5) (h6 : In64 x6) : w31.Bd x0 x1 x2 x3 x4 x5 x6 := ⟨h0.1, h0.2, h1.1, h1.2, h2.1, h2.2, h3.1, h3.2, h4.1, h4.2, h5.1, h5.2, h6.1, h6.2⟩
theorem bd23 (h0 : In64 x0) (h1 : In64 x1) (h2 : In64 x2) (h3 : In64 x3) (h4 : In64 x4) : w23.Bd x0 x1 x2 x3 x4 := ⟨h0.1, h0.2, h1.1, h1.2, h2.1, h2.2, h3.1, h3.2, h4.1, h4.2⟩
set_option maxHeartbeats 4000000 in
theorem most_bad {x5 x6 : Int} (B : w31.Bd x0 x1 x2 x3 x4 x5 x6) (c : Int) (hc : w31.r0 x0 x1 x2 x3 x4 x5 x6 = c) (hne : (c == 0) = false) (w : World) :
    Calls Try.prog 11 #[cfg x0 x1 x2 x3 x4, .int .i64 x5, .int .i64 x6] w fun e w' => e = .returned (.tuple #[.int .i64 0, .int .i64 c]) ∧ Below w.heap.size w w' := by
  go_enter Try.func11, Try.ntmps11
  go_wp2_with fail
  refine (w31.walk _ _ _ _ _ _ _ B _).mono ?_
  rw [hc]
  rintro e w1 ⟨rfl, hB⟩
  have hv : Below w.heap.size w w1 := via (by go_grown) hB
  obtain ⟨hc1, hf1⟩ := bcell hB
  clear hB hc
  go_wp2
  go_ret2
  exact ⟨rfl, by go_grown⟩
set_option maxHeartbeats 8000000 in
theorem most_good {x5 x6 : Int} (h0 : In64 x0) (h1 : In64 x1) (h2 : In64 x2) (h3 : In64 x3) (h4 : In64 x4) (B : w31.Bd x0 x1 x2 x3 x4 x5 x6) (hz : w31.r0 x0 x1 x2 x3 x4 x5 x6 = 0) (g : good x0 x1 x2 x3 x4) (i5 : 0 ≤ x5) (j5 : x5 ≤ 2000) (i6 : 0 ≤ x6) (j6 : x6 ≤ 64) (w : World) :
    Calls Try.prog 11 #[cfg x0 x1 x2 x3 x4, .int .i64 x5, .int .i64 x6] w fun e w' => e = .returned (.tuple #[.int .i64 (M x0 x1 x2 x5 x6), .int .i64 0]) ∧ Below w.heap.size w w' := by
  obtain ⟨m1, m2, m3, m4, m5⟩ := M_spec (x5 := x5) g i6
  have hb := bud g
  have hl : w23.r0 x0 x1 x2 x3 x4 = top x0 x2 := lrg g
  have B23 := bd23 h0 h1 h2 h3 h4
  generalize hc23 : w23.r1 x0 x1 x2 x3 x4 = c23
  generalize hc19 : w19.r1 x0 x1 x2 x3 x4 = c19
  generalize x1 * x0 - 6 * x0 = b at *
  generalize top x0 x2 = t at *
  generalize M x0 x1 x2 x5 x6 = m at *
  have A := fun n (i7 : 0 ≤ n) (j7 : n ≤ 64) (w : World) => adm32 h0 h1 h2 h3 h4 x5 x6 n i5 j5 i6 j6 i7 j7 b c19 hb hc19 w
  have HM := Lib.hid m5
  have HA := Lib.hid A
  clear A m5 hb hc19 h0 h1 h2 h3 h4 g
  go_enter Try.func11, Try.ntmps11
  go_wp2_with fail
  refine (w31.walk _ _ _ _ _ _ _ B _).mono ?_
  rw [hz]
  rintro e w1 ⟨rfl, hB⟩
  have hv : Below w.heap.size w w1 := via (by go_grown) hB
  have hs1 := hB.size
  obtain ⟨hc1, hf1⟩ := bcell hB
  clear hz
  go_wp2_with fail
  refine (w23.walk _ _ _ _ _ B23 _).mono ?_
  rw [hl, hc23]
  rintro e w2 ⟨rfl, hB2⟩
  have HV := Lib.hid (via hB hB2)
  clear hc1 hf1 hB2 hB hv hl hc23
  go_wp2_with fail
  go_loopw [9] (fun nn wr => ∃ k : Int, 0 ≤ k ∧ k ≤ t ∧ m ≤ k ∧ nn = .int .i64 k ∧ Hid (Below (w.heap.size + 1) (w.alloc (.cells #[.int .i64 x0, .int .i64 x1, .int .i64 x2, .int .i64 x3, .int .i64 x4] 23)) wr)) (fun nn _ => (intOf nn).toNat)
  case atStart => exact ⟨t, by omega, by omega, by omega, rfl, Lib.hid (by simpa using HV.out)⟩
  case round =>
    obtain ⟨k, hk0, hkt, hkm, rfl, HB⟩ := hrel
    have hs : w.heap.size + 1 ≤ wr.heap.size := by simpa using HB.out.size
    have q0 : wr.cell? ⟨w.heap.size, 0, none⟩ = some (.int .i64 x0) := by rw [HB.out.cell (p := ⟨w.heap.size, 0, none⟩) (by simp)]; simp
    have q1 : wr.cell? ⟨w.heap.size, 1, none⟩ = some (.int .i64 x1) := by rw [HB.out.cell (p := ⟨w.heap.size, 1, none⟩) (by simp)]; simp
    have q2 : wr.cell? ⟨w.heap.size, 2, none⟩ = some (.int .i64 x2) := by rw [HB.out.cell (p := ⟨w.heap.size, 2, none⟩) (by simp)]; simp
    have q3 : wr.cell? ⟨w.heap.size, 3, none⟩ = some (.int .i64 x3) := by rw [HB.out.cell (p := ⟨w.heap.size, 3, none⟩) (by simp)]; simp
    have q4 : wr.cell? ⟨w.heap.size, 4, none⟩ = some (.int .i64 x4) := by rw [HB.out.cell (p := ⟨w.heap.size, 4, none⟩) (by simp)]; simp
    by_cases hp : 0 < k
    · by_cases ha : adm b x5 x6 k = true
      · have hm : Hid (k = m) := Lib.hid (by have := (HM.out k hp hkt).1 ha; omega)
        have HC := HA.out k (by omega) (by omega) wr
        rw [ha] at HC
        have HC' := Lib.hid HC
        clear ha HC
        go_wp2_with fail
        refine HC'.out.mono ?_
        rintro e w3 ⟨rfl, hB3⟩
        have HB3 := Lib.hid hB3
        clear hB3
        go_wp2
        go_ret2
        rw [hm.out]
        exact ⟨rfl, ((Below.refl _ _).alloc (Nat.le_refl _) _).trans ((HB.out.trans (HB3.out.mono (by omega))).mono (by omega))⟩
      · have hm : m ≤ k - 1 := by have := mt (HM.out k hp hkt).2 ha; omega
        have HC := HA.out k (by omega) (by omega) wr
        rw [Bool.not_eq_true _ |>.mp ha] at HC
        have HC' := Lib.hid HC
        clear ha HC
        go_wp2_with fail
        refine HC'.out.mono ?_
        rintro e w3 ⟨rfl, hB3⟩
        have HB3 := Lib.hid hB3
        clear hB3
        go_wp2
        go_roundw
        case rel => exact ⟨k - 1, by omega, by omega, hm, rfl, Lib.hid (HB.out.trans (HB3.out.mono (by omega)))⟩
        case measure => simp [intOf]; omega
    · have hm : Hid (k = m) := Lib.hid (by omega)
      go_wp2
      go_ret2
      rw [hm.out]
      exact ⟨rfl, ((Below.refl _ _).alloc (Nat.le_refl _) _).trans (HB.out.mono (by omega))⟩
end
section
variable {x0 x1 x2 x3 x4 x5 x6 : Int}
theorem e_good (i5 : In64 x5) (i6 : In64 x6) (g : good x0 x1 x2 x3 x4) : (w31.r0 x0 x1 x2 x3 x4 x5 x6 = 0 ∧ 0 ≤ x5 ∧ x5 ≤ x1 * x0 + x2 ∧ 0 ≤ x6 ∧ x6 ≤ x2 ∧ x2 ≤ x5 + x6) ∨ (w31.r0 x0 x1 x2 x3 x4 x5 x6 = 7 ∧ ¬ (0 ≤ x5 ∧ x5 ≤ x1 * x0 + x2 ∧ 0 ≤ x6 ∧ x6 ≤ x2 ∧ x2 ≤ x5 + x6)) := by
  obtain ⟨n1, n2, -, -⟩ := nl g
  obtain ⟨g0, g1, g2, g3, g4, g5, g6, g7, g8, g9⟩ := g
  generalize hr : w31.r0 x0 x1 x2 x3 x4 x5 x6 = r
  unfold w31.r0 at hr
  rw [if_pos (c := w31.z0 x0 x1 x2 x3 x4 x5 x6 ≤ w31.z1 x0 x1 x2 x3 x4 x5 x6) g0, if_pos (c := w31.z1 x0 x1 x2 x3 x4 x5 x6 ≤ w31.z2 x0 x1 x2 x3 x4 x5 x6) g1, if_pos (c := w31.z3 x0 x1 x2 x3 x4 x5 x6 ≤ w31.z4 x0 x1 x2 x3 x4 x5 x6) g2, if_pos (c := w31.z4 x0 x1 x2 x3 x4 x5 x6 ≤ w31.z5 x0 x1 x2 x3 x4 x5 x6) g3, if_pos (c := w31.z6 x0 x1 x2 x3 x4 x5 x6 ≤ w31.z7 x0 x1 x2 x3 x4 x5 x6) g4, if_pos (c := w31.z7 x0 x1 x2 x3 x4 x5 x6 ≤ w31.z2 x0 x1 x2 x3 x4 x5 x6) g5, if_pos (c := w31.z8 x0 x1 x2 x3 x4 x5 x6 ≤ w31.z9 x0 x1 x2 x3 x4 x5 x6) g6, if_pos (c := w31.z9 x0 x1 x2 x3 x4 x5 x6 ≤ w31.z0 x0 x1 x2 x3 x4 x5 x6) g7, if_pos (c := w31.z10 x0 x1 x2 x3 x4 x5 x6 ≤ w31.z11 x0 x1 x2 x3 x4 x5 x6) g8, if_pos (c := w31.z11 x0 x1 x2 x3 x4 x5 x6 ≤ w31.z12 x0 x1 x2 x3 x4 x5 x6) g9] at hr
  simp only [w31.z1, w31.z3, w31.z4, w31.z7, w31.z13, w31.z14, w31.z15, w31.z16, w31.z17, w31.z18] at hr
  omega
theorem e_not (g : ¬ good x0 x1 x2 x3 x4) : w31.r0 x0 x1 x2 x3 x4 x5 x6 = 7 := by
  generalize hr : w31.r0 x0 x1 x2 x3 x4 x5 x6 = r
  unfold w31.r0 at hr
  simp only [w31.z0, w31.z1, w31.z2, w31.z3, w31.z4, w31.z5, w31.z6, w31.z7, w31.z8, w31.z9, w31.z10, w31.z11, w31.z12, w31.z13, w31.z14, w31.z15, w31.z16, w31.z17, w31.z18] at hr
  omega
theorem e_two (i5 : In64 x5) (i6 : In64 x6) : w31.r0 x0 x1 x2 x3 x4 x5 x6 = 0 ∨ w31.r0 x0 x1 x2 x3 x4 x5 x6 = 7 := by
  by_cases g : good x0 x1 x2 x3 x4
  · have := e_good i5 i6 g
    omega
  · exact .inr (e_not g)
theorem f_z : w31.r0 x0 x1 x2 x3 x4 x5 x6 = 0 ∨ most x0 x1 x2 x3 x4 x5 x6 = 0 := by
  unfold most
  split
  · exact .inl ‹_›
  · exact .inr rfl
theorem f_m (i5 : In64 x5) (i6 : In64 x6) (g : good x0 x1 x2 x3 x4) (h : w31.r0 x0 x1 x2 x3 x4 x5 x6 = 0) : (most x0 x1 x2 x3 x4 x5 x6 = 0 ∧ (x6 ≤ 0 ∨ (x1 * x0 - 6 * x0) / 2 - x5 ≤ 0)) ∨
    (1 ≤ most x0 x1 x2 x3 x4 x5 x6 ∧ most x0 x1 x2 x3 x4 x5 x6 ≤ x0 / 2 ∧ most x0 x1 x2 x3 x4 x5 x6 ≤ x2 ∧ most x0 x1 x2 x3 x4 x5 x6 ≤ x6 ∧ most x0 x1 x2 x3 x4 x5 x6 ≤ (x1 * x0 - 6 * x0) / 2 - x5 ∧
      (most x0 x1 x2 x3 x4 x5 x6 = x0 / 2 ∨ most x0 x1 x2 x3 x4 x5 x6 = x2 ∨ most x0 x1 x2 x3 x4 x5 x6 = x6 ∨ most x0 x1 x2 x3 x4 x5 x6 = (x1 * x0 - 6 * x0) / 2 - x5)) := by
  have := e_good i5 i6 g
  obtain ⟨g0, g1, g2, g3, g4, g5, g6, g7, g8, g9⟩ := g
  unfold most
  rw [if_pos h]
  unfold M least top
  omega
theorem f_bad (i5 : In64 x5) (i6 : In64 x6) : chk x0 x1 x2 x3 x4 = 0 ∨ (most x0 x1 x2 x3 x4 x5 x6 = 0 ∧ w31.r0 x0 x1 x2 x3 x4 x5 x6 = chk x0 x1 x2 x3 x4) := by
  by_cases g : good x0 x1 x2 x3 x4
  · exact .inl (chk_good g)
  · have e := e_not (x5 := x5) (x6 := x6) g
    have := e_two (x0 := x0) (x1 := x1) (x2 := x2) (x3 := x3) (x4 := x4) i5 i6
    refine .inr ⟨?_, ?_⟩
    · unfold most
      rw [if_neg (by omega)]
    · rw [e]
      unfold chk
      rw [if_neg g]
theorem most_bd (i5 : In64 x5) (i6 : In64 x6) : 0 ≤ most x0 x1 x2 x3 x4 x5 x6 ∧ most x0 x1 x2 x3 x4 x5 x6 ≤ 32 := by
  unfold most
  split
  · rename_i h
    obtain ⟨g, h1, h2, h3, h4, h5⟩ := st31 i5 i6 h
    have := M_spec (x5 := x5) g h3
    omega
  · omega
theorem most_any (h0 : In64 x0) (h1 : In64 x1) (h2 : In64 x2) (h3 : In64 x3) (h4 : In64 x4) (h5 : In64 x5) (h6 : In64 x6) (w : World) :
    Calls Try.prog 11 #[cfg x0 x1 x2 x3 x4, .int .i64 x5, .int .i64 x6] w fun e w' => e = .returned (.tuple #[.int .i64 (most x0 x1 x2 x3 x4 x5 x6), .int .i64 (w31.r0 x0 x1 x2 x3 x4 x5 x6)]) ∧ Below w.heap.size w w' := by
  by_cases h : w31.r0 x0 x1 x2 x3 x4 x5 x6 = 0
  · obtain ⟨g, k1, k2, k3, k4, k5⟩ := st31 h5 h6 h
    have hn := nl g
    have hm : most x0 x1 x2 x3 x4 x5 x6 = M x0 x1 x2 x5 x6 := by unfold most; rw [if_pos h]
    rw [hm, h]
    obtain ⟨g0, g1, g2, g3, g4, g5, g6, g7, g8, g9⟩ := g
    exact most_good h0 h1 h2 h3 h4 (bd7 h0 h1 h2 h3 h4 h5 h6) h ⟨g0, g1, g2, g3, g4, g5, g6, g7, g8, g9⟩ k1 (by omega) k3 (by omega) w
  · have hm : most x0 x1 x2 x3 x4 x5 x6 = 0 := by unfold most; rw [if_neg h]
    rw [hm]
    exact most_bad (bd7 h0 h1 h2 h3 h4 h5 h6) _ rfl (by simpa using h) w
end
section
variable [Inhabited Ev.Val]
theorem arg3 {S : Ev.Sig} {u v u1 v1 u2 v2 : Value} {args' : Array Value} (h : ∀ u', Ev.VR S u u' → u' = v) (h1 : ∀ u', Ev.VR S u1 u' → u' = v1) (h2 : ∀ u', Ev.VR S u2 u' → u' = v2) (hr : Ev.LR S [u, u1, u2] args'.toList) : args' = #[v, v1, v2] := by
  obtain ⟨x, r, he, k1, hr1⟩ := hr.cons_inv
  obtain ⟨x1, r1, he1, k2, hr2⟩ := hr1.cons_inv
  obtain ⟨x2, r2, he2, k3, hr3⟩ := hr2.cons_inv
  obtain rfl := hr3.nil_inv
  obtain ⟨l⟩ := args'
  obtain rfl : l = [x, x1, x2] := by rw [← he2, ← he1]; exact he
  rw [h x k1, h1 x1 k2, h2 x2 k3]
theorem most_c {x0 x1 x2 x3 x4 x5 x6 : Int} (h0 : In64 x0) (h1 : In64 x1) (h2 : In64 x2) (h3 : In64 x3) (h4 : In64 x4) (h5 : In64 x5) (h6 : In64 x6) {a b c d e f g : Value} (ha : Ev.Is a .i64 x0) (hb : Ev.Is b .i64 x1) (hc : Ev.Is c .i64 x2) (hd : Ev.Is d .i64 x3) (he : Ev.Is e .i64 x4) (hf : Ev.Is f .i64 x5) (hg : Ev.Is g .i64 x6)
    {p q : Nat} (hp : Ev.Is (Ev.inp .i64 p) .i64 (most x0 x1 x2 x3 x4 x5 x6)) (hq : Ev.Is (Ev.inp .i64 q) .i64 (w31.r0 x0 x1 x2 x3 x4 x5 x6)) (S : Ev.Sig) (args' : Array Value) (hr : Ev.LR S [.agg ⟨[a, b, c, d, e]⟩, f, g] args'.toList) (w : World) :
    Calls Try.prog 11 args' w fun e w' => (∃ v', e = .returned v' ∧ Ev.VR S (.tuple ⟨[Ev.inp .i64 p, Ev.inp .i64 q]⟩) v') ∧ Below w.heap.size w w' := by
  rw [arg3 (fun u' h => agg_inv ha hb hc hd he h) (fun u' h => Ev.is_inv h hf) (fun u' h => Ev.is_inv h hg) hr]
  refine (most_any h0 h1 h2 h3 h4 h5 h6 w).mono fun _ _ ⟨e1, hB⟩ => ⟨⟨_, e1, ?_⟩, hB⟩
  have h : Ev.LR S [Ev.inp .i64 p, Ev.inp .i64 q] [.int .i64 (most x0 x1 x2 x3 x4 x5 x6), .int .i64 (w31.r0 x0 x1 x2 x3 x4 x5 x6)] := .cons (.sym hp) (.cons (.sym hq) .nil)
  exact .tuple h.1 h.2
end
end Go.Proofs.Ytffaikcaenkkhab.Most
