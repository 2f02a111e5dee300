/-
  The law that the spaces cover the arena, walked: two loops over what 'Space', 'Place', 'Car' and 'Address' return. CONDITIONS: numbers are of their kinds. No project text.
-/
import Derived.Test.YtffaikcaenkkhaaDoorCovers1
import Derived.Test.YtffaikcaenkkhaaDoorConfigPlaces1
namespace Go.Proofs.YtffaikcaenkkhaaDoor.Places
open Go.ChangeShapes Go.WideShapes Go.ChangeAt Go.RowKit Go.Proofs.YtffaikcaenkkhaaDoor.Good

section
variable {x0 x1 x2 x3 x4 : Int}
abbrev Goal (x0 x1 x2 x3 x4 : Int) (w : World) : Prop := Calls Tryd.prog 7 #[.agg #[.int .i64 x0, .int .i64 x1, .int .i64 x2, .int .i64 x3, .int .i64 x4]] w fun e w' => e = .returned (.bool true) ∧ Below w.heap.size w w'
theorem awake15 (w : World) : Calls Tryd.prog 15 #[] w fun e w' => e = .returned (.bool true) ∧ Below w.heap.size w w' := Ev.run_closedJ configPlaces.mixed Jn.jok configPlaces.closed15 w
set_option maxRecDepth 100000 in
set_option maxHeartbeats 4000000 in
theorem cov_err {c : Int} (HW : Hid (Wd 16 x0 x1 x2 x3 x4 0 c)) (hne' : (c != 0) = true) (w : World) : Goal x0 x1 x2 x3 x4 w := by
  go_enter Tryd.func7, Tryd.ntmps7
  go_wp2_with fail
  refine (HW.out _).mono ?_
  rintro e w1 ⟨rfl, hB⟩
  have HB : Hid (Below (w.heap.size + 1) (w.alloc (.cells #[.int .i64 x0, .int .i64 x1, .int .i64 x2, .int .i64 x3, .int .i64 x4] 23)) w1) := Lib.hid (by simpa using hB)
  clear hB
  go_wp2_with fail
  refine (awake15 _).mono ?_
  rintro e w2 ⟨rfl, hB⟩
  have HB2 : Hid (Below (w.heap.size + 1) (w.alloc (.cells #[.int .i64 x0, .int .i64 x1, .int .i64 x2, .int .i64 x3, .int .i64 x4] 23)) w2) := Lib.hid (HB.out.trans (hB.mono (by simpa using HB.out.size)))
  clear hB
  go_wp2
  go_ret
  exact ⟨rfl, fin HB2.out⟩
set_option maxRecDepth 100000 in
set_option maxHeartbeats 8000000 in
theorem cov_good {n : Int} (g1 : 7 ≤ x1) (g2 : x1 ≤ 24) (hn : n ≤ 2000) (HW : Hid (Wd 16 x0 x1 x2 x3 x4 n 0)) (s : Int → Int)
    (HS : Hid (∀ k, -1 ≤ k → k < x1 → (∀ w, Pl 24 x0 x1 x2 x3 x4 k (s k) (s (k + 1)) 0 w) ∧ 1 ≤ s k ∧ s k < s (k + 1) ∧ s (k + 1) ≤ n ∧ ∀ w, Ad x0 x1 x2 x3 x4 k (s (k + 1) - s k) 0 7 w))
    (HA : Hid (∀ k a, -1 ≤ k → k < x1 → s k ≤ a → a < s (k + 1) → (∀ w, Pl 28 x0 x1 x2 x3 x4 a k (a - s k) 0 w) ∧ (∀ w, Cr x0 x1 x2 x3 x4 a k 0 w) ∧ ∀ w, Ad x0 x1 x2 x3 x4 k (a - s k) a 0 w))
    (HO : Hid ((∀ w, Cr x0 x1 x2 x3 x4 n 0 7 w) ∧ ∀ w, Cr x0 x1 x2 x3 x4 0 0 7 w)) (HN : Hid (s (-1) = 1 ∧ s x1 = n)) (w : World) : Goal x0 x1 x2 x3 x4 w := by
  go_enter Tryd.func7, Tryd.ntmps7
  go_wp2_with fail
  refine (HW.out _).mono ?_
  rintro e w1 ⟨rfl, hB⟩
  have HB : Hid (Below (w.heap.size + 1) (w.alloc (.cells #[.int .i64 x0, .int .i64 x1, .int .i64 x2, .int .i64 x3, .int .i64 x4] 23)) w1) := Lib.hid (by simpa using hB)
  clear hB
  go_wp2_with fail
  go_loopw [5, 6] (fun n4 n5 wr => ∃ k v : Int, -1 ≤ k ∧ k ≤ x1 ∧ Hid (v = s k) ∧ n4 = .int .i64 v ∧ n5 = .int .i64 k ∧ Hid (Below (w.heap.size + 1) (w.alloc (.cells #[.int .i64 x0, .int .i64 x1, .int .i64 x2, .int .i64 x3, .int .i64 x4] 23)) wr)) (fun _ n5 _ => (x1 - intOf n5).toNat)
  case atStart => exact ⟨-1, 1, by omega, by omega, Lib.hid HN.out.1.symm, rfl, rfl, HB⟩
  case round =>
    obtain ⟨k, v, hk0, hk1, HV, rfl, rfl, HR⟩ := hrel
    obtain ⟨q0, q1, q2, q3, q4⟩ := cells HR.out
    by_cases hlt : k < x1
    · obtain rfl := HV.out
      have HC := Lib.hid (HS.out k hk0 hlt).1
      have b1 := (HS.out k hk0 hlt).2.1
      have b2 := (HS.out k hk0 hlt).2.2.1
      have b3 := (HS.out k hk0 hlt).2.2.2.1
      have HE := Lib.hid (HS.out k hk0 hlt).2.2.2.2
      go_wp2_with fail
      refine (HC.out _).mono ?_
      rintro e w2 ⟨rfl, hB⟩
      have HB2 : Hid (Below (w.heap.size + 1) (w.alloc (.cells #[.int .i64 x0, .int .i64 x1, .int .i64 x2, .int .i64 x3, .int .i64 x4] 23)) w2) := Lib.hid (HR.out.trans (hB.mono (by simpa using HR.out.size)))
      clear hB
      clear q0 q1 q2 q3 q4
      obtain ⟨q0, q1, q2, q3, q4⟩ := cells HB2.out
      go_wp2_with fail
      go_loopw [10] (fun n9 wr => ∃ a : Int, s k ≤ a ∧ a ≤ s (k + 1) ∧ n9 = .int .i64 a ∧ Hid (Below (w.heap.size + 1) (w.alloc (.cells #[.int .i64 x0, .int .i64 x1, .int .i64 x2, .int .i64 x3, .int .i64 x4] 23)) wr)) (fun n9 _ => (s (k + 1) - intOf n9).toNat)
      case atStart => exact ⟨s k, by omega, by omega, rfl, HB2⟩
      case round =>
        obtain ⟨a, ha0, ha1, rfl, HI⟩ := hrel
        clear q0 q1 q2 q3 q4
        obtain ⟨q0, q1, q2, q3, q4⟩ := cells HI.out
        by_cases hat : a < s (k + 1)
        · have HP := Lib.hid (HA.out k a hk0 hlt ha0 hat)
          go_wp2_with fail
          refine (HP.out.1 _).mono ?_
          rintro e w3 ⟨rfl, hB⟩
          have HB3 : Hid (Below (w.heap.size + 1) (w.alloc (.cells #[.int .i64 x0, .int .i64 x1, .int .i64 x2, .int .i64 x3, .int .i64 x4] 23)) w3) := Lib.hid (HI.out.trans (hB.mono (by simpa using HI.out.size)))
          clear hB
          clear q0 q1 q2 q3 q4
          obtain ⟨q0, q1, q2, q3, q4⟩ := cells HB3.out
          go_wp2_with fail
          refine (HP.out.2.1 _).mono ?_
          rintro e w4 ⟨rfl, hB⟩
          have HB4 : Hid (Below (w.heap.size + 1) (w.alloc (.cells #[.int .i64 x0, .int .i64 x1, .int .i64 x2, .int .i64 x3, .int .i64 x4] 23)) w4) := Lib.hid (HB3.out.trans (hB.mono (by simpa using HB3.out.size)))
          clear hB
          clear q0 q1 q2 q3 q4
          obtain ⟨q0, q1, q2, q3, q4⟩ := cells HB4.out
          go_wp2_with fail
          refine (HP.out.2.2 _).mono ?_
          rintro e w5 ⟨rfl, hB⟩
          have HB5 : Hid (Below (w.heap.size + 1) (w.alloc (.cells #[.int .i64 x0, .int .i64 x1, .int .i64 x2, .int .i64 x3, .int .i64 x4] 23)) w5) := Lib.hid (HB4.out.trans (hB.mono (by simpa using HB4.out.size)))
          clear hB
          clear q0 q1 q2 q3 q4
          go_wp2
          go_roundw
          case rel => exact ⟨a + 1, by omega, by omega, rfl, HB5⟩
          case measure => simp [intOf]; omega
        · obtain rfl : a = s (k + 1) := by omega
          go_wp2_with fail
          refine (HE.out _).mono ?_
          rintro e w3 ⟨rfl, hB⟩
          have HB3 : Hid (Below (w.heap.size + 1) (w.alloc (.cells #[.int .i64 x0, .int .i64 x1, .int .i64 x2, .int .i64 x3, .int .i64 x4] 23)) w3) := Lib.hid (HI.out.trans (hB.mono (by simpa using HI.out.size)))
          clear hB
          clear q0 q1 q2 q3 q4
          go_wp2
          go_roundw
          case rel => exact ⟨k + 1, _, by omega, by omega, Lib.hid rfl, rfl, rfl, HB3⟩
          case measure => simp [intOf]; omega
    · have hv : v = n := by
        rw [HV.out, show k = x1 by omega]
        exact HN.out.2
      clear HV HN HS HA HW
      subst hv
      go_wp2_with fail
      refine (HO.out.1 _).mono ?_
      rintro e w2 ⟨rfl, hB⟩
      have HB2 : Hid (Below (w.heap.size + 1) (w.alloc (.cells #[.int .i64 x0, .int .i64 x1, .int .i64 x2, .int .i64 x3, .int .i64 x4] 23)) w2) := Lib.hid (HR.out.trans (hB.mono (by simpa using HR.out.size)))
      clear hB
      clear q0 q1 q2 q3 q4
      obtain ⟨q0, q1, q2, q3, q4⟩ := cells HB2.out
      go_wp2_with fail
      refine (HO.out.2 _).mono ?_
      rintro e w3 ⟨rfl, hB⟩
      have HB3 : Hid (Below (w.heap.size + 1) (w.alloc (.cells #[.int .i64 x0, .int .i64 x1, .int .i64 x2, .int .i64 x3, .int .i64 x4] 23)) w3) := Lib.hid (HB2.out.trans (hB.mono (by simpa using HB2.out.size)))
      clear hB
      clear q0 q1 q2 q3 q4
      go_wp2_with fail
      refine (awake15 _).mono ?_
      rintro e w4 ⟨rfl, hB⟩
      have HB4 : Hid (Below (w.heap.size + 1) (w.alloc (.cells #[.int .i64 x0, .int .i64 x1, .int .i64 x2, .int .i64 x3, .int .i64 x4] 23)) w4) := Lib.hid (HB3.out.trans (hB.mono (by simpa using HB3.out.size)))
      clear hB
      go_wp2
      go_ret
      exact ⟨rfl, fin HB4.out⟩
end
end Go.Proofs.YtffaikcaenkkhaaDoor.Places
