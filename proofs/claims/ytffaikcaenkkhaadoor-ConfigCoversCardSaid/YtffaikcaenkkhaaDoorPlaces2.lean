/-
  What the reference's 'Place' returns: a loop over the cars. CONDITIONS: numbers are of their kinds. No project text.
-/
import Derived.Test.YtffaikcaenkkhaaDoorPlaces
namespace Go.Proofs.YtffaikcaenkkhaaDoor.Places
open Go.ChangeShapes Go.WideShapes Go.ChangeAt Go.RowKit Go.Proofs.YtffaikcaenkkhaaDoor.Good

section
variable {x0 x1 x2 x3 x4 : Int}
def car (x0 x2 a : Int) : Int := if a ≤ x2 then -1 else (a - 1 - x2) / x0
def off (x0 x2 a : Int) : Int := if a ≤ x2 then a - 1 else (a - 1 - x2) % x0
theorem at_car {k a : Int} (h0 : 0 < x0) (k0 : -1 ≤ k) (l : at_ x0 x2 k ≤ a) (u : a < at_ x0 x2 (k + 1)) : car x0 x2 a = k ∧ off x0 x2 a = a - at_ x0 x2 k := by
  unfold at_ at l u ⊢
  unfold car off
  by_cases hk : k = -1
  · subst hk
    rw [if_neg (by omega), show (-1 : Int) + 1 = 0 by omega, Int.zero_mul] at u
    rw [if_pos rfl] at l ⊢
    rw [if_pos (by omega), if_pos (by omega)]
    exact ⟨rfl, rfl⟩
  · rw [if_neg hk] at l ⊢
    rw [if_neg (by omega), show (k + 1) * x0 = k * x0 + x0 by rw [Int.add_mul, Int.one_mul]] at u
    have hn : 0 ≤ k * x0 := Int.mul_nonneg (by omega) (by omega)
    rw [if_neg (by omega), if_neg (by omega)]
    have := (Int.ediv_emod_unique (a := a - 1 - x2) (b := x0) (r := a - 1 - x2 - k * x0) (q := k) h0).2 ⟨by rw [Int.mul_comm x0 k]; omega, by omega, by omega⟩
    exact ⟨this.1, by rw [this.2]; omega⟩
theorem words17 (h0 : In64 x0) (h1 : In64 x1) (h2 : In64 x2) (h3 : In64 x3) (h4 : In64 x4) (g : good x0 x1 x2 x3 x4) (w : World) :
    Calls Tryd.prog 17 #[cfg x0 x1 x2 x3 x4] w fun e w' => e = .returned (.tuple #[.int .i64 (1 + x2 + x1 * x0), .int .i64 0]) ∧ Below w.heap.size w w' := by
  have hc := chk_good g
  obtain ⟨n1, n2, n3, n4, n5⟩ := nl g (by obtain ⟨g0, g1, g2, g3, -⟩ := g; omega : 0 ≤ x1) (by omega : x1 ≤ x1)
  have B : rWords.Bd x0 x1 x2 x3 x4 (chk x0 x1 x2 x3 x4) := by
    have := chk_bd x0 x1 x2 x3 x4
    exact ⟨h0.1, h0.2, h1.1, h1.2, h2.1, h2.2, h3.1, h3.2, h4.1, h4.2, by omega, by omega⟩
  have C := rWords.walk x0 x1 x2 x3 x4 (chk x0 x1 x2 x3 x4) (fun I => Ev.csOk_cons (Good.cchk h0 h1 h2 h3 h4 I.i0 I.i1 I.i2 I.i3 I.i4 rfl I.i5 rfl) (Ev.csOk_cons (Good.rchk h0 h1 h2 h3 h4 I.i0 I.i1 I.i2 I.i3 I.i4 rfl I.i5 rfl) (Ev.csOk_nil _))) B w
  obtain ⟨g0, g1, g2, g3, g4, g5, g6, g7, g8, g9⟩ := g
  have e : rWords.r0 x0 x1 x2 x3 x4 (chk x0 x1 x2 x3 x4) = 1 + x2 + x1 * x0 ∧ rWords.r1 x0 x1 x2 x3 x4 (chk x0 x1 x2 x3 x4) = 0 := by
    rw [hc]
    constructor
    · unfold rWords.r0
      rw [if_pos (c := rWords.z0 x0 x1 x2 x3 x4 0 = rWords.z1 x0 x1 x2 x3 x4 0) rfl]
      simp only [rWords.z2, rWords.z3, rWords.z4, rWords.z5, rWords.z6, rWords.z7, rWords.z8]
      omega
    · unfold rWords.r1
      rw [if_pos (c := rWords.z0 x0 x1 x2 x3 x4 0 = rWords.z1 x0 x1 x2 x3 x4 0) rfl]
      rfl
  rw [e.1, e.2] at C
  exact C
theorem cells {w wr : World} (h : Below (w.heap.size + 1) (w.alloc (.cells #[.int .i64 x0, .int .i64 x1, .int .i64 x2, .int .i64 x3, .int .i64 x4] 23)) wr) :
    wr.cell? ⟨w.heap.size, 0, none⟩ = some (.int .i64 x0) ∧ wr.cell? ⟨w.heap.size, 1, none⟩ = some (.int .i64 x1) ∧ wr.cell? ⟨w.heap.size, 2, none⟩ = some (.int .i64 x2) ∧ wr.cell? ⟨w.heap.size, 3, none⟩ = some (.int .i64 x3) ∧ wr.cell? ⟨w.heap.size, 4, none⟩ = some (.int .i64 x4) := by
  refine ⟨?_, ?_, ?_, ?_, ?_⟩
  all_goals (rw [h.cell (by simp)]; simp)
theorem fin {w wr : World} (h : Below (w.heap.size + 1) (w.alloc (.cells #[.int .i64 x0, .int .i64 x1, .int .i64 x2, .int .i64 x3, .int .i64 x4] 23)) wr) : Below w.heap.size w wr :=
  ((Below.refl w.heap.size w).alloc (Nat.le_refl _) _).trans (h.mono (by omega))
set_option maxRecDepth 100000 in
set_option maxHeartbeats 8000000 in
theorem rplace_in {a n : Int} (g1 : 7 ≤ x1) (g2 : x1 ≤ 24) (hn : n ≤ 2000) (a1 : 1 ≤ a) (a2 : a < n) (HW : Hid (∀ w, Calls Tryd.prog 17 #[cfg x0 x1 x2 x3 x4] w fun e w' => e = .returned (.tuple #[.int .i64 n, .int .i64 0]) ∧ Below w.heap.size w w'))
    (s : Int → Int) (HS : Hid (∀ k, -1 ≤ k → k < x1 → (∀ w, Calls Tryd.prog 25 #[cfg x0 x1 x2 x3 x4, .int .i64 k] w fun e w' => e = .returned (.tuple #[.int .i64 (s k), .int .i64 (s (k + 1)), .int .i64 0]) ∧ Below w.heap.size w w') ∧ 1 ≤ s k ∧ s k ≤ 2000 ∧ s (k + 1) ≤ 2000)) (HN : Hid (s (-1) = 1 ∧ n ≤ s x1))
    (p q : Int) (HF : Hid (∀ k, -1 ≤ k → s k ≤ a → a < s (k + 1) → p = k ∧ q = a - s k)) (w : World) :
    Calls Tryd.prog 29 #[cfg x0 x1 x2 x3 x4, .int .i64 a] w fun e w' => e = .returned (.tuple #[.int .i64 p, .int .i64 q, .int .i64 0]) ∧ Below w.heap.size w w' := by
  go_enter Tryd.func29, Tryd.ntmps29
  go_wp2_with fail
  refine (HW.out _).mono ?_
  rintro e w1 ⟨rfl, hB⟩
  have HB : Hid (Below (w.heap.size + 1) (w.alloc (.cells #[.int .i64 x0, .int .i64 x1, .int .i64 x2, .int .i64 x3, .int .i64 x4] 23)) w1) := Lib.hid (by simpa using hB)
  clear hB
  go_wp2_with fail
  refine (in37 a 1 (n - 1) true (by rw [eq_comm, decide_eq_true_iff]; omega) _).mono ?_
  rintro e w2 ⟨rfl, rfl⟩
  go_wp2_with fail
  go_loopw [9] (fun nn wr => ∃ k : Int, -1 ≤ k ∧ k ≤ x1 ∧ s k ≤ a ∧ nn = .int .i64 k ∧ Hid (Below (w.heap.size + 1) (w.alloc (.cells #[.int .i64 x0, .int .i64 x1, .int .i64 x2, .int .i64 x3, .int .i64 x4] 23)) wr)) (fun nn _ => (x1 - intOf nn).toNat)
  case atStart => exact ⟨-1, by omega, by omega, by have := HN.out.1; omega, rfl, HB⟩
  case round =>
    obtain ⟨k, hk0, hk1, hka, rfl, HR⟩ := hrel
    have hlt : k < x1 := by
      by_cases e : k = x1
      · exfalso
        subst e
        have := HN.out.2
        omega
      · omega
    obtain ⟨q0, q1, q2, q3, q4⟩ := cells HR.out
    have HC := Lib.hid (HS.out k hk0 hlt).1
    have b1 := (HS.out k hk0 hlt).2.1
    have b2 := (HS.out k hk0 hlt).2.2.1
    have b3 := (HS.out k hk0 hlt).2.2.2
    have hF := HF.out k hk0 hka
    by_cases hin : a < s (k + 1)
    · have HP := Lib.hid (hF hin)
      clear hF
      go_wp2_with fail
      refine (HC.out _).mono ?_
      rintro e w3 ⟨rfl, hB3⟩
      have HB3 : Hid (Below (w.heap.size + 1) (w.alloc (.cells #[.int .i64 x0, .int .i64 x1, .int .i64 x2, .int .i64 x3, .int .i64 x4] 23)) w3) := Lib.hid (HR.out.trans (hB3.mono (by simpa using HR.out.size)))
      clear hB3 q0 q1 q2 q3 q4
      go_wp2
      go_returns
      rw [HP.out.1, HP.out.2]
      exact ⟨rfl, fin HB3.out⟩
    · clear hF
      go_wp2_with fail
      refine (HC.out _).mono ?_
      rintro e w3 ⟨rfl, hB3⟩
      have HB3 : Hid (Below (w.heap.size + 1) (w.alloc (.cells #[.int .i64 x0, .int .i64 x1, .int .i64 x2, .int .i64 x3, .int .i64 x4] 23)) w3) := Lib.hid (HR.out.trans (hB3.mono (by simpa using HR.out.size)))
      clear hB3 q0 q1 q2 q3 q4
      go_wp2
      go_roundw
      case rel => exact ⟨k + 1, by omega, by omega, by omega, rfl, HB3⟩
      case measure => simp [intOf]; omega
end
end Go.Proofs.YtffaikcaenkkhaaDoor.Places
