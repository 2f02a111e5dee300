/-
  The law on the order of admissions, walked: what 'Admit' and 'After' return is given. CONDITIONS: numbers are of their kinds. No project text.
-/
import Derived.Test.YtffaikcaenkkhabOrder2
namespace Go.Proofs.Ytffaikcaenkkhab.Order
open Go.ChangeShapes Go.WideShapes Go.ChangeAt Go.RowKit Go.Proofs.Ytffaikcaenkkhab.Good

theorem via {W w1 w2 : World} (h1 : Below W.heap.size W w1) (h2 : Below w1.heap.size w1 w2) : Below W.heap.size W w2 := h1.trans (h2.mono h1.size)
section
variable {x0 x1 x2 x3 x4 o l n : Int}
abbrev Adm (x0 x1 x2 x3 x4 o l n k e : Int) : Prop := ∀ w, Calls Try.prog 21 #[.agg #[.int .i64 x0, .int .i64 x1, .int .i64 x2, .int .i64 x3, .int .i64 x4], .int .i64 o, .int .i64 l, .int .i64 n] w fun e' w' => e' = .returned (.tuple #[.int .i64 k, .int .i64 e]) ∧ Below w.heap.size w w'
abbrev Aft (x0 x1 x2 x3 x4 o l n a : Int) : Prop := ∀ w, Calls Try.prog 22 #[.agg #[.int .i64 x0, .int .i64 x1, .int .i64 x2, .int .i64 x3, .int .i64 x4], .int .i64 o, .int .i64 l, .int .i64 n] w fun e' w' => e' = .returned (.int .i64 a) ∧ Below w.heap.size w w'
abbrev Goal (x0 x1 x2 x3 x4 o l n : Int) (w : World) : Prop := Calls Try.prog 6 #[.agg #[.int .i64 x0, .int .i64 x1, .int .i64 x2, .int .i64 x3, .int .i64 x4], .agg #[.int .i64 o, .int .i64 l], .int .i64 n] w fun e w' => e = .returned (.bool true) ∧ Below w.heap.size w w'
theorem fin {w wr : World} (h : Below (w.heap.size + 2) (W2 w x0 x1 x2 x3 x4 o l) wr) : Below w.heap.size w wr :=
  (((Below.refl w.heap.size w).alloc (Nat.le_refl _) _).alloc (by simp) _).trans (h.mono (by omega))

set_option maxRecDepth 100000 in
set_option maxHeartbeats 4000000 in
theorem law_err {e : Int} (C : Hid (Adm x0 x1 x2 x3 x4 o l n 0 e)) (hne : (e == 0) = false) (w : World) : Goal x0 x1 x2 x3 x4 o l n w := by
  go_enter Try.func6, Try.ntmps6
  go_wp2_with fail
  refine (C.out _).mono ?_
  rintro e w1 ⟨rfl, hB⟩
  have HB := Lib.hid hB
  clear hB
  go_wp2_with fail
  refine (awake16 _).mono ?_
  rintro e w2 ⟨rfl, hB2⟩
  have HB2 := Lib.hid hB2
  clear hB2
  go_wp2
  go_ret
  exact ⟨rfl, fin (x0 := x0) (x1 := x1) (x2 := x2) (x3 := x3) (x4 := x4) (o := o) (l := l) (by simpa using via HB.out HB2.out)⟩

set_option maxRecDepth 100000 in
set_option maxHeartbeats 4000000 in
theorem law_pause (C : Hid (Adm x0 x1 x2 x3 x4 o l n 2 0)) (F : Hid (Aft x0 x1 x2 x3 x4 o l n 5)) (w : World) : Goal x0 x1 x2 x3 x4 o l n w := by
  go_enter Try.func6, Try.ntmps6
  go_wp2_with fail
  refine (C.out _).mono ?_
  rintro e w1 ⟨rfl, hB⟩
  have HB : Hid (Below (w.heap.size + 2) (W2 w x0 x1 x2 x3 x4 o l) w1) := Lib.hid (by simpa using hB)
  clear hB
  obtain ⟨q0, q1, q2, q3, q4, q5, q6⟩ := cells HB.out
  go_wp2_with fail
  refine (F.out _).mono ?_
  rintro e w2 ⟨rfl, hB2⟩
  have HB2 := Lib.hid (via (by simpa using HB.out) hB2 : Below (W2 w x0 x1 x2 x3 x4 o l).heap.size (W2 w x0 x1 x2 x3 x4 o l) w2)
  clear hB2 q0 q1 q2 q3 q4 q5 q6
  go_wp2_with fail
  refine (awake16 _).mono ?_
  rintro e w3 ⟨rfl, hB3⟩
  have HB3 := Lib.hid (via HB2.out hB3)
  clear hB3
  go_wp2
  go_ret
  exact ⟨rfl, fin (by simpa using HB3.out)⟩

set_option maxRecDepth 100000 in
set_option maxHeartbeats 8000000 in
theorem law_now {k3 e3 k4 e4 : Int} (i5 : 0 ≤ o) (j5 : o ≤ 2000) (i6 : 0 ≤ l) (j6 : l ≤ 64) (i7 : 1 ≤ n) (j7 : n ≤ 64) (C : Hid (Adm x0 x1 x2 x3 x4 o l n 1 0)) (F : Hid (Aft x0 x1 x2 x3 x4 o l n 0)) (HK : Hid (∀ j, 1 ≤ j → j < n → Adm x0 x1 x2 x3 x4 o l j 1 0))
    (C3 : Hid (Adm x0 x1 x2 x3 x4 (o - 1) l n k3 e3)) (h3 : ((e3 == 0) = false ∧ (e3 != 0) = true) ∨ (e3 = 0 ∧ k3 = 1)) (C4 : Hid (Adm x0 x1 x2 x3 x4 o (l + 1) n k4 e4)) (h4 : ((e4 == 0) = false ∧ (e4 != 0) = true) ∨ (e4 = 0 ∧ k4 = 1)) (w : World) : Goal x0 x1 x2 x3 x4 o l n w := by
  have H3 := Lib.hid h3
  have H4 := Lib.hid h4
  clear h3 h4
  go_enter Try.func6, Try.ntmps6
  go_wp2_with fail
  refine (C.out _).mono ?_
  rintro e w1 ⟨rfl, hB⟩
  have HB : Hid (Below (w.heap.size + 2) (W2 w x0 x1 x2 x3 x4 o l) w1) := Lib.hid (by simpa using hB)
  clear hB
  obtain ⟨q0, q1, q2, q3, q4, q5, q6⟩ := cells HB.out
  go_wp2_with fail
  refine (F.out _).mono ?_
  rintro e w2 ⟨rfl, hB2⟩
  have HB2 : Hid (Below (w.heap.size + 2) (W2 w x0 x1 x2 x3 x4 o l) w2) := Lib.hid (by have := via (by simpa using HB.out) hB2 (W := W2 w x0 x1 x2 x3 x4 o l); simpa using this)
  clear hB2 q0 q1 q2 q3 q4 q5 q6
  go_wp2_with fail
  go_loopw [10] (fun nn wr => ∃ j : Int, 1 ≤ j ∧ j ≤ n ∧ nn = .int .i64 j ∧ Hid (Below (w.heap.size + 2) (W2 w x0 x1 x2 x3 x4 o l) wr)) (fun nn _ => (n - intOf nn).toNat)
  case atStart => exact ⟨1, by omega, by omega, rfl, HB2⟩
  case round =>
    obtain ⟨j, hj1, hjn, rfl, HR⟩ := hrel
    obtain ⟨q0, q1, q2, q3, q4, q5, q6⟩ := cells HR.out
    by_cases hlt : j < n
    · have CJ := Lib.hid (HK.out j hj1 hlt)
      go_wp2_with fail
      refine (CJ.out _).mono ?_
      rintro e w3 ⟨rfl, hB3⟩
      have HB3 : Hid (Below (w.heap.size + 2) (W2 w x0 x1 x2 x3 x4 o l) w3) := Lib.hid (HR.out.trans (hB3.mono (by simpa using HR.out.size)))
      clear hB3 q0 q1 q2 q3 q4 q5 q6
      go_wp2
      go_roundw
      case rel => exact ⟨j + 1, by omega, by omega, rfl, HB3⟩
      case measure => simp [intOf]; omega
    · go_wp2_with fail
      refine (C3.out _).mono ?_
      rintro e w3 ⟨rfl, hB3⟩
      have HB3 : Hid (Below (w.heap.size + 2) (W2 w x0 x1 x2 x3 x4 o l) w3) := Lib.hid (HR.out.trans (hB3.mono (by simpa using HR.out.size)))
      clear hB3 q0 q1 q2 q3 q4 q5 q6
      obtain ⟨q0, q1, q2, q3, q4, q5, q6⟩ := cells HB3.out
      rcases H3.out with ⟨hne, hne'⟩ | ⟨rfl, rfl⟩
      all_goals
        go_wp2_with fail
        refine (C4.out _).mono ?_
        rintro e w4 ⟨rfl, hB4⟩
        have HB4 : Hid (Below (w.heap.size + 2) (W2 w x0 x1 x2 x3 x4 o l) w4) := Lib.hid (HB3.out.trans (hB4.mono (by simpa using HB3.out.size)))
        clear hB4 q0 q1 q2 q3 q4 q5 q6
        rcases H4.out with ⟨hne4, hne4'⟩ | ⟨rfl, rfl⟩
        all_goals
          go_wp2_with fail
          refine (awake16 _).mono ?_
          rintro e w5 ⟨rfl, hB5⟩
          have HB5 : Hid (Below (w.heap.size + 2) (W2 w x0 x1 x2 x3 x4 o l) w5) := Lib.hid (HB4.out.trans (hB5.mono (by simpa using HB4.out.size)))
          clear hB5
          go_wp2
          go_ret
          exact ⟨rfl, fin HB5.out⟩

theorem law (h0 : In64 x0) (h1 : In64 x1) (h2 : In64 x2) (h3 : In64 x3) (h4 : In64 x4) (io : In64 o) (il : In64 l) (i : In64 n) (w : World) : Goal x0 x1 x2 x3 x4 o l n w := by
  have C := fun {o l n : Int} (io : In64 o) (il : In64 l) (i : In64 n) => adm21 h0 h1 h2 h3 h4 io il i
  have F := aft22 h0 h1 h2 h3 h4 io il i
  by_cases he : E x0 x1 x2 x3 x4 o l n = 0
  · obtain ⟨g, S⟩ := two io il i he
    obtain ⟨n1, n2, -, -⟩ := Most.nl g
    have hg := g
    obtain ⟨g0, g1, g2, g3, g4, g5, g6, g7, g8, g9⟩ := g
    rcases S with S | S | S | S
    · omega
    · omega
    · obtain ⟨s0, s1, s2, s3, s4, s5, s6, s7, s8, s9, s10, s11, s12⟩ := S
      have C0 := C io il i
      rw [s11, s8] at C0
      rw [s12] at F
      have next : ∀ {o' l' : Int}, In64 o' → In64 l' → (o' ≤ o ∧ l ≤ l') → ((E x0 x1 x2 x3 x4 o' l' n == 0) = false ∧ (E x0 x1 x2 x3 x4 o' l' n != 0) = true) ∨ (E x0 x1 x2 x3 x4 o' l' n = 0 ∧ K x0 x1 x2 x3 x4 o' l' n = 1) := by
        intro o' l' k1 k2 k3
        by_cases e : E x0 x1 x2 x3 x4 o' l' n = 0
        · refine .inr ⟨e, ?_⟩
          rcases good_spec k1 k2 i hg with q | q | q | q <;> omega
        · exact .inl ⟨by simpa using e, by simpa using e⟩
      refine law_now (k3 := K x0 x1 x2 x3 x4 (o - 1) l n) (e3 := E x0 x1 x2 x3 x4 (o - 1) l n) (k4 := K x0 x1 x2 x3 x4 o (l + 1) n) (e4 := E x0 x1 x2 x3 x4 o (l + 1) n) s0 (by omega) s2 (by omega) s5 (by omega) C0 F ?_ (C ⟨by omega, by omega⟩ il i) (next ⟨by omega, by omega⟩ il ⟨by omega, by omega⟩) (C io ⟨by omega, by omega⟩ i) (next io ⟨by omega, by omega⟩ ⟨by omega, by omega⟩) w
      intro j j1 j2
      have ij : In64 j := ⟨by omega, by omega⟩
      have hE : K x0 x1 x2 x3 x4 o l j = 1 ∧ E x0 x1 x2 x3 x4 o l j = 0 := by
        rcases good_spec io il ij hg with q | q | q | q <;> omega
      have CJ := C io il ij
      rw [hE.1, hE.2] at CJ
      exact CJ
    · obtain ⟨s0, s1, s2, s3, s4, s5, s6, s7, s8, s9, s11, s12⟩ := S
      have C0 := C io il i
      rw [s11, s8] at C0
      rw [s12] at F
      exact law_pause C0 F w
  · have C0 := C io il i
    rw [err io il i he] at C0
    exact law_err C0 (by simpa using he) w
end
end Go.Proofs.Ytffaikcaenkkhab.Order
