/-
  What 'Place' and 'Space' return, the project's and the reference's alike, as the law takes it. CONDITIONS: numbers are of their kinds. No project text.
-/
import Derived.Test.YtffaikcaenkkhaaDoorPlaces3
namespace Go.Proofs.YtffaikcaenkkhaaDoor.Places
open Go.ChangeShapes Go.WideShapes Go.ChangeAt Go.RowKit Go.Proofs.YtffaikcaenkkhaaDoor.Good

section
variable {x0 x1 x2 x3 x4 a k : Int}
def PE (x0 x1 x2 x3 x4 a : Int) : Int := if chk x0 x1 x2 x3 x4 = 0 then (if 1 ≤ a ∧ a < 1 + x2 + x1 * x0 then 0 else 7) else chk x0 x1 x2 x3 x4
def PC (x0 x1 x2 x3 x4 a : Int) : Int := if PE x0 x1 x2 x3 x4 a = 0 then car x0 x2 a else 0
def PO (x0 x1 x2 x3 x4 a : Int) : Int := if PE x0 x1 x2 x3 x4 a = 0 then off x0 x2 a else 0
theorem wdp (h0 : In64 x0) (h1 : In64 x1) (h2 : In64 x2) (h3 : In64 x3) (h4 : In64 x4) : Wd 16 x0 x1 x2 x3 x4 (pWords.r0 x0 x1 x2 x3 x4 (chk x0 x1 x2 x3 x4)) (pWords.r1 x0 x1 x2 x3 x4 (chk x0 x1 x2 x3 x4)) := fun w => by
  have := chk_bd x0 x1 x2 x3 x4
  exact pWords.walk x0 x1 x2 x3 x4 (chk x0 x1 x2 x3 x4) (fun I => Ev.csOk_cons (Good.cchk h0 h1 h2 h3 h4 I.i0 I.i1 I.i2 I.i3 I.i4 rfl I.i5 rfl) (Ev.csOk_cons (Good.rchk h0 h1 h2 h3 h4 I.i0 I.i1 I.i2 I.i3 I.i4 rfl I.i5 rfl) (Ev.csOk_nil _))) ⟨h0.1, h0.2, h1.1, h1.2, h2.1, h2.2, h3.1, h3.2, h4.1, h4.2, by omega, by omega⟩ w
theorem wdr (h0 : In64 x0) (h1 : In64 x1) (h2 : In64 x2) (h3 : In64 x3) (h4 : In64 x4) : Wd 17 x0 x1 x2 x3 x4 (rWords.r0 x0 x1 x2 x3 x4 (chk x0 x1 x2 x3 x4)) (rWords.r1 x0 x1 x2 x3 x4 (chk x0 x1 x2 x3 x4)) := fun w => by
  have := chk_bd x0 x1 x2 x3 x4
  exact rWords.walk x0 x1 x2 x3 x4 (chk x0 x1 x2 x3 x4) (fun I => Ev.csOk_cons (Good.cchk h0 h1 h2 h3 h4 I.i0 I.i1 I.i2 I.i3 I.i4 rfl I.i5 rfl) (Ev.csOk_cons (Good.rchk h0 h1 h2 h3 h4 I.i0 I.i1 I.i2 I.i3 I.i4 rfl I.i5 rfl) (Ev.csOk_nil _))) ⟨h0.1, h0.2, h1.1, h1.2, h2.1, h2.2, h3.1, h3.2, h4.1, h4.2, by omega, by omega⟩ w
theorem wvals (g : good x0 x1 x2 x3 x4) : (pWords.r0 x0 x1 x2 x3 x4 0 = 1 + x2 + x1 * x0 ∧ pWords.r1 x0 x1 x2 x3 x4 0 = 0) ∧ (rWords.r0 x0 x1 x2 x3 x4 0 = 1 + x2 + x1 * x0 ∧ rWords.r1 x0 x1 x2 x3 x4 0 = 0) := by
  obtain ⟨n1, n2, n3, n4, n5⟩ := nl g (by obtain ⟨g0, g1, g2, g3, -⟩ := g; omega : 0 ≤ x1) (by omega : x1 ≤ x1)
  obtain ⟨g0, g1, g2, g3, g4, g5, g6, g7, g8, g9⟩ := g
  refine ⟨⟨?_, ?_⟩, ?_, ?_⟩
  · unfold pWords.r0
    rw [if_pos (c := pWords.z0 x0 x1 x2 x3 x4 0 = pWords.z1 x0 x1 x2 x3 x4 0) rfl]
    simp only [pWords.z2, pWords.z3, pWords.z4, pWords.z5, pWords.z6, pWords.z7, pWords.z8]
    omega
  · unfold pWords.r1
    rw [if_pos (c := pWords.z0 x0 x1 x2 x3 x4 0 = pWords.z1 x0 x1 x2 x3 x4 0) rfl]
    rfl
  · unfold rWords.r0
    rw [if_pos (c := rWords.z0 x0 x1 x2 x3 x4 0 = rWords.z1 x0 x1 x2 x3 x4 0) rfl]
    simp only [rWords.z2, rWords.z3, rWords.z4, rWords.z5, rWords.z6, rWords.z7, rWords.z8]
    omega
  · unfold rWords.r1
    rw [if_pos (c := rWords.z0 x0 x1 x2 x3 x4 0 = rWords.z1 x0 x1 x2 x3 x4 0) rfl]
    rfl
theorem chk7 (g : ¬ good x0 x1 x2 x3 x4) : chk x0 x1 x2 x3 x4 = 7 := by unfold chk; rw [if_neg g]
theorem place_any (h0 : In64 x0) (h1 : In64 x1) (h2 : In64 x2) (h3 : In64 x3) (h4 : In64 x4) (w : World) : Pl 28 x0 x1 x2 x3 x4 a (PC x0 x1 x2 x3 x4 a) (PO x0 x1 x2 x3 x4 a) (PE x0 x1 x2 x3 x4 a) w ∧ Pl 29 x0 x1 x2 x3 x4 a (PC x0 x1 x2 x3 x4 a) (PO x0 x1 x2 x3 x4 a) (PE x0 x1 x2 x3 x4 a) w := by
  have P := wdp h0 h1 h2 h3 h4
  have R := wdr h0 h1 h2 h3 h4
  by_cases g : good x0 x1 x2 x3 x4
  · have hc := chk_good g
    obtain ⟨⟨v1, v2⟩, v3, v4⟩ := wvals g
    rw [hc, v1, v2] at P
    rw [hc, v3, v4] at R
    obtain ⟨n1, n2, n3, n4, n5⟩ := nl g (by obtain ⟨g0, g1, g2, g3, -⟩ := g; omega : 0 ≤ x1) (by omega : x1 ≤ x1)
    obtain ⟨g0, g1, g2, g3, g4, g5, g6, g7, g8, g9⟩ := id g
    by_cases ha : 1 ≤ a ∧ a < 1 + x2 + x1 * x0
    · have e : PE x0 x1 x2 x3 x4 a = 0 := by unfold PE; rw [if_pos hc, if_pos ha]
      unfold PC PO
      rw [if_pos e, if_pos e, e]
      refine ⟨?_, ?_⟩
      · by_cases hl : a ≤ x2
        · unfold car off
          rw [if_pos hl, if_pos hl]
          exact pplace_low P ha.1 ha.2 hl g5 w
        · unfold car off
          rw [if_neg hl, if_neg hl]
          exact pplace_high P ha.1 ha.2 (by omega) (by omega) g4 g0 g1 w
      · refine rplace_in g2 g3 (n := 1 + x2 + x1 * x0) (by omega) ha.1 ha.2 R (at_ x0 x2) (fun k k0 k1 => ⟨space h0 h1 h2 h3 h4 g k0 k1, ?_⟩) ⟨rfl, ?_⟩ _ _ (fun k k0 l u => at_car (by omega) k0 l u) w
        · unfold at_
          by_cases hz : 0 ≤ k
          · obtain ⟨m1, m2, m3, m4, m5⟩ := nl g hz (by omega : k ≤ x1)
            rw [if_neg (by omega), if_neg (by omega), m5]
            have := nl g (by omega : 0 ≤ k + 1) (by omega : k + 1 ≤ x1)
            omega
          · obtain rfl : k = -1 := by omega
            rw [if_pos rfl, if_neg (by omega), show (-1 : Int) + 1 = 0 by omega, Int.zero_mul]
            omega
        · unfold at_
          rw [if_neg (by omega)]
          exact Int.le_refl _
    · have e : PE x0 x1 x2 x3 x4 a = 7 := by unfold PE; rw [if_pos hc, if_neg ha]
      unfold PC PO
      rw [if_neg (by omega), if_neg (by omega), e]
      exact ⟨pplace_out P ha w, rplace_out R (by omega) (by omega) ha w⟩
  · have hc := chk7 g
    have e : PE x0 x1 x2 x3 x4 a = 7 := by unfold PE; rw [if_neg (by omega), hc]
    rw [hc] at P R
    unfold PC PO
    rw [if_neg (by omega), if_neg (by omega), e]
    exact ⟨pplace_err (show Wd 16 x0 x1 x2 x3 x4 0 7 from P) (by decide) w, rplace_err (show Wd 17 x0 x1 x2 x3 x4 0 7 from R) (by decide) (by decide) w⟩
end
end Go.Proofs.YtffaikcaenkkhaaDoor.Places
