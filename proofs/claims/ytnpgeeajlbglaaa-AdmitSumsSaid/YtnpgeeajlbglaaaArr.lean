/-
  Array arguments of two or three numbers, opened; slices of numbers. No project text.
-/
import Derived.Test.YtnpgeeajlbglaaaRx2
import Derived.ChangeSlices
namespace Go.Rx
open Go.ChangeShapes Go.WideShapes Go.RowKit
section
variable {H : Type} {enc : TypeId × Value → H} {P : Program} {w : World} {base : Nat} {spare : Nat → Bool} {held : Bool}
/-- A slice of numbers. -/
theorem ints_in {r : Reach} {b0 : Nat} {t e : TypeId} {k : IntKind} {v : Value} {d : DataW H} {p : List MemPlace} (ht : P.underlying t = some (.slice e)) (he : P.underlying e = some (.int k)) (hC : P.cellsOf e = 1)
    (hv : Value.okWide P w r b0 t v) (h : DataW.Trod enc P w base spare held t v d p) :
    v = .slice none 0 0 ∨ ∃ b o n c, v = .slice (some ⟨b, o, none⟩) n c ∧ b < w.heap.size ∧ (n : Int) ≤ 9223372036854775807 ∧ (∀ (i j : Nat) k', i < n → ([k] : List IntKind)[j]? = some k' → w.cell? ⟨b, o + i * 1 + j, none⟩ = some (.int k' (cellN w b (o + i * 1 + j)))) ∧ ∀ i, i < n → (Lit.int k (cellN w b (o + i))).wf = true := by
  rcases slice_in ht hv with h0 | ⟨b, o, n, c, rfl, hb, hn, hc⟩
  · exact .inl h0
  · obtain ⟨fuel, hf⟩ := h
    rcases open_ints ht he hC hf with ⟨h0, -⟩ | ⟨a, len, cap, zs, hcs, -, hlc, -, hzl, -, hel, hwf⟩
    · simp [Value.cells] at h0
    · simp only [Value.cells] at hcs
      injection hcs with q1 _
      injection q1 with q2 q3 q4
      injection q2 with q5
      subst q5; subst q3; subst q4
      have hlen : n ≤ zs.length := by rw [hzl]; split <;> omega
      have key : ∀ i, i < n → w.cell? ⟨b, o + i, none⟩ = some (.int k (zs.getD i 0)) := fun i hi => by
        have := hel i (by omega)
        rw [← this]
        congr 1
        simp only [Addr.add]
        split
        · subst_vars; rfl
        · rfl
      refine .inr ⟨b, o, n, c, rfl, hb, by omega, fun i j k' hi hj => ?_, fun i hi => ?_⟩
      · cases j with
        | succ j => simp at hj
        | zero =>
          obtain rfl : k = k' := by simpa using hj
          have e1 := key i hi
          rw [Nat.mul_one, Nat.add_zero]
          unfold cellN
          rw [e1]
      · have e1 := key i hi
        have : cellN w b (o + i) = zs.getD i 0 := by unfold cellN; rw [e1]
        rw [this]
        refine hwf _ ?_
        rw [List.getD_eq_getElem?_getD, List.getElem?_eq_getElem (by omega)]
        exact List.getElem_mem _
end
end Go.Rx
