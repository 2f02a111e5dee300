/-
  Numbers that are not known, as the arithmetic that omega takes. No project text.
-/
import Derived.Test.YtnpgeeajlbglaaaSnd2
import Derived.Laws.StructEq
import Derived.Lib.SmallJoins
import Derived.Deep.Fields
namespace Go.Ev


section
variable [Inhabited Val] {S : Sig} {u v : Value} {k : IntKind} {x : Int}
theorem is_inv (h : VR S u v) (hi : Is u k x) : v = .int k x := by
  cases h with
  | int k' n =>
    obtain ⟨rfl, rfl⟩ := hi.same (.lit _ _)
    rfl
  | sym h =>
    obtain ⟨rfl, rfl⟩ := hi.same h
    rfl
  | _ =>
    exfalso
    obtain ⟨f, hf⟩ := hi
    cases f <;> cases hf
theorem inv1 {y : Int} (h : VR S u v) (hi : Is u k x) (e : y = x) : v = .int k y := e ▸ is_inv h hi
end

theorem dt {p : Prop} [Decidable p] (h : p) : true = decide p := (decide_eq_true h).symm
theorem df {p : Prop} [Decidable p] (h : ¬ p) : false = decide p := (decide_eq_false h).symm
end Go.Ev
namespace Go.Ev
open Go.ChangeShapes Go.WideShapes Go.Joins Go.RowKit
/-- A struct of one-cell fields, by value: its cells, each with its reading. -/
theorem open_fields {H : Type} {enc : TypeId × Value → H} {P : Program} {w : World} {base : Nat} {spare : Nat → Bool} {held : Bool} {r : Reach} {b0 : Nat} {t : TypeId} {fs : Array Field} {v : Value} {d : DataW H} {p : List MemPlace}
    (hs : P.underlying t = some (.struct fs)) (hone : Deep.oneCellFields P fs = true) (hC : P.cellsOf t = fs.size) (hv : Value.okWide P w r b0 t v) (h : DataW.Trod enc P w base spare held t v d p) :
    ∃ (vs : List Value) (_ : List (DataW H × List MemPlace)) (n : Nat), v = .agg ⟨vs⟩ ∧ vs.length = fs.size ∧ ∀ (j : Nat) (f : Field), fs[j]? = some f → ∃ u y, vs[j]? = some u ∧ DataW.trod enc P w base spare held n f.type [u] = some y := by
  obtain ⟨⟨vs⟩, rfl, hsz⟩ := okWide_struct hs hv
  obtain ⟨fuel, hf⟩ := h
  obtain ⟨ys, n, -, -, -, hlen, hg⟩ := DataW.trod_struct hs hf
  have hl : vs.length = fs.size := by simpa using hsz.trans hC
  refine ⟨vs, ys, n, rfl, hl, fun j f hj => ?_⟩
  obtain ⟨h0, h1⟩ := Deep.hone_of hone j f hj
  have hjl : j < vs.length := by rw [hl]; exact (Array.getElem?_eq_some_iff.1 hj).1
  have hjy : j < ys.length := by rw [hlen]; exact (Array.getElem?_eq_some_iff.1 hj).1
  have h2 := hg j f hj
  rw [h0, h1, List.getElem?_eq_getElem hjy] at h2
  refine ⟨vs[j], ys[j], List.getElem?_eq_getElem hjl, ?_⟩
  have h3 : (List.drop j vs).take 1 = [vs[j]] := by rw [List.drop_eq_getElem_cons hjl]; rfl
  rw [← h3]
  simpa [Value.cells] using h2
end Go.Ev
