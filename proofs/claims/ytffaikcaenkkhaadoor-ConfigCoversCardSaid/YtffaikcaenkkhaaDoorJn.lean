/-
  The library's function that joins strings, as the evaluator takes it. No project text.
-/
import Derived.Test.YtffaikcaenkkhaaDoorSnd2
import Derived.Test.YtffaikcaenkkhaaDoorShelf
namespace Go.Proofs.YtffaikcaenkkhaaDoor.Jn
theorem bsApp_eq (l r : List UInt8) : Ev.bsApp l r = l ++ r := by
  induction l with
  | nil => rfl
  | cons x l ih => exact congrArg (x :: ·) ih
theorem joinT_eq (sep : List UInt8) (xs : List ByteArray) : Ev.joinT sep xs = Lib.joinTail sep (xs.map (·.data.toList)) := by
  induction xs with
  | nil => rfl
  | cons x r ih =>
    show Ev.bsApp sep (Ev.bsApp x.data.toList (Ev.joinT sep r)) = _
    rw [bsApp_eq, bsApp_eq, ih]
    simp [Lib.joinTail]
theorem joinL_eq (sep : List UInt8) (xs : List ByteArray) : Ev.joinL sep xs = Lib.join (xs.map (·.data.toList)) sep := by
  cases xs with
  | nil => rfl
  | cons x r =>
    show Ev.bsApp x.data.toList (Ev.joinT sep r) = _
    rw [bsApp_eq, joinT_eq, List.map_cons, Lib.join_cons]
theorem jok : ∀ g, (some 42 : Option FuncId) = some g → Ev.JOk Tryd.prog g := by
  intro g hg
  obtain rfl := Option.some.inj hg
  intro bk o c xs sep w hc hb hcap hn hl
  rw [joinL_eq] at hl
  refine (Tryd.strings_Join bk o c xs sep w hc hb (by omega) hcap (by omega)).mono fun e w' ⟨he, hB⟩ => ⟨?_, hB⟩
  rw [he]
  show Ending.returned (.string _) = Ending.returned (.string (Ev.joinB sep xs))
  unfold Ev.joinB
  rw [joinL_eq]
end Go.Proofs.YtffaikcaenkkhaaDoor.Jn
