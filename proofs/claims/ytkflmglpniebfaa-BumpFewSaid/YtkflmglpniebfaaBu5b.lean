/-
  Bump: clones. No project text.
-/
import Derived.Test.YtkflmglpniebfaaBu5
namespace Go.Proofs.Ytkflmglpniebfaa.Fr
open Go.Rx
open Go.RowKit (Below)
set_option linter.unusedVariables false
def con92a : Con := fun vs bs K => match vs with
  | [.slice none 0 0] => bs = [] ∧ K (.slice none 0 0) []
  | [v] => parseR [.i64, .i64] 0 v bs fun n f j bs => bs = [] ∧ ∀ cp, n ≤ cp → K (rsl j 0 n cp) [.row false [.i64, .i64] 54 n cp f]
  | _ => False
theorem con92a_told : Told 92 (specOf con92a) := con92N_told.or con92R_told fun vs bs K x => by
  unfold con92a at x
  split at x
  · exact .inl ⟨x.1, trivial, x.2⟩
  · refine .inr ?_
    unfold con92R
    exact parseR_mono (fun n f j bs y => ⟨y.1, trivial, y.2⟩) x
  · exact x.elim
def con93a : Con := fun vs bs K => match vs with
  | [.slice none 0 0] => bs = [] ∧ K (.slice none 0 0) []
  | [v] => parseR [.i64] 0 v bs fun n f j bs => bs = [] ∧ ∀ cp, n ≤ cp → K (rsl j 0 n cp) [.row false [.i64] 3 n cp f]
  | _ => False
theorem con93a_told : Told 93 (specOf con93a) := con93N_told.or con93R_told fun vs bs K x => by
  unfold con93a at x
  split at x
  · exact .inl ⟨x.1, trivial, x.2⟩
  · refine .inr ?_
    unfold con93R
    exact parseR_mono (fun n f j bs y => ⟨y.1, trivial, y.2⟩) x
  · exact x.elim
end Go.Proofs.Ytkflmglpniebfaa.Fr
