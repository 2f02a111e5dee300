/-
  No cell of these rows narrows 'for every input' (looked for: loops, veiled, ifaces, maps, wideKeys, modest, calm, conditions, laid).
  DERIVED. THE GIVEN ROWS OF THIS SEAT. 2 by the template 'for every input the law returns true; each argument reads behind the call as it read before'; 0 by the template 'total and deterministic' (their statements: YtmnhjnfjgfjafaaTotals.lean).
  GIVEN WITH THE SEED: the statements are not yours to turn. If you find one false, say at which input.
  Laid BY PROGRAM, IN A SANDBOX (cutbox-rows.mjs): the forced cells as the released guide's own fill.sh prints them over the translation 79f8bd7f9795c577… (all of the seat's roots in one cut). By AI agents, Wed Nov 11 2026. No macro, syntax, notation, axiom, sorry.
-/
import Derived.Test.YtmnhjnfjgfjafaaChecked
import GoSem.Claim
import GoSem.ClaimJoined
import GoSem.ClaimMapViews
import Derived.JoinedTies
import Derived.KernelRfl
namespace Go.Proofs.Ytmnhjnfjgfjafaa
/- THE CELL 'sum', in the pinned program and in every row, IS THE sha256 OF THE DUMP (.gsa) THAT YtmnhjnfjgfjafaaProg.lean LOADS. Nothing in Lean hashes anything: it is a label: what it is worth is what the hold of that sum in a sandbox is worth. -/
noncomputable def Try.pinned : Pinned := { name := "ytmnhjnfjgfjafaa", sum := "79f8bd7f9795c5773444255171591cef0bbb5522fc0fcc07f1c717c6336fa75b", checked := Try.checked }
namespace Rows
def none {H : Type} : Left H := { results := [], args := [] }

/-- 'shunterlaw19.RootsChanges': WHATEVER THE INPUT: true; the input reads as it did. -/
def rootsChangesSpec : ChangeSpec := { name := "rootsChanges", fn := fun _ => fun
  | [d1, d2] => { results := [.lit (.bool true)], args := [d1, d2] }
  | _ => none }
def rootsChangesRow : OpenClaim := { program := "ytmnhjnfjgfjafaa", sum := "79f8bd7f9795c5773444255171591cef0bbb5522fc0fcc07f1c717c6336fa75b", func := "shunter/shunterlaw19.RootsChanges", spec := "rootsChanges", unfollowed := true, recurses := true, apart := false }
def RootsChangesSaid : Prop := rootsChangesRow.holds Try.pinned (OpenSpec.ofChange rootsChangesSpec)

/-- ITS FALSE NEIGHBOUR: 'it returns false'. Refute it at one input. -/
def rootsChangesWrong : ChangeSpec := { name := "rootsChanges", fn := fun _ => fun
  | [d1, d2] => { results := [.lit (.bool false)], args := [d1, d2] }
  | _ => none }
def RootsChangesWrongFalsely : Prop := rootsChangesRow.holds Try.pinned (OpenSpec.ofChange rootsChangesWrong)

/-- 'shunterlaw19.RootsSets': WHATEVER THE INPUT: true; the input reads as it did. -/
def rootsSetsSpec : ChangeSpec := { name := "rootsSets", fn := fun _ => fun
  | [d1, d2] => { results := [.lit (.bool true)], args := [d1, d2] }
  | _ => none }
def rootsSetsRow : OpenClaim := { program := "ytmnhjnfjgfjafaa", sum := "79f8bd7f9795c5773444255171591cef0bbb5522fc0fcc07f1c717c6336fa75b", func := "shunter/shunterlaw19.RootsSets", spec := "rootsSets", unfollowed := true, recurses := true, apart := false }
def RootsSetsSaid : Prop := rootsSetsRow.holds Try.pinned (OpenSpec.ofChange rootsSetsSpec)

/-- ITS FALSE NEIGHBOUR: 'it returns false'. Refute it at one input. -/
def rootsSetsWrong : ChangeSpec := { name := "rootsSets", fn := fun _ => fun
  | [d1, d2] => { results := [.lit (.bool false)], args := [d1, d2] }
  | _ => none }
def RootsSetsWrongFalsely : Prop := rootsSetsRow.holds Try.pinned (OpenSpec.ofChange rootsSetsWrong)

/- THE SECOND FORM. 'bulk': how many values and letters a reading holds, each counted each time it is reached (what is shared counts as often as it is met; a slice's spare places count too). A statement '..UptoSaid' is the law's where the arguments, and the package variables that the reading takes, are together of bulk at most 1048576: NARROWER than '..Said'. Prove '..Said' where nothing that the law and all that it calls make is longer than what came in: it says more and counts as full. Else prove '..UptoSaid'. A law counts once. -/
mutual
def uptoBulk {H : Type} : DataW H → Nat
  | .lit (.string bytes) => bytes.length + 1
  | .lit _ => 1
  | .nil => 1
  | .ptr d => uptoBulk d + 1
  | .slice elems spare => uptoBulkAll elems + uptoBulkAll spare + 1
  | .agg parts => uptoBulkAll parts + 1
  | .iface _ d => uptoBulk d + 1
  | .map entries => uptoBulkEntries entries + 1
  | .held _ => 1
def uptoBulkAll {H : Type} : List (DataW H) → Nat
  | [] => 0
  | d :: r => uptoBulk d + uptoBulkAll r
def uptoBulkEntries {H : Type} : List (Lit × DataW H) → Nat
  | [] => 0
  | x :: r => uptoBulkEntry x + uptoBulkEntries r
def uptoBulkEntry {H : Type} : Lit × DataW H → Nat
  | (.string bytes, d) => bytes.length + uptoBulk d + 1
  | (_, d) => uptoBulk d + 1
 end
def uptoSmall : (H : Type) → List (DataW H) → Bool := fun _ ds => decide (uptoBulkAll ds ≤ 1048576)
def OpenSpec.upto (s : _root_.Go.ChangeSpec) : _root_.Go.OpenSpec := { _root_.Go.OpenSpec.ofChange s with cond := some uptoSmall }

/-- 'shunterlaw19.RootsChanges', WHERE WHAT IT READS IS OF BULK AT MOST 1048576: true; the input reads as it did. -/
def rootsChangesUptoRow : OpenClaim := { program := "ytmnhjnfjgfjafaa", sum := "79f8bd7f9795c5773444255171591cef0bbb5522fc0fcc07f1c717c6336fa75b", func := "shunter/shunterlaw19.RootsChanges", spec := "rootsChanges", unfollowed := true, recurses := true, apart := false, narrowed := true }
def RootsChangesUptoSaid : Prop := rootsChangesUptoRow.holds Try.pinned (OpenSpec.upto rootsChangesSpec)

/-- 'shunterlaw19.RootsSets', WHERE WHAT IT READS IS OF BULK AT MOST 1048576: true; the input reads as it did. -/
def rootsSetsUptoRow : OpenClaim := { program := "ytmnhjnfjgfjafaa", sum := "79f8bd7f9795c5773444255171591cef0bbb5522fc0fcc07f1c717c6336fa75b", func := "shunter/shunterlaw19.RootsSets", spec := "rootsSets", unfollowed := true, recurses := true, apart := false, narrowed := true }
def RootsSetsUptoSaid : Prop := rootsSetsUptoRow.holds Try.pinned (OpenSpec.upto rootsSetsSpec)

end Rows
end Go.Proofs.Ytmnhjnfjgfjafaa
