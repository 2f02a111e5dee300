/-
  No cell of these rows narrows 'for every input' (looked for: loops, veiled, ifaces, maps, wideKeys, modest, calm, conditions, laid).
  DERIVED. THE GIVEN ROWS OF THIS SEAT. 15 by the template 'for every input the law returns true; each argument reads behind the call as it read before'; 0 by the template 'total and deterministic' (their statements: YtkflmglpniebfaaTotals.lean).
  GIVEN WITH THE SEED: the statements are not yours to turn. If you find one false, say at which input.
  Laid BY PROGRAM, IN A SANDBOX (cutbox-rows.mjs): the forced cells as the released guide's own fill.sh prints them over the translation a9506630faa5f9d6… (all of the seat's roots in one cut). By AI agents, Wed Nov 11 2026. No macro, syntax, notation, axiom, sorry.
-/
import Derived.Test.YtkflmglpniebfaaChecked
import GoSem.Claim
import GoSem.ClaimJoined
import GoSem.ClaimMapViews
import Derived.JoinedTies
import Derived.KernelRfl
namespace Go.Proofs.Ytkflmglpniebfaa
/- THE CELL 'sum', in the pinned program and in every row, IS THE sha256 OF THE DUMP (.gsa) THAT YtkflmglpniebfaaProg.lean LOADS. Nothing in Lean hashes anything: it is a label: what it is worth is what the hold of that sum in a sandbox is worth. -/
noncomputable def Try.pinned : Pinned := { name := "ytkflmglpniebfaa", sum := "a9506630faa5f9d62d0525a6e68b4a9b5fc2135ff0a28d70babaae99c19b1098", checked := Try.checked }
namespace Rows
def none {H : Type} : Left H := { results := [], args := [] }

/-- 'shunterlaw10.FramesLists': WHATEVER THE INPUT: true; the input reads as it did. -/
def framesListsSpec : ChangeSpec := { name := "framesLists", fn := fun _ => fun
  | [d1, d2] => { results := [.lit (.bool true)], args := [d1, d2] }
  | _ => none }
def framesListsRow : OpenClaim := { program := "ytkflmglpniebfaa", sum := "a9506630faa5f9d62d0525a6e68b4a9b5fc2135ff0a28d70babaae99c19b1098", func := "shunter/shunterlaw10.FramesLists", spec := "framesLists", unfollowed := true, recurses := true, apart := false }
def FramesListsSaid : Prop := framesListsRow.holds Try.pinned (OpenSpec.ofChange framesListsSpec)

/-- ITS FALSE NEIGHBOUR: 'it returns false'. Refute it at one input. -/
def framesListsWrong : ChangeSpec := { name := "framesLists", fn := fun _ => fun
  | [d1, d2] => { results := [.lit (.bool false)], args := [d1, d2] }
  | _ => none }
def FramesListsWrongFalsely : Prop := framesListsRow.holds Try.pinned (OpenSpec.ofChange framesListsWrong)

/-- 'shunterlaw10.FramesCars': WHATEVER THE INPUT: true; the input reads as it did. -/
def framesCarsSpec : ChangeSpec := { name := "framesCars", fn := fun _ => fun
  | [d1, d2, d3] => { results := [.lit (.bool true)], args := [d1, d2, d3] }
  | _ => none }
def framesCarsRow : OpenClaim := { program := "ytkflmglpniebfaa", sum := "a9506630faa5f9d62d0525a6e68b4a9b5fc2135ff0a28d70babaae99c19b1098", func := "shunter/shunterlaw10.FramesCars", spec := "framesCars", unfollowed := true, recurses := true, apart := false }
def FramesCarsSaid : Prop := framesCarsRow.holds Try.pinned (OpenSpec.ofChange framesCarsSpec)

/-- ITS FALSE NEIGHBOUR: 'it returns false'. Refute it at one input. -/
def framesCarsWrong : ChangeSpec := { name := "framesCars", fn := fun _ => fun
  | [d1, d2, d3] => { results := [.lit (.bool false)], args := [d1, d2, d3] }
  | _ => none }
def FramesCarsWrongFalsely : Prop := framesCarsRow.holds Try.pinned (OpenSpec.ofChange framesCarsWrong)

/-- 'shunterlaw10.FramesChanges': WHATEVER THE INPUT: true; the input reads as it did. -/
def framesChangesSpec : ChangeSpec := { name := "framesChanges", fn := fun _ => fun
  | [d1, d2, d3] => { results := [.lit (.bool true)], args := [d1, d2, d3] }
  | _ => none }
def framesChangesRow : OpenClaim := { program := "ytkflmglpniebfaa", sum := "a9506630faa5f9d62d0525a6e68b4a9b5fc2135ff0a28d70babaae99c19b1098", func := "shunter/shunterlaw10.FramesChanges", spec := "framesChanges", unfollowed := true, recurses := true, apart := false }
def FramesChangesSaid : Prop := framesChangesRow.holds Try.pinned (OpenSpec.ofChange framesChangesSpec)

/-- ITS FALSE NEIGHBOUR: 'it returns false'. Refute it at one input. -/
def framesChangesWrong : ChangeSpec := { name := "framesChanges", fn := fun _ => fun
  | [d1, d2, d3] => { results := [.lit (.bool false)], args := [d1, d2, d3] }
  | _ => none }
def FramesChangesWrongFalsely : Prop := framesChangesRow.holds Try.pinned (OpenSpec.ofChange framesChangesWrong)

/-- 'shunterlaw10.FramesWords': WHATEVER THE INPUT: true; the input reads as it did. -/
def framesWordsSpec : ChangeSpec := { name := "framesWords", fn := fun _ => fun
  | [d1, d2] => { results := [.lit (.bool true)], args := [d1, d2] }
  | _ => none }
def framesWordsRow : OpenClaim := { program := "ytkflmglpniebfaa", sum := "a9506630faa5f9d62d0525a6e68b4a9b5fc2135ff0a28d70babaae99c19b1098", func := "shunter/shunterlaw10.FramesWords", spec := "framesWords", unfollowed := true, recurses := true, apart := false }
def FramesWordsSaid : Prop := framesWordsRow.holds Try.pinned (OpenSpec.ofChange framesWordsSpec)

/-- ITS FALSE NEIGHBOUR: 'it returns false'. Refute it at one input. -/
def framesWordsWrong : ChangeSpec := { name := "framesWords", fn := fun _ => fun
  | [d1, d2] => { results := [.lit (.bool false)], args := [d1, d2] }
  | _ => none }
def FramesWordsWrongFalsely : Prop := framesWordsRow.holds Try.pinned (OpenSpec.ofChange framesWordsWrong)

/-- 'shunterlaw10.FramesTakes': WHATEVER THE INPUT: true; the input reads as it did. -/
def framesTakesSpec : ChangeSpec := { name := "framesTakes", fn := fun _ => fun
  | [d1, d2, d3] => { results := [.lit (.bool true)], args := [d1, d2, d3] }
  | _ => none }
def framesTakesRow : OpenClaim := { program := "ytkflmglpniebfaa", sum := "a9506630faa5f9d62d0525a6e68b4a9b5fc2135ff0a28d70babaae99c19b1098", func := "shunter/shunterlaw10.FramesTakes", spec := "framesTakes", unfollowed := true, recurses := true, apart := false }
def FramesTakesSaid : Prop := framesTakesRow.holds Try.pinned (OpenSpec.ofChange framesTakesSpec)

/-- ITS FALSE NEIGHBOUR: 'it returns false'. Refute it at one input. -/
def framesTakesWrong : ChangeSpec := { name := "framesTakes", fn := fun _ => fun
  | [d1, d2, d3] => { results := [.lit (.bool false)], args := [d1, d2, d3] }
  | _ => none }
def FramesTakesWrongFalsely : Prop := framesTakesRow.holds Try.pinned (OpenSpec.ofChange framesTakesWrong)

/-- 'shunterlaw10.FramesBumps': WHATEVER THE INPUT: true; the input reads as it did. -/
def framesBumpsSpec : ChangeSpec := { name := "framesBumps", fn := fun _ => fun
  | [d1, d2, d3] => { results := [.lit (.bool true)], args := [d1, d2, d3] }
  | _ => none }
def framesBumpsRow : OpenClaim := { program := "ytkflmglpniebfaa", sum := "a9506630faa5f9d62d0525a6e68b4a9b5fc2135ff0a28d70babaae99c19b1098", func := "shunter/shunterlaw10.FramesBumps", spec := "framesBumps", unfollowed := true, recurses := true, apart := false }
def FramesBumpsSaid : Prop := framesBumpsRow.holds Try.pinned (OpenSpec.ofChange framesBumpsSpec)

/-- ITS FALSE NEIGHBOUR: 'it returns false'. Refute it at one input. -/
def framesBumpsWrong : ChangeSpec := { name := "framesBumps", fn := fun _ => fun
  | [d1, d2, d3] => { results := [.lit (.bool false)], args := [d1, d2, d3] }
  | _ => none }
def FramesBumpsWrongFalsely : Prop := framesBumpsRow.holds Try.pinned (OpenSpec.ofChange framesBumpsWrong)

/-- 'shunterlaw10.FramesKnown': WHATEVER THE INPUT: true; the input reads as it did. -/
def framesKnownSpec : ChangeSpec := { name := "framesKnown", fn := fun _ => fun
  | [] => { results := [.lit (.bool true)], args := [] }
  | _ => none }
def framesKnownRow : OpenClaim := { program := "ytkflmglpniebfaa", sum := "a9506630faa5f9d62d0525a6e68b4a9b5fc2135ff0a28d70babaae99c19b1098", func := "shunter/shunterlaw10.FramesKnown", spec := "framesKnown", unfollowed := true, recurses := true, apart := false }
def FramesKnownSaid : Prop := framesKnownRow.holds Try.pinned (OpenSpec.ofChange framesKnownSpec)

/-- ITS FALSE NEIGHBOUR: 'it returns false'. Refute it at one input. -/
def framesKnownWrong : ChangeSpec := { name := "framesKnown", fn := fun _ => fun
  | [] => { results := [.lit (.bool false)], args := [] }
  | _ => none }
def FramesKnownWrongFalsely : Prop := framesKnownRow.holds Try.pinned (OpenSpec.ofChange framesKnownWrong)

/-- 'shunterlaw13.BumpChecks': WHATEVER THE INPUT: true; the input reads as it did. -/
def bumpChecksSpec : ChangeSpec := { name := "bumpChecks", fn := fun _ => fun
  | [d1, d2, d3] => { results := [.lit (.bool true)], args := [d1, d2, d3] }
  | _ => none }
def bumpChecksRow : OpenClaim := { program := "ytkflmglpniebfaa", sum := "a9506630faa5f9d62d0525a6e68b4a9b5fc2135ff0a28d70babaae99c19b1098", func := "shunter/shunterlaw13.BumpChecks", spec := "bumpChecks", unfollowed := true, recurses := true, apart := false }
def BumpChecksSaid : Prop := bumpChecksRow.holds Try.pinned (OpenSpec.ofChange bumpChecksSpec)

/-- ITS FALSE NEIGHBOUR: 'it returns false'. Refute it at one input. -/
def bumpChecksWrong : ChangeSpec := { name := "bumpChecks", fn := fun _ => fun
  | [d1, d2, d3] => { results := [.lit (.bool false)], args := [d1, d2, d3] }
  | _ => none }
def BumpChecksWrongFalsely : Prop := bumpChecksRow.holds Try.pinned (OpenSpec.ofChange bumpChecksWrong)

/-- 'shunterlaw13.BumpPlaces': WHATEVER THE INPUT: true; the input reads as it did. -/
def bumpPlacesSpec : ChangeSpec := { name := "bumpPlaces", fn := fun _ => fun
  | [d1, d2, d3] => { results := [.lit (.bool true)], args := [d1, d2, d3] }
  | _ => none }
def bumpPlacesRow : OpenClaim := { program := "ytkflmglpniebfaa", sum := "a9506630faa5f9d62d0525a6e68b4a9b5fc2135ff0a28d70babaae99c19b1098", func := "shunter/shunterlaw13.BumpPlaces", spec := "bumpPlaces", unfollowed := true, recurses := true, apart := false }
def BumpPlacesSaid : Prop := bumpPlacesRow.holds Try.pinned (OpenSpec.ofChange bumpPlacesSpec)

/-- ITS FALSE NEIGHBOUR: 'it returns false'. Refute it at one input. -/
def bumpPlacesWrong : ChangeSpec := { name := "bumpPlaces", fn := fun _ => fun
  | [d1, d2, d3] => { results := [.lit (.bool false)], args := [d1, d2, d3] }
  | _ => none }
def BumpPlacesWrongFalsely : Prop := bumpPlacesRow.holds Try.pinned (OpenSpec.ofChange bumpPlacesWrong)

/-- 'shunterlaw13.BumpMany': WHATEVER THE INPUT: true; the input reads as it did. -/
def bumpManySpec : ChangeSpec := { name := "bumpMany", fn := fun _ => fun
  | [d1, d2, d3] => { results := [.lit (.bool true)], args := [d1, d2, d3] }
  | _ => none }
def bumpManyRow : OpenClaim := { program := "ytkflmglpniebfaa", sum := "a9506630faa5f9d62d0525a6e68b4a9b5fc2135ff0a28d70babaae99c19b1098", func := "shunter/shunterlaw13.BumpMany", spec := "bumpMany", unfollowed := true, recurses := true, apart := false }
def BumpManySaid : Prop := bumpManyRow.holds Try.pinned (OpenSpec.ofChange bumpManySpec)

/-- ITS FALSE NEIGHBOUR: 'it returns false'. Refute it at one input. -/
def bumpManyWrong : ChangeSpec := { name := "bumpMany", fn := fun _ => fun
  | [d1, d2, d3] => { results := [.lit (.bool false)], args := [d1, d2, d3] }
  | _ => none }
def BumpManyWrongFalsely : Prop := bumpManyRow.holds Try.pinned (OpenSpec.ofChange bumpManyWrong)

/-- 'shunterlaw13.BumpHalf': WHATEVER THE INPUT: true; the input reads as it did. -/
def bumpHalfSpec : ChangeSpec := { name := "bumpHalf", fn := fun _ => fun
  | [d1, d2, d3] => { results := [.lit (.bool true)], args := [d1, d2, d3] }
  | _ => none }
def bumpHalfRow : OpenClaim := { program := "ytkflmglpniebfaa", sum := "a9506630faa5f9d62d0525a6e68b4a9b5fc2135ff0a28d70babaae99c19b1098", func := "shunter/shunterlaw13.BumpHalf", spec := "bumpHalf", unfollowed := true, recurses := true, apart := false }
def BumpHalfSaid : Prop := bumpHalfRow.holds Try.pinned (OpenSpec.ofChange bumpHalfSpec)

/-- ITS FALSE NEIGHBOUR: 'it returns false'. Refute it at one input. -/
def bumpHalfWrong : ChangeSpec := { name := "bumpHalf", fn := fun _ => fun
  | [d1, d2, d3] => { results := [.lit (.bool false)], args := [d1, d2, d3] }
  | _ => none }
def BumpHalfWrongFalsely : Prop := bumpHalfRow.holds Try.pinned (OpenSpec.ofChange bumpHalfWrong)

/-- 'shunterlaw13.BumpApart': WHATEVER THE INPUT: true; the input reads as it did. -/
def bumpApartSpec : ChangeSpec := { name := "bumpApart", fn := fun _ => fun
  | [d1, d2, d3] => { results := [.lit (.bool true)], args := [d1, d2, d3] }
  | _ => none }
def bumpApartRow : OpenClaim := { program := "ytkflmglpniebfaa", sum := "a9506630faa5f9d62d0525a6e68b4a9b5fc2135ff0a28d70babaae99c19b1098", func := "shunter/shunterlaw13.BumpApart", spec := "bumpApart", unfollowed := true, recurses := true, apart := false }
def BumpApartSaid : Prop := bumpApartRow.holds Try.pinned (OpenSpec.ofChange bumpApartSpec)

/-- ITS FALSE NEIGHBOUR: 'it returns false'. Refute it at one input. -/
def bumpApartWrong : ChangeSpec := { name := "bumpApart", fn := fun _ => fun
  | [d1, d2, d3] => { results := [.lit (.bool false)], args := [d1, d2, d3] }
  | _ => none }
def BumpApartWrongFalsely : Prop := bumpApartRow.holds Try.pinned (OpenSpec.ofChange bumpApartWrong)

/-- 'shunterlaw13.BumpFew': WHATEVER THE INPUT: true; the input reads as it did. -/
def bumpFewSpec : ChangeSpec := { name := "bumpFew", fn := fun _ => fun
  | [d1, d2, d3] => { results := [.lit (.bool true)], args := [d1, d2, d3] }
  | _ => none }
def bumpFewRow : OpenClaim := { program := "ytkflmglpniebfaa", sum := "a9506630faa5f9d62d0525a6e68b4a9b5fc2135ff0a28d70babaae99c19b1098", func := "shunter/shunterlaw13.BumpFew", spec := "bumpFew", unfollowed := true, recurses := true, apart := false }
def BumpFewSaid : Prop := bumpFewRow.holds Try.pinned (OpenSpec.ofChange bumpFewSpec)

/-- ITS FALSE NEIGHBOUR: 'it returns false'. Refute it at one input. -/
def bumpFewWrong : ChangeSpec := { name := "bumpFew", fn := fun _ => fun
  | [d1, d2, d3] => { results := [.lit (.bool false)], args := [d1, d2, d3] }
  | _ => none }
def BumpFewWrongFalsely : Prop := bumpFewRow.holds Try.pinned (OpenSpec.ofChange bumpFewWrong)

/-- 'shunterlaw13.BumpOwns': WHATEVER THE INPUT: true; the input reads as it did. -/
def bumpOwnsSpec : ChangeSpec := { name := "bumpOwns", fn := fun _ => fun
  | [d1, d2, d3] => { results := [.lit (.bool true)], args := [d1, d2, d3] }
  | _ => none }
def bumpOwnsRow : OpenClaim := { program := "ytkflmglpniebfaa", sum := "a9506630faa5f9d62d0525a6e68b4a9b5fc2135ff0a28d70babaae99c19b1098", func := "shunter/shunterlaw13.BumpOwns", spec := "bumpOwns", unfollowed := true, recurses := true, apart := false }
def BumpOwnsSaid : Prop := bumpOwnsRow.holds Try.pinned (OpenSpec.ofChange bumpOwnsSpec)

/-- ITS FALSE NEIGHBOUR: 'it returns false'. Refute it at one input. -/
def bumpOwnsWrong : ChangeSpec := { name := "bumpOwns", fn := fun _ => fun
  | [d1, d2, d3] => { results := [.lit (.bool false)], args := [d1, d2, d3] }
  | _ => none }
def BumpOwnsWrongFalsely : Prop := bumpOwnsRow.holds Try.pinned (OpenSpec.ofChange bumpOwnsWrong)

/-- 'shunterlaw13.BumpKnown': WHATEVER THE INPUT: true; the input reads as it did. -/
def bumpKnownSpec : ChangeSpec := { name := "bumpKnown", fn := fun _ => fun
  | [] => { results := [.lit (.bool true)], args := [] }
  | _ => none }
def bumpKnownRow : OpenClaim := { program := "ytkflmglpniebfaa", sum := "a9506630faa5f9d62d0525a6e68b4a9b5fc2135ff0a28d70babaae99c19b1098", func := "shunter/shunterlaw13.BumpKnown", spec := "bumpKnown", unfollowed := true, recurses := true, apart := false }
def BumpKnownSaid : Prop := bumpKnownRow.holds Try.pinned (OpenSpec.ofChange bumpKnownSpec)

/-- ITS FALSE NEIGHBOUR: 'it returns false'. Refute it at one input. -/
def bumpKnownWrong : ChangeSpec := { name := "bumpKnown", fn := fun _ => fun
  | [] => { results := [.lit (.bool false)], args := [] }
  | _ => none }
def BumpKnownWrongFalsely : Prop := bumpKnownRow.holds Try.pinned (OpenSpec.ofChange bumpKnownWrong)

/- THE SECOND FORM. 'bulk': how many values and letters a reading holds, each counted each time it is reached (what is shared counts as often as it is met; a slice's spare places count too). A statement '..UptoSaid' is the law's where the arguments, and the package variables that the reading takes, are together of bulk at most 1048576: NARROWER than '..Said'. Prove '..Said' where nothing that the law and all that it calls make is longer than what came in: it says more and counts as full. Else prove '..UptoSaid'. A law counts once. -/
mutual
def uptoBulk {H : Type} : DataW H → Nat
  | .lit (.string bytes) => bytes.length + 1
  | .lit _ => 1
  | .nil => 1
  | .ptr d => uptoBulk d + 1
  | .slice elems spare => uptoBulkAll elems + uptoBulkAll spare + 1
  | .agg parts => uptoBulkAll parts + 1
  | .iface _ d => uptoBulk d + 1
  | .map entries => uptoBulkEntries entries + 1
  | .held _ => 1
def uptoBulkAll {H : Type} : List (DataW H) → Nat
  | [] => 0
  | d :: r => uptoBulk d + uptoBulkAll r
def uptoBulkEntries {H : Type} : List (Lit × DataW H) → Nat
  | [] => 0
  | x :: r => uptoBulkEntry x + uptoBulkEntries r
def uptoBulkEntry {H : Type} : Lit × DataW H → Nat
  | (.string bytes, d) => bytes.length + uptoBulk d + 1
  | (_, d) => uptoBulk d + 1
 end
def uptoSmall : (H : Type) → List (DataW H) → Bool := fun _ ds => decide (uptoBulkAll ds ≤ 1048576)
def OpenSpec.upto (s : _root_.Go.ChangeSpec) : _root_.Go.OpenSpec := { _root_.Go.OpenSpec.ofChange s with cond := some uptoSmall }

/-- 'shunterlaw10.FramesLists', WHERE WHAT IT READS IS OF BULK AT MOST 1048576: true; the input reads as it did. -/
def framesListsUptoRow : OpenClaim := { program := "ytkflmglpniebfaa", sum := "a9506630faa5f9d62d0525a6e68b4a9b5fc2135ff0a28d70babaae99c19b1098", func := "shunter/shunterlaw10.FramesLists", spec := "framesLists", unfollowed := true, recurses := true, apart := false, narrowed := true }
def FramesListsUptoSaid : Prop := framesListsUptoRow.holds Try.pinned (OpenSpec.upto framesListsSpec)

/-- 'shunterlaw10.FramesCars', WHERE WHAT IT READS IS OF BULK AT MOST 1048576: true; the input reads as it did. -/
def framesCarsUptoRow : OpenClaim := { program := "ytkflmglpniebfaa", sum := "a9506630faa5f9d62d0525a6e68b4a9b5fc2135ff0a28d70babaae99c19b1098", func := "shunter/shunterlaw10.FramesCars", spec := "framesCars", unfollowed := true, recurses := true, apart := false, narrowed := true }
def FramesCarsUptoSaid : Prop := framesCarsUptoRow.holds Try.pinned (OpenSpec.upto framesCarsSpec)

/-- 'shunterlaw10.FramesChanges', WHERE WHAT IT READS IS OF BULK AT MOST 1048576: true; the input reads as it did. -/
def framesChangesUptoRow : OpenClaim := { program := "ytkflmglpniebfaa", sum := "a9506630faa5f9d62d0525a6e68b4a9b5fc2135ff0a28d70babaae99c19b1098", func := "shunter/shunterlaw10.FramesChanges", spec := "framesChanges", unfollowed := true, recurses := true, apart := false, narrowed := true }
def FramesChangesUptoSaid : Prop := framesChangesUptoRow.holds Try.pinned (OpenSpec.upto framesChangesSpec)

/-- 'shunterlaw10.FramesWords', WHERE WHAT IT READS IS OF BULK AT MOST 1048576: true; the input reads as it did. -/
def framesWordsUptoRow : OpenClaim := { program := "ytkflmglpniebfaa", sum := "a9506630faa5f9d62d0525a6e68b4a9b5fc2135ff0a28d70babaae99c19b1098", func := "shunter/shunterlaw10.FramesWords", spec := "framesWords", unfollowed := true, recurses := true, apart := false, narrowed := true }
def FramesWordsUptoSaid : Prop := framesWordsUptoRow.holds Try.pinned (OpenSpec.upto framesWordsSpec)

/-- 'shunterlaw10.FramesTakes', WHERE WHAT IT READS IS OF BULK AT MOST 1048576: true; the input reads as it did. -/
def framesTakesUptoRow : OpenClaim := { program := "ytkflmglpniebfaa", sum := "a9506630faa5f9d62d0525a6e68b4a9b5fc2135ff0a28d70babaae99c19b1098", func := "shunter/shunterlaw10.FramesTakes", spec := "framesTakes", unfollowed := true, recurses := true, apart := false, narrowed := true }
def FramesTakesUptoSaid : Prop := framesTakesUptoRow.holds Try.pinned (OpenSpec.upto framesTakesSpec)

/-- 'shunterlaw10.FramesBumps', WHERE WHAT IT READS IS OF BULK AT MOST 1048576: true; the input reads as it did. -/
def framesBumpsUptoRow : OpenClaim := { program := "ytkflmglpniebfaa", sum := "a9506630faa5f9d62d0525a6e68b4a9b5fc2135ff0a28d70babaae99c19b1098", func := "shunter/shunterlaw10.FramesBumps", spec := "framesBumps", unfollowed := true, recurses := true, apart := false, narrowed := true }
def FramesBumpsUptoSaid : Prop := framesBumpsUptoRow.holds Try.pinned (OpenSpec.upto framesBumpsSpec)

/-- 'shunterlaw10.FramesKnown', WHERE WHAT IT READS IS OF BULK AT MOST 1048576: true; the input reads as it did. -/
def framesKnownUptoRow : OpenClaim := { program := "ytkflmglpniebfaa", sum := "a9506630faa5f9d62d0525a6e68b4a9b5fc2135ff0a28d70babaae99c19b1098", func := "shunter/shunterlaw10.FramesKnown", spec := "framesKnown", unfollowed := true, recurses := true, apart := false, narrowed := true }
def FramesKnownUptoSaid : Prop := framesKnownUptoRow.holds Try.pinned (OpenSpec.upto framesKnownSpec)

/-- 'shunterlaw13.BumpChecks', WHERE WHAT IT READS IS OF BULK AT MOST 1048576: true; the input reads as it did. -/
def bumpChecksUptoRow : OpenClaim := { program := "ytkflmglpniebfaa", sum := "a9506630faa5f9d62d0525a6e68b4a9b5fc2135ff0a28d70babaae99c19b1098", func := "shunter/shunterlaw13.BumpChecks", spec := "bumpChecks", unfollowed := true, recurses := true, apart := false, narrowed := true }
def BumpChecksUptoSaid : Prop := bumpChecksUptoRow.holds Try.pinned (OpenSpec.upto bumpChecksSpec)

/-- 'shunterlaw13.BumpPlaces', WHERE WHAT IT READS IS OF BULK AT MOST 1048576: true; the input reads as it did. -/
def bumpPlacesUptoRow : OpenClaim := { program := "ytkflmglpniebfaa", sum := "a9506630faa5f9d62d0525a6e68b4a9b5fc2135ff0a28d70babaae99c19b1098", func := "shunter/shunterlaw13.BumpPlaces", spec := "bumpPlaces", unfollowed := true, recurses := true, apart := false, narrowed := true }
def BumpPlacesUptoSaid : Prop := bumpPlacesUptoRow.holds Try.pinned (OpenSpec.upto bumpPlacesSpec)

/-- 'shunterlaw13.BumpMany', WHERE WHAT IT READS IS OF BULK AT MOST 1048576: true; the input reads as it did. -/
def bumpManyUptoRow : OpenClaim := { program := "ytkflmglpniebfaa", sum := "a9506630faa5f9d62d0525a6e68b4a9b5fc2135ff0a28d70babaae99c19b1098", func := "shunter/shunterlaw13.BumpMany", spec := "bumpMany", unfollowed := true, recurses := true, apart := false, narrowed := true }
def BumpManyUptoSaid : Prop := bumpManyUptoRow.holds Try.pinned (OpenSpec.upto bumpManySpec)

/-- 'shunterlaw13.BumpHalf', WHERE WHAT IT READS IS OF BULK AT MOST 1048576: true; the input reads as it did. -/
def bumpHalfUptoRow : OpenClaim := { program := "ytkflmglpniebfaa", sum := "a9506630faa5f9d62d0525a6e68b4a9b5fc2135ff0a28d70babaae99c19b1098", func := "shunter/shunterlaw13.BumpHalf", spec := "bumpHalf", unfollowed := true, recurses := true, apart := false, narrowed := true }
def BumpHalfUptoSaid : Prop := bumpHalfUptoRow.holds Try.pinned (OpenSpec.upto bumpHalfSpec)

/-- 'shunterlaw13.BumpApart', WHERE WHAT IT READS IS OF BULK AT MOST 1048576: true; the input reads as it did. -/
def bumpApartUptoRow : OpenClaim := { program := "ytkflmglpniebfaa", sum := "a9506630faa5f9d62d0525a6e68b4a9b5fc2135ff0a28d70babaae99c19b1098", func := "shunter/shunterlaw13.BumpApart", spec := "bumpApart", unfollowed := true, recurses := true, apart := false, narrowed := true }
def BumpApartUptoSaid : Prop := bumpApartUptoRow.holds Try.pinned (OpenSpec.upto bumpApartSpec)

/-- 'shunterlaw13.BumpFew', WHERE WHAT IT READS IS OF BULK AT MOST 1048576: true; the input reads as it did. -/
def bumpFewUptoRow : OpenClaim := { program := "ytkflmglpniebfaa", sum := "a9506630faa5f9d62d0525a6e68b4a9b5fc2135ff0a28d70babaae99c19b1098", func := "shunter/shunterlaw13.BumpFew", spec := "bumpFew", unfollowed := true, recurses := true, apart := false, narrowed := true }
def BumpFewUptoSaid : Prop := bumpFewUptoRow.holds Try.pinned (OpenSpec.upto bumpFewSpec)

/-- 'shunterlaw13.BumpOwns', WHERE WHAT IT READS IS OF BULK AT MOST 1048576: true; the input reads as it did. -/
def bumpOwnsUptoRow : OpenClaim := { program := "ytkflmglpniebfaa", sum := "a9506630faa5f9d62d0525a6e68b4a9b5fc2135ff0a28d70babaae99c19b1098", func := "shunter/shunterlaw13.BumpOwns", spec := "bumpOwns", unfollowed := true, recurses := true, apart := false, narrowed := true }
def BumpOwnsUptoSaid : Prop := bumpOwnsUptoRow.holds Try.pinned (OpenSpec.upto bumpOwnsSpec)

/-- 'shunterlaw13.BumpKnown', WHERE WHAT IT READS IS OF BULK AT MOST 1048576: true; the input reads as it did. -/
def bumpKnownUptoRow : OpenClaim := { program := "ytkflmglpniebfaa", sum := "a9506630faa5f9d62d0525a6e68b4a9b5fc2135ff0a28d70babaae99c19b1098", func := "shunter/shunterlaw13.BumpKnown", spec := "bumpKnown", unfollowed := true, recurses := true, apart := false, narrowed := true }
def BumpKnownUptoSaid : Prop := bumpKnownUptoRow.holds Try.pinned (OpenSpec.upto bumpKnownSpec)

end Rows
end Go.Proofs.Ytkflmglpniebfaa
