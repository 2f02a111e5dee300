/-
  No cell of these rows narrows 'for every input' (looked for: loops, veiled, ifaces, maps, wideKeys, modest, calm, conditions, laid).
  DERIVED. THE GIVEN ROWS OF THIS SEAT. 17 by the template 'for every input the law returns true; each argument reads behind the call as it read before'; 0 by the template 'total and deterministic' (their statements: YtfgeoglegebncaaTotals.lean).
  GIVEN WITH THE SEED: the statements are not yours to turn. If you find one false, say at which input.
  Laid BY PROGRAM, IN A SANDBOX (cutbox-rows.mjs): the forced cells as the released guide's own fill.sh prints them over the translation 81378a990b7cb911… (all of the seat's roots in one cut). By AI agents, Wed Nov 11 2026. No macro, syntax, notation, axiom, sorry.
-/
import Derived.Test.YtfgeoglegebncaaChecked
import GoSem.Claim
import GoSem.ClaimJoined
import GoSem.ClaimMapViews
import Derived.JoinedTies
import Derived.KernelRfl
namespace Go.Proofs.Ytfgeoglegebncaa
/- THE CELL 'sum', in the pinned program and in every row, IS THE sha256 OF THE DUMP (.gsa) THAT YtfgeoglegebncaaProg.lean LOADS. Nothing in Lean hashes anything: it is a label: what it is worth is what the hold of that sum in a sandbox is worth. -/
noncomputable def Try.pinned : Pinned := { name := "ytfgeoglegebncaa", sum := "81378a990b7cb9110183f914fdc2090a8379062bf61be16395e2d3d7c190e720", checked := Try.checked }
namespace Rows
def none {H : Type} : Left H := { results := [], args := [] }

/-- 'shunterlaw03.ArenaWords': WHATEVER THE INPUT: true; the input reads as it did. -/
def arenaWordsSpec : ChangeSpec := { name := "arenaWords", fn := fun _ => fun
  | [d1, d2, d3] => { results := [.lit (.bool true)], args := [d1, d2, d3] }
  | _ => none }
def arenaWordsRow : OpenClaim := { program := "ytfgeoglegebncaa", sum := "81378a990b7cb9110183f914fdc2090a8379062bf61be16395e2d3d7c190e720", func := "shunter/shunterlaw03.ArenaWords", spec := "arenaWords", unfollowed := true, recurses := true, apart := false }
def ArenaWordsSaid : Prop := arenaWordsRow.holds Try.pinned (OpenSpec.ofChange arenaWordsSpec)

/-- ITS FALSE NEIGHBOUR: 'it returns false'. Refute it at one input. -/
def arenaWordsWrong : ChangeSpec := { name := "arenaWords", fn := fun _ => fun
  | [d1, d2, d3] => { results := [.lit (.bool false)], args := [d1, d2, d3] }
  | _ => none }
def ArenaWordsWrongFalsely : Prop := arenaWordsRow.holds Try.pinned (OpenSpec.ofChange arenaWordsWrong)

/-- 'shunterlaw03.ArenaMoves': WHATEVER THE INPUT: true; the input reads as it did. -/
def arenaMovesSpec : ChangeSpec := { name := "arenaMoves", fn := fun _ => fun
  | [d1, d2, d3] => { results := [.lit (.bool true)], args := [d1, d2, d3] }
  | _ => none }
def arenaMovesRow : OpenClaim := { program := "ytfgeoglegebncaa", sum := "81378a990b7cb9110183f914fdc2090a8379062bf61be16395e2d3d7c190e720", func := "shunter/shunterlaw03.ArenaMoves", spec := "arenaMoves", unfollowed := true, recurses := true, apart := false }
def ArenaMovesSaid : Prop := arenaMovesRow.holds Try.pinned (OpenSpec.ofChange arenaMovesSpec)

/-- ITS FALSE NEIGHBOUR: 'it returns false'. Refute it at one input. -/
def arenaMovesWrong : ChangeSpec := { name := "arenaMoves", fn := fun _ => fun
  | [d1, d2, d3] => { results := [.lit (.bool false)], args := [d1, d2, d3] }
  | _ => none }
def ArenaMovesWrongFalsely : Prop := arenaMovesRow.holds Try.pinned (OpenSpec.ofChange arenaMovesWrong)

/-- 'shunterlaw03.ArenaPlays': WHATEVER THE INPUT: true; the input reads as it did. -/
def arenaPlaysSpec : ChangeSpec := { name := "arenaPlays", fn := fun _ => fun
  | [d1, d2] => { results := [.lit (.bool true)], args := [d1, d2] }
  | _ => none }
def arenaPlaysRow : OpenClaim := { program := "ytfgeoglegebncaa", sum := "81378a990b7cb9110183f914fdc2090a8379062bf61be16395e2d3d7c190e720", func := "shunter/shunterlaw03.ArenaPlays", spec := "arenaPlays", unfollowed := true, recurses := true, apart := false }
def ArenaPlaysSaid : Prop := arenaPlaysRow.holds Try.pinned (OpenSpec.ofChange arenaPlaysSpec)

/-- ITS FALSE NEIGHBOUR: 'it returns false'. Refute it at one input. -/
def arenaPlaysWrong : ChangeSpec := { name := "arenaPlays", fn := fun _ => fun
  | [d1, d2] => { results := [.lit (.bool false)], args := [d1, d2] }
  | _ => none }
def ArenaPlaysWrongFalsely : Prop := arenaPlaysRow.holds Try.pinned (OpenSpec.ofChange arenaPlaysWrong)

/-- 'shunterlaw03.ArenaLast': WHATEVER THE INPUT: true; the input reads as it did. -/
def arenaLastSpec : ChangeSpec := { name := "arenaLast", fn := fun _ => fun
  | [d1, d2] => { results := [.lit (.bool true)], args := [d1, d2] }
  | _ => none }
def arenaLastRow : OpenClaim := { program := "ytfgeoglegebncaa", sum := "81378a990b7cb9110183f914fdc2090a8379062bf61be16395e2d3d7c190e720", func := "shunter/shunterlaw03.ArenaLast", spec := "arenaLast", unfollowed := true, recurses := true, apart := false }
def ArenaLastSaid : Prop := arenaLastRow.holds Try.pinned (OpenSpec.ofChange arenaLastSpec)

/-- ITS FALSE NEIGHBOUR: 'it returns false'. Refute it at one input. -/
def arenaLastWrong : ChangeSpec := { name := "arenaLast", fn := fun _ => fun
  | [d1, d2] => { results := [.lit (.bool false)], args := [d1, d2] }
  | _ => none }
def ArenaLastWrongFalsely : Prop := arenaLastRow.holds Try.pinned (OpenSpec.ofChange arenaLastWrong)

/-- 'shunterlaw03.ArenaParts': WHATEVER THE INPUT: true; the input reads as it did. -/
def arenaPartsSpec : ChangeSpec := { name := "arenaParts", fn := fun _ => fun
  | [d1, d2, d3] => { results := [.lit (.bool true)], args := [d1, d2, d3] }
  | _ => none }
def arenaPartsRow : OpenClaim := { program := "ytfgeoglegebncaa", sum := "81378a990b7cb9110183f914fdc2090a8379062bf61be16395e2d3d7c190e720", func := "shunter/shunterlaw03.ArenaParts", spec := "arenaParts", unfollowed := true, recurses := true, apart := false }
def ArenaPartsSaid : Prop := arenaPartsRow.holds Try.pinned (OpenSpec.ofChange arenaPartsSpec)

/-- ITS FALSE NEIGHBOUR: 'it returns false'. Refute it at one input. -/
def arenaPartsWrong : ChangeSpec := { name := "arenaParts", fn := fun _ => fun
  | [d1, d2, d3] => { results := [.lit (.bool false)], args := [d1, d2, d3] }
  | _ => none }
def ArenaPartsWrongFalsely : Prop := arenaPartsRow.holds Try.pinned (OpenSpec.ofChange arenaPartsWrong)

/-- 'shunterlaw03.ArenaOnly': WHATEVER THE INPUT: true; the input reads as it did. -/
def arenaOnlySpec : ChangeSpec := { name := "arenaOnly", fn := fun _ => fun
  | [d1, d2] => { results := [.lit (.bool true)], args := [d1, d2] }
  | _ => none }
def arenaOnlyRow : OpenClaim := { program := "ytfgeoglegebncaa", sum := "81378a990b7cb9110183f914fdc2090a8379062bf61be16395e2d3d7c190e720", func := "shunter/shunterlaw03.ArenaOnly", spec := "arenaOnly", unfollowed := true, recurses := true, apart := false }
def ArenaOnlySaid : Prop := arenaOnlyRow.holds Try.pinned (OpenSpec.ofChange arenaOnlySpec)

/-- ITS FALSE NEIGHBOUR: 'it returns false'. Refute it at one input. -/
def arenaOnlyWrong : ChangeSpec := { name := "arenaOnly", fn := fun _ => fun
  | [d1, d2] => { results := [.lit (.bool false)], args := [d1, d2] }
  | _ => none }
def ArenaOnlyWrongFalsely : Prop := arenaOnlyRow.holds Try.pinned (OpenSpec.ofChange arenaOnlyWrong)

/-- 'shunterlaw05.ObjectsMakes': WHATEVER THE INPUT: true; the input reads as it did. -/
def objectsMakesSpec : ChangeSpec := { name := "objectsMakes", fn := fun _ => fun
  | [d1, d2, d3] => { results := [.lit (.bool true)], args := [d1, d2, d3] }
  | _ => none }
def objectsMakesRow : OpenClaim := { program := "ytfgeoglegebncaa", sum := "81378a990b7cb9110183f914fdc2090a8379062bf61be16395e2d3d7c190e720", func := "shunter/shunterlaw05.ObjectsMakes", spec := "objectsMakes", unfollowed := true, recurses := true, apart := false }
def ObjectsMakesSaid : Prop := objectsMakesRow.holds Try.pinned (OpenSpec.ofChange objectsMakesSpec)

/-- ITS FALSE NEIGHBOUR: 'it returns false'. Refute it at one input. -/
def objectsMakesWrong : ChangeSpec := { name := "objectsMakes", fn := fun _ => fun
  | [d1, d2, d3] => { results := [.lit (.bool false)], args := [d1, d2, d3] }
  | _ => none }
def ObjectsMakesWrongFalsely : Prop := objectsMakesRow.holds Try.pinned (OpenSpec.ofChange objectsMakesWrong)

/-- 'shunterlaw05.ObjectsReads': WHATEVER THE INPUT: true; the input reads as it did. -/
def objectsReadsSpec : ChangeSpec := { name := "objectsReads", fn := fun _ => fun
  | [d1, d2, d3] => { results := [.lit (.bool true)], args := [d1, d2, d3] }
  | _ => none }
def objectsReadsRow : OpenClaim := { program := "ytfgeoglegebncaa", sum := "81378a990b7cb9110183f914fdc2090a8379062bf61be16395e2d3d7c190e720", func := "shunter/shunterlaw05.ObjectsReads", spec := "objectsReads", unfollowed := true, recurses := true, apart := false }
def ObjectsReadsSaid : Prop := objectsReadsRow.holds Try.pinned (OpenSpec.ofChange objectsReadsSpec)

/-- ITS FALSE NEIGHBOUR: 'it returns false'. Refute it at one input. -/
def objectsReadsWrong : ChangeSpec := { name := "objectsReads", fn := fun _ => fun
  | [d1, d2, d3] => { results := [.lit (.bool false)], args := [d1, d2, d3] }
  | _ => none }
def ObjectsReadsWrongFalsely : Prop := objectsReadsRow.holds Try.pinned (OpenSpec.ofChange objectsReadsWrong)

/-- 'shunterlaw05.ObjectsSets': WHATEVER THE INPUT: true; the input reads as it did. -/
def objectsSetsSpec : ChangeSpec := { name := "objectsSets", fn := fun _ => fun
  | [d1, d2] => { results := [.lit (.bool true)], args := [d1, d2] }
  | _ => none }
def objectsSetsRow : OpenClaim := { program := "ytfgeoglegebncaa", sum := "81378a990b7cb9110183f914fdc2090a8379062bf61be16395e2d3d7c190e720", func := "shunter/shunterlaw05.ObjectsSets", spec := "objectsSets", unfollowed := true, recurses := true, apart := false }
def ObjectsSetsSaid : Prop := objectsSetsRow.holds Try.pinned (OpenSpec.ofChange objectsSetsSpec)

/-- ITS FALSE NEIGHBOUR: 'it returns false'. Refute it at one input. -/
def objectsSetsWrong : ChangeSpec := { name := "objectsSets", fn := fun _ => fun
  | [d1, d2] => { results := [.lit (.bool false)], args := [d1, d2] }
  | _ => none }
def ObjectsSetsWrongFalsely : Prop := objectsSetsRow.holds Try.pinned (OpenSpec.ofChange objectsSetsWrong)

/-- 'shunterlaw05.ObjectsFields': WHATEVER THE INPUT: true; the input reads as it did. -/
def objectsFieldsSpec : ChangeSpec := { name := "objectsFields", fn := fun _ => fun
  | [d1, d2, d3] => { results := [.lit (.bool true)], args := [d1, d2, d3] }
  | _ => none }
def objectsFieldsRow : OpenClaim := { program := "ytfgeoglegebncaa", sum := "81378a990b7cb9110183f914fdc2090a8379062bf61be16395e2d3d7c190e720", func := "shunter/shunterlaw05.ObjectsFields", spec := "objectsFields", unfollowed := true, recurses := true, apart := false }
def ObjectsFieldsSaid : Prop := objectsFieldsRow.holds Try.pinned (OpenSpec.ofChange objectsFieldsSpec)

/-- ITS FALSE NEIGHBOUR: 'it returns false'. Refute it at one input. -/
def objectsFieldsWrong : ChangeSpec := { name := "objectsFields", fn := fun _ => fun
  | [d1, d2, d3] => { results := [.lit (.bool false)], args := [d1, d2, d3] }
  | _ => none }
def ObjectsFieldsWrongFalsely : Prop := objectsFieldsRow.holds Try.pinned (OpenSpec.ofChange objectsFieldsWrong)

/-- 'shunterlaw05.ObjectsWhole': WHATEVER THE INPUT: true; the input reads as it did. -/
def objectsWholeSpec : ChangeSpec := { name := "objectsWhole", fn := fun _ => fun
  | [d1, d2, d3] => { results := [.lit (.bool true)], args := [d1, d2, d3] }
  | _ => none }
def objectsWholeRow : OpenClaim := { program := "ytfgeoglegebncaa", sum := "81378a990b7cb9110183f914fdc2090a8379062bf61be16395e2d3d7c190e720", func := "shunter/shunterlaw05.ObjectsWhole", spec := "objectsWhole", unfollowed := true, recurses := true, apart := false }
def ObjectsWholeSaid : Prop := objectsWholeRow.holds Try.pinned (OpenSpec.ofChange objectsWholeSpec)

/-- ITS FALSE NEIGHBOUR: 'it returns false'. Refute it at one input. -/
def objectsWholeWrong : ChangeSpec := { name := "objectsWhole", fn := fun _ => fun
  | [d1, d2, d3] => { results := [.lit (.bool false)], args := [d1, d2, d3] }
  | _ => none }
def ObjectsWholeWrongFalsely : Prop := objectsWholeRow.holds Try.pinned (OpenSpec.ofChange objectsWholeWrong)

/-- 'shunterlaw05.ObjectsAlike': WHATEVER THE INPUT: true; the input reads as it did. -/
def objectsAlikeSpec : ChangeSpec := { name := "objectsAlike", fn := fun _ => fun
  | [d1, d2, d3] => { results := [.lit (.bool true)], args := [d1, d2, d3] }
  | _ => none }
def objectsAlikeRow : OpenClaim := { program := "ytfgeoglegebncaa", sum := "81378a990b7cb9110183f914fdc2090a8379062bf61be16395e2d3d7c190e720", func := "shunter/shunterlaw05.ObjectsAlike", spec := "objectsAlike", unfollowed := true, recurses := true, apart := false }
def ObjectsAlikeSaid : Prop := objectsAlikeRow.holds Try.pinned (OpenSpec.ofChange objectsAlikeSpec)

/-- ITS FALSE NEIGHBOUR: 'it returns false'. Refute it at one input. -/
def objectsAlikeWrong : ChangeSpec := { name := "objectsAlike", fn := fun _ => fun
  | [d1, d2, d3] => { results := [.lit (.bool false)], args := [d1, d2, d3] }
  | _ => none }
def ObjectsAlikeWrongFalsely : Prop := objectsAlikeRow.holds Try.pinned (OpenSpec.ofChange objectsAlikeWrong)

/-- 'shunterlaw19.RootsFinds': WHATEVER THE INPUT: true; the input reads as it did. -/
def rootsFindsSpec : ChangeSpec := { name := "rootsFinds", fn := fun _ => fun
  | [d1, d2] => { results := [.lit (.bool true)], args := [d1, d2] }
  | _ => none }
def rootsFindsRow : OpenClaim := { program := "ytfgeoglegebncaa", sum := "81378a990b7cb9110183f914fdc2090a8379062bf61be16395e2d3d7c190e720", func := "shunter/shunterlaw19.RootsFinds", spec := "rootsFinds", unfollowed := true, recurses := true, apart := false }
def RootsFindsSaid : Prop := rootsFindsRow.holds Try.pinned (OpenSpec.ofChange rootsFindsSpec)

/-- ITS FALSE NEIGHBOUR: 'it returns false'. Refute it at one input. -/
def rootsFindsWrong : ChangeSpec := { name := "rootsFinds", fn := fun _ => fun
  | [d1, d2] => { results := [.lit (.bool false)], args := [d1, d2] }
  | _ => none }
def RootsFindsWrongFalsely : Prop := rootsFindsRow.holds Try.pinned (OpenSpec.ofChange rootsFindsWrong)

/-- 'shunterlaw19.RootsMoves': WHATEVER THE INPUT: true; the input reads as it did. -/
def rootsMovesSpec : ChangeSpec := { name := "rootsMoves", fn := fun _ => fun
  | [d1, d2] => { results := [.lit (.bool true)], args := [d1, d2] }
  | _ => none }
def rootsMovesRow : OpenClaim := { program := "ytfgeoglegebncaa", sum := "81378a990b7cb9110183f914fdc2090a8379062bf61be16395e2d3d7c190e720", func := "shunter/shunterlaw19.RootsMoves", spec := "rootsMoves", unfollowed := true, recurses := true, apart := false }
def RootsMovesSaid : Prop := rootsMovesRow.holds Try.pinned (OpenSpec.ofChange rootsMovesSpec)

/-- ITS FALSE NEIGHBOUR: 'it returns false'. Refute it at one input. -/
def rootsMovesWrong : ChangeSpec := { name := "rootsMoves", fn := fun _ => fun
  | [d1, d2] => { results := [.lit (.bool false)], args := [d1, d2] }
  | _ => none }
def RootsMovesWrongFalsely : Prop := rootsMovesRow.holds Try.pinned (OpenSpec.ofChange rootsMovesWrong)

/-- 'shunterlaw19.RootsBack': WHATEVER THE INPUT: true; the input reads as it did. -/
def rootsBackSpec : ChangeSpec := { name := "rootsBack", fn := fun _ => fun
  | [d1, d2] => { results := [.lit (.bool true)], args := [d1, d2] }
  | _ => none }
def rootsBackRow : OpenClaim := { program := "ytfgeoglegebncaa", sum := "81378a990b7cb9110183f914fdc2090a8379062bf61be16395e2d3d7c190e720", func := "shunter/shunterlaw19.RootsBack", spec := "rootsBack", unfollowed := true, recurses := true, apart := false }
def RootsBackSaid : Prop := rootsBackRow.holds Try.pinned (OpenSpec.ofChange rootsBackSpec)

/-- ITS FALSE NEIGHBOUR: 'it returns false'. Refute it at one input. -/
def rootsBackWrong : ChangeSpec := { name := "rootsBack", fn := fun _ => fun
  | [d1, d2] => { results := [.lit (.bool false)], args := [d1, d2] }
  | _ => none }
def RootsBackWrongFalsely : Prop := rootsBackRow.holds Try.pinned (OpenSpec.ofChange rootsBackWrong)

/-- 'shunterlaw19.RootsChains': WHATEVER THE INPUT: true; the input reads as it did. -/
def rootsChainsSpec : ChangeSpec := { name := "rootsChains", fn := fun _ => fun
  | [d1, d2, d3] => { results := [.lit (.bool true)], args := [d1, d2, d3] }
  | _ => none }
def rootsChainsRow : OpenClaim := { program := "ytfgeoglegebncaa", sum := "81378a990b7cb9110183f914fdc2090a8379062bf61be16395e2d3d7c190e720", func := "shunter/shunterlaw19.RootsChains", spec := "rootsChains", unfollowed := true, recurses := true, apart := false }
def RootsChainsSaid : Prop := rootsChainsRow.holds Try.pinned (OpenSpec.ofChange rootsChainsSpec)

/-- ITS FALSE NEIGHBOUR: 'it returns false'. Refute it at one input. -/
def rootsChainsWrong : ChangeSpec := { name := "rootsChains", fn := fun _ => fun
  | [d1, d2, d3] => { results := [.lit (.bool false)], args := [d1, d2, d3] }
  | _ => none }
def RootsChainsWrongFalsely : Prop := rootsChainsRow.holds Try.pinned (OpenSpec.ofChange rootsChainsWrong)

/-- 'shunterlaw19.RootsRanges': WHATEVER THE INPUT: true; the input reads as it did. -/
def rootsRangesSpec : ChangeSpec := { name := "rootsRanges", fn := fun _ => fun
  | [d1, d2] => { results := [.lit (.bool true)], args := [d1, d2] }
  | _ => none }
def rootsRangesRow : OpenClaim := { program := "ytfgeoglegebncaa", sum := "81378a990b7cb9110183f914fdc2090a8379062bf61be16395e2d3d7c190e720", func := "shunter/shunterlaw19.RootsRanges", spec := "rootsRanges", unfollowed := true, recurses := true, apart := false }
def RootsRangesSaid : Prop := rootsRangesRow.holds Try.pinned (OpenSpec.ofChange rootsRangesSpec)

/-- ITS FALSE NEIGHBOUR: 'it returns false'. Refute it at one input. -/
def rootsRangesWrong : ChangeSpec := { name := "rootsRanges", fn := fun _ => fun
  | [d1, d2] => { results := [.lit (.bool false)], args := [d1, d2] }
  | _ => none }
def RootsRangesWrongFalsely : Prop := rootsRangesRow.holds Try.pinned (OpenSpec.ofChange rootsRangesWrong)

/- THE SECOND FORM. 'bulk': how many values and letters a reading holds, each counted each time it is reached (what is shared counts as often as it is met; a slice's spare places count too). A statement '..UptoSaid' is the law's where the arguments, and the package variables that the reading takes, are together of bulk at most 1048576: NARROWER than '..Said'. Prove '..Said' where nothing that the law and all that it calls make is longer than what came in: it says more and counts as full. Else prove '..UptoSaid'. A law counts once. -/
mutual
def uptoBulk {H : Type} : DataW H → Nat
  | .lit (.string bytes) => bytes.length + 1
  | .lit _ => 1
  | .nil => 1
  | .ptr d => uptoBulk d + 1
  | .slice elems spare => uptoBulkAll elems + uptoBulkAll spare + 1
  | .agg parts => uptoBulkAll parts + 1
  | .iface _ d => uptoBulk d + 1
  | .map entries => uptoBulkEntries entries + 1
  | .held _ => 1
def uptoBulkAll {H : Type} : List (DataW H) → Nat
  | [] => 0
  | d :: r => uptoBulk d + uptoBulkAll r
def uptoBulkEntries {H : Type} : List (Lit × DataW H) → Nat
  | [] => 0
  | x :: r => uptoBulkEntry x + uptoBulkEntries r
def uptoBulkEntry {H : Type} : Lit × DataW H → Nat
  | (.string bytes, d) => bytes.length + uptoBulk d + 1
  | (_, d) => uptoBulk d + 1
 end
def uptoSmall : (H : Type) → List (DataW H) → Bool := fun _ ds => decide (uptoBulkAll ds ≤ 1048576)
def OpenSpec.upto (s : _root_.Go.ChangeSpec) : _root_.Go.OpenSpec := { _root_.Go.OpenSpec.ofChange s with cond := some uptoSmall }

/-- 'shunterlaw03.ArenaWords', WHERE WHAT IT READS IS OF BULK AT MOST 1048576: true; the input reads as it did. -/
def arenaWordsUptoRow : OpenClaim := { program := "ytfgeoglegebncaa", sum := "81378a990b7cb9110183f914fdc2090a8379062bf61be16395e2d3d7c190e720", func := "shunter/shunterlaw03.ArenaWords", spec := "arenaWords", unfollowed := true, recurses := true, apart := false, narrowed := true }
def ArenaWordsUptoSaid : Prop := arenaWordsUptoRow.holds Try.pinned (OpenSpec.upto arenaWordsSpec)

/-- 'shunterlaw03.ArenaMoves', WHERE WHAT IT READS IS OF BULK AT MOST 1048576: true; the input reads as it did. -/
def arenaMovesUptoRow : OpenClaim := { program := "ytfgeoglegebncaa", sum := "81378a990b7cb9110183f914fdc2090a8379062bf61be16395e2d3d7c190e720", func := "shunter/shunterlaw03.ArenaMoves", spec := "arenaMoves", unfollowed := true, recurses := true, apart := false, narrowed := true }
def ArenaMovesUptoSaid : Prop := arenaMovesUptoRow.holds Try.pinned (OpenSpec.upto arenaMovesSpec)

/-- 'shunterlaw03.ArenaPlays', WHERE WHAT IT READS IS OF BULK AT MOST 1048576: true; the input reads as it did. -/
def arenaPlaysUptoRow : OpenClaim := { program := "ytfgeoglegebncaa", sum := "81378a990b7cb9110183f914fdc2090a8379062bf61be16395e2d3d7c190e720", func := "shunter/shunterlaw03.ArenaPlays", spec := "arenaPlays", unfollowed := true, recurses := true, apart := false, narrowed := true }
def ArenaPlaysUptoSaid : Prop := arenaPlaysUptoRow.holds Try.pinned (OpenSpec.upto arenaPlaysSpec)

/-- 'shunterlaw03.ArenaLast', WHERE WHAT IT READS IS OF BULK AT MOST 1048576: true; the input reads as it did. -/
def arenaLastUptoRow : OpenClaim := { program := "ytfgeoglegebncaa", sum := "81378a990b7cb9110183f914fdc2090a8379062bf61be16395e2d3d7c190e720", func := "shunter/shunterlaw03.ArenaLast", spec := "arenaLast", unfollowed := true, recurses := true, apart := false, narrowed := true }
def ArenaLastUptoSaid : Prop := arenaLastUptoRow.holds Try.pinned (OpenSpec.upto arenaLastSpec)

/-- 'shunterlaw03.ArenaParts', WHERE WHAT IT READS IS OF BULK AT MOST 1048576: true; the input reads as it did. -/
def arenaPartsUptoRow : OpenClaim := { program := "ytfgeoglegebncaa", sum := "81378a990b7cb9110183f914fdc2090a8379062bf61be16395e2d3d7c190e720", func := "shunter/shunterlaw03.ArenaParts", spec := "arenaParts", unfollowed := true, recurses := true, apart := false, narrowed := true }
def ArenaPartsUptoSaid : Prop := arenaPartsUptoRow.holds Try.pinned (OpenSpec.upto arenaPartsSpec)

/-- 'shunterlaw03.ArenaOnly', WHERE WHAT IT READS IS OF BULK AT MOST 1048576: true; the input reads as it did. -/
def arenaOnlyUptoRow : OpenClaim := { program := "ytfgeoglegebncaa", sum := "81378a990b7cb9110183f914fdc2090a8379062bf61be16395e2d3d7c190e720", func := "shunter/shunterlaw03.ArenaOnly", spec := "arenaOnly", unfollowed := true, recurses := true, apart := false, narrowed := true }
def ArenaOnlyUptoSaid : Prop := arenaOnlyUptoRow.holds Try.pinned (OpenSpec.upto arenaOnlySpec)

/-- 'shunterlaw05.ObjectsMakes', WHERE WHAT IT READS IS OF BULK AT MOST 1048576: true; the input reads as it did. -/
def objectsMakesUptoRow : OpenClaim := { program := "ytfgeoglegebncaa", sum := "81378a990b7cb9110183f914fdc2090a8379062bf61be16395e2d3d7c190e720", func := "shunter/shunterlaw05.ObjectsMakes", spec := "objectsMakes", unfollowed := true, recurses := true, apart := false, narrowed := true }
def ObjectsMakesUptoSaid : Prop := objectsMakesUptoRow.holds Try.pinned (OpenSpec.upto objectsMakesSpec)

/-- 'shunterlaw05.ObjectsReads', WHERE WHAT IT READS IS OF BULK AT MOST 1048576: true; the input reads as it did. -/
def objectsReadsUptoRow : OpenClaim := { program := "ytfgeoglegebncaa", sum := "81378a990b7cb9110183f914fdc2090a8379062bf61be16395e2d3d7c190e720", func := "shunter/shunterlaw05.ObjectsReads", spec := "objectsReads", unfollowed := true, recurses := true, apart := false, narrowed := true }
def ObjectsReadsUptoSaid : Prop := objectsReadsUptoRow.holds Try.pinned (OpenSpec.upto objectsReadsSpec)

/-- 'shunterlaw05.ObjectsSets', WHERE WHAT IT READS IS OF BULK AT MOST 1048576: true; the input reads as it did. -/
def objectsSetsUptoRow : OpenClaim := { program := "ytfgeoglegebncaa", sum := "81378a990b7cb9110183f914fdc2090a8379062bf61be16395e2d3d7c190e720", func := "shunter/shunterlaw05.ObjectsSets", spec := "objectsSets", unfollowed := true, recurses := true, apart := false, narrowed := true }
def ObjectsSetsUptoSaid : Prop := objectsSetsUptoRow.holds Try.pinned (OpenSpec.upto objectsSetsSpec)

/-- 'shunterlaw05.ObjectsFields', WHERE WHAT IT READS IS OF BULK AT MOST 1048576: true; the input reads as it did. -/
def objectsFieldsUptoRow : OpenClaim := { program := "ytfgeoglegebncaa", sum := "81378a990b7cb9110183f914fdc2090a8379062bf61be16395e2d3d7c190e720", func := "shunter/shunterlaw05.ObjectsFields", spec := "objectsFields", unfollowed := true, recurses := true, apart := false, narrowed := true }
def ObjectsFieldsUptoSaid : Prop := objectsFieldsUptoRow.holds Try.pinned (OpenSpec.upto objectsFieldsSpec)

/-- 'shunterlaw05.ObjectsWhole', WHERE WHAT IT READS IS OF BULK AT MOST 1048576: true; the input reads as it did. -/
def objectsWholeUptoRow : OpenClaim := { program := "ytfgeoglegebncaa", sum := "81378a990b7cb9110183f914fdc2090a8379062bf61be16395e2d3d7c190e720", func := "shunter/shunterlaw05.ObjectsWhole", spec := "objectsWhole", unfollowed := true, recurses := true, apart := false, narrowed := true }
def ObjectsWholeUptoSaid : Prop := objectsWholeUptoRow.holds Try.pinned (OpenSpec.upto objectsWholeSpec)

/-- 'shunterlaw05.ObjectsAlike', WHERE WHAT IT READS IS OF BULK AT MOST 1048576: true; the input reads as it did. -/
def objectsAlikeUptoRow : OpenClaim := { program := "ytfgeoglegebncaa", sum := "81378a990b7cb9110183f914fdc2090a8379062bf61be16395e2d3d7c190e720", func := "shunter/shunterlaw05.ObjectsAlike", spec := "objectsAlike", unfollowed := true, recurses := true, apart := false, narrowed := true }
def ObjectsAlikeUptoSaid : Prop := objectsAlikeUptoRow.holds Try.pinned (OpenSpec.upto objectsAlikeSpec)

/-- 'shunterlaw19.RootsFinds', WHERE WHAT IT READS IS OF BULK AT MOST 1048576: true; the input reads as it did. -/
def rootsFindsUptoRow : OpenClaim := { program := "ytfgeoglegebncaa", sum := "81378a990b7cb9110183f914fdc2090a8379062bf61be16395e2d3d7c190e720", func := "shunter/shunterlaw19.RootsFinds", spec := "rootsFinds", unfollowed := true, recurses := true, apart := false, narrowed := true }
def RootsFindsUptoSaid : Prop := rootsFindsUptoRow.holds Try.pinned (OpenSpec.upto rootsFindsSpec)

/-- 'shunterlaw19.RootsMoves', WHERE WHAT IT READS IS OF BULK AT MOST 1048576: true; the input reads as it did. -/
def rootsMovesUptoRow : OpenClaim := { program := "ytfgeoglegebncaa", sum := "81378a990b7cb9110183f914fdc2090a8379062bf61be16395e2d3d7c190e720", func := "shunter/shunterlaw19.RootsMoves", spec := "rootsMoves", unfollowed := true, recurses := true, apart := false, narrowed := true }
def RootsMovesUptoSaid : Prop := rootsMovesUptoRow.holds Try.pinned (OpenSpec.upto rootsMovesSpec)

/-- 'shunterlaw19.RootsBack', WHERE WHAT IT READS IS OF BULK AT MOST 1048576: true; the input reads as it did. -/
def rootsBackUptoRow : OpenClaim := { program := "ytfgeoglegebncaa", sum := "81378a990b7cb9110183f914fdc2090a8379062bf61be16395e2d3d7c190e720", func := "shunter/shunterlaw19.RootsBack", spec := "rootsBack", unfollowed := true, recurses := true, apart := false, narrowed := true }
def RootsBackUptoSaid : Prop := rootsBackUptoRow.holds Try.pinned (OpenSpec.upto rootsBackSpec)

/-- 'shunterlaw19.RootsChains', WHERE WHAT IT READS IS OF BULK AT MOST 1048576: true; the input reads as it did. -/
def rootsChainsUptoRow : OpenClaim := { program := "ytfgeoglegebncaa", sum := "81378a990b7cb9110183f914fdc2090a8379062bf61be16395e2d3d7c190e720", func := "shunter/shunterlaw19.RootsChains", spec := "rootsChains", unfollowed := true, recurses := true, apart := false, narrowed := true }
def RootsChainsUptoSaid : Prop := rootsChainsUptoRow.holds Try.pinned (OpenSpec.upto rootsChainsSpec)

/-- 'shunterlaw19.RootsRanges', WHERE WHAT IT READS IS OF BULK AT MOST 1048576: true; the input reads as it did. -/
def rootsRangesUptoRow : OpenClaim := { program := "ytfgeoglegebncaa", sum := "81378a990b7cb9110183f914fdc2090a8379062bf61be16395e2d3d7c190e720", func := "shunter/shunterlaw19.RootsRanges", spec := "rootsRanges", unfollowed := true, recurses := true, apart := false, narrowed := true }
def RootsRangesUptoSaid : Prop := rootsRangesUptoRow.holds Try.pinned (OpenSpec.upto rootsRangesSpec)

end Rows
end Go.Proofs.Ytfgeoglegebncaa
