/-
  No cell of these rows narrows 'for every input' (looked for: loops, veiled, ifaces, maps, wideKeys, modest, calm, conditions, laid).
  DERIVED. THE GIVEN ROWS OF THIS SEAT. 9 by the template 'for every input the law returns true; each argument reads behind the call as it read before'; 0 by the template 'total and deterministic' (their statements: YtnpgeeajlbglaaaTotals.lean).
  GIVEN WITH THE SEED: the statements are not yours to turn. If you find one false, say at which input.
  Laid BY PROGRAM, IN A SANDBOX (cutbox-rows.mjs): the forced cells as the released guide's own fill.sh prints them over the translation 3e7ea13868e0e37c… (all of the seat's roots in one cut). By AI agents, Wed Nov 11 2026. No macro, syntax, notation, axiom, sorry.
-/
import Derived.Test.YtnpgeeajlbglaaaChecked
import GoSem.Claim
import GoSem.ClaimJoined
import GoSem.ClaimMapViews
import Derived.JoinedTies
import Derived.KernelRfl
namespace Go.Proofs.Ytnpgeeajlbglaaa
/- THE CELL 'sum', in the pinned program and in every row, IS THE sha256 OF THE DUMP (.gsa) THAT YtnpgeeajlbglaaaProg.lean LOADS. Nothing in Lean hashes anything: it is a label: what it is worth is what the hold of that sum in a sandbox is worth. -/
noncomputable def Try.pinned : Pinned := { name := "ytnpgeeajlbglaaa", sum := "3e7ea13868e0e37cacf190b198e7147f83a5e97cb6d88160260363c9befe5168", checked := Try.checked }
namespace Rows
def none {H : Type} : Left H := { results := [], args := [] }

/-- 'shunterlaw04.HeaderSizes': WHATEVER THE INPUT: true; the input reads as it did. -/
def headerSizesSpec : ChangeSpec := { name := "headerSizes", fn := fun _ => fun
  | [d1, d2] => { results := [.lit (.bool true)], args := [d1, d2] }
  | _ => none }
def headerSizesRow : OpenClaim := { program := "ytnpgeeajlbglaaa", sum := "3e7ea13868e0e37cacf190b198e7147f83a5e97cb6d88160260363c9befe5168", func := "shunter/shunterlaw04.HeaderSizes", spec := "headerSizes", unfollowed := true, recurses := true, apart := false }
def HeaderSizesSaid : Prop := headerSizesRow.holds Try.pinned (OpenSpec.ofChange headerSizesSpec)

/-- ITS FALSE NEIGHBOUR: 'it returns false'. Refute it at one input. -/
def headerSizesWrong : ChangeSpec := { name := "headerSizes", fn := fun _ => fun
  | [d1, d2] => { results := [.lit (.bool false)], args := [d1, d2] }
  | _ => none }
def HeaderSizesWrongFalsely : Prop := headerSizesRow.holds Try.pinned (OpenSpec.ofChange headerSizesWrong)

/-- 'shunterlaw19.RootsFinds': WHATEVER THE INPUT: true; the input reads as it did. -/
def rootsFindsSpec : ChangeSpec := { name := "rootsFinds", fn := fun _ => fun
  | [d1, d2] => { results := [.lit (.bool true)], args := [d1, d2] }
  | _ => none }
def rootsFindsRow : OpenClaim := { program := "ytnpgeeajlbglaaa", sum := "3e7ea13868e0e37cacf190b198e7147f83a5e97cb6d88160260363c9befe5168", func := "shunter/shunterlaw19.RootsFinds", spec := "rootsFinds", unfollowed := true, recurses := true, apart := false }
def RootsFindsSaid : Prop := rootsFindsRow.holds Try.pinned (OpenSpec.ofChange rootsFindsSpec)

/-- ITS FALSE NEIGHBOUR: 'it returns false'. Refute it at one input. -/
def rootsFindsWrong : ChangeSpec := { name := "rootsFinds", fn := fun _ => fun
  | [d1, d2] => { results := [.lit (.bool false)], args := [d1, d2] }
  | _ => none }
def RootsFindsWrongFalsely : Prop := rootsFindsRow.holds Try.pinned (OpenSpec.ofChange rootsFindsWrong)

/-- 'shunterlaw19.RootsMoves': WHATEVER THE INPUT: true; the input reads as it did. -/
def rootsMovesSpec : ChangeSpec := { name := "rootsMoves", fn := fun _ => fun
  | [d1, d2] => { results := [.lit (.bool true)], args := [d1, d2] }
  | _ => none }
def rootsMovesRow : OpenClaim := { program := "ytnpgeeajlbglaaa", sum := "3e7ea13868e0e37cacf190b198e7147f83a5e97cb6d88160260363c9befe5168", func := "shunter/shunterlaw19.RootsMoves", spec := "rootsMoves", unfollowed := true, recurses := true, apart := false }
def RootsMovesSaid : Prop := rootsMovesRow.holds Try.pinned (OpenSpec.ofChange rootsMovesSpec)

/-- ITS FALSE NEIGHBOUR: 'it returns false'. Refute it at one input. -/
def rootsMovesWrong : ChangeSpec := { name := "rootsMoves", fn := fun _ => fun
  | [d1, d2] => { results := [.lit (.bool false)], args := [d1, d2] }
  | _ => none }
def RootsMovesWrongFalsely : Prop := rootsMovesRow.holds Try.pinned (OpenSpec.ofChange rootsMovesWrong)

/-- 'shunterlaw19.RootsBack': WHATEVER THE INPUT: true; the input reads as it did. -/
def rootsBackSpec : ChangeSpec := { name := "rootsBack", fn := fun _ => fun
  | [d1, d2] => { results := [.lit (.bool true)], args := [d1, d2] }
  | _ => none }
def rootsBackRow : OpenClaim := { program := "ytnpgeeajlbglaaa", sum := "3e7ea13868e0e37cacf190b198e7147f83a5e97cb6d88160260363c9befe5168", func := "shunter/shunterlaw19.RootsBack", spec := "rootsBack", unfollowed := true, recurses := true, apart := false }
def RootsBackSaid : Prop := rootsBackRow.holds Try.pinned (OpenSpec.ofChange rootsBackSpec)

/-- ITS FALSE NEIGHBOUR: 'it returns false'. Refute it at one input. -/
def rootsBackWrong : ChangeSpec := { name := "rootsBack", fn := fun _ => fun
  | [d1, d2] => { results := [.lit (.bool false)], args := [d1, d2] }
  | _ => none }
def RootsBackWrongFalsely : Prop := rootsBackRow.holds Try.pinned (OpenSpec.ofChange rootsBackWrong)

/-- 'shunterlaw19.RootsChains': WHATEVER THE INPUT: true; the input reads as it did. -/
def rootsChainsSpec : ChangeSpec := { name := "rootsChains", fn := fun _ => fun
  | [d1, d2, d3] => { results := [.lit (.bool true)], args := [d1, d2, d3] }
  | _ => none }
def rootsChainsRow : OpenClaim := { program := "ytnpgeeajlbglaaa", sum := "3e7ea13868e0e37cacf190b198e7147f83a5e97cb6d88160260363c9befe5168", func := "shunter/shunterlaw19.RootsChains", spec := "rootsChains", unfollowed := true, recurses := true, apart := false }
def RootsChainsSaid : Prop := rootsChainsRow.holds Try.pinned (OpenSpec.ofChange rootsChainsSpec)

/-- ITS FALSE NEIGHBOUR: 'it returns false'. Refute it at one input. -/
def rootsChainsWrong : ChangeSpec := { name := "rootsChains", fn := fun _ => fun
  | [d1, d2, d3] => { results := [.lit (.bool false)], args := [d1, d2, d3] }
  | _ => none }
def RootsChainsWrongFalsely : Prop := rootsChainsRow.holds Try.pinned (OpenSpec.ofChange rootsChainsWrong)

/-- 'shunterlaw19.RootsRanges': WHATEVER THE INPUT: true; the input reads as it did. -/
def rootsRangesSpec : ChangeSpec := { name := "rootsRanges", fn := fun _ => fun
  | [d1, d2] => { results := [.lit (.bool true)], args := [d1, d2] }
  | _ => none }
def rootsRangesRow : OpenClaim := { program := "ytnpgeeajlbglaaa", sum := "3e7ea13868e0e37cacf190b198e7147f83a5e97cb6d88160260363c9befe5168", func := "shunter/shunterlaw19.RootsRanges", spec := "rootsRanges", unfollowed := true, recurses := true, apart := false }
def RootsRangesSaid : Prop := rootsRangesRow.holds Try.pinned (OpenSpec.ofChange rootsRangesSpec)

/-- ITS FALSE NEIGHBOUR: 'it returns false'. Refute it at one input. -/
def rootsRangesWrong : ChangeSpec := { name := "rootsRanges", fn := fun _ => fun
  | [d1, d2] => { results := [.lit (.bool false)], args := [d1, d2] }
  | _ => none }
def RootsRangesWrongFalsely : Prop := rootsRangesRow.holds Try.pinned (OpenSpec.ofChange rootsRangesWrong)

/-- 'shunterlaw26.AdmitRuns': WHATEVER THE INPUT: true; the input reads as it did. -/
def admitRunsSpec : ChangeSpec := { name := "admitRuns", fn := fun _ => fun
  | [d1, d2, d3] => { results := [.lit (.bool true)], args := [d1, d2, d3] }
  | _ => none }
def admitRunsRow : OpenClaim := { program := "ytnpgeeajlbglaaa", sum := "3e7ea13868e0e37cacf190b198e7147f83a5e97cb6d88160260363c9befe5168", func := "shunter/shunterlaw26.AdmitRuns", spec := "admitRuns", unfollowed := true, recurses := true, apart := false }
def AdmitRunsSaid : Prop := admitRunsRow.holds Try.pinned (OpenSpec.ofChange admitRunsSpec)

/-- ITS FALSE NEIGHBOUR: 'it returns false'. Refute it at one input. -/
def admitRunsWrong : ChangeSpec := { name := "admitRuns", fn := fun _ => fun
  | [d1, d2, d3] => { results := [.lit (.bool false)], args := [d1, d2, d3] }
  | _ => none }
def AdmitRunsWrongFalsely : Prop := admitRunsRow.holds Try.pinned (OpenSpec.ofChange admitRunsWrong)

/-- 'shunterlaw26.AdmitRoom': WHATEVER THE INPUT: true; the input reads as it did. -/
def admitRoomSpec : ChangeSpec := { name := "admitRoom", fn := fun _ => fun
  | [d1, d2, d3] => { results := [.lit (.bool true)], args := [d1, d2, d3] }
  | _ => none }
def admitRoomRow : OpenClaim := { program := "ytnpgeeajlbglaaa", sum := "3e7ea13868e0e37cacf190b198e7147f83a5e97cb6d88160260363c9befe5168", func := "shunter/shunterlaw26.AdmitRoom", spec := "admitRoom", unfollowed := true, recurses := true, apart := false }
def AdmitRoomSaid : Prop := admitRoomRow.holds Try.pinned (OpenSpec.ofChange admitRoomSpec)

/-- ITS FALSE NEIGHBOUR: 'it returns false'. Refute it at one input. -/
def admitRoomWrong : ChangeSpec := { name := "admitRoom", fn := fun _ => fun
  | [d1, d2, d3] => { results := [.lit (.bool false)], args := [d1, d2, d3] }
  | _ => none }
def AdmitRoomWrongFalsely : Prop := admitRoomRow.holds Try.pinned (OpenSpec.ofChange admitRoomWrong)

/-- 'shunterlaw26.AdmitSums': WHATEVER THE INPUT: true; the input reads as it did. -/
def admitSumsSpec : ChangeSpec := { name := "admitSums", fn := fun _ => fun
  | [d1, d2, d3] => { results := [.lit (.bool true)], args := [d1, d2, d3] }
  | _ => none }
def admitSumsRow : OpenClaim := { program := "ytnpgeeajlbglaaa", sum := "3e7ea13868e0e37cacf190b198e7147f83a5e97cb6d88160260363c9befe5168", func := "shunter/shunterlaw26.AdmitSums", spec := "admitSums", unfollowed := true, recurses := true, apart := false }
def AdmitSumsSaid : Prop := admitSumsRow.holds Try.pinned (OpenSpec.ofChange admitSumsSpec)

/-- ITS FALSE NEIGHBOUR: 'it returns false'. Refute it at one input. -/
def admitSumsWrong : ChangeSpec := { name := "admitSums", fn := fun _ => fun
  | [d1, d2, d3] => { results := [.lit (.bool false)], args := [d1, d2, d3] }
  | _ => none }
def AdmitSumsWrongFalsely : Prop := admitSumsRow.holds Try.pinned (OpenSpec.ofChange admitSumsWrong)

/- THE SECOND FORM. 'bulk': how many values and letters a reading holds, each counted each time it is reached (what is shared counts as often as it is met; a slice's spare places count too). A statement '..UptoSaid' is the law's where the arguments, and the package variables that the reading takes, are together of bulk at most 1048576: NARROWER than '..Said'. Prove '..Said' where nothing that the law and all that it calls make is longer than what came in: it says more and counts as full. Else prove '..UptoSaid'. A law counts once. -/
mutual
def uptoBulk {H : Type} : DataW H → Nat
  | .lit (.string bytes) => bytes.length + 1
  | .lit _ => 1
  | .nil => 1
  | .ptr d => uptoBulk d + 1
  | .slice elems spare => uptoBulkAll elems + uptoBulkAll spare + 1
  | .agg parts => uptoBulkAll parts + 1
  | .iface _ d => uptoBulk d + 1
  | .map entries => uptoBulkEntries entries + 1
  | .held _ => 1
def uptoBulkAll {H : Type} : List (DataW H) → Nat
  | [] => 0
  | d :: r => uptoBulk d + uptoBulkAll r
def uptoBulkEntries {H : Type} : List (Lit × DataW H) → Nat
  | [] => 0
  | x :: r => uptoBulkEntry x + uptoBulkEntries r
def uptoBulkEntry {H : Type} : Lit × DataW H → Nat
  | (.string bytes, d) => bytes.length + uptoBulk d + 1
  | (_, d) => uptoBulk d + 1
 end
def uptoSmall : (H : Type) → List (DataW H) → Bool := fun _ ds => decide (uptoBulkAll ds ≤ 1048576)
def OpenSpec.upto (s : _root_.Go.ChangeSpec) : _root_.Go.OpenSpec := { _root_.Go.OpenSpec.ofChange s with cond := some uptoSmall }

/-- 'shunterlaw04.HeaderSizes', WHERE WHAT IT READS IS OF BULK AT MOST 1048576: true; the input reads as it did. -/
def headerSizesUptoRow : OpenClaim := { program := "ytnpgeeajlbglaaa", sum := "3e7ea13868e0e37cacf190b198e7147f83a5e97cb6d88160260363c9befe5168", func := "shunter/shunterlaw04.HeaderSizes", spec := "headerSizes", unfollowed := true, recurses := true, apart := false, narrowed := true }
def HeaderSizesUptoSaid : Prop := headerSizesUptoRow.holds Try.pinned (OpenSpec.upto headerSizesSpec)

/-- 'shunterlaw19.RootsFinds', WHERE WHAT IT READS IS OF BULK AT MOST 1048576: true; the input reads as it did. -/
def rootsFindsUptoRow : OpenClaim := { program := "ytnpgeeajlbglaaa", sum := "3e7ea13868e0e37cacf190b198e7147f83a5e97cb6d88160260363c9befe5168", func := "shunter/shunterlaw19.RootsFinds", spec := "rootsFinds", unfollowed := true, recurses := true, apart := false, narrowed := true }
def RootsFindsUptoSaid : Prop := rootsFindsUptoRow.holds Try.pinned (OpenSpec.upto rootsFindsSpec)

/-- 'shunterlaw19.RootsMoves', WHERE WHAT IT READS IS OF BULK AT MOST 1048576: true; the input reads as it did. -/
def rootsMovesUptoRow : OpenClaim := { program := "ytnpgeeajlbglaaa", sum := "3e7ea13868e0e37cacf190b198e7147f83a5e97cb6d88160260363c9befe5168", func := "shunter/shunterlaw19.RootsMoves", spec := "rootsMoves", unfollowed := true, recurses := true, apart := false, narrowed := true }
def RootsMovesUptoSaid : Prop := rootsMovesUptoRow.holds Try.pinned (OpenSpec.upto rootsMovesSpec)

/-- 'shunterlaw19.RootsBack', WHERE WHAT IT READS IS OF BULK AT MOST 1048576: true; the input reads as it did. -/
def rootsBackUptoRow : OpenClaim := { program := "ytnpgeeajlbglaaa", sum := "3e7ea13868e0e37cacf190b198e7147f83a5e97cb6d88160260363c9befe5168", func := "shunter/shunterlaw19.RootsBack", spec := "rootsBack", unfollowed := true, recurses := true, apart := false, narrowed := true }
def RootsBackUptoSaid : Prop := rootsBackUptoRow.holds Try.pinned (OpenSpec.upto rootsBackSpec)

/-- 'shunterlaw19.RootsChains', WHERE WHAT IT READS IS OF BULK AT MOST 1048576: true; the input reads as it did. -/
def rootsChainsUptoRow : OpenClaim := { program := "ytnpgeeajlbglaaa", sum := "3e7ea13868e0e37cacf190b198e7147f83a5e97cb6d88160260363c9befe5168", func := "shunter/shunterlaw19.RootsChains", spec := "rootsChains", unfollowed := true, recurses := true, apart := false, narrowed := true }
def RootsChainsUptoSaid : Prop := rootsChainsUptoRow.holds Try.pinned (OpenSpec.upto rootsChainsSpec)

/-- 'shunterlaw19.RootsRanges', WHERE WHAT IT READS IS OF BULK AT MOST 1048576: true; the input reads as it did. -/
def rootsRangesUptoRow : OpenClaim := { program := "ytnpgeeajlbglaaa", sum := "3e7ea13868e0e37cacf190b198e7147f83a5e97cb6d88160260363c9befe5168", func := "shunter/shunterlaw19.RootsRanges", spec := "rootsRanges", unfollowed := true, recurses := true, apart := false, narrowed := true }
def RootsRangesUptoSaid : Prop := rootsRangesUptoRow.holds Try.pinned (OpenSpec.upto rootsRangesSpec)

/-- 'shunterlaw26.AdmitRuns', WHERE WHAT IT READS IS OF BULK AT MOST 1048576: true; the input reads as it did. -/
def admitRunsUptoRow : OpenClaim := { program := "ytnpgeeajlbglaaa", sum := "3e7ea13868e0e37cacf190b198e7147f83a5e97cb6d88160260363c9befe5168", func := "shunter/shunterlaw26.AdmitRuns", spec := "admitRuns", unfollowed := true, recurses := true, apart := false, narrowed := true }
def AdmitRunsUptoSaid : Prop := admitRunsUptoRow.holds Try.pinned (OpenSpec.upto admitRunsSpec)

/-- 'shunterlaw26.AdmitRoom', WHERE WHAT IT READS IS OF BULK AT MOST 1048576: true; the input reads as it did. -/
def admitRoomUptoRow : OpenClaim := { program := "ytnpgeeajlbglaaa", sum := "3e7ea13868e0e37cacf190b198e7147f83a5e97cb6d88160260363c9befe5168", func := "shunter/shunterlaw26.AdmitRoom", spec := "admitRoom", unfollowed := true, recurses := true, apart := false, narrowed := true }
def AdmitRoomUptoSaid : Prop := admitRoomUptoRow.holds Try.pinned (OpenSpec.upto admitRoomSpec)

/-- 'shunterlaw26.AdmitSums', WHERE WHAT IT READS IS OF BULK AT MOST 1048576: true; the input reads as it did. -/
def admitSumsUptoRow : OpenClaim := { program := "ytnpgeeajlbglaaa", sum := "3e7ea13868e0e37cacf190b198e7147f83a5e97cb6d88160260363c9befe5168", func := "shunter/shunterlaw26.AdmitSums", spec := "admitSums", unfollowed := true, recurses := true, apart := false, narrowed := true }
def AdmitSumsUptoSaid : Prop := admitSumsUptoRow.holds Try.pinned (OpenSpec.upto admitSumsSpec)

end Rows
end Go.Proofs.Ytnpgeeajlbglaaa
