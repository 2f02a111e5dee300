/-
  No cell of these rows narrows 'for every input' (looked for: loops, veiled, ifaces, maps, wideKeys, modest, calm, conditions, laid).
  DERIVED. THE GIVEN ROWS OF THIS SEAT. 10 by the template 'for every input the law returns true; each argument reads behind the call as it read before'; 0 by the template 'total and deterministic' (their statements: YtedfhlhmpgejcaaTotals.lean).
  GIVEN WITH THE SEED: the statements are not yours to turn. If you find one false, say at which input.
  Laid BY PROGRAM, IN A SANDBOX (cutbox-rows.mjs): the forced cells as the released guide's own fill.sh prints them over the translation 0bae64c61ccc9003… (all of the seat's roots in one cut). By AI agents, Wed Nov 11 2026. No macro, syntax, notation, axiom, sorry.
-/
import Derived.Test.YtedfhlhmpgejcaaChecked
import GoSem.Claim
import GoSem.ClaimJoined
import GoSem.ClaimMapViews
import Derived.JoinedTies
import Derived.KernelRfl
namespace Go.Proofs.Ytedfhlhmpgejcaa
/- THE CELL 'sum', in the pinned program and in every row, IS THE sha256 OF THE DUMP (.gsa) THAT YtedfhlhmpgejcaaProg.lean LOADS. Nothing in Lean hashes anything: it is a label: what it is worth is what the hold of that sum in a sandbox is worth. -/
noncomputable def Try.pinned : Pinned := { name := "ytedfhlhmpgejcaa", sum := "0bae64c61ccc9003323a8242aa9e65e7d5b886d2a3dc12f19db6d4d46087d236", checked := Try.checked }
namespace Rows
def none {H : Type} : Left H := { results := [], args := [] }

/-- 'shunterlaw03.ArenaKnown': WHATEVER THE INPUT: true; the input reads as it did. -/
def arenaKnownSpec : ChangeSpec := { name := "arenaKnown", fn := fun _ => fun
  | [] => { results := [.lit (.bool true)], args := [] }
  | _ => none }
def arenaKnownRow : OpenClaim := { program := "ytedfhlhmpgejcaa", sum := "0bae64c61ccc9003323a8242aa9e65e7d5b886d2a3dc12f19db6d4d46087d236", func := "shunter/shunterlaw03.ArenaKnown", spec := "arenaKnown", unfollowed := true, recurses := true, apart := false }
def ArenaKnownSaid : Prop := arenaKnownRow.holds Try.pinned (OpenSpec.ofChange arenaKnownSpec)

/-- ITS FALSE NEIGHBOUR: 'it returns false'. Refute it at one input. -/
def arenaKnownWrong : ChangeSpec := { name := "arenaKnown", fn := fun _ => fun
  | [] => { results := [.lit (.bool false)], args := [] }
  | _ => none }
def ArenaKnownWrongFalsely : Prop := arenaKnownRow.holds Try.pinned (OpenSpec.ofChange arenaKnownWrong)

/-- 'shunterlaw05.ObjectsKnown': WHATEVER THE INPUT: true; the input reads as it did. -/
def objectsKnownSpec : ChangeSpec := { name := "objectsKnown", fn := fun _ => fun
  | [] => { results := [.lit (.bool true)], args := [] }
  | _ => none }
def objectsKnownRow : OpenClaim := { program := "ytedfhlhmpgejcaa", sum := "0bae64c61ccc9003323a8242aa9e65e7d5b886d2a3dc12f19db6d4d46087d236", func := "shunter/shunterlaw05.ObjectsKnown", spec := "objectsKnown", unfollowed := true, recurses := true, apart := false }
def ObjectsKnownSaid : Prop := objectsKnownRow.holds Try.pinned (OpenSpec.ofChange objectsKnownSpec)

/-- ITS FALSE NEIGHBOUR: 'it returns false'. Refute it at one input. -/
def objectsKnownWrong : ChangeSpec := { name := "objectsKnown", fn := fun _ => fun
  | [] => { results := [.lit (.bool false)], args := [] }
  | _ => none }
def ObjectsKnownWrongFalsely : Prop := objectsKnownRow.holds Try.pinned (OpenSpec.ofChange objectsKnownWrong)

/-- 'shunterlaw06.WalkKnown': WHATEVER THE INPUT: true; the input reads as it did. -/
def walkKnownSpec : ChangeSpec := { name := "walkKnown", fn := fun _ => fun
  | [] => { results := [.lit (.bool true)], args := [] }
  | _ => none }
def walkKnownRow : OpenClaim := { program := "ytedfhlhmpgejcaa", sum := "0bae64c61ccc9003323a8242aa9e65e7d5b886d2a3dc12f19db6d4d46087d236", func := "shunter/shunterlaw06.WalkKnown", spec := "walkKnown", unfollowed := true, recurses := true, apart := false }
def WalkKnownSaid : Prop := walkKnownRow.holds Try.pinned (OpenSpec.ofChange walkKnownSpec)

/-- ITS FALSE NEIGHBOUR: 'it returns false'. Refute it at one input. -/
def walkKnownWrong : ChangeSpec := { name := "walkKnown", fn := fun _ => fun
  | [] => { results := [.lit (.bool false)], args := [] }
  | _ => none }
def WalkKnownWrongFalsely : Prop := walkKnownRow.holds Try.pinned (OpenSpec.ofChange walkKnownWrong)

/-- 'shunterlaw10.FramesKnown': WHATEVER THE INPUT: true; the input reads as it did. -/
def framesKnownSpec : ChangeSpec := { name := "framesKnown", fn := fun _ => fun
  | [] => { results := [.lit (.bool true)], args := [] }
  | _ => none }
def framesKnownRow : OpenClaim := { program := "ytedfhlhmpgejcaa", sum := "0bae64c61ccc9003323a8242aa9e65e7d5b886d2a3dc12f19db6d4d46087d236", func := "shunter/shunterlaw10.FramesKnown", spec := "framesKnown", unfollowed := true, recurses := true, apart := false }
def FramesKnownSaid : Prop := framesKnownRow.holds Try.pinned (OpenSpec.ofChange framesKnownSpec)

/-- ITS FALSE NEIGHBOUR: 'it returns false'. Refute it at one input. -/
def framesKnownWrong : ChangeSpec := { name := "framesKnown", fn := fun _ => fun
  | [] => { results := [.lit (.bool false)], args := [] }
  | _ => none }
def FramesKnownWrongFalsely : Prop := framesKnownRow.holds Try.pinned (OpenSpec.ofChange framesKnownWrong)

/-- 'shunterlaw13.BumpKnown': WHATEVER THE INPUT: true; the input reads as it did. -/
def bumpKnownSpec : ChangeSpec := { name := "bumpKnown", fn := fun _ => fun
  | [] => { results := [.lit (.bool true)], args := [] }
  | _ => none }
def bumpKnownRow : OpenClaim := { program := "ytedfhlhmpgejcaa", sum := "0bae64c61ccc9003323a8242aa9e65e7d5b886d2a3dc12f19db6d4d46087d236", func := "shunter/shunterlaw13.BumpKnown", spec := "bumpKnown", unfollowed := true, recurses := true, apart := false }
def BumpKnownSaid : Prop := bumpKnownRow.holds Try.pinned (OpenSpec.ofChange bumpKnownSpec)

/-- ITS FALSE NEIGHBOUR: 'it returns false'. Refute it at one input. -/
def bumpKnownWrong : ChangeSpec := { name := "bumpKnown", fn := fun _ => fun
  | [] => { results := [.lit (.bool false)], args := [] }
  | _ => none }
def BumpKnownWrongFalsely : Prop := bumpKnownRow.holds Try.pinned (OpenSpec.ofChange bumpKnownWrong)

/-- 'shunterlaw14.MoveKnown': WHATEVER THE INPUT: true; the input reads as it did. -/
def moveKnownSpec : ChangeSpec := { name := "moveKnown", fn := fun _ => fun
  | [] => { results := [.lit (.bool true)], args := [] }
  | _ => none }
def moveKnownRow : OpenClaim := { program := "ytedfhlhmpgejcaa", sum := "0bae64c61ccc9003323a8242aa9e65e7d5b886d2a3dc12f19db6d4d46087d236", func := "shunter/shunterlaw14.MoveKnown", spec := "moveKnown", unfollowed := true, recurses := true, apart := false }
def MoveKnownSaid : Prop := moveKnownRow.holds Try.pinned (OpenSpec.ofChange moveKnownSpec)

/-- ITS FALSE NEIGHBOUR: 'it returns false'. Refute it at one input. -/
def moveKnownWrong : ChangeSpec := { name := "moveKnown", fn := fun _ => fun
  | [] => { results := [.lit (.bool false)], args := [] }
  | _ => none }
def MoveKnownWrongFalsely : Prop := moveKnownRow.holds Try.pinned (OpenSpec.ofChange moveKnownWrong)

/-- 'shunterlaw15.GraphKnown': WHATEVER THE INPUT: true; the input reads as it did. -/
def graphKnownSpec : ChangeSpec := { name := "graphKnown", fn := fun _ => fun
  | [] => { results := [.lit (.bool true)], args := [] }
  | _ => none }
def graphKnownRow : OpenClaim := { program := "ytedfhlhmpgejcaa", sum := "0bae64c61ccc9003323a8242aa9e65e7d5b886d2a3dc12f19db6d4d46087d236", func := "shunter/shunterlaw15.GraphKnown", spec := "graphKnown", unfollowed := true, recurses := true, apart := false }
def GraphKnownSaid : Prop := graphKnownRow.holds Try.pinned (OpenSpec.ofChange graphKnownSpec)

/-- ITS FALSE NEIGHBOUR: 'it returns false'. Refute it at one input. -/
def graphKnownWrong : ChangeSpec := { name := "graphKnown", fn := fun _ => fun
  | [] => { results := [.lit (.bool false)], args := [] }
  | _ => none }
def GraphKnownWrongFalsely : Prop := graphKnownRow.holds Try.pinned (OpenSpec.ofChange graphKnownWrong)

/-- 'shunterlaw16.IsoKnown': WHATEVER THE INPUT: true; the input reads as it did. -/
def isoKnownSpec : ChangeSpec := { name := "isoKnown", fn := fun _ => fun
  | [] => { results := [.lit (.bool true)], args := [] }
  | _ => none }
def isoKnownRow : OpenClaim := { program := "ytedfhlhmpgejcaa", sum := "0bae64c61ccc9003323a8242aa9e65e7d5b886d2a3dc12f19db6d4d46087d236", func := "shunter/shunterlaw16.IsoKnown", spec := "isoKnown", unfollowed := true, recurses := true, apart := false }
def IsoKnownSaid : Prop := isoKnownRow.holds Try.pinned (OpenSpec.ofChange isoKnownSpec)

/-- ITS FALSE NEIGHBOUR: 'it returns false'. Refute it at one input. -/
def isoKnownWrong : ChangeSpec := { name := "isoKnown", fn := fun _ => fun
  | [] => { results := [.lit (.bool false)], args := [] }
  | _ => none }
def IsoKnownWrongFalsely : Prop := isoKnownRow.holds Try.pinned (OpenSpec.ofChange isoKnownWrong)

/-- 'shunterlaw19.RootsKnown': WHATEVER THE INPUT: true; the input reads as it did. -/
def rootsKnownSpec : ChangeSpec := { name := "rootsKnown", fn := fun _ => fun
  | [] => { results := [.lit (.bool true)], args := [] }
  | _ => none }
def rootsKnownRow : OpenClaim := { program := "ytedfhlhmpgejcaa", sum := "0bae64c61ccc9003323a8242aa9e65e7d5b886d2a3dc12f19db6d4d46087d236", func := "shunter/shunterlaw19.RootsKnown", spec := "rootsKnown", unfollowed := true, recurses := true, apart := false }
def RootsKnownSaid : Prop := rootsKnownRow.holds Try.pinned (OpenSpec.ofChange rootsKnownSpec)

/-- ITS FALSE NEIGHBOUR: 'it returns false'. Refute it at one input. -/
def rootsKnownWrong : ChangeSpec := { name := "rootsKnown", fn := fun _ => fun
  | [] => { results := [.lit (.bool false)], args := [] }
  | _ => none }
def RootsKnownWrongFalsely : Prop := rootsKnownRow.holds Try.pinned (OpenSpec.ofChange rootsKnownWrong)

/-- 'shunterlaw26.AdmitKnown': WHATEVER THE INPUT: true; the input reads as it did. -/
def admitKnownSpec : ChangeSpec := { name := "admitKnown", fn := fun _ => fun
  | [] => { results := [.lit (.bool true)], args := [] }
  | _ => none }
def admitKnownRow : OpenClaim := { program := "ytedfhlhmpgejcaa", sum := "0bae64c61ccc9003323a8242aa9e65e7d5b886d2a3dc12f19db6d4d46087d236", func := "shunter/shunterlaw26.AdmitKnown", spec := "admitKnown", unfollowed := true, recurses := true, apart := false }
def AdmitKnownSaid : Prop := admitKnownRow.holds Try.pinned (OpenSpec.ofChange admitKnownSpec)

/-- ITS FALSE NEIGHBOUR: 'it returns false'. Refute it at one input. -/
def admitKnownWrong : ChangeSpec := { name := "admitKnown", fn := fun _ => fun
  | [] => { results := [.lit (.bool false)], args := [] }
  | _ => none }
def AdmitKnownWrongFalsely : Prop := admitKnownRow.holds Try.pinned (OpenSpec.ofChange admitKnownWrong)

/- THE SECOND FORM. 'bulk': how many values and letters a reading holds, each counted each time it is reached (what is shared counts as often as it is met; a slice's spare places count too). A statement '..UptoSaid' is the law's where the arguments, and the package variables that the reading takes, are together of bulk at most 1048576: NARROWER than '..Said'. Prove '..Said' where nothing that the law and all that it calls make is longer than what came in: it says more and counts as full. Else prove '..UptoSaid'. A law counts once. -/
mutual
def uptoBulk {H : Type} : DataW H → Nat
  | .lit (.string bytes) => bytes.length + 1
  | .lit _ => 1
  | .nil => 1
  | .ptr d => uptoBulk d + 1
  | .slice elems spare => uptoBulkAll elems + uptoBulkAll spare + 1
  | .agg parts => uptoBulkAll parts + 1
  | .iface _ d => uptoBulk d + 1
  | .map entries => uptoBulkEntries entries + 1
  | .held _ => 1
def uptoBulkAll {H : Type} : List (DataW H) → Nat
  | [] => 0
  | d :: r => uptoBulk d + uptoBulkAll r
def uptoBulkEntries {H : Type} : List (Lit × DataW H) → Nat
  | [] => 0
  | x :: r => uptoBulkEntry x + uptoBulkEntries r
def uptoBulkEntry {H : Type} : Lit × DataW H → Nat
  | (.string bytes, d) => bytes.length + uptoBulk d + 1
  | (_, d) => uptoBulk d + 1
 end
def uptoSmall : (H : Type) → List (DataW H) → Bool := fun _ ds => decide (uptoBulkAll ds ≤ 1048576)
def OpenSpec.upto (s : _root_.Go.ChangeSpec) : _root_.Go.OpenSpec := { _root_.Go.OpenSpec.ofChange s with cond := some uptoSmall }

/-- 'shunterlaw03.ArenaKnown', WHERE WHAT IT READS IS OF BULK AT MOST 1048576: true; the input reads as it did. -/
def arenaKnownUptoRow : OpenClaim := { program := "ytedfhlhmpgejcaa", sum := "0bae64c61ccc9003323a8242aa9e65e7d5b886d2a3dc12f19db6d4d46087d236", func := "shunter/shunterlaw03.ArenaKnown", spec := "arenaKnown", unfollowed := true, recurses := true, apart := false, narrowed := true }
def ArenaKnownUptoSaid : Prop := arenaKnownUptoRow.holds Try.pinned (OpenSpec.upto arenaKnownSpec)

/-- 'shunterlaw05.ObjectsKnown', WHERE WHAT IT READS IS OF BULK AT MOST 1048576: true; the input reads as it did. -/
def objectsKnownUptoRow : OpenClaim := { program := "ytedfhlhmpgejcaa", sum := "0bae64c61ccc9003323a8242aa9e65e7d5b886d2a3dc12f19db6d4d46087d236", func := "shunter/shunterlaw05.ObjectsKnown", spec := "objectsKnown", unfollowed := true, recurses := true, apart := false, narrowed := true }
def ObjectsKnownUptoSaid : Prop := objectsKnownUptoRow.holds Try.pinned (OpenSpec.upto objectsKnownSpec)

/-- 'shunterlaw06.WalkKnown', WHERE WHAT IT READS IS OF BULK AT MOST 1048576: true; the input reads as it did. -/
def walkKnownUptoRow : OpenClaim := { program := "ytedfhlhmpgejcaa", sum := "0bae64c61ccc9003323a8242aa9e65e7d5b886d2a3dc12f19db6d4d46087d236", func := "shunter/shunterlaw06.WalkKnown", spec := "walkKnown", unfollowed := true, recurses := true, apart := false, narrowed := true }
def WalkKnownUptoSaid : Prop := walkKnownUptoRow.holds Try.pinned (OpenSpec.upto walkKnownSpec)

/-- 'shunterlaw10.FramesKnown', WHERE WHAT IT READS IS OF BULK AT MOST 1048576: true; the input reads as it did. -/
def framesKnownUptoRow : OpenClaim := { program := "ytedfhlhmpgejcaa", sum := "0bae64c61ccc9003323a8242aa9e65e7d5b886d2a3dc12f19db6d4d46087d236", func := "shunter/shunterlaw10.FramesKnown", spec := "framesKnown", unfollowed := true, recurses := true, apart := false, narrowed := true }
def FramesKnownUptoSaid : Prop := framesKnownUptoRow.holds Try.pinned (OpenSpec.upto framesKnownSpec)

/-- 'shunterlaw13.BumpKnown', WHERE WHAT IT READS IS OF BULK AT MOST 1048576: true; the input reads as it did. -/
def bumpKnownUptoRow : OpenClaim := { program := "ytedfhlhmpgejcaa", sum := "0bae64c61ccc9003323a8242aa9e65e7d5b886d2a3dc12f19db6d4d46087d236", func := "shunter/shunterlaw13.BumpKnown", spec := "bumpKnown", unfollowed := true, recurses := true, apart := false, narrowed := true }
def BumpKnownUptoSaid : Prop := bumpKnownUptoRow.holds Try.pinned (OpenSpec.upto bumpKnownSpec)

/-- 'shunterlaw14.MoveKnown', WHERE WHAT IT READS IS OF BULK AT MOST 1048576: true; the input reads as it did. -/
def moveKnownUptoRow : OpenClaim := { program := "ytedfhlhmpgejcaa", sum := "0bae64c61ccc9003323a8242aa9e65e7d5b886d2a3dc12f19db6d4d46087d236", func := "shunter/shunterlaw14.MoveKnown", spec := "moveKnown", unfollowed := true, recurses := true, apart := false, narrowed := true }
def MoveKnownUptoSaid : Prop := moveKnownUptoRow.holds Try.pinned (OpenSpec.upto moveKnownSpec)

/-- 'shunterlaw15.GraphKnown', WHERE WHAT IT READS IS OF BULK AT MOST 1048576: true; the input reads as it did. -/
def graphKnownUptoRow : OpenClaim := { program := "ytedfhlhmpgejcaa", sum := "0bae64c61ccc9003323a8242aa9e65e7d5b886d2a3dc12f19db6d4d46087d236", func := "shunter/shunterlaw15.GraphKnown", spec := "graphKnown", unfollowed := true, recurses := true, apart := false, narrowed := true }
def GraphKnownUptoSaid : Prop := graphKnownUptoRow.holds Try.pinned (OpenSpec.upto graphKnownSpec)

/-- 'shunterlaw16.IsoKnown', WHERE WHAT IT READS IS OF BULK AT MOST 1048576: true; the input reads as it did. -/
def isoKnownUptoRow : OpenClaim := { program := "ytedfhlhmpgejcaa", sum := "0bae64c61ccc9003323a8242aa9e65e7d5b886d2a3dc12f19db6d4d46087d236", func := "shunter/shunterlaw16.IsoKnown", spec := "isoKnown", unfollowed := true, recurses := true, apart := false, narrowed := true }
def IsoKnownUptoSaid : Prop := isoKnownUptoRow.holds Try.pinned (OpenSpec.upto isoKnownSpec)

/-- 'shunterlaw19.RootsKnown', WHERE WHAT IT READS IS OF BULK AT MOST 1048576: true; the input reads as it did. -/
def rootsKnownUptoRow : OpenClaim := { program := "ytedfhlhmpgejcaa", sum := "0bae64c61ccc9003323a8242aa9e65e7d5b886d2a3dc12f19db6d4d46087d236", func := "shunter/shunterlaw19.RootsKnown", spec := "rootsKnown", unfollowed := true, recurses := true, apart := false, narrowed := true }
def RootsKnownUptoSaid : Prop := rootsKnownUptoRow.holds Try.pinned (OpenSpec.upto rootsKnownSpec)

/-- 'shunterlaw26.AdmitKnown', WHERE WHAT IT READS IS OF BULK AT MOST 1048576: true; the input reads as it did. -/
def admitKnownUptoRow : OpenClaim := { program := "ytedfhlhmpgejcaa", sum := "0bae64c61ccc9003323a8242aa9e65e7d5b886d2a3dc12f19db6d4d46087d236", func := "shunter/shunterlaw26.AdmitKnown", spec := "admitKnown", unfollowed := true, recurses := true, apart := false, narrowed := true }
def AdmitKnownUptoSaid : Prop := admitKnownUptoRow.holds Try.pinned (OpenSpec.upto admitKnownSpec)

end Rows
end Go.Proofs.Ytedfhlhmpgejcaa
