/-
  The program's tables, as the calculus takes them. No project text.
-/
import Derived.Test.YtfgeoglegebncaaRx2
import Derived.Test.YtfgeoglegebncaaSnd2
import Derived.Laws.StructEq
import Derived.Lib.SmallJoins
import Derived.Deep.Fields
import Derived.Test.YtfgeoglegebncaaChecked
namespace Go.Proofs.Ytfgeoglegebncaa.Fr
set_option maxRecDepth 100000
set_option maxHeartbeats 4000000
open Go.Rx
abbrev T0 : Prop := true = true
abbrev t2 (p : Prop) : Prop := T0 ∧ T0 ∧ p
abbrev t3 (p : Prop) : Prop := T0 ∧ T0 ∧ T0 ∧ p
abbrev t4 (p : Prop) : Prop := T0 ∧ T0 ∧ T0 ∧ T0 ∧ p
abbrev t5 (p : Prop) : Prop := T0 ∧ T0 ∧ T0 ∧ T0 ∧ T0 ∧ p
abbrev t6 (p : Prop) : Prop := T0 ∧ T0 ∧ T0 ∧ T0 ∧ T0 ∧ T0 ∧ p
abbrev t7 (p : Prop) : Prop := T0 ∧ T0 ∧ T0 ∧ T0 ∧ T0 ∧ T0 ∧ T0 ∧ p
abbrev t8 (p : Prop) : Prop := T0 ∧ T0 ∧ T0 ∧ T0 ∧ T0 ∧ T0 ∧ T0 ∧ T0 ∧ p
abbrev t9 (p : Prop) : Prop := T0 ∧ T0 ∧ T0 ∧ T0 ∧ T0 ∧ T0 ∧ T0 ∧ T0 ∧ T0 ∧ p
abbrev TS : Prop := @Eq Ev.TK Ev.TK.slice Ev.TK.slice
abbrev vi (z : Int) : Value := .int .i64 z
abbrev vn : Value := .slice none 0 0
abbrev eN (n : Nat) : Prop := n = n
abbrev k2 : List IntKind := [.i64, .i64]
abbrev eK : Prop := k2 = k2
abbrev eB : Prop := @Eq (List Blk) [] []
abbrev rF (e n c : Nat) (f : Nat → Nat → Int) : Blk := .row false [.i64, .i64] e n c f
abbrev rT (e n c : Nat) (f : Nat → Nat → Int) : Blk := .row true [.i64, .i64] e n c f
abbrev Fd (m : Nat) (K : Value → List Blk → Prop) : KV := fun v s' => ∃ v1 news, Rx.Found m v s' v1 news ∧ K v1 news
open Go.Rx
open Go.RowKit (Below)
set_option linter.unusedVariables false
def T : List (Nat × Ev.TI) := [
  (3, { size := (1 : Nat), bytes := (8 : Nat), agg := false, zero := some [Value.int IntKind.i64 (0 : Int)], zval := some (Value.int IntKind.i64 (0 : Int)), kind := Ev.TK.int IntKind.i64, fields := [], len := (0 : Nat), elem := (0 : Nat), eagg := false, esize := (1 : Nat), kk := Ev.TK.other }),
  (4, { size := (1 : Nat), bytes := (1 : Nat), agg := false, zero := some [Value.bool false], zval := some (Value.bool false), kind := Ev.TK.other, fields := [], len := (0 : Nat), elem := (0 : Nat), eagg := false, esize := (1 : Nat), kk := Ev.TK.other }),
  (5, { size := (1 : Nat), bytes := (1 : Nat), agg := false, zero := some [Value.int IntKind.u8 (0 : Int)], zval := some (Value.int IntKind.u8 (0 : Int)), kind := Ev.TK.int IntKind.u8, fields := [], len := (0 : Nat), elem := (0 : Nat), eagg := false, esize := (1 : Nat), kk := Ev.TK.other }),
  (22, { size := (5 : Nat), bytes := (40 : Nat), agg := true, zero := some [Value.int IntKind.i64 (0 : Int), Value.int IntKind.i64 (0 : Int), Value.int IntKind.i64 (0 : Int), Value.int IntKind.i64 (0 : Int), Value.int IntKind.i64 (0 : Int)], zval := some (Value.agg { toList := [Value.int IntKind.i64 (0 : Int), Value.int IntKind.i64 (0 : Int), Value.int IntKind.i64 (0 : Int), Value.int IntKind.i64 (0 : Int), Value.int IntKind.i64 (0 : Int)] }), kind := Ev.TK.struct, fields := [((0 : Nat), false, (1 : Nat)), ((1 : Nat), false, (1 : Nat)), ((2 : Nat), false, (1 : Nat)), ((3 : Nat), false, (1 : Nat)), ((4 : Nat), false, (1 : Nat))], len := (0 : Nat), elem := (0 : Nat), eagg := false, esize := (1 : Nat), kk := Ev.TK.other }),
  (23, { size := (5 : Nat), bytes := (40 : Nat), agg := true, zero := some [Value.int IntKind.i64 (0 : Int), Value.int IntKind.i64 (0 : Int), Value.int IntKind.i64 (0 : Int), Value.int IntKind.i64 (0 : Int), Value.int IntKind.i64 (0 : Int)], zval := some (Value.agg { toList := [Value.int IntKind.i64 (0 : Int), Value.int IntKind.i64 (0 : Int), Value.int IntKind.i64 (0 : Int), Value.int IntKind.i64 (0 : Int), Value.int IntKind.i64 (0 : Int)] }), kind := Ev.TK.struct, fields := [((0 : Nat), false, (1 : Nat)), ((1 : Nat), false, (1 : Nat)), ((2 : Nat), false, (1 : Nat)), ((3 : Nat), false, (1 : Nat)), ((4 : Nat), false, (1 : Nat))], len := (0 : Nat), elem := (0 : Nat), eagg := false, esize := (1 : Nat), kk := Ev.TK.other }),
  (24, { size := (1 : Nat), bytes := (24 : Nat), agg := false, zero := some [Value.slice none (0 : Nat) (0 : Nat)], zval := some (Value.slice none (0 : Nat) (0 : Nat)), kind := Ev.TK.slice, fields := [], len := (0 : Nat), elem := (25 : Nat), eagg := false, esize := (1 : Nat), kk := Ev.TK.other }),
  (25, { size := (1 : Nat), bytes := (8 : Nat), agg := false, zero := some [Value.int IntKind.u64 (0 : Int)], zval := some (Value.int IntKind.u64 (0 : Int)), kind := Ev.TK.int IntKind.u64, fields := [], len := (0 : Nat), elem := (0 : Nat), eagg := false, esize := (1 : Nat), kk := Ev.TK.other }),
  (26, { size := (2 : Nat), bytes := (16 : Nat), agg := true, zero := some [Value.int IntKind.i64 (0 : Int), Value.int IntKind.u64 (0 : Int)], zval := some (Value.agg { toList := [Value.int IntKind.i64 (0 : Int), Value.int IntKind.u64 (0 : Int)] }), kind := Ev.TK.struct, fields := [((0 : Nat), false, (1 : Nat)), ((1 : Nat), false, (1 : Nat))], len := (0 : Nat), elem := (0 : Nat), eagg := false, esize := (1 : Nat), kk := Ev.TK.other }),
  (27, { size := (2 : Nat), bytes := (16 : Nat), agg := true, zero := some [Value.int IntKind.i64 (0 : Int), Value.int IntKind.u64 (0 : Int)], zval := some (Value.agg { toList := [Value.int IntKind.i64 (0 : Int), Value.int IntKind.u64 (0 : Int)] }), kind := Ev.TK.struct, fields := [((0 : Nat), false, (1 : Nat)), ((1 : Nat), false, (1 : Nat))], len := (0 : Nat), elem := (0 : Nat), eagg := false, esize := (1 : Nat), kk := Ev.TK.other }),
  (29, { size := (1 : Nat), bytes := (8 : Nat), agg := false, zero := some [Value.int IntKind.i64 (0 : Int)], zval := some (Value.int IntKind.i64 (0 : Int)), kind := Ev.TK.int IntKind.i64, fields := [], len := (0 : Nat), elem := (0 : Nat), eagg := false, esize := (1 : Nat), kk := Ev.TK.other }),
  (38, { size := (3 : Nat), bytes := (24 : Nat), agg := true, zero := some [Value.int IntKind.i64 (0 : Int), Value.int IntKind.i64 (0 : Int), Value.int IntKind.i64 (0 : Int)], zval := some (Value.agg { toList := [Value.int IntKind.i64 (0 : Int), Value.int IntKind.i64 (0 : Int), Value.int IntKind.i64 (0 : Int)] }), kind := Ev.TK.array, fields := [], len := (3 : Nat), elem := (3 : Nat), eagg := false, esize := (1 : Nat), kk := Ev.TK.other }),
  (43, { size := (1 : Nat), bytes := (24 : Nat), agg := false, zero := some [Value.slice none (0 : Nat) (0 : Nat)], zval := some (Value.slice none (0 : Nat) (0 : Nat)), kind := Ev.TK.slice, fields := [], len := (0 : Nat), elem := (3 : Nat), eagg := false, esize := (1 : Nat), kk := Ev.TK.other }),
  (48, { size := (1 : Nat), bytes := (24 : Nat), agg := false, zero := some [Value.slice none (0 : Nat) (0 : Nat)], zval := some (Value.slice none (0 : Nat) (0 : Nat)), kind := Ev.TK.slice, fields := [], len := (0 : Nat), elem := (56 : Nat), eagg := true, esize := (5 : Nat), kk := Ev.TK.other }),
  (49, { size := (2 : Nat), bytes := (16 : Nat), agg := true, zero := some [Value.int IntKind.i64 (0 : Int), Value.int IntKind.i64 (0 : Int)], zval := some (Value.agg { toList := [Value.int IntKind.i64 (0 : Int), Value.int IntKind.i64 (0 : Int)] }), kind := Ev.TK.struct, fields := [((0 : Nat), false, (1 : Nat)), ((1 : Nat), false, (1 : Nat))], len := (0 : Nat), elem := (0 : Nat), eagg := false, esize := (1 : Nat), kk := Ev.TK.other }),
  (50, { size := (2 : Nat), bytes := (16 : Nat), agg := true, zero := some [Value.int IntKind.i64 (0 : Int), Value.int IntKind.i64 (0 : Int)], zval := some (Value.agg { toList := [Value.int IntKind.i64 (0 : Int), Value.int IntKind.i64 (0 : Int)] }), kind := Ev.TK.struct, fields := [((0 : Nat), false, (1 : Nat)), ((1 : Nat), false, (1 : Nat))], len := (0 : Nat), elem := (0 : Nat), eagg := false, esize := (1 : Nat), kk := Ev.TK.other }),
  (55, { size := (5 : Nat), bytes := (40 : Nat), agg := true, zero := some [Value.int IntKind.i64 (0 : Int), Value.int IntKind.i64 (0 : Int), Value.int IntKind.i64 (0 : Int), Value.int IntKind.i64 (0 : Int), Value.int IntKind.u64 (0 : Int)], zval := some (Value.agg { toList := [Value.int IntKind.i64 (0 : Int), Value.int IntKind.i64 (0 : Int), Value.int IntKind.i64 (0 : Int), Value.int IntKind.i64 (0 : Int), Value.int IntKind.u64 (0 : Int)] }), kind := Ev.TK.struct, fields := [((0 : Nat), false, (1 : Nat)), ((1 : Nat), false, (1 : Nat)), ((2 : Nat), false, (1 : Nat)), ((3 : Nat), false, (1 : Nat)), ((4 : Nat), false, (1 : Nat))], len := (0 : Nat), elem := (0 : Nat), eagg := false, esize := (1 : Nat), kk := Ev.TK.other }),
  (56, { size := (5 : Nat), bytes := (40 : Nat), agg := true, zero := some [Value.int IntKind.i64 (0 : Int), Value.int IntKind.i64 (0 : Int), Value.int IntKind.i64 (0 : Int), Value.int IntKind.i64 (0 : Int), Value.int IntKind.u64 (0 : Int)], zval := some (Value.agg { toList := [Value.int IntKind.i64 (0 : Int), Value.int IntKind.i64 (0 : Int), Value.int IntKind.i64 (0 : Int), Value.int IntKind.i64 (0 : Int), Value.int IntKind.u64 (0 : Int)] }), kind := Ev.TK.struct, fields := [((0 : Nat), false, (1 : Nat)), ((1 : Nat), false, (1 : Nat)), ((2 : Nat), false, (1 : Nat)), ((3 : Nat), false, (1 : Nat)), ((4 : Nat), false, (1 : Nat))], len := (0 : Nat), elem := (0 : Nat), eagg := false, esize := (1 : Nat), kk := Ev.TK.other }),
  (59, { size := (2 : Nat), bytes := (16 : Nat), agg := true, zero := some [Value.int IntKind.i64 (0 : Int), Value.int IntKind.i64 (0 : Int)], zval := some (Value.agg { toList := [Value.int IntKind.i64 (0 : Int), Value.int IntKind.i64 (0 : Int)] }), kind := Ev.TK.struct, fields := [((0 : Nat), false, (1 : Nat)), ((1 : Nat), false, (1 : Nat))], len := (0 : Nat), elem := (0 : Nat), eagg := false, esize := (1 : Nat), kk := Ev.TK.other }),
  (60, { size := (2 : Nat), bytes := (16 : Nat), agg := true, zero := some [Value.int IntKind.i64 (0 : Int), Value.int IntKind.i64 (0 : Int)], zval := some (Value.agg { toList := [Value.int IntKind.i64 (0 : Int), Value.int IntKind.i64 (0 : Int)] }), kind := Ev.TK.struct, fields := [((0 : Nat), false, (1 : Nat)), ((1 : Nat), false, (1 : Nat))], len := (0 : Nat), elem := (0 : Nat), eagg := false, esize := (1 : Nat), kk := Ev.TK.other }),
  (69, { size := (2 : Nat), bytes := (16 : Nat), agg := true, zero := some [Value.int IntKind.i64 (0 : Int), Value.int IntKind.i64 (0 : Int)], zval := some (Value.agg { toList := [Value.int IntKind.i64 (0 : Int), Value.int IntKind.i64 (0 : Int)] }), kind := Ev.TK.array, fields := [], len := (2 : Nat), elem := (3 : Nat), eagg := false, esize := (1 : Nat), kk := Ev.TK.other }),
  (73, { size := (4 : Nat), bytes := (32 : Nat), agg := true, zero := some [Value.int IntKind.i64 (0 : Int), Value.int IntKind.i64 (0 : Int), Value.int IntKind.i64 (0 : Int), Value.int IntKind.u64 (0 : Int)], zval := some (Value.agg { toList := [Value.int IntKind.i64 (0 : Int), Value.int IntKind.i64 (0 : Int), Value.int IntKind.i64 (0 : Int), Value.int IntKind.u64 (0 : Int)] }), kind := Ev.TK.struct, fields := [((0 : Nat), false, (1 : Nat)), ((1 : Nat), false, (1 : Nat)), ((2 : Nat), false, (1 : Nat)), ((3 : Nat), false, (1 : Nat))], len := (0 : Nat), elem := (0 : Nat), eagg := false, esize := (1 : Nat), kk := Ev.TK.other }),
  (74, { size := (4 : Nat), bytes := (32 : Nat), agg := true, zero := some [Value.int IntKind.i64 (0 : Int), Value.int IntKind.i64 (0 : Int), Value.int IntKind.i64 (0 : Int), Value.int IntKind.u64 (0 : Int)], zval := some (Value.agg { toList := [Value.int IntKind.i64 (0 : Int), Value.int IntKind.i64 (0 : Int), Value.int IntKind.i64 (0 : Int), Value.int IntKind.u64 (0 : Int)] }), kind := Ev.TK.struct, fields := [((0 : Nat), false, (1 : Nat)), ((1 : Nat), false, (1 : Nat)), ((2 : Nat), false, (1 : Nat)), ((3 : Nat), false, (1 : Nat))], len := (0 : Nat), elem := (0 : Nat), eagg := false, esize := (1 : Nat), kk := Ev.TK.other }),
  (86, { size := (1 : Nat), bytes := (24 : Nat), agg := false, zero := some [Value.slice none (0 : Nat) (0 : Nat)], zval := some (Value.slice none (0 : Nat) (0 : Nat)), kind := Ev.TK.slice, fields := [], len := (0 : Nat), elem := (91 : Nat), eagg := true, esize := (2 : Nat), kk := Ev.TK.other }),
  (90, { size := (2 : Nat), bytes := (16 : Nat), agg := true, zero := some [Value.int IntKind.i64 (0 : Int), Value.int IntKind.i64 (0 : Int)], zval := some (Value.agg { toList := [Value.int IntKind.i64 (0 : Int), Value.int IntKind.i64 (0 : Int)] }), kind := Ev.TK.struct, fields := [((0 : Nat), false, (1 : Nat)), ((1 : Nat), false, (1 : Nat))], len := (0 : Nat), elem := (0 : Nat), eagg := false, esize := (1 : Nat), kk := Ev.TK.other }),
  (91, { size := (2 : Nat), bytes := (16 : Nat), agg := true, zero := some [Value.int IntKind.i64 (0 : Int), Value.int IntKind.i64 (0 : Int)], zval := some (Value.agg { toList := [Value.int IntKind.i64 (0 : Int), Value.int IntKind.i64 (0 : Int)] }), kind := Ev.TK.struct, fields := [((0 : Nat), false, (1 : Nat)), ((1 : Nat), false, (1 : Nat))], len := (0 : Nat), elem := (0 : Nat), eagg := false, esize := (1 : Nat), kk := Ev.TK.other }),
  (103, { size := (1 : Nat), bytes := (24 : Nat), agg := false, zero := some [Value.slice none (0 : Nat) (0 : Nat)], zval := some (Value.slice none (0 : Nat) (0 : Nat)), kind := Ev.TK.slice, fields := [], len := (0 : Nat), elem := (24 : Nat), eagg := false, esize := (1 : Nat), kk := Ev.TK.other }),
  (104, { size := (1 : Nat), bytes := (8 : Nat), agg := false, zero := some [Value.pointer none], zval := some (Value.pointer none), kind := Ev.TK.pointer, fields := [], len := (0 : Nat), elem := (107 : Nat), eagg := true, esize := (4 : Nat), kk := Ev.TK.other }),
  (106, { size := (4 : Nat), bytes := (64 : Nat), agg := true, zero := some [Value.slice none (0 : Nat) (0 : Nat), Value.slice none (0 : Nat) (0 : Nat), Value.int IntKind.i64 (0 : Int), Value.int IntKind.i64 (0 : Int)], zval := some (Value.agg { toList := [Value.slice none (0 : Nat) (0 : Nat), Value.slice none (0 : Nat) (0 : Nat), Value.int IntKind.i64 (0 : Int), Value.int IntKind.i64 (0 : Int)] }), kind := Ev.TK.struct, fields := [((0 : Nat), false, (1 : Nat)), ((1 : Nat), false, (1 : Nat)), ((2 : Nat), true, (2 : Nat))], len := (0 : Nat), elem := (0 : Nat), eagg := false, esize := (1 : Nat), kk := Ev.TK.other }),
  (107, { size := (4 : Nat), bytes := (64 : Nat), agg := true, zero := some [Value.slice none (0 : Nat) (0 : Nat), Value.slice none (0 : Nat) (0 : Nat), Value.int IntKind.i64 (0 : Int), Value.int IntKind.i64 (0 : Int)], zval := some (Value.agg { toList := [Value.slice none (0 : Nat) (0 : Nat), Value.slice none (0 : Nat) (0 : Nat), Value.int IntKind.i64 (0 : Int), Value.int IntKind.i64 (0 : Int)] }), kind := Ev.TK.struct, fields := [((0 : Nat), false, (1 : Nat)), ((1 : Nat), false, (1 : Nat)), ((2 : Nat), true, (2 : Nat))], len := (0 : Nat), elem := (0 : Nat), eagg := false, esize := (1 : Nat), kk := Ev.TK.other }),
  (108, { size := (1 : Nat), bytes := (8 : Nat), agg := false, zero := some [Value.nilFunc], zval := some Value.nilFunc, kind := Ev.TK.func, fields := [], len := (0 : Nat), elem := (0 : Nat), eagg := false, esize := (1 : Nat), kk := Ev.TK.other }),
  (111, { size := (1 : Nat), bytes := (24 : Nat), agg := true, zero := some [Value.slice none (0 : Nat) (0 : Nat)], zval := some (Value.agg { toList := [Value.slice none (0 : Nat) (0 : Nat)] }), kind := Ev.TK.struct, fields := [((0 : Nat), false, (1 : Nat))], len := (0 : Nat), elem := (0 : Nat), eagg := false, esize := (1 : Nat), kk := Ev.TK.other }),
  (112, { size := (1 : Nat), bytes := (24 : Nat), agg := true, zero := some [Value.slice none (0 : Nat) (0 : Nat)], zval := some (Value.agg { toList := [Value.slice none (0 : Nat) (0 : Nat)] }), kind := Ev.TK.struct, fields := [((0 : Nat), false, (1 : Nat))], len := (0 : Nat), elem := (0 : Nat), eagg := false, esize := (1 : Nat), kk := Ev.TK.other }),
  (113, { size := (2 : Nat), bytes := (32 : Nat), agg := true, zero := some [Value.slice none (0 : Nat) (0 : Nat), Value.int IntKind.i64 (0 : Int)], zval := some (Value.agg { toList := [Value.slice none (0 : Nat) (0 : Nat), Value.int IntKind.i64 (0 : Int)] }), kind := Ev.TK.struct, fields := [((0 : Nat), true, (1 : Nat)), ((1 : Nat), false, (1 : Nat))], len := (0 : Nat), elem := (0 : Nat), eagg := false, esize := (1 : Nat), kk := Ev.TK.other }),
  (114, { size := (2 : Nat), bytes := (32 : Nat), agg := true, zero := some [Value.slice none (0 : Nat) (0 : Nat), Value.int IntKind.i64 (0 : Int)], zval := some (Value.agg { toList := [Value.slice none (0 : Nat) (0 : Nat), Value.int IntKind.i64 (0 : Int)] }), kind := Ev.TK.struct, fields := [((0 : Nat), true, (1 : Nat)), ((1 : Nat), false, (1 : Nat))], len := (0 : Nat), elem := (0 : Nat), eagg := false, esize := (1 : Nat), kk := Ev.TK.other }),
  (115, { size := (1 : Nat), bytes := (24 : Nat), agg := true, zero := some [Value.slice none (0 : Nat) (0 : Nat)], zval := some (Value.agg { toList := [Value.slice none (0 : Nat) (0 : Nat)] }), kind := Ev.TK.struct, fields := [((0 : Nat), true, (1 : Nat))], len := (0 : Nat), elem := (0 : Nat), eagg := false, esize := (1 : Nat), kk := Ev.TK.other }),
  (116, { size := (1 : Nat), bytes := (24 : Nat), agg := true, zero := some [Value.slice none (0 : Nat) (0 : Nat)], zval := some (Value.agg { toList := [Value.slice none (0 : Nat) (0 : Nat)] }), kind := Ev.TK.struct, fields := [((0 : Nat), true, (1 : Nat))], len := (0 : Nat), elem := (0 : Nat), eagg := false, esize := (1 : Nat), kk := Ev.TK.other }),
  (117, { size := (5 : Nat), bytes := (72 : Nat), agg := true, zero := some [Value.int IntKind.i64 (0 : Int), Value.int IntKind.i64 (0 : Int), Value.slice none (0 : Nat) (0 : Nat), Value.int IntKind.i64 (0 : Int), Value.slice none (0 : Nat) (0 : Nat)], zval := some (Value.agg { toList := [Value.int IntKind.i64 (0 : Int), Value.int IntKind.i64 (0 : Int), Value.slice none (0 : Nat) (0 : Nat), Value.int IntKind.i64 (0 : Int), Value.slice none (0 : Nat) (0 : Nat)] }), kind := Ev.TK.struct, fields := [((0 : Nat), true, (2 : Nat)), ((2 : Nat), true, (2 : Nat)), ((4 : Nat), true, (1 : Nat))], len := (0 : Nat), elem := (0 : Nat), eagg := false, esize := (1 : Nat), kk := Ev.TK.other }),
  (118, { size := (5 : Nat), bytes := (72 : Nat), agg := true, zero := some [Value.int IntKind.i64 (0 : Int), Value.int IntKind.i64 (0 : Int), Value.slice none (0 : Nat) (0 : Nat), Value.int IntKind.i64 (0 : Int), Value.slice none (0 : Nat) (0 : Nat)], zval := some (Value.agg { toList := [Value.int IntKind.i64 (0 : Int), Value.int IntKind.i64 (0 : Int), Value.slice none (0 : Nat) (0 : Nat), Value.int IntKind.i64 (0 : Int), Value.slice none (0 : Nat) (0 : Nat)] }), kind := Ev.TK.struct, fields := [((0 : Nat), true, (2 : Nat)), ((2 : Nat), true, (2 : Nat)), ((4 : Nat), true, (1 : Nat))], len := (0 : Nat), elem := (0 : Nat), eagg := false, esize := (1 : Nat), kk := Ev.TK.other }),
  (133, { size := (1 : Nat), bytes := (8 : Nat), agg := false, zero := some [Value.map none], zval := some (Value.map none), kind := Ev.TK.map, fields := [], len := (0 : Nat), elem := (3 : Nat), eagg := false, esize := (1 : Nat), kk := Ev.TK.int IntKind.i64 }),
  (134, { size := (1 : Nat), bytes := (24 : Nat), agg := false, zero := some [Value.slice none (0 : Nat) (0 : Nat)], zval := some (Value.slice none (0 : Nat) (0 : Nat)), kind := Ev.TK.slice, fields := [], len := (0 : Nat), elem := (4 : Nat), eagg := false, esize := (1 : Nat), kk := Ev.TK.other }),
  (137, { size := (1 : Nat), bytes := (8 : Nat), agg := false, zero := some [Value.map none], zval := some (Value.map none), kind := Ev.TK.map, fields := [], len := (0 : Nat), elem := (108 : Nat), eagg := false, esize := (1 : Nat), kk := Ev.TK.int IntKind.i64 }),
  (141, { size := (1 : Nat), bytes := (8 : Nat), agg := false, zero := some [Value.int IntKind.u64 (0 : Int)], zval := some (Value.int IntKind.u64 (0 : Int)), kind := Ev.TK.int IntKind.u64, fields := [], len := (0 : Nat), elem := (0 : Nat), eagg := false, esize := (1 : Nat), kk := Ev.TK.other }),
  (145, { size := (1 : Nat), bytes := (8 : Nat), agg := false, zero := some [Value.int IntKind.u64 (0 : Int)], zval := some (Value.int IntKind.u64 (0 : Int)), kind := Ev.TK.int IntKind.u64, fields := [], len := (0 : Nat), elem := (0 : Nat), eagg := false, esize := (1 : Nat), kk := Ev.TK.other }),
  (163, { size := (1 : Nat), bytes := (8 : Nat), agg := false, zero := some [Value.pointer none], zval := some (Value.pointer none), kind := Ev.TK.pointer, fields := [], len := (0 : Nat), elem := (3 : Nat), eagg := false, esize := (1 : Nat), kk := Ev.TK.other }),
  (165, { size := (1 : Nat), bytes := (24 : Nat), agg := false, zero := some [Value.slice none (0 : Nat) (0 : Nat)], zval := some (Value.slice none (0 : Nat) (0 : Nat)), kind := Ev.TK.slice, fields := [], len := (0 : Nat), elem := (170 : Nat), eagg := true, esize := (5 : Nat), kk := Ev.TK.other }),
  (167, { size := (1 : Nat), bytes := (8 : Nat), agg := false, zero := some [Value.nilFunc], zval := some Value.nilFunc, kind := Ev.TK.func, fields := [], len := (0 : Nat), elem := (0 : Nat), eagg := false, esize := (1 : Nat), kk := Ev.TK.other }),
  (168, { size := (1 : Nat), bytes := (8 : Nat), agg := false, zero := some [Value.nilFunc], zval := some Value.nilFunc, kind := Ev.TK.func, fields := [], len := (0 : Nat), elem := (0 : Nat), eagg := false, esize := (1 : Nat), kk := Ev.TK.other }),
  (169, { size := (5 : Nat), bytes := (48 : Nat), agg := true, zero := some [Value.string { data := #[] }, Value.int IntKind.i64 (0 : Int), Value.int IntKind.i64 (0 : Int), Value.nilFunc, Value.nilFunc], zval := some (Value.agg { toList := [Value.string { data := #[] }, Value.int IntKind.i64 (0 : Int), Value.int IntKind.i64 (0 : Int), Value.nilFunc, Value.nilFunc] }), kind := Ev.TK.struct, fields := [((0 : Nat), false, (1 : Nat)), ((1 : Nat), false, (1 : Nat)), ((2 : Nat), false, (1 : Nat)), ((3 : Nat), false, (1 : Nat)), ((4 : Nat), false, (1 : Nat))], len := (0 : Nat), elem := (0 : Nat), eagg := false, esize := (1 : Nat), kk := Ev.TK.other }),
  (170, { size := (5 : Nat), bytes := (48 : Nat), agg := true, zero := some [Value.string { data := #[] }, Value.int IntKind.i64 (0 : Int), Value.int IntKind.i64 (0 : Int), Value.nilFunc, Value.nilFunc], zval := some (Value.agg { toList := [Value.string { data := #[] }, Value.int IntKind.i64 (0 : Int), Value.int IntKind.i64 (0 : Int), Value.nilFunc, Value.nilFunc] }), kind := Ev.TK.struct, fields := [((0 : Nat), false, (1 : Nat)), ((1 : Nat), false, (1 : Nat)), ((2 : Nat), false, (1 : Nat)), ((3 : Nat), false, (1 : Nat)), ((4 : Nat), false, (1 : Nat))], len := (0 : Nat), elem := (0 : Nat), eagg := false, esize := (1 : Nat), kk := Ev.TK.other }),
  (171, { size := (1 : Nat), bytes := (8 : Nat), agg := false, zero := some [Value.pointer none], zval := some (Value.pointer none), kind := Ev.TK.pointer, fields := [], len := (0 : Nat), elem := (23 : Nat), eagg := true, esize := (5 : Nat), kk := Ev.TK.other })]
noncomputable def F : List (Nat × Func) := [(3, Try.f3), (4, Try.f4), (5, Try.f5), (6, Try.f6), (7, Try.f7), (8, Try.f8), (9, Try.f9), (10, Try.f10), (11, Try.f11), (12, Try.f12), (13, Try.f13), (14, Try.f14), (15, Try.f15), (16, Try.f16), (17, Try.f17), (18, Try.f18), (19, Try.f19), (20, Try.f20), (21, Try.f21), (22, Try.f22), (23, Try.f23), (24, Try.f24), (25, Try.f25), (26, Try.f26), (27, Try.f27), (28, Try.f28), (29, Try.f29), (30, Try.f30), (31, Try.f31), (32, Try.f32), (33, Try.f33), (34, Try.f34), (35, Try.f35), (36, Try.f36), (37, Try.f37), (38, Try.f38), (39, Try.f39), (40, Try.f40), (41, Try.f41), (42, Try.f42), (43, Try.f43), (44, Try.f44), (45, Try.f45), (46, Try.f46), (47, Try.f47), (48, Try.f48), (49, Try.f49), (50, Try.f50), (51, Try.f51), (52, Try.f52), (53, Try.f53), (54, Try.f54), (55, Try.f55), (56, Try.f56), (57, Try.f57), (58, Try.f58), (59, Try.f59), (60, Try.f60), (61, Try.f61), (62, Try.f62), (63, Try.f63), (64, Try.f64), (65, Try.f65), (66, Try.f66), (67, Try.f67), (68, Try.f68), (69, Try.f69), (70, Try.f70), (71, Try.f71), (72, Try.f72), (73, Try.f73), (74, Try.f74), (75, Try.f75), (76, Try.f76), (77, Try.f77), (78, Try.f78), (79, Try.f79), (80, Try.f80), (81, Try.f81), (82, Try.f82), (83, Try.f83), (84, Try.f84), (85, Try.f85), (86, Try.f86), (87, Try.f87), (88, Try.f88), (89, Try.f89), (90, Try.f90), (91, Try.f91), (92, Try.f92), (93, Try.f93), (94, Try.f94), (95, Try.f95), (96, Try.f96), (97, Try.f97), (98, Try.f98), (99, Try.f99), (100, Try.f100), (101, Try.f101), (102, Try.f102), (103, Try.f103), (104, Try.f104), (105, Try.f105), (106, Try.f106), (107, Try.f107), (108, Try.f108), (109, Try.f109), (110, Try.f110), (111, Try.f111), (112, Try.f112), (113, Try.f113), (114, Try.f114), (115, Try.f115), (116, Try.f116), (117, Try.f117), (118, Try.f118), (119, Try.f119), (120, Try.f120), (121, Try.f121), (122, Try.f122), (123, Try.f123), (124, Try.f124), (125, Try.f125), (126, Try.f126), (127, Try.f127), (128, Try.f128), (129, Try.f129), (130, Try.f130), (131, Try.f131), (132, Try.f132), (133, Try.f133), (134, Try.f134), (135, Try.f135), (136, Try.f136), (137, Try.f137), (138, Try.f138), (139, Try.f139), (140, Try.f140), (141, Try.f141), (142, Try.f142), (143, Try.f143), (144, Try.f144), (145, Try.f145), (146, Try.f146), (147, Try.f147), (148, Try.f148), (149, Try.f149), (150, Try.f150), (151, Try.f151), (152, Try.f152), (153, Try.f153), (154, Try.f154), (155, Try.f155), (156, Try.f156), (157, Try.f157), (158, Try.f158), (159, Try.f159), (160, Try.f160), (161, Try.f161), (162, Try.f162), (163, Try.f163), (164, Try.f164)]
def Q : List (Nat × List IntKind) := [(60, [.i64, .i64]), (50, [.i64, .i64])]
noncomputable abbrev mk (X : List (Nat × Rx.Spec)) : Env := ⟨Try.prog, T, F, Rx.look X, Q, [4]⟩
theorem qs60 : Ev.QOk Try.prog 60 [.i64, .i64] := by
  intro l m hl hm op x y w ho
  obtain ⟨aa0, aa1, rfl⟩ : ∃ aa0 aa1, l = [aa0, aa1] := by
    match l, hl with
    | [aa0, aa1], _ => exact ⟨aa0, aa1, rfl⟩
  obtain ⟨cc0, cc1, rfl⟩ : ∃ cc0 cc1, m = [cc0, cc1] := by
    match m, hm with
    | [cc0, cc1], _ => exact ⟨cc0, cc1, rfl⟩
  have u3 := Try.underlying3
  have a3 := Try.isAgg3
  have z3 := Try.sizeOf3
  have hS : Try.prog.underlying 60 = some (.struct (Try.prog.fieldsOf 60)) := by kernel_rfl
  have hp : Try.prog.stoodInHeld 60 = false := by kernel_rfl
  have hg : Try.prog.eqGuardType Try.prog.depth 60 = false := by kernel_rfl
  simp only [Ev.ints]
  rw [Sem.run_bind, run_eqGuard_agg w op 60 x y _ _ hg]
  rcases ho with rfl | rfl
  · simp only [Result.andThen_ok]
    rw [run_eql_struct, show (10000 : Nat) = 9999 + 1 from rfl, run_equalIn_agg w 9999 60 _ _ hS hp]
    simp only [Program.fieldsOf, Try.underlying60]
    go_simp
    by_cases h0 : aa0 = cc0 <;> by_cases h1 : aa1 = cc1 <;> simp [h0, h1]
  · simp only [Result.andThen_ok]
    rw [run_neq_struct, show (10000 : Nat) = 9999 + 1 from rfl, run_equalIn_agg w 9999 60 _ _ hS hp]
    simp only [Program.fieldsOf, Try.underlying60]
    go_simp
    by_cases h0 : aa0 = cc0 <;> by_cases h1 : aa1 = cc1 <;> simp [h0, h1]
theorem qs50 : Ev.QOk Try.prog 50 [.i64, .i64] := by
  intro l m hl hm op x y w ho
  obtain ⟨aa0, aa1, rfl⟩ : ∃ aa0 aa1, l = [aa0, aa1] := by
    match l, hl with
    | [aa0, aa1], _ => exact ⟨aa0, aa1, rfl⟩
  obtain ⟨cc0, cc1, rfl⟩ : ∃ cc0 cc1, m = [cc0, cc1] := by
    match m, hm with
    | [cc0, cc1], _ => exact ⟨cc0, cc1, rfl⟩
  have u3 := Try.underlying3
  have a3 := Try.isAgg3
  have z3 := Try.sizeOf3
  have hS : Try.prog.underlying 50 = some (.struct (Try.prog.fieldsOf 50)) := by kernel_rfl
  have hp : Try.prog.stoodInHeld 50 = false := by kernel_rfl
  have hg : Try.prog.eqGuardType Try.prog.depth 50 = false := by kernel_rfl
  simp only [Ev.ints]
  rw [Sem.run_bind, run_eqGuard_agg w op 50 x y _ _ hg]
  rcases ho with rfl | rfl
  · simp only [Result.andThen_ok]
    rw [run_eql_struct, show (10000 : Nat) = 9999 + 1 from rfl, run_equalIn_agg w 9999 50 _ _ hS hp]
    simp only [Program.fieldsOf, Try.underlying50]
    go_simp
    by_cases h0 : aa0 = cc0 <;> by_cases h1 : aa1 = cc1 <;> simp [h0, h1]
  · simp only [Result.andThen_ok]
    rw [run_neq_struct, show (10000 : Nat) = 9999 + 1 from rfl, run_equalIn_agg w 9999 50 _ _ hS hp]
    simp only [Program.fieldsOf, Try.underlying50]
    go_simp
    by_cases h0 : aa0 = cc0 <;> by_cases h1 : aa1 = cc1 <;> simp [h0, h1]
theorem mixed : Try.prog.follows .mixedOrders = true := by kernel_rfl
/-- A function's contract may be used. -/
def Told (f : Nat) (sp : Rx.Spec) : Prop := (∃ fn, Try.prog.funcs[f]? = some fn ∧ fn.body.isSome = true ∧ (fn.name == "runtime.NumGoroutine") = false) ∧ SpecOk Try.prog f sp
theorem mkOk {X : List (Nat × Rx.Spec)} (h : ∀ p ∈ X, Told p.1 p.2) : EnvOk (mk X) where
  types := look_all (q := fun ty i => Ev.mkTI Try.prog ty = some i) (by
    intro p hp
    simp only [T, List.mem_cons, List.not_mem_nil, or_false] at hp
    rcases hp with rfl | rfl | rfl | rfl | rfl | rfl | rfl | rfl | rfl | rfl | rfl | rfl | rfl | rfl | rfl | rfl | rfl | rfl | rfl | rfl | rfl | rfl | rfl | rfl | rfl | rfl | rfl | rfl | rfl | rfl | rfl | rfl | rfl | rfl | rfl | rfl | rfl | rfl | rfl | rfl | rfl | rfl | rfl | rfl | rfl | rfl | rfl | rfl | rfl | rfl <;> kernel_rfl)
  funcs := look_all (q := fun f fn => Try.prog.funcs[f]? = some fn ∧ (fn.name == "runtime.NumGoroutine") = false) (by
    intro p hp
    simp only [F, List.mem_cons, List.not_mem_nil, or_false] at hp
    rcases hp with rfl | rfl | rfl | rfl | rfl | rfl | rfl | rfl | rfl | rfl | rfl | rfl | rfl | rfl | rfl | rfl | rfl | rfl | rfl | rfl | rfl | rfl | rfl | rfl | rfl | rfl | rfl | rfl | rfl | rfl | rfl | rfl | rfl | rfl | rfl | rfl | rfl | rfl | rfl | rfl | rfl | rfl | rfl | rfl | rfl | rfl | rfl | rfl | rfl | rfl | rfl | rfl | rfl | rfl | rfl | rfl | rfl | rfl | rfl | rfl | rfl | rfl | rfl | rfl | rfl | rfl | rfl | rfl | rfl | rfl | rfl | rfl | rfl | rfl | rfl | rfl | rfl | rfl | rfl | rfl | rfl | rfl | rfl | rfl | rfl | rfl | rfl | rfl | rfl | rfl | rfl | rfl | rfl | rfl | rfl | rfl | rfl | rfl | rfl | rfl | rfl | rfl | rfl | rfl | rfl | rfl | rfl | rfl | rfl | rfl | rfl | rfl | rfl | rfl | rfl | rfl | rfl | rfl | rfl | rfl | rfl | rfl | rfl | rfl | rfl | rfl | rfl | rfl | rfl | rfl | rfl | rfl | rfl | rfl | rfl | rfl | rfl | rfl | rfl | rfl | rfl | rfl | rfl | rfl | rfl | rfl | rfl | rfl | rfl | rfl | rfl | rfl | rfl | rfl | rfl | rfl | rfl | rfl | rfl | rfl | rfl | rfl <;> exact ⟨by kernel_rfl, by kernel_rfl⟩)
  specs := look_all (q := Told) h
  mixed := mixed
  qs := look_all (q := fun ty ks => Ev.QOk Try.prog ty ks) (by
    intro p hp
    simp only [Q, List.mem_cons, List.not_mem_nil, or_false] at hp
    rcases hp with rfl | rfl
    · exact qs60
    · exact qs50)
  bo := by
    intro ty hty
    simp only [List.mem_cons, List.not_mem_nil, or_false] at hty
    subst hty
    kernel_rfl
/-- From a function's body to its contract. -/
theorem told {X : List (Nat × Rx.Spec)} (hX : ∀ p ∈ X, Told p.1 p.2) {f n : Nat} {fn : Func} (hf : Try.prog.funcs[f]? = some fn) (h1 : fn.body.isSome = true) (h2 : (fn.name == "runtime.NumGoroutine") = false) {c : Con} (hb : BodyOk (mk X) n fn c) : Told f (specOf c) :=
  ⟨⟨fn, hf, h1, h2⟩, specOf_ok (mkOk hX) hf hb⟩
end Go.Proofs.Ytfgeoglegebncaa.Fr
namespace Go.Proofs.Ytfgeoglegebncaa.Fr
set_option maxRecDepth 100000
set_option maxHeartbeats 4000000
open Go.Rx
open Go.RowKit (Below)
set_option linter.unusedVariables false
/-- A narrower contract. -/
theorem Told.mono {f : Nat} {c c' : Con} (h : Told f (specOf c)) (hc : ∀ vs bs K, c' vs bs K → c vs bs K) : Told f (specOf c') :=
  ⟨h.1, fun args s K hk => h.2 args s K (locA_mono (fun us bs => hc us bs _) args 0 hk)⟩
/-- A slice of a row of these kinds, or none; with the room that it has. -/
def parseQ (ks : List IntKind) (j : Nat) (v : Value) (bs : List Blk) (k : Nat → RF → Nat → List Blk → Prop) : Prop :=
  match v with
  | .slice none 0 0 => k 0 zF j bs
  | .slice (some ⟨b, 0, some 0⟩) n c => (b = j ∧ n ≤ 100000 ∧ n ≤ c) ∧ match bs with
    | .row true ks' _ n' c' f :: bs' => (ks' = ks ∧ n' = n ∧ c' = c) ∧ k n f (j + 1) bs'
    | _ => False
  | _ => False
theorem parseQ_inv {ks : List IntKind} {j : Nat} {v : Value} {bs : List Blk} {k : Nat → RF → Nat → List Blk → Prop} (h : parseQ ks j v bs k) : (v = .slice none 0 0 ∧ k 0 zF j bs) ∨ ∃ e n c f bs', v = rsl j 0 n c ∧ n ≤ 100000 ∧ n ≤ c ∧ bs = .row true ks e n c f :: bs' ∧ k n f (j + 1) bs' := by
  unfold parseQ at h
  split at h
  · exact .inl ⟨rfl, h⟩
  · obtain ⟨⟨rfl, hn, hc⟩, h⟩ := h
    split at h
    · obtain ⟨⟨rfl, rfl, rfl⟩, h⟩ := h
      exact .inr ⟨_, _, _, _, _, rfl, hn, hc, rfl, h⟩
    · exact h.elim
  · exact h.elim
def parseRQ (ks : List IntKind) (j : Nat) (v : Value) (bs : List Blk) (k : Nat → RF → Nat → List Blk → Prop) : Prop :=
  match v with
  | .slice (some ⟨b, 0, some 0⟩) n c => (b = j ∧ n ≤ 100000 ∧ n ≤ c) ∧ match bs with
    | .row true ks' _ n' c' f :: bs' => (ks' = ks ∧ n' = n ∧ c' = c) ∧ k n f (j + 1) bs'
    | _ => False
  | _ => False
theorem parseRQ_inv {ks : List IntKind} {j : Nat} {v : Value} {bs : List Blk} {k : Nat → RF → Nat → List Blk → Prop} (h : parseRQ ks j v bs k) : ∃ e n c f bs', v = rsl j 0 n c ∧ n ≤ 100000 ∧ n ≤ c ∧ bs = .row true ks e n c f :: bs' ∧ k n f (j + 1) bs' := by
  unfold parseRQ at h
  split at h
  · obtain ⟨⟨rfl, hn, hc⟩, h⟩ := h
    split at h
    · obtain ⟨⟨rfl, rfl, rfl⟩, h⟩ := h
      exact ⟨_, _, _, _, _, rfl, hn, hc, rfl, h⟩
    · exact h.elim
  · exact h.elim
abbrev KB := Value → List Blk → Prop
theorem fin0i {K : KB} {x y : Int} (e : x = y) (h : K (.int .i64 x) []) : K (.int .i64 y) [] := e ▸ h
theorem fin0p {K : KB} {x y x' y' : Int} (e : x = x') (e' : y = y') (h : K (.tuple ⟨[.int .i64 x, .int .i64 y]⟩) []) : K (.tuple ⟨[.int .i64 x', .int .i64 y']⟩) [] := e ▸ e' ▸ h
theorem fin0u {K : KB} {x y x' y' : Int} (e : x = x') (e' : y = y') (h : K (.tuple ⟨[.int .u64 x, .int .i64 y]⟩) []) : K (.tuple ⟨[.int .u64 x', .int .i64 y']⟩) [] := e ▸ e' ▸ h
theorem fin0s {K : KB} {x y z x' y' z' : Int} (e : x = x') (e' : y = y') (e2 : z = z') (h : K (.tuple ⟨[.agg ⟨[.int .i64 x, .int .i64 y]⟩, .int .i64 z]⟩) []) : K (.tuple ⟨[.agg ⟨[.int .i64 x', .int .i64 y']⟩, .int .i64 z']⟩) [] := e ▸ e' ▸ e2 ▸ h
theorem fin0n {K : KB} {y y' : Int} (e : y = y') (h : K (.tuple ⟨[.slice none 0 0, .int .i64 y]⟩) []) : K (.tuple ⟨[.slice none 0 0, .int .i64 y']⟩) [] := e ▸ h
/-- Words of an arena. -/
structure Ok64 (n : Nat) (f : RF) : Prop where
  h : ∀ i, i < n → 0 ≤ f i 0 ∧ f i 0 ≤ 18446744073709551615
theorem Ok64.nil {f : RF} : Ok64 0 f := ⟨fun i h => absurd h (by omega)⟩
/-- The error of an arena. -/
def arE (n : Nat) (f : RF) : Int := if n < 1 ∨ 1601 < n then 3 else if f (Int.toNat 0) 0 = 0 then 0 else 6
theorem ar_cases (n : Nat) (f : RF) : (arE n f = 3 ∧ (n < 1 ∨ 1601 < n)) ∨ (arE n f = 6 ∧ 1 ≤ n ∧ n ≤ 1601 ∧ ¬ f (Int.toNat 0) 0 = 0) ∨ (arE n f = 0 ∧ 1 ≤ n ∧ n ≤ 1601 ∧ f (Int.toNat 0) 0 = 0) := by
  unfold arE
  repeat' split
  all_goals omega
/-- The error of a shape, its size, its header. -/
def sze (p q : Int) : Int := if p < 0 ∨ q < 0 then 7 else if 64 ≤ p ∨ 64 ≤ q ∨ 64 < 1 + p + q then 11 else 0
def szn (p q : Int) : Int := if sze p q = 0 then 1 + p + q else 0
def pkv (p q : Int) : Int := if sze p q = 0 then 1 + 256 * p + 65536 * q else 0
theorem sze_cases (p q : Int) : (sze p q = 7 ∧ (p < 0 ∨ q < 0)) ∨ (sze p q = 11 ∧ 0 ≤ p ∧ 0 ≤ q ∧ (64 ≤ p ∨ 64 ≤ q ∨ 64 < 1 + p + q)) ∨ (sze p q = 0 ∧ 0 ≤ p ∧ 0 ≤ q ∧ 1 + p + q ≤ 64) := by
  unfold sze
  repeat' split
  all_goals omega
theorem szn_cases (p q : Int) : (sze p q = 0 ∧ szn p q = 1 + p + q) ∨ (¬ sze p q = 0 ∧ szn p q = 0) := by
  unfold szn
  split
  · exact .inl ⟨by assumption, rfl⟩
  · exact .inr ⟨by assumption, rfl⟩
theorem pkv_cases (p q : Int) : (sze p q = 0 ∧ pkv p q = 1 + 256 * p + 65536 * q) ∨ (¬ sze p q = 0 ∧ pkv p q = 0) := by
  unfold pkv
  split
  · exact .inl ⟨by assumption, rfl⟩
  · exact .inr ⟨by assumption, rfl⟩
/-- A word as a header: its error, and the shape. -/
def hsE (v : Int) : Int := if v % 256 = 1 ∧ v / 65536 < 64 ∧ v / 256 % 256 < 64 ∧ 1 + v / 256 % 256 + v / 65536 ≤ 64 then 0 else 6
def hsP (v : Int) : Int := if hsE v = 0 then v / 256 % 256 else 0
def hsR (v : Int) : Int := if hsE v = 0 then v / 65536 else 0
theorem hs_cases (v : Int) : (hsE v = 0 ∧ v % 256 = 1 ∧ v / 65536 < 64 ∧ v / 256 % 256 < 64 ∧ 1 + v / 256 % 256 + v / 65536 ≤ 64 ∧ hsP v = v / 256 % 256 ∧ hsR v = v / 65536) ∨
    (hsE v = 6 ∧ hsP v = 0 ∧ hsR v = 0 ∧ ¬ (v % 256 = 1 ∧ v / 65536 < 64 ∧ v / 256 % 256 < 64 ∧ 1 + v / 256 % 256 + v / 65536 ≤ 64)) := by
  by_cases h : v % 256 = 1 ∧ v / 65536 < 64 ∧ v / 256 % 256 < 64 ∧ 1 + v / 256 % 256 + v / 65536 ≤ 64
  · have e : hsE v = 0 := if_pos h
    have e1 : hsP v = v / 256 % 256 := if_pos e
    have e2 : hsR v = v / 65536 := if_pos e
    exact .inl ⟨e, h.1, h.2.1, h.2.2.1, h.2.2.2, e1, e2⟩
  · have e : hsE v = 6 := if_neg h
    have e1 : hsP v = 0 := if_neg (by omega)
    have e2 : hsR v = 0 := if_neg (by omega)
    exact .inr ⟨e, e1, e2, h⟩
/-- An object: its error, and its shape. -/
def obE (n : Nat) (f : RF) (a : Int) : Int := if arE n f = 0 then (if a < 1 ∨ (n : Int) ≤ a then 7 else if hsE (f a.toNat 0) = 0 ∧ hsP (f a.toNat 0) + hsR (f a.toNat 0) < n - a then 0 else 6) else arE n f
def obP (n : Nat) (f : RF) (a : Int) : Int := if obE n f a = 0 then hsP (f a.toNat 0) else 0
def obR (n : Nat) (f : RF) (a : Int) : Int := if obE n f a = 0 then hsR (f a.toNat 0) else 0
theorem ob_cases {n : Nat} {f : RF} (hU : Ok64 n f) (a : Int) : (¬ arE n f = 0 ∧ obE n f a = arE n f ∧ obP n f a = 0 ∧ obR n f a = 0) ∨
    (arE n f = 0 ∧ obE n f a = 7 ∧ (a < 1 ∨ (n : Int) ≤ a) ∧ obP n f a = 0 ∧ obR n f a = 0) ∨
    (arE n f = 0 ∧ obE n f a = 6 ∧ 1 ≤ a ∧ a < n ∧ (¬ hsE (f a.toNat 0) = 0 ∨ n - a ≤ hsP (f a.toNat 0) + hsR (f a.toNat 0)) ∧ obP n f a = 0 ∧ obR n f a = 0) ∨
    (arE n f = 0 ∧ obE n f a = 0 ∧ 1 ≤ a ∧ a < n ∧ hsE (f a.toNat 0) = 0 ∧ obP n f a = hsP (f a.toNat 0) ∧ obR n f a = hsR (f a.toNat 0) ∧ 0 ≤ hsP (f a.toNat 0) ∧ 0 ≤ hsR (f a.toNat 0) ∧ hsP (f a.toNat 0) + hsR (f a.toNat 0) < n - a ∧ hsP (f a.toNat 0) + hsR (f a.toNat 0) ≤ 63) := by
  have b := hs_cases (f a.toNat 0)
  by_cases h0 : arE n f = 0
  · by_cases h1 : a < 1 ∨ (n : Int) ≤ a
    · have e : obE n f a = 7 := by unfold obE; rw [if_pos h0, if_pos h1]
      have e1 : obP n f a = 0 := if_neg (by omega)
      have e2 : obR n f a = 0 := if_neg (by omega)
      exact .inr (.inl ⟨h0, e, h1, e1, e2⟩)
    · have hv := (hU.h a.toNat (by omega)).1
      by_cases h2 : hsE (f a.toNat 0) = 0 ∧ hsP (f a.toNat 0) + hsR (f a.toNat 0) < n - a
      · have e : obE n f a = 0 := by unfold obE; rw [if_pos h0, if_neg h1, if_pos h2]
        have e1 : obP n f a = hsP (f a.toNat 0) := if_pos e
        have e2 : obR n f a = hsR (f a.toNat 0) := if_pos e
        exact .inr (.inr (.inr ⟨h0, e, by omega, by omega, h2.1, e1, e2, by omega, by omega, h2.2, by omega⟩))
      · have e : obE n f a = 6 := by unfold obE; rw [if_pos h0, if_neg h1, if_neg h2]
        have e1 : obP n f a = 0 := if_neg (by omega)
        have e2 : obR n f a = 0 := if_neg (by omega)
        exact .inr (.inr (.inl ⟨h0, e, by omega, by omega, by omega, e1, e2⟩))
  · have e : obE n f a = arE n f := if_neg h0
    have e1 : obP n f a = 0 := if_neg (by omega)
    have e2 : obR n f a = 0 := if_neg (by omega)
    exact .inl ⟨h0, e, e1, e2⟩
/-- A word that is read. -/
def gtE (n : Nat) (f : RF) (a : Int) : Int := if arE n f = 0 then (if 1 ≤ a ∧ a < n then 0 else 7) else arE n f
def gtV (n : Nat) (f : RF) (a : Int) : Int := if gtE n f a = 0 then f a.toNat 0 else 0
theorem gt_cases (n : Nat) (f : RF) (a : Int) : (¬ arE n f = 0 ∧ gtE n f a = arE n f ∧ gtV n f a = 0) ∨ (arE n f = 0 ∧ gtE n f a = 7 ∧ gtV n f a = 0 ∧ (a < 1 ∨ (n : Int) ≤ a)) ∨ (arE n f = 0 ∧ gtE n f a = 0 ∧ gtV n f a = f a.toNat 0 ∧ 1 ≤ a ∧ a < n) := by
  by_cases h0 : arE n f = 0
  · by_cases h1 : 1 ≤ a ∧ a < n
    · have e : gtE n f a = 0 := by unfold gtE; rw [if_pos h0, if_pos h1]
      exact .inr (.inr ⟨h0, e, if_pos e, h1⟩)
    · have e : gtE n f a = 7 := by unfold gtE; rw [if_pos h0, if_neg h1]
      exact .inr (.inl ⟨h0, e, if_neg (by omega), by omega⟩)
  · have e : gtE n f a = arE n f := if_neg h0
    exact .inl ⟨h0, e, if_neg (by omega)⟩
@[reducible] def XZ : List (Nat × Rx.Spec) := []
theorem XZ_told : ∀ p ∈ XZ, Told p.1 p.2 := fun p hp => by cases hp
def arC : Con := fun vs bs K => match vs with
  | [vw] => parseQ [.u64] 0 vw bs fun nw fw j0 bs0 => bs0 = [] ∧ (True) ∧ (K (.int .i64 (arE nw fw)) [])
  | _ => False

def arC_nA  : Ann := fun _ _ _ => none
def arC_rA (ew nw cw : Nat) (fw : RF) : Ann := fun _ _ _ => none
def arK : Con := fun vs bs K => match vs with
  | [vw] => parseQ [.u64] 0 vw bs fun nw fw j0 bs0 => bs0 = [] ∧ (True) ∧ (K (.int .i64 (arE nw fw)) [])
  | _ => False

def arK_nA  : Ann := fun _ _ _ => none
def arK_rA (ew nw cw : Nat) (fw : RF) : Ann := fun _ _ _ => none
def hdC : Con := fun vs bs K => match vs with
  | [.agg ⟨[.int .i64 p, .int .i64 q]⟩] => bs = [] ∧ (True) ∧ (K (.int .i64 (sze p q)) [])
  | _ => False

def hdC_zA (p : Int) (q : Int) : Ann := fun _ _ _ => none
def hdK : Con := fun vs bs K => match vs with
  | [.agg ⟨[.int .i64 p, .int .i64 q]⟩] => bs = [] ∧ (True) ∧ (K (.int .i64 (sze p q)) [])
  | _ => False

def hdK_zA (p : Int) (q : Int) : Ann := fun _ _ _ => none
def arC_nV  (K : Value → List Blk → Prop) : Prop := (T0 ∧ (TS ∧ (T0 ∧ (∃ y0 : Value, (∃ y1 : List Blk, ((Go.Rx.Found 0 (vi (3 : Int)) ({ h := [], next := (0 : Nat) }) (y0) (y1)) ∧ (K y0 y1)))))))
theorem arC_nE  (K : Value → List Blk → Prop) : arC_nV  K = bodyX (mk XZ) (callN (mk XZ) 6) (arC_nA ) Try.f24 [.slice none 0 0] (stOf []) (Fd 0 K) := by kernel_rfl
set_option tactic.hygienic false in
theorem arC_nP  (K : Value → List Blk → Prop)  (h : K (.int .i64 (arE 0 zF)) []) : arC_nV  K := by
  unfold arC_nV
  have z0 := ar_cases 0 zF
  repeat' (first | (with_reducible exact rfl) | (with_reducible exact trivial) | (with_reducible refine And.intro ?_ ?_) | (intro) | (with_reducible refine br_d (fun hq => ?_) (fun hq => ?_)) | (with_reducible refine br_nd (fun hq => ?_) (fun hq => ?_)) | (with_reducible refine br_intro (fun hq => ?_) (fun hq => ?_)) | (with_reducible refine if_both (fun hz => ?_) (fun hz => ?_)) | fail)

  all_goals first
    | (with_reducible assumption)
    | (refine (id ?_ : ∃ (v1 : Value) (news : List Blk), _)
       first
        | contradiction
        | exact fin0 (by kernel_rfl) (by kernel_rfl) h
        | exact fin0 (by kernel_rfl) (by kernel_rfl) (fin0i (by omega) h)
        | exact fin0 (by kernel_rfl) (by kernel_rfl) (fin0p (by omega) (by omega) h)
        | exact fin0 (by kernel_rfl) (by kernel_rfl) (fin0u (by omega) (by omega) h)
        | exact fin0 (by kernel_rfl) (by kernel_rfl) (fin0s (by omega) (by omega) (by omega) h)
        | exact fin0 (by kernel_rfl) (by kernel_rfl) (fin0n (by omega) h)
        | (exfalso; simp at hq; omega)
        | (exfalso; omega)
       )
    | omega
    | contradiction
    | exact fin0 (by kernel_rfl) (by kernel_rfl) h
    | exact fin0 (by kernel_rfl) (by kernel_rfl) (fin0i (by omega) h)
    | exact fin0 (by kernel_rfl) (by kernel_rfl) (fin0p (by omega) (by omega) h)
    | exact fin0 (by kernel_rfl) (by kernel_rfl) (fin0u (by omega) (by omega) h)
    | exact fin0 (by kernel_rfl) (by kernel_rfl) (fin0s (by omega) (by omega) (by omega) h)
    | exact fin0 (by kernel_rfl) (by kernel_rfl) (fin0n (by omega) h)
    | (exfalso; simp at hq; omega)
    | (exfalso; omega)
def arC_rV (ew nw cw : Nat) (fw : RF) (K : Value → List Blk → Prop) : Prop := let q0 := TS; let q1 := (∃ y0 : Value, (∃ y1 : List Blk, ((Go.Rx.Found 1 (vi (3 : Int)) ({ h := [((0 : Nat), Blk.row true [IntKind.u64] ew nw cw fw)], next := (1 : Nat) }) (y0) (y1)) ∧ (K y0 y1)))); (T0 ∧ (q0 ∧ (T0 ∧ (if ((↑nw : Int) < (1 : Int)) then q1 else (q0 ∧ (T0 ∧ (if ((1601 : Int) < (↑nw : Int)) then q1 else ((q0 ∧ (@Eq Nat ((1 : Nat)) ((1 : Nat)))) ∧ ((((0 : Int) ≤ (0 : Int)) ∧ ((0 : Int) < (↑nw : Int))) ∧ ((Int.toNat (0 : Int) < nw) ∧ (T0 ∧ (if (@Eq Int (fw (Int.toNat (0 : Int)) (0 : Nat)) ((0 : Int))) then (∃ y0 : Value, (∃ y1 : List Blk, ((Go.Rx.Found 1 (vi (0 : Int)) ({ h := [((0 : Nat), Blk.row true [IntKind.u64] ew nw cw fw)], next := (1 : Nat) }) (y0) (y1)) ∧ (K y0 y1)))) else (∃ y0 : Value, (∃ y1 : List Blk, ((Go.Rx.Found 1 (vi (6 : Int)) ({ h := [((0 : Nat), Blk.row true [IntKind.u64] ew nw cw fw)], next := (1 : Nat) }) (y0) (y1)) ∧ (K y0 y1))))))))))))))))
theorem arC_rE (ew nw cw : Nat) (fw : RF) (K : Value → List Blk → Prop) : arC_rV ew nw cw fw K = bodyX (mk XZ) (callN (mk XZ) 6) (arC_rA ew nw cw fw) Try.f24 [rsl 0 0 nw cw] (stOf [.row true [.u64] ew nw cw fw]) (Fd 1 K) := by kernel_rfl
set_option tactic.hygienic false in
theorem arC_rP (ew nw cw : Nat) (fw : RF) (K : Value → List Blk → Prop)  (hnw : nw ≤ 100000) (hcw : nw ≤ cw) (h : K (.int .i64 (arE nw fw)) []) : arC_rV ew nw cw fw K := by
  unfold arC_rV
  conv => zeta
  have z0 := ar_cases nw fw
  repeat' (first | (with_reducible exact rfl) | (with_reducible exact trivial) | (with_reducible refine And.intro ?_ ?_) | (intro) | (with_reducible refine br_d (fun hq => ?_) (fun hq => ?_)) | (with_reducible refine br_nd (fun hq => ?_) (fun hq => ?_)) | (with_reducible refine br_intro (fun hq => ?_) (fun hq => ?_)) | (with_reducible refine if_both (fun hz => ?_) (fun hz => ?_)) | fail)

  all_goals first
    | (with_reducible assumption)
    | (refine (id ?_ : ∃ (v1 : Value) (news : List Blk), _)
       first
        | contradiction
        | exact fin0 (by kernel_rfl) (by kernel_rfl) h
        | exact fin0 (by kernel_rfl) (by kernel_rfl) (fin0i (by omega) h)
        | exact fin0 (by kernel_rfl) (by kernel_rfl) (fin0p (by omega) (by omega) h)
        | exact fin0 (by kernel_rfl) (by kernel_rfl) (fin0u (by omega) (by omega) h)
        | exact fin0 (by kernel_rfl) (by kernel_rfl) (fin0s (by omega) (by omega) (by omega) h)
        | exact fin0 (by kernel_rfl) (by kernel_rfl) (fin0n (by omega) h)
        | (exfalso; simp at hq; omega)
        | (exfalso; omega)
       )
    | omega
    | contradiction
    | exact fin0 (by kernel_rfl) (by kernel_rfl) h
    | exact fin0 (by kernel_rfl) (by kernel_rfl) (fin0i (by omega) h)
    | exact fin0 (by kernel_rfl) (by kernel_rfl) (fin0p (by omega) (by omega) h)
    | exact fin0 (by kernel_rfl) (by kernel_rfl) (fin0u (by omega) (by omega) h)
    | exact fin0 (by kernel_rfl) (by kernel_rfl) (fin0s (by omega) (by omega) (by omega) h)
    | exact fin0 (by kernel_rfl) (by kernel_rfl) (fin0n (by omega) h)
    | (exfalso; simp at hq; omega)
    | (exfalso; omega)
theorem arC_ok : BodyOk (mk XZ) 6 Try.f24 arC := by
  intro vs bs K hh hro
  clear hro
  unfold arC at hh
  split at hh
  · rename_i vw
    rcases parseQ_inv hh with ⟨rfl, hh0⟩ | ⟨ew, nw, cw, fw, btw, rfl, hnw, hcw, rfl, hh0⟩ <;> clear hh
    · obtain ⟨rfl, -, hc⟩ := hh0
      exact ⟨_, _, cast (arC_nE   K) (arC_nP   K   hc)⟩
    · obtain ⟨rfl, -, hc⟩ := hh0
      exact ⟨_, _, cast (arC_rE ew nw cw fw  K) (arC_rP ew nw cw fw  K hnw hcw  hc)⟩
  · exact hh.elim
theorem arC_told : Told 24 (specOf arC) := told (X := XZ) XZ_told (by kernel_rfl) (by kernel_rfl) (by kernel_rfl) arC_ok
def arK_nV  (K : Value → List Blk → Prop) : Prop := (T0 ∧ (TS ∧ (T0 ∧ (∃ y0 : Value, (∃ y1 : List Blk, ((Go.Rx.Found 0 (vi (3 : Int)) ({ h := [], next := (0 : Nat) }) (y0) (y1)) ∧ (K y0 y1)))))))
theorem arK_nE  (K : Value → List Blk → Prop) : arK_nV  K = bodyX (mk XZ) (callN (mk XZ) 6) (arK_nA ) Try.f25 [.slice none 0 0] (stOf []) (Fd 0 K) := by kernel_rfl
set_option tactic.hygienic false in
theorem arK_nP  (K : Value → List Blk → Prop)  (h : K (.int .i64 (arE 0 zF)) []) : arK_nV  K := by
  unfold arK_nV
  have z0 := ar_cases 0 zF
  repeat' (first | (with_reducible exact rfl) | (with_reducible exact trivial) | (with_reducible refine And.intro ?_ ?_) | (intro) | (with_reducible refine br_d (fun hq => ?_) (fun hq => ?_)) | (with_reducible refine br_nd (fun hq => ?_) (fun hq => ?_)) | (with_reducible refine br_intro (fun hq => ?_) (fun hq => ?_)) | (with_reducible refine if_both (fun hz => ?_) (fun hz => ?_)) | fail)

  all_goals first
    | (with_reducible assumption)
    | (refine (id ?_ : ∃ (v1 : Value) (news : List Blk), _)
       first
        | contradiction
        | exact fin0 (by kernel_rfl) (by kernel_rfl) h
        | exact fin0 (by kernel_rfl) (by kernel_rfl) (fin0i (by omega) h)
        | exact fin0 (by kernel_rfl) (by kernel_rfl) (fin0p (by omega) (by omega) h)
        | exact fin0 (by kernel_rfl) (by kernel_rfl) (fin0u (by omega) (by omega) h)
        | exact fin0 (by kernel_rfl) (by kernel_rfl) (fin0s (by omega) (by omega) (by omega) h)
        | exact fin0 (by kernel_rfl) (by kernel_rfl) (fin0n (by omega) h)
        | (exfalso; simp at hq; omega)
        | (exfalso; omega)
       )
    | omega
    | contradiction
    | exact fin0 (by kernel_rfl) (by kernel_rfl) h
    | exact fin0 (by kernel_rfl) (by kernel_rfl) (fin0i (by omega) h)
    | exact fin0 (by kernel_rfl) (by kernel_rfl) (fin0p (by omega) (by omega) h)
    | exact fin0 (by kernel_rfl) (by kernel_rfl) (fin0u (by omega) (by omega) h)
    | exact fin0 (by kernel_rfl) (by kernel_rfl) (fin0s (by omega) (by omega) (by omega) h)
    | exact fin0 (by kernel_rfl) (by kernel_rfl) (fin0n (by omega) h)
    | (exfalso; simp at hq; omega)
    | (exfalso; omega)
def arK_rV (ew nw cw : Nat) (fw : RF) (K : Value → List Blk → Prop) : Prop := let q0 := TS; let q1 := (∃ y0 : Value, (∃ y1 : List Blk, ((Go.Rx.Found 1 (vi (3 : Int)) ({ h := [((0 : Nat), Blk.row true [IntKind.u64] ew nw cw fw)], next := (1 : Nat) }) (y0) (y1)) ∧ (K y0 y1)))); (T0 ∧ (q0 ∧ (T0 ∧ (if ((↑nw : Int) < (1 : Int)) then q1 else (q0 ∧ (T0 ∧ (if ((1601 : Int) < (↑nw : Int)) then q1 else ((q0 ∧ (@Eq Nat ((1 : Nat)) ((1 : Nat)))) ∧ ((((0 : Int) ≤ (0 : Int)) ∧ ((0 : Int) < (↑nw : Int))) ∧ ((Int.toNat (0 : Int) < nw) ∧ (T0 ∧ (if (@Eq Int (fw (Int.toNat (0 : Int)) (0 : Nat)) ((0 : Int))) then (∃ y0 : Value, (∃ y1 : List Blk, ((Go.Rx.Found 1 (vi (0 : Int)) ({ h := [((0 : Nat), Blk.row true [IntKind.u64] ew nw cw fw)], next := (1 : Nat) }) (y0) (y1)) ∧ (K y0 y1)))) else (∃ y0 : Value, (∃ y1 : List Blk, ((Go.Rx.Found 1 (vi (6 : Int)) ({ h := [((0 : Nat), Blk.row true [IntKind.u64] ew nw cw fw)], next := (1 : Nat) }) (y0) (y1)) ∧ (K y0 y1))))))))))))))))
theorem arK_rE (ew nw cw : Nat) (fw : RF) (K : Value → List Blk → Prop) : arK_rV ew nw cw fw K = bodyX (mk XZ) (callN (mk XZ) 6) (arK_rA ew nw cw fw) Try.f25 [rsl 0 0 nw cw] (stOf [.row true [.u64] ew nw cw fw]) (Fd 1 K) := by kernel_rfl
set_option tactic.hygienic false in
theorem arK_rP (ew nw cw : Nat) (fw : RF) (K : Value → List Blk → Prop)  (hnw : nw ≤ 100000) (hcw : nw ≤ cw) (h : K (.int .i64 (arE nw fw)) []) : arK_rV ew nw cw fw K := by
  unfold arK_rV
  conv => zeta
  have z0 := ar_cases nw fw
  repeat' (first | (with_reducible exact rfl) | (with_reducible exact trivial) | (with_reducible refine And.intro ?_ ?_) | (intro) | (with_reducible refine br_d (fun hq => ?_) (fun hq => ?_)) | (with_reducible refine br_nd (fun hq => ?_) (fun hq => ?_)) | (with_reducible refine br_intro (fun hq => ?_) (fun hq => ?_)) | (with_reducible refine if_both (fun hz => ?_) (fun hz => ?_)) | fail)

  all_goals first
    | (with_reducible assumption)
    | (refine (id ?_ : ∃ (v1 : Value) (news : List Blk), _)
       first
        | contradiction
        | exact fin0 (by kernel_rfl) (by kernel_rfl) h
        | exact fin0 (by kernel_rfl) (by kernel_rfl) (fin0i (by omega) h)
        | exact fin0 (by kernel_rfl) (by kernel_rfl) (fin0p (by omega) (by omega) h)
        | exact fin0 (by kernel_rfl) (by kernel_rfl) (fin0u (by omega) (by omega) h)
        | exact fin0 (by kernel_rfl) (by kernel_rfl) (fin0s (by omega) (by omega) (by omega) h)
        | exact fin0 (by kernel_rfl) (by kernel_rfl) (fin0n (by omega) h)
        | (exfalso; simp at hq; omega)
        | (exfalso; omega)
       )
    | omega
    | contradiction
    | exact fin0 (by kernel_rfl) (by kernel_rfl) h
    | exact fin0 (by kernel_rfl) (by kernel_rfl) (fin0i (by omega) h)
    | exact fin0 (by kernel_rfl) (by kernel_rfl) (fin0p (by omega) (by omega) h)
    | exact fin0 (by kernel_rfl) (by kernel_rfl) (fin0u (by omega) (by omega) h)
    | exact fin0 (by kernel_rfl) (by kernel_rfl) (fin0s (by omega) (by omega) (by omega) h)
    | exact fin0 (by kernel_rfl) (by kernel_rfl) (fin0n (by omega) h)
    | (exfalso; simp at hq; omega)
    | (exfalso; omega)
theorem arK_ok : BodyOk (mk XZ) 6 Try.f25 arK := by
  intro vs bs K hh hro
  clear hro
  unfold arK at hh
  split at hh
  · rename_i vw
    rcases parseQ_inv hh with ⟨rfl, hh0⟩ | ⟨ew, nw, cw, fw, btw, rfl, hnw, hcw, rfl, hh0⟩ <;> clear hh
    · obtain ⟨rfl, -, hc⟩ := hh0
      exact ⟨_, _, cast (arK_nE   K) (arK_nP   K   hc)⟩
    · obtain ⟨rfl, -, hc⟩ := hh0
      exact ⟨_, _, cast (arK_rE ew nw cw fw  K) (arK_rP ew nw cw fw  K hnw hcw  hc)⟩
  · exact hh.elim
theorem arK_told : Told 25 (specOf arK) := told (X := XZ) XZ_told (by kernel_rfl) (by kernel_rfl) (by kernel_rfl) arK_ok
def hdC_zV (p : Int) (q : Int) (K : Value → List Blk → Prop) : Prop := let q0 := (9223372036854775807 : Int); let q1 := (-9223372036854775808 : Int); let q2 := (∃ y0 : Value, (∃ y1 : List Blk, ((Go.Rx.Found 0 (vi (7 : Int)) ({ h := [((0 : Nat), Blk.cells [vi p, vi q] (60 : Nat))], next := (1 : Nat) }) (y0) (y1)) ∧ (K y0 y1)))); let q3 := (∃ y0 : Value, (∃ y1 : List Blk, ((Go.Rx.Found 0 (vi (11 : Int)) ({ h := [((0 : Nat), Blk.cells [vi p, vi q] (60 : Nat))], next := (1 : Nat) }) (y0) (y1)) ∧ (K y0 y1)))); (t3 (if (p < (0 : Int)) then q2 else (t2 (if (q < (0 : Int)) then q2 else (t2 (if ((64 : Int) ≤ p) then q3 else (t2 (if ((64 : Int) ≤ q) then q3 else (t2 (((q1 ≤ (1 : Int) + p) ∧ ((1 : Int) + p ≤ q0)) ∧ (t2 (((q1 ≤ (1 : Int) + p + q) ∧ ((1 : Int) + p + q ≤ q0)) ∧ (T0 ∧ (if ((64 : Int) < (1 : Int) + p + q) then q3 else (∃ y0 : Value, (∃ y1 : List Blk, ((Go.Rx.Found 0 (vi (0 : Int)) ({ h := [((0 : Nat), Blk.cells [vi p, vi q] (60 : Nat))], next := (1 : Nat) }) (y0) (y1)) ∧ (K y0 y1))))))))))))))))))
theorem hdC_zE (p : Int) (q : Int) (K : Value → List Blk → Prop) : hdC_zV p q K = bodyX (mk XZ) (callN (mk XZ) 6) (hdC_zA p q) Try.f118 [.agg ⟨[.int .i64 p, .int .i64 q]⟩] (stOf []) (Fd 0 K) := by kernel_rfl
set_option tactic.hygienic false in
theorem hdC_zP (p : Int) (q : Int) (K : Value → List Blk → Prop)  (h : K (.int .i64 (sze p q)) []) : hdC_zV p q K := by
  unfold hdC_zV
  conv => zeta
  have z0 := sze_cases p q
  repeat' (first | (with_reducible exact rfl) | (with_reducible exact trivial) | (with_reducible refine And.intro ?_ ?_) | (intro) | (with_reducible refine br_d (fun hq => ?_) (fun hq => ?_)) | (with_reducible refine br_nd (fun hq => ?_) (fun hq => ?_)) | (with_reducible refine br_intro (fun hq => ?_) (fun hq => ?_)) | (with_reducible refine if_both (fun hz => ?_) (fun hz => ?_)) | fail)

  all_goals first
    | (with_reducible assumption)
    | (refine (id ?_ : ∃ (v1 : Value) (news : List Blk), _)
       first
        | contradiction
        | exact fin0 (by kernel_rfl) (by kernel_rfl) h
        | exact fin0 (by kernel_rfl) (by kernel_rfl) (fin0i (by omega) h)
        | exact fin0 (by kernel_rfl) (by kernel_rfl) (fin0p (by omega) (by omega) h)
        | exact fin0 (by kernel_rfl) (by kernel_rfl) (fin0u (by omega) (by omega) h)
        | exact fin0 (by kernel_rfl) (by kernel_rfl) (fin0s (by omega) (by omega) (by omega) h)
        | exact fin0 (by kernel_rfl) (by kernel_rfl) (fin0n (by omega) h)
        | (exfalso; simp at hq; omega)
        | (exfalso; omega)
       )
    | omega
    | contradiction
    | exact fin0 (by kernel_rfl) (by kernel_rfl) h
    | exact fin0 (by kernel_rfl) (by kernel_rfl) (fin0i (by omega) h)
    | exact fin0 (by kernel_rfl) (by kernel_rfl) (fin0p (by omega) (by omega) h)
    | exact fin0 (by kernel_rfl) (by kernel_rfl) (fin0u (by omega) (by omega) h)
    | exact fin0 (by kernel_rfl) (by kernel_rfl) (fin0s (by omega) (by omega) (by omega) h)
    | exact fin0 (by kernel_rfl) (by kernel_rfl) (fin0n (by omega) h)
    | (exfalso; simp at hq; omega)
    | (exfalso; omega)
theorem hdC_ok : BodyOk (mk XZ) 6 Try.f118 hdC := by
  intro vs bs K hh hro
  clear hro
  unfold hdC at hh
  split at hh
  · rename_i p q
    obtain ⟨rfl, -, hc⟩ := hh
    exact ⟨_, _, cast (hdC_zE  p q K) (hdC_zP  p q K   hc)⟩
  · exact hh.elim
theorem hdC_told : Told 118 (specOf hdC) := told (X := XZ) XZ_told (by kernel_rfl) (by kernel_rfl) (by kernel_rfl) hdC_ok
def hdK_zV (p : Int) (q : Int) (K : Value → List Blk → Prop) : Prop := let q0 := (9223372036854775807 : Int); let q1 := (-9223372036854775808 : Int); let q2 := (∃ y0 : Value, (∃ y1 : List Blk, ((Go.Rx.Found 0 (vi (7 : Int)) ({ h := [((0 : Nat), Blk.cells [vi p, vi q] (60 : Nat))], next := (1 : Nat) }) (y0) (y1)) ∧ (K y0 y1)))); let q3 := (∃ y0 : Value, (∃ y1 : List Blk, ((Go.Rx.Found 0 (vi (11 : Int)) ({ h := [((0 : Nat), Blk.cells [vi p, vi q] (60 : Nat))], next := (1 : Nat) }) (y0) (y1)) ∧ (K y0 y1)))); (t3 (if (p < (0 : Int)) then q2 else (t2 (if (q < (0 : Int)) then q2 else (t2 (if ((64 : Int) < p) then q3 else (t2 (if ((64 : Int) < q) then q3 else (t2 (((q1 ≤ (1 : Int) + p) ∧ ((1 : Int) + p ≤ q0)) ∧ (t2 (((q1 ≤ (1 : Int) + p + q) ∧ ((1 : Int) + p + q ≤ q0)) ∧ (T0 ∧ (if ((64 : Int) < (1 : Int) + p + q) then q3 else (∃ y0 : Value, (∃ y1 : List Blk, ((Go.Rx.Found 0 (vi (0 : Int)) ({ h := [((0 : Nat), Blk.cells [vi p, vi q] (60 : Nat))], next := (1 : Nat) }) (y0) (y1)) ∧ (K y0 y1))))))))))))))))))
theorem hdK_zE (p : Int) (q : Int) (K : Value → List Blk → Prop) : hdK_zV p q K = bodyX (mk XZ) (callN (mk XZ) 6) (hdK_zA p q) Try.f91 [.agg ⟨[.int .i64 p, .int .i64 q]⟩] (stOf []) (Fd 0 K) := by kernel_rfl
set_option tactic.hygienic false in
theorem hdK_zP (p : Int) (q : Int) (K : Value → List Blk → Prop)  (h : K (.int .i64 (sze p q)) []) : hdK_zV p q K := by
  unfold hdK_zV
  conv => zeta
  have z0 := sze_cases p q
  repeat' (first | (with_reducible exact rfl) | (with_reducible exact trivial) | (with_reducible refine And.intro ?_ ?_) | (intro) | (with_reducible refine br_d (fun hq => ?_) (fun hq => ?_)) | (with_reducible refine br_nd (fun hq => ?_) (fun hq => ?_)) | (with_reducible refine br_intro (fun hq => ?_) (fun hq => ?_)) | (with_reducible refine if_both (fun hz => ?_) (fun hz => ?_)) | fail)

  all_goals first
    | (with_reducible assumption)
    | (refine (id ?_ : ∃ (v1 : Value) (news : List Blk), _)
       first
        | contradiction
        | exact fin0 (by kernel_rfl) (by kernel_rfl) h
        | exact fin0 (by kernel_rfl) (by kernel_rfl) (fin0i (by omega) h)
        | exact fin0 (by kernel_rfl) (by kernel_rfl) (fin0p (by omega) (by omega) h)
        | exact fin0 (by kernel_rfl) (by kernel_rfl) (fin0u (by omega) (by omega) h)
        | exact fin0 (by kernel_rfl) (by kernel_rfl) (fin0s (by omega) (by omega) (by omega) h)
        | exact fin0 (by kernel_rfl) (by kernel_rfl) (fin0n (by omega) h)
        | (exfalso; simp at hq; omega)
        | (exfalso; omega)
       )
    | omega
    | contradiction
    | exact fin0 (by kernel_rfl) (by kernel_rfl) h
    | exact fin0 (by kernel_rfl) (by kernel_rfl) (fin0i (by omega) h)
    | exact fin0 (by kernel_rfl) (by kernel_rfl) (fin0p (by omega) (by omega) h)
    | exact fin0 (by kernel_rfl) (by kernel_rfl) (fin0u (by omega) (by omega) h)
    | exact fin0 (by kernel_rfl) (by kernel_rfl) (fin0s (by omega) (by omega) (by omega) h)
    | exact fin0 (by kernel_rfl) (by kernel_rfl) (fin0n (by omega) h)
    | (exfalso; simp at hq; omega)
    | (exfalso; omega)
theorem hdK_ok : BodyOk (mk XZ) 6 Try.f91 hdK := by
  intro vs bs K hh hro
  clear hro
  unfold hdK at hh
  split at hh
  · rename_i p q
    obtain ⟨rfl, -, hc⟩ := hh
    exact ⟨_, _, cast (hdK_zE  p q K) (hdK_zP  p q K   hc)⟩
  · exact hh.elim
theorem hdK_told : Told 91 (specOf hdK) := told (X := XZ) XZ_told (by kernel_rfl) (by kernel_rfl) (by kernel_rfl) hdK_ok
end Go.Proofs.Ytfgeoglegebncaa.Fr
namespace Go.Proofs.Ytfgeoglegebncaa.Fr
set_option maxRecDepth 100000
set_option maxHeartbeats 4000000
open Go.Rx
open Go.RowKit (Below)
set_option linter.unusedVariables false
@[reducible] def XC : List (Nat × Rx.Spec) := [(118, specOf hdC), (24, specOf arC)]
theorem XC_told : ∀ p ∈ XC, Told p.1 p.2 := by
  intro p hp
  simp only [List.mem_cons, List.not_mem_nil, or_false] at hp
  rcases hp with rfl | rfl
  · exact hdC_told
  · exact arC_told
@[reducible] def XK : List (Nat × Rx.Spec) := [(91, specOf hdK), (25, specOf arK)]
theorem XK_told : ∀ p ∈ XK, Told p.1 p.2 := by
  intro p hp
  simp only [List.mem_cons, List.not_mem_nil, or_false] at hp
  rcases hp with rfl | rfl
  · exact hdK_told
  · exact arK_told
def hkN : Con := fun vs bs K => match vs with
  | [.agg ⟨[.int .i64 p, .int .i64 q]⟩] => bs = [] ∧ (True) ∧ (K (.tuple ⟨[.int .i64 (szn p q), .int .i64 (sze p q)]⟩) [])
  | _ => False

def hkN_zA (p : Int) (q : Int) : Ann := fun _ _ _ => none
def hkP : Con := fun vs bs K => match vs with
  | [.agg ⟨[.int .i64 p, .int .i64 q]⟩] => bs = [] ∧ (True) ∧ (K (.tuple ⟨[.int .u64 (pkv p q), .int .i64 (sze p q)]⟩) [])
  | _ => False

def hkP_zA (p : Int) (q : Int) : Ann := fun _ _ _ => none
def hdS : Con := fun vs bs K => match vs with
  | [.int .u64 v] => bs = [] ∧ ((0 ≤ v ∧ v ≤ 18446744073709551615)) ∧ (K (.tuple ⟨[.agg ⟨[.int .i64 (hsP v), .int .i64 (hsR v)]⟩, .int .i64 (hsE v)]⟩) [])
  | _ => False

def hdS_zA (v : Int) : Ann := fun _ _ _ => none
def hkN_zV (p : Int) (q : Int) (K : Value → List Blk → Prop) : Prop := let q0 := (9223372036854775807 : Int); let q1 := (-9223372036854775808 : Int); (t4 (eB ∧ ((True) ∧ (T0 ∧ (if (@Eq Int (sze p q) ((0 : Int))) then (t2 (((q1 ≤ (1 : Int) + p) ∧ ((1 : Int) + p ≤ q0)) ∧ (t2 (((q1 ≤ (1 : Int) + p + q) ∧ ((1 : Int) + p + q ≤ q0)) ∧ (∃ y0 : Value, (∃ y1 : List Blk, ((Go.Rx.Found 0 (Value.tuple { toList := [vi ((1 : Int) + p + q), vi (0 : Int)] }) ({ h := [((0 : Nat), Blk.cells [vi p, vi q] (60 : Nat))], next := (1 : Nat) }) (y0) (y1)) ∧ (K y0 y1)))))))) else (∃ y0 : Value, (∃ y1 : List Blk, ((Go.Rx.Found 0 (Value.tuple { toList := [vi (0 : Int), vi (sze p q)] }) ({ h := [((0 : Nat), Blk.cells [vi p, vi q] (60 : Nat))], next := (1 : Nat) }) (y0) (y1)) ∧ (K y0 y1)))))))))
theorem hkN_zE (p : Int) (q : Int) (K : Value → List Blk → Prop) : hkN_zV p q K = bodyX (mk XK) (callN (mk XK) 6) (hkN_zA p q) Try.f65 [.agg ⟨[.int .i64 p, .int .i64 q]⟩] (stOf []) (Fd 0 K) := by kernel_rfl
set_option tactic.hygienic false in
theorem hkN_zP (p : Int) (q : Int) (K : Value → List Blk → Prop)  (h : K (.tuple ⟨[.int .i64 (szn p q), .int .i64 (sze p q)]⟩) []) : hkN_zV p q K := by
  unfold hkN_zV
  conv => zeta
  have z0 := sze_cases p q
  have z1 := szn_cases p q
  repeat' (first | (with_reducible exact rfl) | (with_reducible exact trivial) | (with_reducible refine And.intro ?_ ?_) | (intro) | (with_reducible refine br_d (fun hq => ?_) (fun hq => ?_)) | (with_reducible refine br_nd (fun hq => ?_) (fun hq => ?_)) | (with_reducible refine br_intro (fun hq => ?_) (fun hq => ?_)) | (with_reducible refine if_both (fun hz => ?_) (fun hz => ?_)) | fail)

  all_goals first
    | (with_reducible assumption)
    | (refine (id ?_ : ∃ (v1 : Value) (news : List Blk), _)
       first
        | contradiction
        | exact fin0 (by kernel_rfl) (by kernel_rfl) h
        | exact fin0 (by kernel_rfl) (by kernel_rfl) (fin0i (by omega) h)
        | exact fin0 (by kernel_rfl) (by kernel_rfl) (fin0p (by omega) (by omega) h)
        | exact fin0 (by kernel_rfl) (by kernel_rfl) (fin0u (by omega) (by omega) h)
        | exact fin0 (by kernel_rfl) (by kernel_rfl) (fin0s (by omega) (by omega) (by omega) h)
        | exact fin0 (by kernel_rfl) (by kernel_rfl) (fin0n (by omega) h)
        | (exfalso; simp at hq; omega)
        | (exfalso; omega)
       )
    | omega
    | contradiction
    | exact fin0 (by kernel_rfl) (by kernel_rfl) h
    | exact fin0 (by kernel_rfl) (by kernel_rfl) (fin0i (by omega) h)
    | exact fin0 (by kernel_rfl) (by kernel_rfl) (fin0p (by omega) (by omega) h)
    | exact fin0 (by kernel_rfl) (by kernel_rfl) (fin0u (by omega) (by omega) h)
    | exact fin0 (by kernel_rfl) (by kernel_rfl) (fin0s (by omega) (by omega) (by omega) h)
    | exact fin0 (by kernel_rfl) (by kernel_rfl) (fin0n (by omega) h)
    | (exfalso; simp at hq; omega)
    | (exfalso; omega)
theorem hkN_ok : BodyOk (mk XK) 6 Try.f65 hkN := by
  intro vs bs K hh hro
  clear hro
  unfold hkN at hh
  split at hh
  · rename_i p q
    obtain ⟨rfl, -, hc⟩ := hh
    exact ⟨_, _, cast (hkN_zE  p q K) (hkN_zP  p q K   hc)⟩
  · exact hh.elim
theorem hkN_told : Told 65 (specOf hkN) := told (X := XK) XK_told (by kernel_rfl) (by kernel_rfl) (by kernel_rfl) hkN_ok
def hkP_zV (p : Int) (q : Int) (K : Value → List Blk → Prop) : Prop := let q0 := (18446744073709551616 : Int); (t4 (eB ∧ ((True) ∧ (T0 ∧ (if (@Eq Int (sze p q) ((0 : Int))) then (t6 (∃ y0 : Value, (∃ y1 : List Blk, ((Go.Rx.Found 0 (Value.tuple { toList := [Value.int IntKind.u64 ((((1 : Int) + (256 : Int) * (p % q0) % q0) % q0 + (65536 : Int) * (q % q0) % q0) % q0), vi (0 : Int)] }) ({ h := [((0 : Nat), Blk.cells [vi p, vi q] (60 : Nat))], next := (1 : Nat) }) (y0) (y1)) ∧ (K y0 y1))))) else (∃ y0 : Value, (∃ y1 : List Blk, ((Go.Rx.Found 0 (Value.tuple { toList := [Value.int IntKind.u64 (0 : Int), vi (sze p q)] }) ({ h := [((0 : Nat), Blk.cells [vi p, vi q] (60 : Nat))], next := (1 : Nat) }) (y0) (y1)) ∧ (K y0 y1)))))))))
theorem hkP_zE (p : Int) (q : Int) (K : Value → List Blk → Prop) : hkP_zV p q K = bodyX (mk XK) (callN (mk XK) 6) (hkP_zA p q) Try.f92 [.agg ⟨[.int .i64 p, .int .i64 q]⟩] (stOf []) (Fd 0 K) := by kernel_rfl
set_option tactic.hygienic false in
theorem hkP_zP (p : Int) (q : Int) (K : Value → List Blk → Prop)  (h : K (.tuple ⟨[.int .u64 (pkv p q), .int .i64 (sze p q)]⟩) []) : hkP_zV p q K := by
  unfold hkP_zV
  conv => zeta
  have z0 := sze_cases p q
  have z1 := pkv_cases p q
  repeat' (first | (with_reducible exact rfl) | (with_reducible exact trivial) | (with_reducible refine And.intro ?_ ?_) | (intro) | (with_reducible refine br_d (fun hq => ?_) (fun hq => ?_)) | (with_reducible refine br_nd (fun hq => ?_) (fun hq => ?_)) | (with_reducible refine br_intro (fun hq => ?_) (fun hq => ?_)) | (with_reducible refine if_both (fun hz => ?_) (fun hz => ?_)) | fail)

  all_goals first
    | (with_reducible assumption)
    | (refine (id ?_ : ∃ (v1 : Value) (news : List Blk), _)
       first
        | contradiction
        | exact fin0 (by kernel_rfl) (by kernel_rfl) h
        | exact fin0 (by kernel_rfl) (by kernel_rfl) (fin0i (by omega) h)
        | exact fin0 (by kernel_rfl) (by kernel_rfl) (fin0p (by omega) (by omega) h)
        | exact fin0 (by kernel_rfl) (by kernel_rfl) (fin0u (by omega) (by omega) h)
        | exact fin0 (by kernel_rfl) (by kernel_rfl) (fin0s (by omega) (by omega) (by omega) h)
        | exact fin0 (by kernel_rfl) (by kernel_rfl) (fin0n (by omega) h)
        | (exfalso; simp at hq; omega)
        | (exfalso; omega)
       )
    | omega
    | contradiction
    | exact fin0 (by kernel_rfl) (by kernel_rfl) h
    | exact fin0 (by kernel_rfl) (by kernel_rfl) (fin0i (by omega) h)
    | exact fin0 (by kernel_rfl) (by kernel_rfl) (fin0p (by omega) (by omega) h)
    | exact fin0 (by kernel_rfl) (by kernel_rfl) (fin0u (by omega) (by omega) h)
    | exact fin0 (by kernel_rfl) (by kernel_rfl) (fin0s (by omega) (by omega) (by omega) h)
    | exact fin0 (by kernel_rfl) (by kernel_rfl) (fin0n (by omega) h)
    | (exfalso; simp at hq; omega)
    | (exfalso; omega)
theorem hkP_ok : BodyOk (mk XK) 6 Try.f92 hkP := by
  intro vs bs K hh hro
  clear hro
  unfold hkP at hh
  split at hh
  · rename_i p q
    obtain ⟨rfl, -, hc⟩ := hh
    exact ⟨_, _, cast (hkP_zE  p q K) (hkP_zP  p q K   hc)⟩
  · exact hh.elim
theorem hkP_told : Told 92 (specOf hkP) := told (X := XK) XK_told (by kernel_rfl) (by kernel_rfl) (by kernel_rfl) hkP_ok
def hdS_zV (v : Int) (K : Value → List Blk → Prop) : Prop := let q0 := (9223372036854775807 : Int); let q1 := (-9223372036854775808 : Int); let q2 := (18446744073709551615 : Int); let q3 := (v / (256 : Int) % (256 : Int)); let q4 := (((0 : Int) ≤ (8 : Int)) ∧ ((8 : Int) ≤ (64 : Int))); let q5 := (((0 : Int) ≤ (16 : Int)) ∧ ((16 : Int) ≤ (64 : Int))); let q6 := (((255 : Int) ≤ q2) ∧ T0); let q7 := ((0 : Nat), Blk.cells [vi (0 : Int), vi (0 : Int)] (60 : Nat)); let q8 := ((q1 ≤ v / (65536 : Int)) ∧ (v / (65536 : Int) ≤ q0)); let q9 := (((0 : Int) ≤ v) ∧ ((v ≤ q2) ∧ q6)); let q10 := ((q1 ≤ v / (256 : Int) % (256 : Int)) ∧ (v / (256 : Int) % (256 : Int) ≤ q0)); let q11 := ((1 : Nat), Blk.cells [vi q3, vi (v / (65536 : Int))] (60 : Nat)); let q12 := (((0 : Int) ≤ v / (256 : Int)) ∧ ((v / (256 : Int) ≤ q2) ∧ q6)); let q13 := (t4 (∃ y0 : Value, (∃ y1 : List Blk, ((Go.Rx.Found 0 (Value.tuple { toList := [Value.agg { toList := [vi (0 : Int), vi (0 : Int)] }, vi (6 : Int)] }) ({ h := [q7], next := (1 : Nat) }) (y0) (y1)) ∧ (K y0 y1))))); let q14 := (t4 (∃ y0 : Value, (∃ y1 : List Blk, ((Go.Rx.Found 0 (Value.tuple { toList := [Value.agg { toList := [vi (0 : Int), vi (0 : Int)] }, vi (6 : Int)] }) ({ h := [q11, q7], next := (2 : Nat) }) (y0) (y1)) ∧ (K y0 y1))))); let q15 := (t2 (q9 ∧ (T0 ∧ (if (@Eq Int (v % (256 : Int)) ((2 : Int))) then (T0 ∧ (q4 ∧ (T0 ∧ (if ((1 : Int) ≤ v / (256 : Int)) then (T0 ∧ (q4 ∧ (T0 ∧ (if (v / (256 : Int) ≤ (1600 : Int)) then q13 else q13)))) else q13)))) else q13)))); (t5 (q9 ∧ (T0 ∧ (if (@Eq Int (v % (256 : Int)) ((1 : Int))) then (T0 ∧ (q5 ∧ (T0 ∧ (if (v / (65536 : Int) < (64 : Int)) then (t2 (q4 ∧ (T0 ∧ (q12 ∧ (q10 ∧ (T0 ∧ (q5 ∧ (q8 ∧ (t5 (eB ∧ ((True) ∧ (T0 ∧ (if (@Eq Int (sze q3 (v / (65536 : Int))) ((0 : Int))) then (t3 (q4 ∧ (T0 ∧ (q12 ∧ (q10 ∧ (T0 ∧ (q5 ∧ (q8 ∧ (t6 (∃ y0 : Value, (∃ y1 : List Blk, ((Go.Rx.Found 0 (Value.tuple { toList := [Value.agg { toList := [vi q3, vi (v / (65536 : Int))] }, vi (0 : Int)] }) ({ h := [((2 : Nat), Blk.cells [vi q3, vi (v / (65536 : Int))] (60 : Nat)), q11, ((0 : Nat), Blk.cells [vi q3, vi (v / (65536 : Int))] (60 : Nat))], next := (3 : Nat) }) (y0) (y1)) ∧ (K y0 y1))))))))))))) else (t2 (q9 ∧ (T0 ∧ (if (@Eq Int (v % (256 : Int)) ((2 : Int))) then (T0 ∧ (q4 ∧ (T0 ∧ (if ((1 : Int) ≤ v / (256 : Int)) then (T0 ∧ (q4 ∧ (T0 ∧ (if (v / (256 : Int) ≤ (1600 : Int)) then q14 else q14)))) else q14)))) else q14))))))))))))))))) else q15)))) else q15))))
theorem hdS_zE (v : Int) (K : Value → List Blk → Prop) : hdS_zV v K = bodyX (mk XC) (callN (mk XC) 6) (hdS_zA v) Try.f120 [.int .u64 v] (stOf []) (Fd 0 K) := by kernel_rfl
set_option tactic.hygienic false in
theorem hdS_zP (v : Int) (K : Value → List Blk → Prop)  (hv : 0 ≤ v ∧ v ≤ 18446744073709551615) (h : K (.tuple ⟨[.agg ⟨[.int .i64 (hsP v), .int .i64 (hsR v)]⟩, .int .i64 (hsE v)]⟩) []) : hdS_zV v K := by
  unfold hdS_zV
  conv => zeta
  have z0 := hs_cases v
  have z1 := sze_cases (v / 256 % 256) (v / 65536)
  repeat' (first | (with_reducible exact rfl) | (with_reducible exact trivial) | (with_reducible refine And.intro ?_ ?_) | (intro) | (with_reducible refine br_d (fun hq => ?_) (fun hq => ?_)) | (with_reducible refine br_nd (fun hq => ?_) (fun hq => ?_)) | (with_reducible refine br_intro (fun hq => ?_) (fun hq => ?_)) | (with_reducible refine if_both (fun hz => ?_) (fun hz => ?_)) | fail)

  all_goals first
    | (with_reducible assumption)
    | (refine (id ?_ : ∃ (v1 : Value) (news : List Blk), _)
       first
        | contradiction
        | exact fin0 (by kernel_rfl) (by kernel_rfl) h
        | exact fin0 (by kernel_rfl) (by kernel_rfl) (fin0i (by omega) h)
        | exact fin0 (by kernel_rfl) (by kernel_rfl) (fin0p (by omega) (by omega) h)
        | exact fin0 (by kernel_rfl) (by kernel_rfl) (fin0u (by omega) (by omega) h)
        | exact fin0 (by kernel_rfl) (by kernel_rfl) (fin0s (by omega) (by omega) (by omega) h)
        | exact fin0 (by kernel_rfl) (by kernel_rfl) (fin0n (by omega) h)
        | (exfalso; simp at hq; omega)
        | (exfalso; omega)
       )
    | omega
    | contradiction
    | exact fin0 (by kernel_rfl) (by kernel_rfl) h
    | exact fin0 (by kernel_rfl) (by kernel_rfl) (fin0i (by omega) h)
    | exact fin0 (by kernel_rfl) (by kernel_rfl) (fin0p (by omega) (by omega) h)
    | exact fin0 (by kernel_rfl) (by kernel_rfl) (fin0u (by omega) (by omega) h)
    | exact fin0 (by kernel_rfl) (by kernel_rfl) (fin0s (by omega) (by omega) (by omega) h)
    | exact fin0 (by kernel_rfl) (by kernel_rfl) (fin0n (by omega) h)
    | (exfalso; simp at hq; omega)
    | (exfalso; omega)
theorem hdS_ok : BodyOk (mk XC) 6 Try.f120 hdS := by
  intro vs bs K hh hro
  clear hro
  unfold hdS at hh
  split at hh
  · rename_i v
    obtain ⟨rfl, hv, hc⟩ := hh
    exact ⟨_, _, cast (hdS_zE  v K) (hdS_zP  v K  hv hc)⟩
  · exact hh.elim
theorem hdS_told : Told 120 (specOf hdS) := told (X := XC) XC_told (by kernel_rfl) (by kernel_rfl) (by kernel_rfl) hdS_ok
end Go.Proofs.Ytfgeoglegebncaa.Fr
namespace Go.Proofs.Ytfgeoglegebncaa.Fr
set_option maxRecDepth 100000
set_option maxHeartbeats 4000000
open Go.Rx
open Go.RowKit (Below)
set_option linter.unusedVariables false
@[reducible] def XK2 : List (Nat × Rx.Spec) := [(92, specOf hkP)]
theorem XK2_told : ∀ p ∈ XK2, Told p.1 p.2 := by
  intro p hp
  simp only [List.mem_cons, List.not_mem_nil, or_false] at hp
  rcases hp with rfl
  · exact hkP_told
def hkS : Con := fun vs bs K => match vs with
  | [.int .u64 v] => bs = [] ∧ ((0 ≤ v ∧ v ≤ 18446744073709551615)) ∧ (K (.tuple ⟨[.agg ⟨[.int .i64 (hsP v), .int .i64 (hsR v)]⟩, .int .i64 (hsE v)]⟩) [])
  | _ => False

def hkS_zA (v : Int) : Ann := fun _ _ _ => none
def hkS_zV (v : Int) (K : Value → List Blk → Prop) : Prop := let q0 := ((0 : Int) < (256 : Int)); let q1 := (9223372036854775807 : Int); let q2 := (-9223372036854775808 : Int); let q3 := (v / (256 : Int) % (256 : Int)); let q4 := (v / (65536 : Int) % (256 : Int)); let q5 := (v ≤ (18446744073709551615 : Int)); let q6 := ((1 : Nat), Blk.cells [vi q3, vi q4] (60 : Nat)); let q7 := (t3 (∃ y0 : Value, (∃ y1 : List Blk, ((Go.Rx.Found 0 (Value.tuple { toList := [Value.agg { toList := [vi (0 : Int), vi (0 : Int)] }, vi (6 : Int)] }) ({ h := [q6, ((0 : Nat), Blk.cells [vi (0 : Int), vi (0 : Int)] (60 : Nat))], next := (2 : Nat) }) (y0) (y1)) ∧ (K y0 y1))))); (t2 ((((0 : Int) ≤ v) ∧ (q5 ∧ q0)) ∧ (T0 ∧ ((((0 : Int) ≤ v / (256 : Int)) ∧ q0) ∧ (((q2 ≤ v / (256 : Int) % (256 : Int)) ∧ (v / (256 : Int) % (256 : Int) ≤ q1)) ∧ (T0 ∧ ((((0 : Int) ≤ v) ∧ (q5 ∧ ((0 : Int) < (65536 : Int)))) ∧ (T0 ∧ ((((0 : Int) ≤ v / (65536 : Int)) ∧ q0) ∧ (((q2 ≤ v / (65536 : Int) % (256 : Int)) ∧ (v / (65536 : Int) % (256 : Int) ≤ q1)) ∧ (t5 (eB ∧ ((True) ∧ (T0 ∧ (if (@Eq Int (sze q3 q4) ((0 : Int))) then (T0 ∧ (if (@Eq Int (pkv q3 q4) (v)) then (t4 (∃ y0 : Value, (∃ y1 : List Blk, ((Go.Rx.Found 0 (Value.tuple { toList := [Value.agg { toList := [vi q3, vi q4] }, vi (0 : Int)] }) ({ h := [q6, ((0 : Nat), Blk.cells [vi q3, vi q4] (60 : Nat))], next := (2 : Nat) }) (y0) (y1)) ∧ (K y0 y1))))) else q7)) else q7)))))))))))))))
theorem hkS_zE (v : Int) (K : Value → List Blk → Prop) : hkS_zV v K = bodyX (mk XK2) (callN (mk XK2) 6) (hkS_zA v) Try.f94 [.int .u64 v] (stOf []) (Fd 0 K) := by kernel_rfl
set_option tactic.hygienic false in
theorem hkS_zP (v : Int) (K : Value → List Blk → Prop)  (hv : 0 ≤ v ∧ v ≤ 18446744073709551615) (h : K (.tuple ⟨[.agg ⟨[.int .i64 (hsP v), .int .i64 (hsR v)]⟩, .int .i64 (hsE v)]⟩) []) : hkS_zV v K := by
  unfold hkS_zV
  conv => zeta
  have z0 := hs_cases v
  have z1 := sze_cases (v / 256 % 256) (v / 65536 % 256)
  have z2 := pkv_cases (v / 256 % 256) (v / 65536 % 256)
  repeat' (first | (with_reducible exact rfl) | (with_reducible exact trivial) | (with_reducible refine And.intro ?_ ?_) | (intro) | (with_reducible refine br_d (fun hq => ?_) (fun hq => ?_)) | (with_reducible refine br_nd (fun hq => ?_) (fun hq => ?_)) | (with_reducible refine br_intro (fun hq => ?_) (fun hq => ?_)) | (with_reducible refine if_both (fun hz => ?_) (fun hz => ?_)) | fail)

  all_goals first
    | (with_reducible assumption)
    | (refine (id ?_ : ∃ (v1 : Value) (news : List Blk), _)
       first
        | contradiction
        | exact fin0 (by kernel_rfl) (by kernel_rfl) h
        | exact fin0 (by kernel_rfl) (by kernel_rfl) (fin0i (by omega) h)
        | exact fin0 (by kernel_rfl) (by kernel_rfl) (fin0p (by omega) (by omega) h)
        | exact fin0 (by kernel_rfl) (by kernel_rfl) (fin0u (by omega) (by omega) h)
        | exact fin0 (by kernel_rfl) (by kernel_rfl) (fin0s (by omega) (by omega) (by omega) h)
        | exact fin0 (by kernel_rfl) (by kernel_rfl) (fin0n (by omega) h)
        | (exfalso; simp at hq; omega)
        | (exfalso; omega)
       )
    | omega
    | contradiction
    | exact fin0 (by kernel_rfl) (by kernel_rfl) h
    | exact fin0 (by kernel_rfl) (by kernel_rfl) (fin0i (by omega) h)
    | exact fin0 (by kernel_rfl) (by kernel_rfl) (fin0p (by omega) (by omega) h)
    | exact fin0 (by kernel_rfl) (by kernel_rfl) (fin0u (by omega) (by omega) h)
    | exact fin0 (by kernel_rfl) (by kernel_rfl) (fin0s (by omega) (by omega) (by omega) h)
    | exact fin0 (by kernel_rfl) (by kernel_rfl) (fin0n (by omega) h)
    | (exfalso; simp at hq; omega)
    | (exfalso; omega)
theorem hkS_ok : BodyOk (mk XK2) 6 Try.f94 hkS := by
  intro vs bs K hh hro
  clear hro
  unfold hkS at hh
  split at hh
  · rename_i v
    obtain ⟨rfl, hv, hc⟩ := hh
    exact ⟨_, _, cast (hkS_zE  v K) (hkS_zP  v K  hv hc)⟩
  · exact hh.elim
theorem hkS_told : Told 94 (specOf hkS) := told (X := XK2) XK2_told (by kernel_rfl) (by kernel_rfl) (by kernel_rfl) hkS_ok
end Go.Proofs.Ytfgeoglegebncaa.Fr
namespace Go.Proofs.Ytfgeoglegebncaa.Fr
set_option maxRecDepth 100000
set_option maxHeartbeats 4000000
open Go.Rx
open Go.RowKit (Below)
set_option linter.unusedVariables false
theorem toNat_add {a x : Int} (ha : 0 ≤ a) (hx : 0 ≤ x) : a.toNat + x.toNat = (a + x).toNat := by omega
theorem hs_bd {v : Int} (h : 0 ≤ v) : 0 ≤ hsP v ∧ hsP v ≤ 63 ∧ 0 ≤ hsR v ∧ hsR v ≤ 63 ∧ hsP v + hsR v ≤ 63 := by
  have := hs_cases v
  omega
theorem Ok64.at {n : Nat} {f : RF} (h : Ok64 n f) {a : Int} (h1 : 0 ≤ a) (h2 : a < n) : 0 ≤ f (Int.toNat a) 0 ∧ f (Int.toNat a) 0 ≤ 18446744073709551615 := h.h _ (by omega)
/-- A pointer field, a raw field: the error, and the value. -/
def ptE (n : Nat) (f : RF) (a x : Int) : Int := if obE n f a = 0 then (if 0 ≤ x ∧ x < obP n f a then (if f (a + 1 + x).toNat 0 ≤ 1600 then 0 else 6) else 10) else obE n f a
def ptV (n : Nat) (f : RF) (a x : Int) : Int := if ptE n f a x = 0 then f (a + 1 + x).toNat 0 else 0
theorem pt_cases (n : Nat) (f : RF) (a x : Int) : (¬ obE n f a = 0 ∧ ptE n f a x = obE n f a ∧ ptV n f a x = 0) ∨ (obE n f a = 0 ∧ ptE n f a x = 10 ∧ ptV n f a x = 0 ∧ (x < 0 ∨ obP n f a ≤ x)) ∨ (obE n f a = 0 ∧ ptE n f a x = 6 ∧ ptV n f a x = 0 ∧ 0 ≤ x ∧ x < obP n f a ∧ 1600 < f (a + 1 + x).toNat 0) ∨
    (obE n f a = 0 ∧ ptE n f a x = 0 ∧ ptV n f a x = f (a + 1 + x).toNat 0 ∧ 0 ≤ x ∧ x < obP n f a ∧ f (a + 1 + x).toNat 0 ≤ 1600) := by
  by_cases h0 : obE n f a = 0
  · by_cases h1 : 0 ≤ x ∧ x < obP n f a
    · by_cases h2 : f (a + 1 + x).toNat 0 ≤ 1600
      · have e : ptE n f a x = 0 := by unfold ptE; rw [if_pos h0, if_pos h1, if_pos h2]
        exact .inr (.inr (.inr ⟨h0, e, if_pos e, h1.1, h1.2, h2⟩))
      · have e : ptE n f a x = 6 := by unfold ptE; rw [if_pos h0, if_pos h1, if_neg h2]
        exact .inr (.inr (.inl ⟨h0, e, if_neg (by omega), h1.1, h1.2, by omega⟩))
    · have e : ptE n f a x = 10 := by unfold ptE; rw [if_pos h0, if_neg h1]
      exact .inr (.inl ⟨h0, e, if_neg (by omega), by omega⟩)
  · have e : ptE n f a x = obE n f a := if_neg h0
    exact .inl ⟨h0, e, if_neg (by omega)⟩
def rwE (n : Nat) (f : RF) (a x : Int) : Int := if obE n f a = 0 then (if 0 ≤ x ∧ x < obR n f a then 0 else 10) else obE n f a
def rwV (n : Nat) (f : RF) (a x : Int) : Int := if rwE n f a x = 0 then f (a + 1 + obP n f a + x).toNat 0 else 0
theorem rw_cases (n : Nat) (f : RF) (a x : Int) : (¬ obE n f a = 0 ∧ rwE n f a x = obE n f a ∧ rwV n f a x = 0) ∨ (obE n f a = 0 ∧ rwE n f a x = 10 ∧ rwV n f a x = 0 ∧ (x < 0 ∨ obR n f a ≤ x)) ∨ (obE n f a = 0 ∧ rwE n f a x = 0 ∧ rwV n f a x = f (a + 1 + obP n f a + x).toNat 0 ∧ 0 ≤ x ∧ x < obR n f a) := by
  by_cases h0 : obE n f a = 0
  · by_cases h1 : 0 ≤ x ∧ x < obR n f a
    · have e : rwE n f a x = 0 := by unfold rwE; rw [if_pos h0, if_pos h1]
      exact .inr (.inr ⟨h0, e, if_pos e, h1⟩)
    · have e : rwE n f a x = 10 := by unfold rwE; rw [if_pos h0, if_neg h1]
      exact .inr (.inl ⟨h0, e, if_neg (by omega), by omega⟩)
  · have e : rwE n f a x = obE n f a := if_neg h0
    exact .inl ⟨h0, e, if_neg (by omega)⟩
@[reducible] def XO : List (Nat × Rx.Spec) := [(24, specOf arC), (120, specOf hdS)]
theorem XO_told : ∀ p ∈ XO, Told p.1 p.2 := by
  intro p hp
  simp only [List.mem_cons, List.not_mem_nil, or_false] at hp
  rcases hp with rfl | rfl
  · exact arC_told
  · exact hdS_told
end Go.Proofs.Ytfgeoglegebncaa.Fr
namespace Go.Proofs.Ytfgeoglegebncaa.Fr
set_option maxRecDepth 100000
set_option maxHeartbeats 4000000
open Go.Rx
open Go.RowKit (Below)
set_option linter.unusedVariables false
def obp : Con := fun vs bs K => match vs with
  | [vw, .int .i64 a, .int .i64 x] => parseQ [.u64] 0 vw bs fun nw fw j0 bs0 => bs0 = [] ∧ ((Ok64 nw fw)) ∧ (K (.tuple ⟨[.int .i64 (ptV nw fw a x), .int .i64 (ptE nw fw a x)]⟩) [])
  | _ => False

def obp_nA (a : Int) (x : Int) : Ann := fun _ _ _ => none
def obp_rA (ew nw cw : Nat) (fw : RF) (a : Int) (x : Int) : Ann := fun _ _ _ => none
def obp_nV (a : Int) (x : Int) (K : Value → List Blk → Prop) : Prop := (t3 (eB ∧ ((True) ∧ (t7 (∃ y0 : Value, (∃ y1 : List Blk, ((Go.Rx.Found 0 (Value.tuple { toList := [vi (0 : Int), vi (3 : Int)] }) ({ h := [((1 : Nat), Blk.cells [vi (0 : Int), vi (0 : Int), vn, vi (0 : Int), vn] (118 : Nat)), ((0 : Nat), Blk.cells [vi (0 : Int), vi (0 : Int), vn, vi (0 : Int), vn] (118 : Nat))], next := (2 : Nat) }) (y0) (y1)) ∧ (K y0 y1))))))))
theorem obp_nE (a : Int) (x : Int) (K : Value → List Blk → Prop) : obp_nV a x K = bodyX (mk XO) (callN (mk XO) 9) (obp_nA a x) Try.f52 [.slice none 0 0, .int .i64 a, .int .i64 x] (stOf []) (Fd 0 K) := by kernel_rfl
set_option tactic.hygienic false in
theorem obp_nP (a : Int) (x : Int) (K : Value → List Blk → Prop)  (hU : Ok64 0 zF) (h : K (.tuple ⟨[.int .i64 (ptV 0 zF a x), .int .i64 (ptE 0 zF a x)]⟩) []) : obp_nV a x K := by
  unfold obp_nV
  have z0 := ob_cases hU a
  have z1 := fun (h1 : 0 ≤ a) (h2 : a < 0) => hU.at h1 h2
  have z2 := fun (h1 : 0 ≤ a) (h2 : a < 0) => hs_bd (hU.at h1 h2).1
  have z3 := pt_cases 0 zF a x
  have z4 := fun (h1 : 0 ≤ a + 1) (h2 : 0 ≤ x) => congrArg (fun i => zF i 0) (toNat_add h1 h2)
  have z5 := fun (h1 : 0 ≤ a + 1 + x) (h2 : a + 1 + x < 0) => hU.at h1 h2
  repeat' (first | (with_reducible exact rfl) | (with_reducible exact trivial) | (with_reducible refine And.intro ?_ ?_) | (intro) | (with_reducible refine br_d (fun hq => ?_) (fun hq => ?_)) | (with_reducible refine br_nd (fun hq => ?_) (fun hq => ?_)) | (with_reducible refine br_intro (fun hq => ?_) (fun hq => ?_)) | (with_reducible refine if_both (fun hz => ?_) (fun hz => ?_)) | fail)

  all_goals first
    | (with_reducible assumption)
    | (refine (id ?_ : ∃ (v1 : Value) (news : List Blk), _)
       first
        | contradiction
        | exact fin0 (by kernel_rfl) (by kernel_rfl) h
        | exact fin0 (by kernel_rfl) (by kernel_rfl) (fin0i (by omega) h)
        | exact fin0 (by kernel_rfl) (by kernel_rfl) (fin0p (by omega) (by omega) h)
        | exact fin0 (by kernel_rfl) (by kernel_rfl) (fin0u (by omega) (by omega) h)
        | exact fin0 (by kernel_rfl) (by kernel_rfl) (fin0s (by omega) (by omega) (by omega) h)
        | exact fin0 (by kernel_rfl) (by kernel_rfl) (fin0n (by omega) h)
        | (exfalso; simp at hq; omega)
        | (exfalso; omega)
       )
    | omega
    | contradiction
    | exact fin0 (by kernel_rfl) (by kernel_rfl) h
    | exact fin0 (by kernel_rfl) (by kernel_rfl) (fin0i (by omega) h)
    | exact fin0 (by kernel_rfl) (by kernel_rfl) (fin0p (by omega) (by omega) h)
    | exact fin0 (by kernel_rfl) (by kernel_rfl) (fin0u (by omega) (by omega) h)
    | exact fin0 (by kernel_rfl) (by kernel_rfl) (fin0s (by omega) (by omega) (by omega) h)
    | exact fin0 (by kernel_rfl) (by kernel_rfl) (fin0n (by omega) h)
    | (exfalso; simp at hq; omega)
    | (exfalso; omega)
def obp_rV (ew nw cw : Nat) (fw : RF) (a : Int) (x : Int) (K : Value → List Blk → Prop) : Prop := let q0 := eB; let q1 := (9223372036854775807 : Int); let q2 := (fw (Int.toNat a) (0 : Nat)); let q3 := (-9223372036854775808 : Int); let q4 := (@Eq Nat ((1 : Nat)) ((1 : Nat))); let q5 := (hsP q2); let q6 := (hsR q2); let q7 := TS; let q8 := (Int.toNat (a + (1 : Int)) + Int.toNat x); let q9 := (a + (1 : Int) + hsP q2); let q10 := ((0 : Nat), Blk.row true [IntKind.u64] ew nw cw fw); let q11 := (q7 ∧ q4); let q12 := (Int.toNat (a + (1 : Int) + hsP q2 - (a + (1 : Int)))); let q13 := (a + (1 : Int) + hsP q2 + hsR q2); let q14 := ((3 : Nat), Blk.cells [vi q5, vi q6] (60 : Nat)); let q15 := (Int.toNat (a + (1 : Int) + hsP q2 + hsR q2 - q9)); let q16 := ((2 : Nat), Blk.cells [vi (0 : Int), vi (0 : Int), vn, vi (0 : Int), vn] (118 : Nat)); let q17 := ((1 : Nat), Blk.cells [vi (0 : Int), vi (0 : Int), vn, vi (0 : Int), vn] (118 : Nat)); let q18 := (T0 ∧ (∃ y0 : Value, (∃ y1 : List Blk, ((Go.Rx.Found 1 (Value.tuple { toList := [vi (0 : Int), vi (10 : Int)] }) ({ h := [((5 : Nat), Blk.cells [vn] (112 : Nat)), ((4 : Nat), Blk.cells [vn] (112 : Nat)), ((3 : Nat), Blk.cells [vn, vi (0 : Int)] (114 : Nat)), q16, q17, q10], next := (6 : Nat) }) (y0) (y1)) ∧ (K y0 y1))))); let q19 := (t9 (∃ y0 : Value, (∃ y1 : List Blk, ((Go.Rx.Found 1 (Value.tuple { toList := [vi (0 : Int), vi (7 : Int)] }) ({ h := [((3 : Nat), Blk.cells [vi (0 : Int), vi (0 : Int), vn, vi (0 : Int), vn] (118 : Nat)), q16, q17, q10], next := (4 : Nat) }) (y0) (y1)) ∧ (K y0 y1))))); let q20 := (t9 (∃ y0 : Value, (∃ y1 : List Blk, ((Go.Rx.Found 1 (Value.tuple { toList := [vi (0 : Int), vi (6 : Int)] }) ({ h := [((4 : Nat), Blk.cells [vi (0 : Int), vi (0 : Int), vn, vi (0 : Int), vn] (118 : Nat)), q14, q16, q17, q10], next := (5 : Nat) }) (y0) (y1)) ∧ (K y0 y1))))); let q21 := (T0 ∧ (∃ y0 : Value, (∃ y1 : List Blk, ((Go.Rx.Found 1 (Value.tuple { toList := [vi (0 : Int), vi (10 : Int)] }) ({ h := [((7 : Nat), Blk.cells [Value.slice (some { block := (0 : Nat), off := (0 : Nat), spot := some (Nat.succ (Nat.succ (Int.toNat (a + (1 : Int))))) }) q12 q12] (112 : Nat)), ((6 : Nat), Blk.cells [Value.slice (some { block := (0 : Nat), off := (0 : Nat), spot := some (Nat.succ (Nat.succ (Int.toNat (a + (1 : Int))))) }) q12 q12] (112 : Nat)), ((5 : Nat), Blk.cells [Value.slice (some { block := (0 : Nat), off := (0 : Nat), spot := some (Nat.succ (Nat.succ (Int.toNat (a + (1 : Int))))) }) q12 q12, vi (a + (1 : Int))] (114 : Nat)), ((4 : Nat), Blk.cells [vi q5, vi q6, Value.slice (some { block := (0 : Nat), off := (0 : Nat), spot := some (Nat.succ (Nat.succ (Int.toNat (a + (1 : Int))))) }) q12 q12, vi (a + (1 : Int)), Value.slice (some { block := (0 : Nat), off := (0 : Nat), spot := some (Nat.succ (Nat.succ (Int.toNat q9))) }) q15 q15] (118 : Nat)), q14, ((2 : Nat), Blk.cells [vi q5, vi q6, Value.slice (some { block := (0 : Nat), off := (0 : Nat), spot := some (Nat.succ (Nat.succ (Int.toNat (a + (1 : Int))))) }) q12 q12, vi (a + (1 : Int)), Value.slice (some { block := (0 : Nat), off := (0 : Nat), spot := some (Nat.succ (Nat.succ (Int.toNat q9))) }) q15 q15] (118 : Nat)), ((1 : Nat), Blk.cells [vi q5, vi q6, Value.slice (some { block := (0 : Nat), off := (0 : Nat), spot := some (Nat.succ (Nat.succ (Int.toNat (a + (1 : Int))))) }) q12 q12, vi (a + (1 : Int)), Value.slice (some { block := (0 : Nat), off := (0 : Nat), spot := some (Nat.succ (Nat.succ (Int.toNat q9))) }) q15 q15] (118 : Nat)), q10], next := (8 : Nat) }) (y0) (y1)) ∧ (K y0 y1))))); (t2 (((0 : Nat) + nw ≤ nw) ∧ (((@Eq Nat ((0 : Nat)) ((0 : Nat))) ∧ ((nw ≤ (100000 : Nat)) ∧ (nw ≤ cw))) ∧ (((@Eq (List IntKind) ([IntKind.u64]) ([IntKind.u64])) ∧ ((@Eq Nat (nw) (nw)) ∧ (@Eq Nat (cw) (cw)))) ∧ (q0 ∧ ((True) ∧ (T0 ∧ (if (@Eq Int (arE nw fw) ((0 : Int))) then (t2 (if (a < (1 : Int)) then q19 else (q7 ∧ (T0 ∧ (if ((↑nw : Int) ≤ a) then q19 else (q11 ∧ ((((0 : Int) ≤ a) ∧ (a < (↑nw : Int))) ∧ ((Int.toNat a < nw) ∧ (T0 ∧ (q0 ∧ ((((0 : Int) ≤ fw (Int.toNat a) (0 : Nat)) ∧ (fw (Int.toNat a) (0 : Nat) ≤ (18446744073709551615 : Int))) ∧ (t3 (if (@Eq Int (hsE q2) ((0 : Int))) then (t3 (((q3 ≤ hsP q2 + hsR q2) ∧ (hsP q2 + hsR q2 ≤ q1)) ∧ (q7 ∧ (T0 ∧ (((q3 ≤ (↑nw : Int) - a) ∧ ((↑nw : Int) - a ≤ q1)) ∧ (T0 ∧ (if ((↑nw : Int) - a ≤ hsP q2 + hsR q2) then q20 else (T0 ∧ (((q3 ≤ a + (1 : Int)) ∧ (a + (1 : Int) ≤ q1)) ∧ (t2 (((q3 ≤ a + (1 : Int) + hsP q2) ∧ (a + (1 : Int) + hsP q2 ≤ q1)) ∧ (t2 (((q3 ≤ a + (1 : Int) + hsP q2 + hsR q2) ∧ (a + (1 : Int) + hsP q2 + hsR q2 ≤ q1)) ∧ (t8 (q7 ∧ (t4 (q4 ∧ ((((0 : Int) ≤ a + (1 : Int)) ∧ ((a + (1 : Int) ≤ a + (1 : Int) + hsP q2) ∧ ((a + (1 : Int) + hsP q2 ≤ a + (1 : Int) + hsP q2) ∧ (a + (1 : Int) + hsP q2 ≤ (↑cw : Int))))) ∧ ((@Eq Int q9 q9) ∧ (t8 (q7 ∧ (t4 (q4 ∧ ((((0 : Int) ≤ a + (1 : Int) + hsP q2) ∧ ((a + (1 : Int) + hsP q2 ≤ a + (1 : Int) + hsP q2 + hsR q2) ∧ ((a + (1 : Int) + hsP q2 + hsR q2 ≤ a + (1 : Int) + hsP q2 + hsR q2) ∧ (a + (1 : Int) + hsP q2 + hsR q2 ≤ (↑cw : Int))))) ∧ ((@Eq Int q13 q13) ∧ (t9 (t9 (t3 (if ((0 : Int) ≤ x) then (T0 ∧ (q7 ∧ (T0 ∧ (if (x < (↑q12 : Int)) then (T0 ∧ (q11 ∧ ((((0 : Int) ≤ x) ∧ (x < (↑q12 : Int))) ∧ ((Int.toNat (a + (1 : Int)) + Int.toNat x < nw) ∧ (t2 (if ((1600 : Int) < fw q8 (0 : Nat)) then (∃ y0 : Value, (∃ y1 : List Blk, ((Go.Rx.Found 1 (Value.tuple { toList := [vi (0 : Int), vi (6 : Int)] }) ({ h := [((7 : Nat), Blk.cells [Value.slice (some { block := (0 : Nat), off := (0 : Nat), spot := some (Nat.succ (Nat.succ (Int.toNat (a + (1 : Int))))) }) q12 q12] (112 : Nat)), ((6 : Nat), Blk.cells [Value.slice (some { block := (0 : Nat), off := (0 : Nat), spot := some (Nat.succ (Nat.succ (Int.toNat (a + (1 : Int))))) }) q12 q12] (112 : Nat)), ((5 : Nat), Blk.cells [Value.slice (some { block := (0 : Nat), off := (0 : Nat), spot := some (Nat.succ (Nat.succ (Int.toNat (a + (1 : Int))))) }) q12 q12, vi (a + (1 : Int))] (114 : Nat)), ((4 : Nat), Blk.cells [vi q5, vi q6, Value.slice (some { block := (0 : Nat), off := (0 : Nat), spot := some (Nat.succ (Nat.succ (Int.toNat (a + (1 : Int))))) }) q12 q12, vi (a + (1 : Int)), Value.slice (some { block := (0 : Nat), off := (0 : Nat), spot := some (Nat.succ (Nat.succ (Int.toNat q9))) }) q15 q15] (118 : Nat)), q14, ((2 : Nat), Blk.cells [vi q5, vi q6, Value.slice (some { block := (0 : Nat), off := (0 : Nat), spot := some (Nat.succ (Nat.succ (Int.toNat (a + (1 : Int))))) }) q12 q12, vi (a + (1 : Int)), Value.slice (some { block := (0 : Nat), off := (0 : Nat), spot := some (Nat.succ (Nat.succ (Int.toNat q9))) }) q15 q15] (118 : Nat)), ((1 : Nat), Blk.cells [vi q5, vi q6, Value.slice (some { block := (0 : Nat), off := (0 : Nat), spot := some (Nat.succ (Nat.succ (Int.toNat (a + (1 : Int))))) }) q12 q12, vi (a + (1 : Int)), Value.slice (some { block := (0 : Nat), off := (0 : Nat), spot := some (Nat.succ (Nat.succ (Int.toNat q9))) }) q15 q15] (118 : Nat)), q10], next := (8 : Nat) }) (y0) (y1)) ∧ (K y0 y1)))) else (((q3 ≤ fw q8 (0 : Nat)) ∧ (fw q8 (0 : Nat) ≤ q1)) ∧ (∃ y0 : Value, (∃ y1 : List Blk, ((Go.Rx.Found 1 (Value.tuple { toList := [vi (fw q8 (0 : Nat)), vi (0 : Int)] }) ({ h := [((7 : Nat), Blk.cells [Value.slice (some { block := (0 : Nat), off := (0 : Nat), spot := some (Nat.succ (Nat.succ (Int.toNat (a + (1 : Int))))) }) q12 q12] (112 : Nat)), ((6 : Nat), Blk.cells [Value.slice (some { block := (0 : Nat), off := (0 : Nat), spot := some (Nat.succ (Nat.succ (Int.toNat (a + (1 : Int))))) }) q12 q12] (112 : Nat)), ((5 : Nat), Blk.cells [Value.slice (some { block := (0 : Nat), off := (0 : Nat), spot := some (Nat.succ (Nat.succ (Int.toNat (a + (1 : Int))))) }) q12 q12, vi (a + (1 : Int))] (114 : Nat)), ((4 : Nat), Blk.cells [vi q5, vi q6, Value.slice (some { block := (0 : Nat), off := (0 : Nat), spot := some (Nat.succ (Nat.succ (Int.toNat (a + (1 : Int))))) }) q12 q12, vi (a + (1 : Int)), Value.slice (some { block := (0 : Nat), off := (0 : Nat), spot := some (Nat.succ (Nat.succ (Int.toNat q9))) }) q15 q15] (118 : Nat)), q14, ((2 : Nat), Blk.cells [vi q5, vi q6, Value.slice (some { block := (0 : Nat), off := (0 : Nat), spot := some (Nat.succ (Nat.succ (Int.toNat (a + (1 : Int))))) }) q12 q12, vi (a + (1 : Int)), Value.slice (some { block := (0 : Nat), off := (0 : Nat), spot := some (Nat.succ (Nat.succ (Int.toNat q9))) }) q15 q15] (118 : Nat)), ((1 : Nat), Blk.cells [vi q5, vi q6, Value.slice (some { block := (0 : Nat), off := (0 : Nat), spot := some (Nat.succ (Nat.succ (Int.toNat (a + (1 : Int))))) }) q12 q12, vi (a + (1 : Int)), Value.slice (some { block := (0 : Nat), off := (0 : Nat), spot := some (Nat.succ (Nat.succ (Int.toNat q9))) }) q15 q15] (118 : Nat)), q10], next := (8 : Nat) }) (y0) (y1)) ∧ (K y0 y1))))))))))) else q21)))) else q21))))))))))))))))))))))))))))) else q20))))))))))))) else (t6 (if (@Eq Int (arE nw fw) ((0 : Int))) then (t9 (if ((0 : Int) ≤ x) then (T0 ∧ (q7 ∧ (T0 ∧ (if (x < (↑(0 : Nat) : Int)) then (T0 ∧ (False)) else q18)))) else q18)) else (∃ y0 : Value, (∃ y1 : List Blk, ((Go.Rx.Found 1 (Value.tuple { toList := [vi (0 : Int), vi (arE nw fw)] }) ({ h := [q16, q17, q10], next := (3 : Nat) }) (y0) (y1)) ∧ (K y0 y1))))))))))))))
theorem obp_rE (ew nw cw : Nat) (fw : RF) (a : Int) (x : Int) (K : Value → List Blk → Prop) : obp_rV ew nw cw fw a x K = bodyX (mk XO) (callN (mk XO) 9) (obp_rA ew nw cw fw a x) Try.f52 [rsl 0 0 nw cw, .int .i64 a, .int .i64 x] (stOf [.row true [.u64] ew nw cw fw]) (Fd 1 K) := by kernel_rfl
set_option tactic.hygienic false in
theorem obp_rP (ew nw cw : Nat) (fw : RF) (a : Int) (x : Int) (K : Value → List Blk → Prop)  (hnw : nw ≤ 100000) (hcw : nw ≤ cw) (hU : Ok64 nw fw) (h : K (.tuple ⟨[.int .i64 (ptV nw fw a x), .int .i64 (ptE nw fw a x)]⟩) []) : obp_rV ew nw cw fw a x K := by
  unfold obp_rV
  conv => zeta
  have z0 := ob_cases hU a
  have z1 := fun (h1 : 0 ≤ a) (h2 : a < nw) => hU.at h1 h2
  have z2 := fun (h1 : 0 ≤ a) (h2 : a < nw) => hs_bd (hU.at h1 h2).1
  have z3 := pt_cases nw fw a x
  have z4 := fun (h1 : 0 ≤ a + 1) (h2 : 0 ≤ x) => congrArg (fun i => fw i 0) (toNat_add h1 h2)
  have z5 := fun (h1 : 0 ≤ a + 1 + x) (h2 : a + 1 + x < nw) => hU.at h1 h2
  repeat' (first | (with_reducible exact rfl) | (with_reducible exact trivial) | (with_reducible refine And.intro ?_ ?_) | (intro) | (with_reducible refine br_d (fun hq => ?_) (fun hq => ?_)) | (with_reducible refine br_nd (fun hq => ?_) (fun hq => ?_)) | (with_reducible refine br_intro (fun hq => ?_) (fun hq => ?_)) | (with_reducible refine if_both (fun hz => ?_) (fun hz => ?_)) | fail)

  all_goals first
    | (with_reducible assumption)
    | (refine (id ?_ : ∃ (v1 : Value) (news : List Blk), _)
       first
        | contradiction
        | exact fin0 (by kernel_rfl) (by kernel_rfl) h
        | exact fin0 (by kernel_rfl) (by kernel_rfl) (fin0i (by omega) h)
        | exact fin0 (by kernel_rfl) (by kernel_rfl) (fin0p (by omega) (by omega) h)
        | exact fin0 (by kernel_rfl) (by kernel_rfl) (fin0u (by omega) (by omega) h)
        | exact fin0 (by kernel_rfl) (by kernel_rfl) (fin0s (by omega) (by omega) (by omega) h)
        | exact fin0 (by kernel_rfl) (by kernel_rfl) (fin0n (by omega) h)
        | (exfalso; simp at hq; omega)
        | (exfalso; omega)
       )
    | omega
    | contradiction
    | exact fin0 (by kernel_rfl) (by kernel_rfl) h
    | exact fin0 (by kernel_rfl) (by kernel_rfl) (fin0i (by omega) h)
    | exact fin0 (by kernel_rfl) (by kernel_rfl) (fin0p (by omega) (by omega) h)
    | exact fin0 (by kernel_rfl) (by kernel_rfl) (fin0u (by omega) (by omega) h)
    | exact fin0 (by kernel_rfl) (by kernel_rfl) (fin0s (by omega) (by omega) (by omega) h)
    | exact fin0 (by kernel_rfl) (by kernel_rfl) (fin0n (by omega) h)
    | (exfalso; simp at hq; omega)
    | (exfalso; omega)
theorem obp_ok : BodyOk (mk XO) 9 Try.f52 obp := by
  intro vs bs K hh hro
  clear hro
  unfold obp at hh
  split at hh
  · rename_i vw a x
    rcases parseQ_inv hh with ⟨rfl, hh0⟩ | ⟨ew, nw, cw, fw, btw, rfl, hnw, hcw, rfl, hh0⟩ <;> clear hh
    · obtain ⟨rfl, hU, hc⟩ := hh0
      exact ⟨_, _, cast (obp_nE  a x K) (obp_nP  a x K  hU hc)⟩
    · obtain ⟨rfl, hU, hc⟩ := hh0
      exact ⟨_, _, cast (obp_rE ew nw cw fw a x K) (obp_rP ew nw cw fw a x K hnw hcw hU hc)⟩
  · exact hh.elim
theorem obp_told : Told 52 (specOf obp) := told (X := XO) XO_told (by kernel_rfl) (by kernel_rfl) (by kernel_rfl) obp_ok
end Go.Proofs.Ytfgeoglegebncaa.Fr
namespace Go.Proofs.Ytfgeoglegebncaa.Fr
set_option maxRecDepth 100000
set_option maxHeartbeats 4000000
open Go.Rx
open Go.RowKit (Below)
set_option linter.unusedVariables false
def obr : Con := fun vs bs K => match vs with
  | [vw, .int .i64 a, .int .i64 x] => parseQ [.u64] 0 vw bs fun nw fw j0 bs0 => bs0 = [] ∧ ((Ok64 nw fw)) ∧ (K (.tuple ⟨[.int .u64 (rwV nw fw a x), .int .i64 (rwE nw fw a x)]⟩) [])
  | _ => False

def obr_nA (a : Int) (x : Int) : Ann := fun _ _ _ => none
def obr_rA (ew nw cw : Nat) (fw : RF) (a : Int) (x : Int) : Ann := fun _ _ _ => none
def obr_nV (a : Int) (x : Int) (K : Value → List Blk → Prop) : Prop := (t3 (eB ∧ ((True) ∧ (t7 (∃ y0 : Value, (∃ y1 : List Blk, ((Go.Rx.Found 0 (Value.tuple { toList := [Value.int IntKind.u64 (0 : Int), vi (3 : Int)] }) ({ h := [((1 : Nat), Blk.cells [vi (0 : Int), vi (0 : Int), vn, vi (0 : Int), vn] (118 : Nat)), ((0 : Nat), Blk.cells [vi (0 : Int), vi (0 : Int), vn, vi (0 : Int), vn] (118 : Nat))], next := (2 : Nat) }) (y0) (y1)) ∧ (K y0 y1))))))))
theorem obr_nE (a : Int) (x : Int) (K : Value → List Blk → Prop) : obr_nV a x K = bodyX (mk XO) (callN (mk XO) 9) (obr_nA a x) Try.f54 [.slice none 0 0, .int .i64 a, .int .i64 x] (stOf []) (Fd 0 K) := by kernel_rfl
set_option tactic.hygienic false in
theorem obr_nP (a : Int) (x : Int) (K : Value → List Blk → Prop)  (hU : Ok64 0 zF) (h : K (.tuple ⟨[.int .u64 (rwV 0 zF a x), .int .i64 (rwE 0 zF a x)]⟩) []) : obr_nV a x K := by
  unfold obr_nV
  have z0 := ob_cases hU a
  have z1 := fun (h1 : 0 ≤ a) (h2 : a < 0) => hU.at h1 h2
  have z2 := fun (h1 : 0 ≤ a) (h2 : a < 0) => hs_bd (hU.at h1 h2).1
  have z3 := rw_cases 0 zF a x
  have z4 := fun (h1 : 0 ≤ a + 1 + hsP (zF (Int.toNat a) 0)) (h2 : 0 ≤ x) => congrArg (fun i => zF i 0) (toNat_add h1 h2)
  have z5 := fun (h0 : obP 0 zF a = hsP (zF (Int.toNat a) 0)) => congrArg (fun y => zF (Int.toNat (a + 1 + y + x)) 0) h0
  repeat' (first | (with_reducible exact rfl) | (with_reducible exact trivial) | (with_reducible refine And.intro ?_ ?_) | (intro) | (with_reducible refine br_d (fun hq => ?_) (fun hq => ?_)) | (with_reducible refine br_nd (fun hq => ?_) (fun hq => ?_)) | (with_reducible refine br_intro (fun hq => ?_) (fun hq => ?_)) | (with_reducible refine if_both (fun hz => ?_) (fun hz => ?_)) | fail)

  all_goals first
    | (with_reducible assumption)
    | (refine (id ?_ : ∃ (v1 : Value) (news : List Blk), _)
       first
        | contradiction
        | exact fin0 (by kernel_rfl) (by kernel_rfl) h
        | exact fin0 (by kernel_rfl) (by kernel_rfl) (fin0i (by omega) h)
        | exact fin0 (by kernel_rfl) (by kernel_rfl) (fin0p (by omega) (by omega) h)
        | exact fin0 (by kernel_rfl) (by kernel_rfl) (fin0u (by omega) (by omega) h)
        | exact fin0 (by kernel_rfl) (by kernel_rfl) (fin0s (by omega) (by omega) (by omega) h)
        | exact fin0 (by kernel_rfl) (by kernel_rfl) (fin0n (by omega) h)
        | (exfalso; simp at hq; omega)
        | (exfalso; omega)
       )
    | omega
    | contradiction
    | exact fin0 (by kernel_rfl) (by kernel_rfl) h
    | exact fin0 (by kernel_rfl) (by kernel_rfl) (fin0i (by omega) h)
    | exact fin0 (by kernel_rfl) (by kernel_rfl) (fin0p (by omega) (by omega) h)
    | exact fin0 (by kernel_rfl) (by kernel_rfl) (fin0u (by omega) (by omega) h)
    | exact fin0 (by kernel_rfl) (by kernel_rfl) (fin0s (by omega) (by omega) (by omega) h)
    | exact fin0 (by kernel_rfl) (by kernel_rfl) (fin0n (by omega) h)
    | (exfalso; simp at hq; omega)
    | (exfalso; omega)
def obr_rV (ew nw cw : Nat) (fw : RF) (a : Int) (x : Int) (K : Value → List Blk → Prop) : Prop := let q0 := eB; let q1 := (9223372036854775807 : Int); let q2 := (fw (Int.toNat a) (0 : Nat)); let q3 := (-9223372036854775808 : Int); let q4 := (@Eq Nat ((1 : Nat)) ((1 : Nat))); let q5 := (hsP q2); let q6 := (hsR q2); let q7 := TS; let q8 := (a + (1 : Int) + hsP q2); let q9 := ((0 : Nat), Blk.row true [IntKind.u64] ew nw cw fw); let q10 := (q7 ∧ q4); let q11 := (Int.toNat (a + (1 : Int) + hsP q2 - (a + (1 : Int)))); let q12 := (a + (1 : Int) + hsP q2 + hsR q2); let q13 := ((3 : Nat), Blk.cells [vi q5, vi q6] (60 : Nat)); let q14 := (Int.toNat (a + (1 : Int) + hsP q2 + hsR q2 - q8)); let q15 := ((2 : Nat), Blk.cells [vi (0 : Int), vi (0 : Int), vn, vi (0 : Int), vn] (118 : Nat)); let q16 := ((1 : Nat), Blk.cells [vi (0 : Int), vi (0 : Int), vn, vi (0 : Int), vn] (118 : Nat)); let q17 := (∃ y0 : Value, (∃ y1 : List Blk, ((Go.Rx.Found 1 (Value.tuple { toList := [Value.int IntKind.u64 (0 : Int), vi (10 : Int)] }) ({ h := [((4 : Nat), Blk.cells [vn] (112 : Nat)), ((3 : Nat), Blk.cells [vn] (112 : Nat)), q15, q16, q9], next := (5 : Nat) }) (y0) (y1)) ∧ (K y0 y1)))); let q18 := (t9 (∃ y0 : Value, (∃ y1 : List Blk, ((Go.Rx.Found 1 (Value.tuple { toList := [Value.int IntKind.u64 (0 : Int), vi (7 : Int)] }) ({ h := [((3 : Nat), Blk.cells [vi (0 : Int), vi (0 : Int), vn, vi (0 : Int), vn] (118 : Nat)), q15, q16, q9], next := (4 : Nat) }) (y0) (y1)) ∧ (K y0 y1))))); let q19 := (t9 (∃ y0 : Value, (∃ y1 : List Blk, ((Go.Rx.Found 1 (Value.tuple { toList := [Value.int IntKind.u64 (0 : Int), vi (6 : Int)] }) ({ h := [((4 : Nat), Blk.cells [vi (0 : Int), vi (0 : Int), vn, vi (0 : Int), vn] (118 : Nat)), q13, q15, q16, q9], next := (5 : Nat) }) (y0) (y1)) ∧ (K y0 y1))))); let q20 := (∃ y0 : Value, (∃ y1 : List Blk, ((Go.Rx.Found 1 (Value.tuple { toList := [Value.int IntKind.u64 (0 : Int), vi (10 : Int)] }) ({ h := [((6 : Nat), Blk.cells [Value.slice (some { block := (0 : Nat), off := (0 : Nat), spot := some (Nat.succ (Nat.succ (Int.toNat q8))) }) q14 q14] (112 : Nat)), ((5 : Nat), Blk.cells [Value.slice (some { block := (0 : Nat), off := (0 : Nat), spot := some (Nat.succ (Nat.succ (Int.toNat q8))) }) q14 q14] (112 : Nat)), ((4 : Nat), Blk.cells [vi q5, vi q6, Value.slice (some { block := (0 : Nat), off := (0 : Nat), spot := some (Nat.succ (Nat.succ (Int.toNat (a + (1 : Int))))) }) q11 q11, vi (a + (1 : Int)), Value.slice (some { block := (0 : Nat), off := (0 : Nat), spot := some (Nat.succ (Nat.succ (Int.toNat q8))) }) q14 q14] (118 : Nat)), q13, ((2 : Nat), Blk.cells [vi q5, vi q6, Value.slice (some { block := (0 : Nat), off := (0 : Nat), spot := some (Nat.succ (Nat.succ (Int.toNat (a + (1 : Int))))) }) q11 q11, vi (a + (1 : Int)), Value.slice (some { block := (0 : Nat), off := (0 : Nat), spot := some (Nat.succ (Nat.succ (Int.toNat q8))) }) q14 q14] (118 : Nat)), ((1 : Nat), Blk.cells [vi q5, vi q6, Value.slice (some { block := (0 : Nat), off := (0 : Nat), spot := some (Nat.succ (Nat.succ (Int.toNat (a + (1 : Int))))) }) q11 q11, vi (a + (1 : Int)), Value.slice (some { block := (0 : Nat), off := (0 : Nat), spot := some (Nat.succ (Nat.succ (Int.toNat q8))) }) q14 q14] (118 : Nat)), q9], next := (7 : Nat) }) (y0) (y1)) ∧ (K y0 y1)))); (t2 (((0 : Nat) + nw ≤ nw) ∧ (((@Eq Nat ((0 : Nat)) ((0 : Nat))) ∧ ((nw ≤ (100000 : Nat)) ∧ (nw ≤ cw))) ∧ (((@Eq (List IntKind) ([IntKind.u64]) ([IntKind.u64])) ∧ ((@Eq Nat (nw) (nw)) ∧ (@Eq Nat (cw) (cw)))) ∧ (q0 ∧ ((True) ∧ (T0 ∧ (if (@Eq Int (arE nw fw) ((0 : Int))) then (t2 (if (a < (1 : Int)) then q18 else (q7 ∧ (T0 ∧ (if ((↑nw : Int) ≤ a) then q18 else (q10 ∧ ((((0 : Int) ≤ a) ∧ (a < (↑nw : Int))) ∧ ((Int.toNat a < nw) ∧ (T0 ∧ (q0 ∧ ((((0 : Int) ≤ fw (Int.toNat a) (0 : Nat)) ∧ (fw (Int.toNat a) (0 : Nat) ≤ (18446744073709551615 : Int))) ∧ (t3 (if (@Eq Int (hsE q2) ((0 : Int))) then (t3 (((q3 ≤ hsP q2 + hsR q2) ∧ (hsP q2 + hsR q2 ≤ q1)) ∧ (q7 ∧ (T0 ∧ (((q3 ≤ (↑nw : Int) - a) ∧ ((↑nw : Int) - a ≤ q1)) ∧ (T0 ∧ (if ((↑nw : Int) - a ≤ hsP q2 + hsR q2) then q19 else (T0 ∧ (((q3 ≤ a + (1 : Int)) ∧ (a + (1 : Int) ≤ q1)) ∧ (t2 (((q3 ≤ a + (1 : Int) + hsP q2) ∧ (a + (1 : Int) + hsP q2 ≤ q1)) ∧ (t2 (((q3 ≤ a + (1 : Int) + hsP q2 + hsR q2) ∧ (a + (1 : Int) + hsP q2 + hsR q2 ≤ q1)) ∧ (t8 (q7 ∧ (t4 (q4 ∧ ((((0 : Int) ≤ a + (1 : Int)) ∧ ((a + (1 : Int) ≤ a + (1 : Int) + hsP q2) ∧ ((a + (1 : Int) + hsP q2 ≤ a + (1 : Int) + hsP q2) ∧ (a + (1 : Int) + hsP q2 ≤ (↑cw : Int))))) ∧ ((@Eq Int q8 q8) ∧ (t8 (q7 ∧ (t4 (q4 ∧ ((((0 : Int) ≤ a + (1 : Int) + hsP q2) ∧ ((a + (1 : Int) + hsP q2 ≤ a + (1 : Int) + hsP q2 + hsR q2) ∧ ((a + (1 : Int) + hsP q2 + hsR q2 ≤ a + (1 : Int) + hsP q2 + hsR q2) ∧ (a + (1 : Int) + hsP q2 + hsR q2 ≤ (↑cw : Int))))) ∧ ((@Eq Int q12 q12) ∧ (t9 (t9 (T0 ∧ (if ((0 : Int) ≤ x) then (T0 ∧ (q7 ∧ (T0 ∧ (if (x < (↑q14 : Int)) then (T0 ∧ (q10 ∧ ((((0 : Int) ≤ x) ∧ (x < (↑q14 : Int))) ∧ ((Int.toNat q8 + Int.toNat x < nw) ∧ (∃ y0 : Value, (∃ y1 : List Blk, ((Go.Rx.Found 1 (Value.tuple { toList := [Value.int IntKind.u64 (fw (Int.toNat q8 + Int.toNat x) (0 : Nat)), vi (0 : Int)] }) ({ h := [((6 : Nat), Blk.cells [Value.slice (some { block := (0 : Nat), off := (0 : Nat), spot := some (Nat.succ (Nat.succ (Int.toNat q8))) }) q14 q14] (112 : Nat)), ((5 : Nat), Blk.cells [Value.slice (some { block := (0 : Nat), off := (0 : Nat), spot := some (Nat.succ (Nat.succ (Int.toNat q8))) }) q14 q14] (112 : Nat)), ((4 : Nat), Blk.cells [vi q5, vi q6, Value.slice (some { block := (0 : Nat), off := (0 : Nat), spot := some (Nat.succ (Nat.succ (Int.toNat (a + (1 : Int))))) }) q11 q11, vi (a + (1 : Int)), Value.slice (some { block := (0 : Nat), off := (0 : Nat), spot := some (Nat.succ (Nat.succ (Int.toNat q8))) }) q14 q14] (118 : Nat)), q13, ((2 : Nat), Blk.cells [vi q5, vi q6, Value.slice (some { block := (0 : Nat), off := (0 : Nat), spot := some (Nat.succ (Nat.succ (Int.toNat (a + (1 : Int))))) }) q11 q11, vi (a + (1 : Int)), Value.slice (some { block := (0 : Nat), off := (0 : Nat), spot := some (Nat.succ (Nat.succ (Int.toNat q8))) }) q14 q14] (118 : Nat)), ((1 : Nat), Blk.cells [vi q5, vi q6, Value.slice (some { block := (0 : Nat), off := (0 : Nat), spot := some (Nat.succ (Nat.succ (Int.toNat (a + (1 : Int))))) }) q11 q11, vi (a + (1 : Int)), Value.slice (some { block := (0 : Nat), off := (0 : Nat), spot := some (Nat.succ (Nat.succ (Int.toNat q8))) }) q14 q14] (118 : Nat)), q9], next := (7 : Nat) }) (y0) (y1)) ∧ (K y0 y1)))))))) else q20)))) else q20))))))))))))))))))))))))))))) else q19))))))))))))) else (t6 (if (@Eq Int (arE nw fw) ((0 : Int))) then (t7 (if ((0 : Int) ≤ x) then (T0 ∧ (q7 ∧ (T0 ∧ (if (x < (↑(0 : Nat) : Int)) then (T0 ∧ (False)) else q17)))) else q17)) else (∃ y0 : Value, (∃ y1 : List Blk, ((Go.Rx.Found 1 (Value.tuple { toList := [Value.int IntKind.u64 (0 : Int), vi (arE nw fw)] }) ({ h := [q15, q16, q9], next := (3 : Nat) }) (y0) (y1)) ∧ (K y0 y1))))))))))))))
theorem obr_rE (ew nw cw : Nat) (fw : RF) (a : Int) (x : Int) (K : Value → List Blk → Prop) : obr_rV ew nw cw fw a x K = bodyX (mk XO) (callN (mk XO) 9) (obr_rA ew nw cw fw a x) Try.f54 [rsl 0 0 nw cw, .int .i64 a, .int .i64 x] (stOf [.row true [.u64] ew nw cw fw]) (Fd 1 K) := by kernel_rfl
set_option tactic.hygienic false in
theorem obr_rP (ew nw cw : Nat) (fw : RF) (a : Int) (x : Int) (K : Value → List Blk → Prop)  (hnw : nw ≤ 100000) (hcw : nw ≤ cw) (hU : Ok64 nw fw) (h : K (.tuple ⟨[.int .u64 (rwV nw fw a x), .int .i64 (rwE nw fw a x)]⟩) []) : obr_rV ew nw cw fw a x K := by
  unfold obr_rV
  conv => zeta
  have z0 := ob_cases hU a
  have z1 := fun (h1 : 0 ≤ a) (h2 : a < nw) => hU.at h1 h2
  have z2 := fun (h1 : 0 ≤ a) (h2 : a < nw) => hs_bd (hU.at h1 h2).1
  have z3 := rw_cases nw fw a x
  have z4 := fun (h1 : 0 ≤ a + 1 + hsP (fw (Int.toNat a) 0)) (h2 : 0 ≤ x) => congrArg (fun i => fw i 0) (toNat_add h1 h2)
  have z5 := fun (h0 : obP nw fw a = hsP (fw (Int.toNat a) 0)) => congrArg (fun y => fw (Int.toNat (a + 1 + y + x)) 0) h0
  repeat' (first | (with_reducible exact rfl) | (with_reducible exact trivial) | (with_reducible refine And.intro ?_ ?_) | (intro) | (with_reducible refine br_d (fun hq => ?_) (fun hq => ?_)) | (with_reducible refine br_nd (fun hq => ?_) (fun hq => ?_)) | (with_reducible refine br_intro (fun hq => ?_) (fun hq => ?_)) | (with_reducible refine if_both (fun hz => ?_) (fun hz => ?_)) | fail)

  all_goals first
    | (with_reducible assumption)
    | (refine (id ?_ : ∃ (v1 : Value) (news : List Blk), _)
       first
        | contradiction
        | exact fin0 (by kernel_rfl) (by kernel_rfl) h
        | exact fin0 (by kernel_rfl) (by kernel_rfl) (fin0i (by omega) h)
        | exact fin0 (by kernel_rfl) (by kernel_rfl) (fin0p (by omega) (by omega) h)
        | exact fin0 (by kernel_rfl) (by kernel_rfl) (fin0u (by omega) (by omega) h)
        | exact fin0 (by kernel_rfl) (by kernel_rfl) (fin0s (by omega) (by omega) (by omega) h)
        | exact fin0 (by kernel_rfl) (by kernel_rfl) (fin0n (by omega) h)
        | (exfalso; simp at hq; omega)
        | (exfalso; omega)
       )
    | omega
    | contradiction
    | exact fin0 (by kernel_rfl) (by kernel_rfl) h
    | exact fin0 (by kernel_rfl) (by kernel_rfl) (fin0i (by omega) h)
    | exact fin0 (by kernel_rfl) (by kernel_rfl) (fin0p (by omega) (by omega) h)
    | exact fin0 (by kernel_rfl) (by kernel_rfl) (fin0u (by omega) (by omega) h)
    | exact fin0 (by kernel_rfl) (by kernel_rfl) (fin0s (by omega) (by omega) (by omega) h)
    | exact fin0 (by kernel_rfl) (by kernel_rfl) (fin0n (by omega) h)
    | (exfalso; simp at hq; omega)
    | (exfalso; omega)
theorem obr_ok : BodyOk (mk XO) 9 Try.f54 obr := by
  intro vs bs K hh hro
  clear hro
  unfold obr at hh
  split at hh
  · rename_i vw a x
    rcases parseQ_inv hh with ⟨rfl, hh0⟩ | ⟨ew, nw, cw, fw, btw, rfl, hnw, hcw, rfl, hh0⟩ <;> clear hh
    · obtain ⟨rfl, hU, hc⟩ := hh0
      exact ⟨_, _, cast (obr_nE  a x K) (obr_nP  a x K  hU hc)⟩
    · obtain ⟨rfl, hU, hc⟩ := hh0
      exact ⟨_, _, cast (obr_rE ew nw cw fw a x K) (obr_rP ew nw cw fw a x K hnw hcw hU hc)⟩
  · exact hh.elim
theorem obr_told : Told 54 (specOf obr) := told (X := XO) XO_told (by kernel_rfl) (by kernel_rfl) (by kernel_rfl) obr_ok
end Go.Proofs.Ytfgeoglegebncaa.Fr
namespace Go.Proofs.Ytfgeoglegebncaa.Fr
set_option maxRecDepth 100000
set_option maxHeartbeats 4000000
open Go.Rx
open Go.RowKit (Below)
set_option linter.unusedVariables false
def gtK : Con := fun vs bs K => match vs with
  | [vw, .int .i64 a] => parseQ [.u64] 0 vw bs fun nw fw j0 bs0 => bs0 = [] ∧ ((Ok64 nw fw)) ∧ (K (.tuple ⟨[.int .u64 (gtV nw fw a), .int .i64 (gtE nw fw a)]⟩) [])
  | _ => False

def gtK_nA (a : Int) : Ann := fun _ _ _ => none
def gtK_rA (ew nw cw : Nat) (fw : RF) (a : Int) : Ann := fun _ _ _ => none
def gtK_nV (a : Int) (K : Value → List Blk → Prop) : Prop := (t2 (eB ∧ ((True) ∧ (t2 (∃ y0 : Value, (∃ y1 : List Blk, ((Go.Rx.Found 0 (Value.tuple { toList := [Value.int IntKind.u64 (0 : Int), vi (3 : Int)] }) ({ h := [], next := (0 : Nat) }) (y0) (y1)) ∧ (K y0 y1))))))))
theorem gtK_nE (a : Int) (K : Value → List Blk → Prop) : gtK_nV a K = bodyX (mk XK) (callN (mk XK) 6) (gtK_nA a) Try.f27 [.slice none 0 0, .int .i64 a] (stOf []) (Fd 0 K) := by kernel_rfl
set_option tactic.hygienic false in
theorem gtK_nP (a : Int) (K : Value → List Blk → Prop)  (hU : Ok64 0 zF) (h : K (.tuple ⟨[.int .u64 (gtV 0 zF a), .int .i64 (gtE 0 zF a)]⟩) []) : gtK_nV a K := by
  unfold gtK_nV
  have z0 := ar_cases 0 zF
  have z1 := gt_cases 0 zF a
  repeat' (first | (with_reducible exact rfl) | (with_reducible exact trivial) | (with_reducible refine And.intro ?_ ?_) | (intro) | (with_reducible refine br_d (fun hq => ?_) (fun hq => ?_)) | (with_reducible refine br_nd (fun hq => ?_) (fun hq => ?_)) | (with_reducible refine br_intro (fun hq => ?_) (fun hq => ?_)) | (with_reducible refine if_both (fun hz => ?_) (fun hz => ?_)) | fail)

  all_goals first
    | (with_reducible assumption)
    | (refine (id ?_ : ∃ (v1 : Value) (news : List Blk), _)
       first
        | contradiction
        | exact fin0 (by kernel_rfl) (by kernel_rfl) h
        | exact fin0 (by kernel_rfl) (by kernel_rfl) (fin0i (by omega) h)
        | exact fin0 (by kernel_rfl) (by kernel_rfl) (fin0p (by omega) (by omega) h)
        | exact fin0 (by kernel_rfl) (by kernel_rfl) (fin0u (by omega) (by omega) h)
        | exact fin0 (by kernel_rfl) (by kernel_rfl) (fin0s (by omega) (by omega) (by omega) h)
        | exact fin0 (by kernel_rfl) (by kernel_rfl) (fin0n (by omega) h)
        | (exfalso; simp at hq; omega)
        | (exfalso; omega)
       )
    | omega
    | contradiction
    | exact fin0 (by kernel_rfl) (by kernel_rfl) h
    | exact fin0 (by kernel_rfl) (by kernel_rfl) (fin0i (by omega) h)
    | exact fin0 (by kernel_rfl) (by kernel_rfl) (fin0p (by omega) (by omega) h)
    | exact fin0 (by kernel_rfl) (by kernel_rfl) (fin0u (by omega) (by omega) h)
    | exact fin0 (by kernel_rfl) (by kernel_rfl) (fin0s (by omega) (by omega) (by omega) h)
    | exact fin0 (by kernel_rfl) (by kernel_rfl) (fin0n (by omega) h)
    | (exfalso; simp at hq; omega)
    | (exfalso; omega)
def gtK_rV (ew nw cw : Nat) (fw : RF) (a : Int) (K : Value → List Blk → Prop) : Prop := let q0 := TS; let q1 := (T0 ∧ (∃ y0 : Value, (∃ y1 : List Blk, ((Go.Rx.Found 1 (Value.tuple { toList := [Value.int IntKind.u64 (0 : Int), vi (7 : Int)] }) ({ h := [((0 : Nat), Blk.row true [IntKind.u64] ew nw cw fw)], next := (1 : Nat) }) (y0) (y1)) ∧ (K y0 y1))))); let q2 := (T0 ∧ (if (@Eq Int (arE nw fw) ((0 : Int))) then ((q0 ∧ (@Eq Nat ((1 : Nat)) ((1 : Nat)))) ∧ ((((0 : Int) ≤ a) ∧ (a < (↑nw : Int))) ∧ ((Int.toNat a < nw) ∧ (∃ y0 : Value, (∃ y1 : List Blk, ((Go.Rx.Found 1 (Value.tuple { toList := [Value.int IntKind.u64 (fw (Int.toNat a) (0 : Nat)), vi (0 : Int)] }) ({ h := [((0 : Nat), Blk.row true [IntKind.u64] ew nw cw fw)], next := (1 : Nat) }) (y0) (y1)) ∧ (K y0 y1))))))) else (∃ y0 : Value, (∃ y1 : List Blk, ((Go.Rx.Found 1 (Value.tuple { toList := [Value.int IntKind.u64 (0 : Int), vi (arE nw fw)] }) ({ h := [((0 : Nat), Blk.row true [IntKind.u64] ew nw cw fw)], next := (1 : Nat) }) (y0) (y1)) ∧ (K y0 y1)))))); (T0 ∧ (((0 : Nat) + nw ≤ nw) ∧ (((@Eq Nat ((0 : Nat)) ((0 : Nat))) ∧ ((nw ≤ (100000 : Nat)) ∧ (nw ≤ cw))) ∧ (((@Eq (List IntKind) ([IntKind.u64]) ([IntKind.u64])) ∧ ((@Eq Nat (nw) (nw)) ∧ (@Eq Nat (cw) (cw)))) ∧ (eB ∧ ((True) ∧ (T0 ∧ (if (@Eq Int (arE nw fw) ((0 : Int))) then (t2 (if ((1 : Int) ≤ a) then (q0 ∧ (T0 ∧ (if (a ≤ (↑nw : Int)) then (T0 ∧ (q0 ∧ (T0 ∧ ((((-9223372036854775808 : Int) ≤ (↑nw : Int) - a) ∧ ((↑nw : Int) - a ≤ (9223372036854775807 : Int))) ∧ (T0 ∧ (if ((1 : Int) ≤ (↑nw : Int) - a) then q2 else q1)))))) else q1))) else q1)) else q2))))))))
theorem gtK_rE (ew nw cw : Nat) (fw : RF) (a : Int) (K : Value → List Blk → Prop) : gtK_rV ew nw cw fw a K = bodyX (mk XK) (callN (mk XK) 6) (gtK_rA ew nw cw fw a) Try.f27 [rsl 0 0 nw cw, .int .i64 a] (stOf [.row true [.u64] ew nw cw fw]) (Fd 1 K) := by kernel_rfl
set_option tactic.hygienic false in
theorem gtK_rP (ew nw cw : Nat) (fw : RF) (a : Int) (K : Value → List Blk → Prop)  (hnw : nw ≤ 100000) (hcw : nw ≤ cw) (hU : Ok64 nw fw) (h : K (.tuple ⟨[.int .u64 (gtV nw fw a), .int .i64 (gtE nw fw a)]⟩) []) : gtK_rV ew nw cw fw a K := by
  unfold gtK_rV
  conv => zeta
  have z0 := ar_cases nw fw
  have z1 := gt_cases nw fw a
  repeat' (first | (with_reducible exact rfl) | (with_reducible exact trivial) | (with_reducible refine And.intro ?_ ?_) | (intro) | (with_reducible refine br_d (fun hq => ?_) (fun hq => ?_)) | (with_reducible refine br_nd (fun hq => ?_) (fun hq => ?_)) | (with_reducible refine br_intro (fun hq => ?_) (fun hq => ?_)) | (with_reducible refine if_both (fun hz => ?_) (fun hz => ?_)) | fail)

  all_goals first
    | (with_reducible assumption)
    | (refine (id ?_ : ∃ (v1 : Value) (news : List Blk), _)
       first
        | contradiction
        | exact fin0 (by kernel_rfl) (by kernel_rfl) h
        | exact fin0 (by kernel_rfl) (by kernel_rfl) (fin0i (by omega) h)
        | exact fin0 (by kernel_rfl) (by kernel_rfl) (fin0p (by omega) (by omega) h)
        | exact fin0 (by kernel_rfl) (by kernel_rfl) (fin0u (by omega) (by omega) h)
        | exact fin0 (by kernel_rfl) (by kernel_rfl) (fin0s (by omega) (by omega) (by omega) h)
        | exact fin0 (by kernel_rfl) (by kernel_rfl) (fin0n (by omega) h)
        | (exfalso; simp at hq; omega)
        | (exfalso; omega)
       )
    | omega
    | contradiction
    | exact fin0 (by kernel_rfl) (by kernel_rfl) h
    | exact fin0 (by kernel_rfl) (by kernel_rfl) (fin0i (by omega) h)
    | exact fin0 (by kernel_rfl) (by kernel_rfl) (fin0p (by omega) (by omega) h)
    | exact fin0 (by kernel_rfl) (by kernel_rfl) (fin0u (by omega) (by omega) h)
    | exact fin0 (by kernel_rfl) (by kernel_rfl) (fin0s (by omega) (by omega) (by omega) h)
    | exact fin0 (by kernel_rfl) (by kernel_rfl) (fin0n (by omega) h)
    | (exfalso; simp at hq; omega)
    | (exfalso; omega)
theorem gtK_ok : BodyOk (mk XK) 6 Try.f27 gtK := by
  intro vs bs K hh hro
  clear hro
  unfold gtK at hh
  split at hh
  · rename_i vw a
    rcases parseQ_inv hh with ⟨rfl, hh0⟩ | ⟨ew, nw, cw, fw, btw, rfl, hnw, hcw, rfl, hh0⟩ <;> clear hh
    · obtain ⟨rfl, hU, hc⟩ := hh0
      exact ⟨_, _, cast (gtK_nE  a K) (gtK_nP  a K  hU hc)⟩
    · obtain ⟨rfl, hU, hc⟩ := hh0
      exact ⟨_, _, cast (gtK_rE ew nw cw fw a K) (gtK_rP ew nw cw fw a K hnw hcw hU hc)⟩
  · exact hh.elim
theorem gtK_told : Told 27 (specOf gtK) := told (X := XK) XK_told (by kernel_rfl) (by kernel_rfl) (by kernel_rfl) gtK_ok
end Go.Proofs.Ytfgeoglegebncaa.Fr
namespace Go.Proofs.Ytfgeoglegebncaa.Fr
set_option maxRecDepth 100000
set_option maxHeartbeats 4000000
open Go.Rx
open Go.RowKit (Below)
set_option linter.unusedVariables false
@[reducible] def XG : List (Nat × Rx.Spec) := [(27, specOf gtK), (94, specOf hkS), (65, specOf hkN)]
theorem XG_told : ∀ p ∈ XG, Told p.1 p.2 := by
  intro p hp
  simp only [List.mem_cons, List.not_mem_nil, or_false] at hp
  rcases hp with rfl | rfl | rfl
  · exact gtK_told
  · exact hkS_told
  · exact hkN_told
def okS_ : Con := fun vs bs K => match vs with
  | [vw, .int .i64 a] => parseQ [.u64] 0 vw bs fun nw fw j0 bs0 => bs0 = [] ∧ ((Ok64 nw fw)) ∧ (K (.tuple ⟨[.agg ⟨[.int .i64 (obP nw fw a), .int .i64 (obR nw fw a)]⟩, .int .i64 (obE nw fw a)]⟩) [])
  | _ => False

def okS__nA (a : Int) : Ann := fun _ _ _ => none
def okS__rA (ew nw cw : Nat) (fw : RF) (a : Int) : Ann := fun _ _ _ => none
def okS__nV (a : Int) (K : Value → List Blk → Prop) : Prop := (t3 (eB ∧ ((Ok64 (0 : Nat) zF) ∧ (t4 (∃ y0 : Value, (∃ y1 : List Blk, ((Go.Rx.Found 0 (Value.tuple { toList := [Value.agg { toList := [vi (0 : Int), vi (0 : Int)] }, vi (gtE (0 : Nat) zF a)] }) ({ h := [((0 : Nat), Blk.cells [vi (0 : Int), vi (0 : Int)] (60 : Nat))], next := (1 : Nat) }) (y0) (y1)) ∧ (K y0 y1))))))))
theorem okS__nE (a : Int) (K : Value → List Blk → Prop) : okS__nV a K = bodyX (mk XG) (callN (mk XG) 6) (okS__nA a) Try.f47 [.slice none 0 0, .int .i64 a] (stOf []) (Fd 0 K) := by kernel_rfl
set_option tactic.hygienic false in
theorem okS__nP (a : Int) (K : Value → List Blk → Prop)  (hU : Ok64 0 zF) (h : K (.tuple ⟨[.agg ⟨[.int .i64 (obP 0 zF a), .int .i64 (obR 0 zF a)]⟩, .int .i64 (obE 0 zF a)]⟩) []) : okS__nV a K := by
  unfold okS__nV
  have z0 := ar_cases 0 zF
  have z1 := ob_cases hU a
  have z2 := fun (h1 : 0 ≤ a) (h2 : a < 0) => hU.at h1 h2
  have z3 := gt_cases 0 zF a
  have z4 := szn_cases (hsP (zF (Int.toNat a) 0)) (hsR (zF (Int.toNat a) 0))
  have z5 := sze_cases (hsP (zF (Int.toNat a) 0)) (hsR (zF (Int.toNat a) 0))
  have z6 := hs_cases (zF (Int.toNat a) 0)
  have z7 := (fun h => by rw [h]; exact ⟨rfl, rfl, rfl⟩ : gtV 0 zF a = zF (Int.toNat a) 0 → hsE (gtV 0 zF a) = hsE (zF (Int.toNat a) 0) ∧ hsP (gtV 0 zF a) = hsP (zF (Int.toNat a) 0) ∧ hsR (gtV 0 zF a) = hsR (zF (Int.toNat a) 0))
  have z8 := szn_cases (hsP (gtV 0 zF a)) (hsR (gtV 0 zF a))
  have z9 := sze_cases (hsP (gtV 0 zF a)) (hsR (gtV 0 zF a))
  repeat' (first | (with_reducible exact rfl) | (with_reducible exact trivial) | (with_reducible refine And.intro ?_ ?_) | (intro) | (with_reducible refine br_d (fun hq => ?_) (fun hq => ?_)) | (with_reducible refine br_nd (fun hq => ?_) (fun hq => ?_)) | (with_reducible refine br_intro (fun hq => ?_) (fun hq => ?_)) | (with_reducible refine if_both (fun hz => ?_) (fun hz => ?_)) | fail)

  all_goals first
    | (with_reducible assumption)
    | (refine (id ?_ : ∃ (v1 : Value) (news : List Blk), _)
       first
        | contradiction
        | exact fin0 (by kernel_rfl) (by kernel_rfl) h
        | exact fin0 (by kernel_rfl) (by kernel_rfl) (fin0i (by omega) h)
        | exact fin0 (by kernel_rfl) (by kernel_rfl) (fin0p (by omega) (by omega) h)
        | exact fin0 (by kernel_rfl) (by kernel_rfl) (fin0u (by omega) (by omega) h)
        | exact fin0 (by kernel_rfl) (by kernel_rfl) (fin0s (by omega) (by omega) (by omega) h)
        | exact fin0 (by kernel_rfl) (by kernel_rfl) (fin0n (by omega) h)
        | (exfalso; simp at hq; omega)
        | (exfalso; omega)
       )
    | omega
    | contradiction
    | exact fin0 (by kernel_rfl) (by kernel_rfl) h
    | exact fin0 (by kernel_rfl) (by kernel_rfl) (fin0i (by omega) h)
    | exact fin0 (by kernel_rfl) (by kernel_rfl) (fin0p (by omega) (by omega) h)
    | exact fin0 (by kernel_rfl) (by kernel_rfl) (fin0u (by omega) (by omega) h)
    | exact fin0 (by kernel_rfl) (by kernel_rfl) (fin0s (by omega) (by omega) (by omega) h)
    | exact fin0 (by kernel_rfl) (by kernel_rfl) (fin0n (by omega) h)
    | (exfalso; simp at hq; omega)
    | (exfalso; omega)
def okS__rV (ew nw cw : Nat) (fw : RF) (a : Int) (K : Value → List Blk → Prop) : Prop := let q0 := eB; let q1 := ((0 : Nat), Blk.row true [IntKind.u64] ew nw cw fw); let q2 := ((1 : Nat), Blk.cells [vi (0 : Int), vi (0 : Int)] (60 : Nat)); let q3 := ((2 : Nat), Blk.cells [vi (hsP (gtV nw fw a)), vi (hsR (gtV nw fw a))] (60 : Nat)); (T0 ∧ (((0 : Nat) + nw ≤ nw) ∧ (T0 ∧ (((@Eq Nat ((0 : Nat)) ((0 : Nat))) ∧ ((nw ≤ (100000 : Nat)) ∧ (nw ≤ cw))) ∧ (((@Eq (List IntKind) ([IntKind.u64]) ([IntKind.u64])) ∧ ((@Eq Nat (nw) (nw)) ∧ (@Eq Nat (cw) (cw)))) ∧ (q0 ∧ ((Ok64 nw fw) ∧ (T0 ∧ (if (@Eq Int (gtE nw fw a) ((0 : Int))) then (T0 ∧ (q0 ∧ ((((0 : Int) ≤ gtV nw fw a) ∧ (gtV nw fw a ≤ (18446744073709551615 : Int))) ∧ (t3 (if (@Eq Int (hsE (gtV nw fw a)) ((0 : Int))) then (t3 (q0 ∧ ((True) ∧ (TS ∧ (T0 ∧ ((((-9223372036854775808 : Int) ≤ (↑nw : Int) - a) ∧ ((↑nw : Int) - a ≤ (9223372036854775807 : Int))) ∧ (T0 ∧ (if ((↑nw : Int) - a < szn (hsP (gtV nw fw a)) (hsR (gtV nw fw a))) then (t3 (∃ y0 : Value, (∃ y1 : List Blk, ((Go.Rx.Found 1 (Value.tuple { toList := [Value.agg { toList := [vi (0 : Int), vi (0 : Int)] }, vi (6 : Int)] }) ({ h := [q3, q2, q1], next := (3 : Nat) }) (y0) (y1)) ∧ (K y0 y1))))) else (t4 (∃ y0 : Value, (∃ y1 : List Blk, ((Go.Rx.Found 1 (Value.tuple { toList := [Value.agg { toList := [vi (hsP (gtV nw fw a)), vi (hsR (gtV nw fw a))] }, vi (0 : Int)] }) ({ h := [q3, ((1 : Nat), Blk.cells [vi (hsP (gtV nw fw a)), vi (hsR (gtV nw fw a))] (60 : Nat)), q1], next := (3 : Nat) }) (y0) (y1)) ∧ (K y0 y1))))))))))))) else (t3 (∃ y0 : Value, (∃ y1 : List Blk, ((Go.Rx.Found 1 (Value.tuple { toList := [Value.agg { toList := [vi (0 : Int), vi (0 : Int)] }, vi (hsE (gtV nw fw a))] }) ({ h := [q3, q2, q1], next := (3 : Nat) }) (y0) (y1)) ∧ (K y0 y1)))))))))) else (t3 (∃ y0 : Value, (∃ y1 : List Blk, ((Go.Rx.Found 1 (Value.tuple { toList := [Value.agg { toList := [vi (0 : Int), vi (0 : Int)] }, vi (gtE nw fw a)] }) ({ h := [q2, q1], next := (2 : Nat) }) (y0) (y1)) ∧ (K y0 y1))))))))))))))
theorem okS__rE (ew nw cw : Nat) (fw : RF) (a : Int) (K : Value → List Blk → Prop) : okS__rV ew nw cw fw a K = bodyX (mk XG) (callN (mk XG) 6) (okS__rA ew nw cw fw a) Try.f47 [rsl 0 0 nw cw, .int .i64 a] (stOf [.row true [.u64] ew nw cw fw]) (Fd 1 K) := by kernel_rfl
set_option tactic.hygienic false in
theorem okS__rP (ew nw cw : Nat) (fw : RF) (a : Int) (K : Value → List Blk → Prop)  (hnw : nw ≤ 100000) (hcw : nw ≤ cw) (hU : Ok64 nw fw) (h : K (.tuple ⟨[.agg ⟨[.int .i64 (obP nw fw a), .int .i64 (obR nw fw a)]⟩, .int .i64 (obE nw fw a)]⟩) []) : okS__rV ew nw cw fw a K := by
  unfold okS__rV
  conv => zeta
  have z0 := ar_cases nw fw
  have z1 := ob_cases hU a
  have z2 := fun (h1 : 0 ≤ a) (h2 : a < nw) => hU.at h1 h2
  have z3 := gt_cases nw fw a
  have z4 := szn_cases (hsP (fw (Int.toNat a) 0)) (hsR (fw (Int.toNat a) 0))
  have z5 := sze_cases (hsP (fw (Int.toNat a) 0)) (hsR (fw (Int.toNat a) 0))
  have z6 := hs_cases (fw (Int.toNat a) 0)
  have z7 := (fun h => by rw [h]; exact ⟨rfl, rfl, rfl⟩ : gtV nw fw a = fw (Int.toNat a) 0 → hsE (gtV nw fw a) = hsE (fw (Int.toNat a) 0) ∧ hsP (gtV nw fw a) = hsP (fw (Int.toNat a) 0) ∧ hsR (gtV nw fw a) = hsR (fw (Int.toNat a) 0))
  have z8 := szn_cases (hsP (gtV nw fw a)) (hsR (gtV nw fw a))
  have z9 := sze_cases (hsP (gtV nw fw a)) (hsR (gtV nw fw a))
  repeat' (first | (with_reducible exact rfl) | (with_reducible exact trivial) | (with_reducible refine And.intro ?_ ?_) | (intro) | (with_reducible refine br_d (fun hq => ?_) (fun hq => ?_)) | (with_reducible refine br_nd (fun hq => ?_) (fun hq => ?_)) | (with_reducible refine br_intro (fun hq => ?_) (fun hq => ?_)) | (with_reducible refine if_both (fun hz => ?_) (fun hz => ?_)) | fail)

  all_goals first
    | (with_reducible assumption)
    | (refine (id ?_ : ∃ (v1 : Value) (news : List Blk), _)
       first
        | contradiction
        | exact fin0 (by kernel_rfl) (by kernel_rfl) h
        | exact fin0 (by kernel_rfl) (by kernel_rfl) (fin0i (by omega) h)
        | exact fin0 (by kernel_rfl) (by kernel_rfl) (fin0p (by omega) (by omega) h)
        | exact fin0 (by kernel_rfl) (by kernel_rfl) (fin0u (by omega) (by omega) h)
        | exact fin0 (by kernel_rfl) (by kernel_rfl) (fin0s (by omega) (by omega) (by omega) h)
        | exact fin0 (by kernel_rfl) (by kernel_rfl) (fin0n (by omega) h)
        | (exfalso; simp at hq; omega)
        | (exfalso; omega)
       )
    | omega
    | contradiction
    | exact fin0 (by kernel_rfl) (by kernel_rfl) h
    | exact fin0 (by kernel_rfl) (by kernel_rfl) (fin0i (by omega) h)
    | exact fin0 (by kernel_rfl) (by kernel_rfl) (fin0p (by omega) (by omega) h)
    | exact fin0 (by kernel_rfl) (by kernel_rfl) (fin0u (by omega) (by omega) h)
    | exact fin0 (by kernel_rfl) (by kernel_rfl) (fin0s (by omega) (by omega) (by omega) h)
    | exact fin0 (by kernel_rfl) (by kernel_rfl) (fin0n (by omega) h)
    | (exfalso; simp at hq; omega)
    | (exfalso; omega)
theorem okS__ok : BodyOk (mk XG) 6 Try.f47 okS_ := by
  intro vs bs K hh hro
  clear hro
  unfold okS_ at hh
  split at hh
  · rename_i vw a
    rcases parseQ_inv hh with ⟨rfl, hh0⟩ | ⟨ew, nw, cw, fw, btw, rfl, hnw, hcw, rfl, hh0⟩ <;> clear hh
    · obtain ⟨rfl, hU, hc⟩ := hh0
      exact ⟨_, _, cast (okS__nE  a K) (okS__nP  a K  hU hc)⟩
    · obtain ⟨rfl, hU, hc⟩ := hh0
      exact ⟨_, _, cast (okS__rE ew nw cw fw a K) (okS__rP ew nw cw fw a K hnw hcw hU hc)⟩
  · exact hh.elim
theorem okS__told : Told 47 (specOf okS_) := told (X := XG) XG_told (by kernel_rfl) (by kernel_rfl) (by kernel_rfl) okS__ok
end Go.Proofs.Ytfgeoglegebncaa.Fr
namespace Go.Proofs.Ytfgeoglegebncaa.Fr
set_option maxRecDepth 100000
set_option maxHeartbeats 4000000
open Go.Rx
open Go.RowKit (Below)
set_option linter.unusedVariables false
@[reducible] def XS : List (Nat × Rx.Spec) := [(47, specOf okS_)]
theorem XS_told : ∀ p ∈ XS, Told p.1 p.2 := by
  intro p hp
  simp only [List.mem_cons, List.not_mem_nil, or_false] at hp
  rcases hp with rfl
  · exact okS__told
def okp : Con := fun vs bs K => match vs with
  | [vw, .int .i64 a, .int .i64 x] => parseQ [.u64] 0 vw bs fun nw fw j0 bs0 => bs0 = [] ∧ ((Ok64 nw fw)) ∧ (K (.tuple ⟨[.int .i64 (ptV nw fw a x), .int .i64 (ptE nw fw a x)]⟩) [])
  | _ => False

def okp_nA (a : Int) (x : Int) : Ann := fun _ _ _ => none
def okp_rA (ew nw cw : Nat) (fw : RF) (a : Int) (x : Int) : Ann := fun _ _ _ => none
def okr : Con := fun vs bs K => match vs with
  | [vw, .int .i64 a, .int .i64 x] => parseQ [.u64] 0 vw bs fun nw fw j0 bs0 => bs0 = [] ∧ ((Ok64 nw fw)) ∧ (K (.tuple ⟨[.int .u64 (rwV nw fw a x), .int .i64 (rwE nw fw a x)]⟩) [])
  | _ => False

def okr_nA (a : Int) (x : Int) : Ann := fun _ _ _ => none
def okr_rA (ew nw cw : Nat) (fw : RF) (a : Int) (x : Int) : Ann := fun _ _ _ => none
def okp_nV (a : Int) (x : Int) (K : Value → List Blk → Prop) : Prop := (t3 (eB ∧ ((Ok64 (0 : Nat) zF) ∧ (t5 (∃ y0 : Value, (∃ y1 : List Blk, ((Go.Rx.Found 0 (Value.tuple { toList := [vi (0 : Int), vi (obE (0 : Nat) zF a)] }) ({ h := [((0 : Nat), Blk.cells [vi (obP (0 : Nat) zF a), vi (obR (0 : Nat) zF a)] (60 : Nat))], next := (1 : Nat) }) (y0) (y1)) ∧ (K y0 y1))))))))
theorem okp_nE (a : Int) (x : Int) (K : Value → List Blk → Prop) : okp_nV a x K = bodyX (mk XS) (callN (mk XS) 6) (okp_nA a x) Try.f53 [.slice none 0 0, .int .i64 a, .int .i64 x] (stOf []) (Fd 0 K) := by kernel_rfl
set_option tactic.hygienic false in
theorem okp_nP (a : Int) (x : Int) (K : Value → List Blk → Prop)  (hU : Ok64 0 zF) (h : K (.tuple ⟨[.int .i64 (ptV 0 zF a x), .int .i64 (ptE 0 zF a x)]⟩) []) : okp_nV a x K := by
  unfold okp_nV
  have z0 := ar_cases 0 zF
  have z1 := ob_cases hU a
  have z2 := fun (h1 : 0 ≤ a) (h2 : a < 0) => hU.at h1 h2
  have z3 := pt_cases 0 zF a x
  have z4 := fun (h1 : 0 ≤ a + 1 + x) (h2 : a + 1 + x < 0) => hU.at h1 h2
  repeat' (first | (with_reducible exact rfl) | (with_reducible exact trivial) | (with_reducible refine And.intro ?_ ?_) | (intro) | (with_reducible refine br_d (fun hq => ?_) (fun hq => ?_)) | (with_reducible refine br_nd (fun hq => ?_) (fun hq => ?_)) | (with_reducible refine br_intro (fun hq => ?_) (fun hq => ?_)) | (with_reducible refine if_both (fun hz => ?_) (fun hz => ?_)) | fail)

  all_goals first
    | (with_reducible assumption)
    | (refine (id ?_ : ∃ (v1 : Value) (news : List Blk), _)
       first
        | contradiction
        | exact fin0 (by kernel_rfl) (by kernel_rfl) h
        | exact fin0 (by kernel_rfl) (by kernel_rfl) (fin0i (by omega) h)
        | exact fin0 (by kernel_rfl) (by kernel_rfl) (fin0p (by omega) (by omega) h)
        | exact fin0 (by kernel_rfl) (by kernel_rfl) (fin0u (by omega) (by omega) h)
        | exact fin0 (by kernel_rfl) (by kernel_rfl) (fin0s (by omega) (by omega) (by omega) h)
        | exact fin0 (by kernel_rfl) (by kernel_rfl) (fin0n (by omega) h)
        | (exfalso; simp at hq; omega)
        | (exfalso; omega)
       )
    | omega
    | contradiction
    | exact fin0 (by kernel_rfl) (by kernel_rfl) h
    | exact fin0 (by kernel_rfl) (by kernel_rfl) (fin0i (by omega) h)
    | exact fin0 (by kernel_rfl) (by kernel_rfl) (fin0p (by omega) (by omega) h)
    | exact fin0 (by kernel_rfl) (by kernel_rfl) (fin0u (by omega) (by omega) h)
    | exact fin0 (by kernel_rfl) (by kernel_rfl) (fin0s (by omega) (by omega) (by omega) h)
    | exact fin0 (by kernel_rfl) (by kernel_rfl) (fin0n (by omega) h)
    | (exfalso; simp at hq; omega)
    | (exfalso; omega)
def okp_rV (ew nw cw : Nat) (fw : RF) (a : Int) (x : Int) (K : Value → List Blk → Prop) : Prop := let q0 := (9223372036854775807 : Int); let q1 := (-9223372036854775808 : Int); let q2 := (Int.toNat (a + (1 : Int) + x)); let q3 := (Int.toNat (a + (1 : Int) + x) < nw); let q4 := (((0 : Int) ≤ a + (1 : Int) + x) ∧ (a + (1 : Int) + x < (↑nw : Int))); let q5 := (TS ∧ (@Eq Nat ((1 : Nat)) ((1 : Nat)))); let q6 := ((q1 ≤ a + (1 : Int)) ∧ (a + (1 : Int) ≤ q0)); let q7 := ((q1 ≤ a + (1 : Int) + x) ∧ (a + (1 : Int) + x ≤ q0)); let q8 := (t2 (∃ y0 : Value, (∃ y1 : List Blk, ((Go.Rx.Found 1 (Value.tuple { toList := [vi (0 : Int), vi (10 : Int)] }) ({ h := [((1 : Nat), Blk.cells [vi (obP nw fw a), vi (obR nw fw a)] (60 : Nat)), ((0 : Nat), Blk.row true [IntKind.u64] ew nw cw fw)], next := (2 : Nat) }) (y0) (y1)) ∧ (K y0 y1))))); let q9 := (T0 ∧ (if (@Eq Int (obE nw fw a) ((0 : Int))) then (T0 ∧ (q6 ∧ (T0 ∧ (q7 ∧ (q5 ∧ (q4 ∧ (q3 ∧ (((q1 ≤ fw q2 (0 : Nat)) ∧ (fw q2 (0 : Nat) ≤ q0)) ∧ (∃ y0 : Value, (∃ y1 : List Blk, ((Go.Rx.Found 1 (Value.tuple { toList := [vi (fw q2 (0 : Nat)), vi (0 : Int)] }) ({ h := [((1 : Nat), Blk.cells [vi (obP nw fw a), vi (obR nw fw a)] (60 : Nat)), ((0 : Nat), Blk.row true [IntKind.u64] ew nw cw fw)], next := (2 : Nat) }) (y0) (y1)) ∧ (K y0 y1)))))))))))) else (∃ y0 : Value, (∃ y1 : List Blk, ((Go.Rx.Found 1 (Value.tuple { toList := [vi (0 : Int), vi (obE nw fw a)] }) ({ h := [((1 : Nat), Blk.cells [vi (obP nw fw a), vi (obR nw fw a)] (60 : Nat)), ((0 : Nat), Blk.row true [IntKind.u64] ew nw cw fw)], next := (2 : Nat) }) (y0) (y1)) ∧ (K y0 y1)))))); let q10 := (T0 ∧ (if (@Eq Int (obE nw fw a) ((0 : Int))) then (T0 ∧ (q6 ∧ (T0 ∧ (q7 ∧ (q5 ∧ (q4 ∧ (q3 ∧ (T0 ∧ (if ((1600 : Int) < fw q2 (0 : Nat)) then (T0 ∧ (∃ y0 : Value, (∃ y1 : List Blk, ((Go.Rx.Found 1 (Value.tuple { toList := [vi (0 : Int), vi (6 : Int)] }) ({ h := [((1 : Nat), Blk.cells [vi (obP nw fw a), vi (obR nw fw a)] (60 : Nat)), ((0 : Nat), Blk.row true [IntKind.u64] ew nw cw fw)], next := (2 : Nat) }) (y0) (y1)) ∧ (K y0 y1))))) else q9))))))))) else q9)); (T0 ∧ (((0 : Nat) + nw ≤ nw) ∧ (T0 ∧ (((@Eq Nat ((0 : Nat)) ((0 : Nat))) ∧ ((nw ≤ (100000 : Nat)) ∧ (nw ≤ cw))) ∧ (((@Eq (List IntKind) ([IntKind.u64]) ([IntKind.u64])) ∧ ((@Eq Nat (nw) (nw)) ∧ (@Eq Nat (cw) (cw)))) ∧ (eB ∧ ((Ok64 nw fw) ∧ (t3 (if (@Eq Int (obE nw fw a) ((0 : Int))) then (T0 ∧ (if (x < (0 : Int)) then q8 else (t2 (if (obP nw fw a ≤ x) then q8 else q10)))) else q10)))))))))
theorem okp_rE (ew nw cw : Nat) (fw : RF) (a : Int) (x : Int) (K : Value → List Blk → Prop) : okp_rV ew nw cw fw a x K = bodyX (mk XS) (callN (mk XS) 6) (okp_rA ew nw cw fw a x) Try.f53 [rsl 0 0 nw cw, .int .i64 a, .int .i64 x] (stOf [.row true [.u64] ew nw cw fw]) (Fd 1 K) := by kernel_rfl
set_option tactic.hygienic false in
theorem okp_rP (ew nw cw : Nat) (fw : RF) (a : Int) (x : Int) (K : Value → List Blk → Prop)  (hnw : nw ≤ 100000) (hcw : nw ≤ cw) (hU : Ok64 nw fw) (h : K (.tuple ⟨[.int .i64 (ptV nw fw a x), .int .i64 (ptE nw fw a x)]⟩) []) : okp_rV ew nw cw fw a x K := by
  unfold okp_rV
  conv => zeta
  have z0 := ar_cases nw fw
  have z1 := ob_cases hU a
  have z2 := fun (h1 : 0 ≤ a) (h2 : a < nw) => hU.at h1 h2
  have z3 := pt_cases nw fw a x
  have z4 := fun (h1 : 0 ≤ a + 1 + x) (h2 : a + 1 + x < nw) => hU.at h1 h2
  repeat' (first | (with_reducible exact rfl) | (with_reducible exact trivial) | (with_reducible refine And.intro ?_ ?_) | (intro) | (with_reducible refine br_d (fun hq => ?_) (fun hq => ?_)) | (with_reducible refine br_nd (fun hq => ?_) (fun hq => ?_)) | (with_reducible refine br_intro (fun hq => ?_) (fun hq => ?_)) | (with_reducible refine if_both (fun hz => ?_) (fun hz => ?_)) | fail)

  all_goals first
    | (with_reducible assumption)
    | (refine (id ?_ : ∃ (v1 : Value) (news : List Blk), _)
       first
        | contradiction
        | exact fin0 (by kernel_rfl) (by kernel_rfl) h
        | exact fin0 (by kernel_rfl) (by kernel_rfl) (fin0i (by omega) h)
        | exact fin0 (by kernel_rfl) (by kernel_rfl) (fin0p (by omega) (by omega) h)
        | exact fin0 (by kernel_rfl) (by kernel_rfl) (fin0u (by omega) (by omega) h)
        | exact fin0 (by kernel_rfl) (by kernel_rfl) (fin0s (by omega) (by omega) (by omega) h)
        | exact fin0 (by kernel_rfl) (by kernel_rfl) (fin0n (by omega) h)
        | (exfalso; simp at hq; omega)
        | (exfalso; omega)
       )
    | omega
    | contradiction
    | exact fin0 (by kernel_rfl) (by kernel_rfl) h
    | exact fin0 (by kernel_rfl) (by kernel_rfl) (fin0i (by omega) h)
    | exact fin0 (by kernel_rfl) (by kernel_rfl) (fin0p (by omega) (by omega) h)
    | exact fin0 (by kernel_rfl) (by kernel_rfl) (fin0u (by omega) (by omega) h)
    | exact fin0 (by kernel_rfl) (by kernel_rfl) (fin0s (by omega) (by omega) (by omega) h)
    | exact fin0 (by kernel_rfl) (by kernel_rfl) (fin0n (by omega) h)
    | (exfalso; simp at hq; omega)
    | (exfalso; omega)
theorem okp_ok : BodyOk (mk XS) 6 Try.f53 okp := by
  intro vs bs K hh hro
  clear hro
  unfold okp at hh
  split at hh
  · rename_i vw a x
    rcases parseQ_inv hh with ⟨rfl, hh0⟩ | ⟨ew, nw, cw, fw, btw, rfl, hnw, hcw, rfl, hh0⟩ <;> clear hh
    · obtain ⟨rfl, hU, hc⟩ := hh0
      exact ⟨_, _, cast (okp_nE  a x K) (okp_nP  a x K  hU hc)⟩
    · obtain ⟨rfl, hU, hc⟩ := hh0
      exact ⟨_, _, cast (okp_rE ew nw cw fw a x K) (okp_rP ew nw cw fw a x K hnw hcw hU hc)⟩
  · exact hh.elim
theorem okp_told : Told 53 (specOf okp) := told (X := XS) XS_told (by kernel_rfl) (by kernel_rfl) (by kernel_rfl) okp_ok
def okr_nV (a : Int) (x : Int) (K : Value → List Blk → Prop) : Prop := (t3 (eB ∧ ((Ok64 (0 : Nat) zF) ∧ (t4 (∃ y0 : Value, (∃ y1 : List Blk, ((Go.Rx.Found 0 (Value.tuple { toList := [Value.int IntKind.u64 (0 : Int), vi (obE (0 : Nat) zF a)] }) ({ h := [((0 : Nat), Blk.cells [vi (obP (0 : Nat) zF a), vi (obR (0 : Nat) zF a)] (60 : Nat))], next := (1 : Nat) }) (y0) (y1)) ∧ (K y0 y1))))))))
theorem okr_nE (a : Int) (x : Int) (K : Value → List Blk → Prop) : okr_nV a x K = bodyX (mk XS) (callN (mk XS) 6) (okr_nA a x) Try.f55 [.slice none 0 0, .int .i64 a, .int .i64 x] (stOf []) (Fd 0 K) := by kernel_rfl
set_option tactic.hygienic false in
theorem okr_nP (a : Int) (x : Int) (K : Value → List Blk → Prop)  (hU : Ok64 0 zF) (h : K (.tuple ⟨[.int .u64 (rwV 0 zF a x), .int .i64 (rwE 0 zF a x)]⟩) []) : okr_nV a x K := by
  unfold okr_nV
  have z0 := ar_cases 0 zF
  have z1 := ob_cases hU a
  have z2 := fun (h1 : 0 ≤ a) (h2 : a < 0) => hU.at h1 h2
  have z3 := rw_cases 0 zF a x
  repeat' (first | (with_reducible exact rfl) | (with_reducible exact trivial) | (with_reducible refine And.intro ?_ ?_) | (intro) | (with_reducible refine br_d (fun hq => ?_) (fun hq => ?_)) | (with_reducible refine br_nd (fun hq => ?_) (fun hq => ?_)) | (with_reducible refine br_intro (fun hq => ?_) (fun hq => ?_)) | (with_reducible refine if_both (fun hz => ?_) (fun hz => ?_)) | fail)

  all_goals first
    | (with_reducible assumption)
    | (refine (id ?_ : ∃ (v1 : Value) (news : List Blk), _)
       first
        | contradiction
        | exact fin0 (by kernel_rfl) (by kernel_rfl) h
        | exact fin0 (by kernel_rfl) (by kernel_rfl) (fin0i (by omega) h)
        | exact fin0 (by kernel_rfl) (by kernel_rfl) (fin0p (by omega) (by omega) h)
        | exact fin0 (by kernel_rfl) (by kernel_rfl) (fin0u (by omega) (by omega) h)
        | exact fin0 (by kernel_rfl) (by kernel_rfl) (fin0s (by omega) (by omega) (by omega) h)
        | exact fin0 (by kernel_rfl) (by kernel_rfl) (fin0n (by omega) h)
        | (exfalso; simp at hq; omega)
        | (exfalso; omega)
       )
    | omega
    | contradiction
    | exact fin0 (by kernel_rfl) (by kernel_rfl) h
    | exact fin0 (by kernel_rfl) (by kernel_rfl) (fin0i (by omega) h)
    | exact fin0 (by kernel_rfl) (by kernel_rfl) (fin0p (by omega) (by omega) h)
    | exact fin0 (by kernel_rfl) (by kernel_rfl) (fin0u (by omega) (by omega) h)
    | exact fin0 (by kernel_rfl) (by kernel_rfl) (fin0s (by omega) (by omega) (by omega) h)
    | exact fin0 (by kernel_rfl) (by kernel_rfl) (fin0n (by omega) h)
    | (exfalso; simp at hq; omega)
    | (exfalso; omega)
def okr_rV (ew nw cw : Nat) (fw : RF) (a : Int) (x : Int) (K : Value → List Blk → Prop) : Prop := let q0 := (9223372036854775807 : Int); let q1 := (-9223372036854775808 : Int); let q2 := (a + (1 : Int) + obP nw fw a + x); let q3 := (T0 ∧ (∃ y0 : Value, (∃ y1 : List Blk, ((Go.Rx.Found 1 (Value.tuple { toList := [Value.int IntKind.u64 (0 : Int), vi (10 : Int)] }) ({ h := [((1 : Nat), Blk.cells [vi (obP nw fw a), vi (obR nw fw a)] (60 : Nat)), ((0 : Nat), Blk.row true [IntKind.u64] ew nw cw fw)], next := (2 : Nat) }) (y0) (y1)) ∧ (K y0 y1))))); let q4 := (T0 ∧ (if (@Eq Int (obE nw fw a) ((0 : Int))) then (T0 ∧ (((q1 ≤ a + (1 : Int)) ∧ (a + (1 : Int) ≤ q0)) ∧ (t2 (((q1 ≤ a + (1 : Int) + obP nw fw a) ∧ (a + (1 : Int) + obP nw fw a ≤ q0)) ∧ (T0 ∧ (((q1 ≤ a + (1 : Int) + obP nw fw a + x) ∧ (a + (1 : Int) + obP nw fw a + x ≤ q0)) ∧ ((TS ∧ (@Eq Nat ((1 : Nat)) ((1 : Nat)))) ∧ ((((0 : Int) ≤ a + (1 : Int) + obP nw fw a + x) ∧ (a + (1 : Int) + obP nw fw a + x < (↑nw : Int))) ∧ ((Int.toNat q2 < nw) ∧ (∃ y0 : Value, (∃ y1 : List Blk, ((Go.Rx.Found 1 (Value.tuple { toList := [Value.int IntKind.u64 (fw (Int.toNat q2) (0 : Nat)), vi (0 : Int)] }) ({ h := [((1 : Nat), Blk.cells [vi (obP nw fw a), vi (obR nw fw a)] (60 : Nat)), ((0 : Nat), Blk.row true [IntKind.u64] ew nw cw fw)], next := (2 : Nat) }) (y0) (y1)) ∧ (K y0 y1))))))))))))) else (∃ y0 : Value, (∃ y1 : List Blk, ((Go.Rx.Found 1 (Value.tuple { toList := [Value.int IntKind.u64 (0 : Int), vi (obE nw fw a)] }) ({ h := [((1 : Nat), Blk.cells [vi (obP nw fw a), vi (obR nw fw a)] (60 : Nat)), ((0 : Nat), Blk.row true [IntKind.u64] ew nw cw fw)], next := (2 : Nat) }) (y0) (y1)) ∧ (K y0 y1)))))); (T0 ∧ (((0 : Nat) + nw ≤ nw) ∧ (T0 ∧ (((@Eq Nat ((0 : Nat)) ((0 : Nat))) ∧ ((nw ≤ (100000 : Nat)) ∧ (nw ≤ cw))) ∧ (((@Eq (List IntKind) ([IntKind.u64]) ([IntKind.u64])) ∧ ((@Eq Nat (nw) (nw)) ∧ (@Eq Nat (cw) (cw)))) ∧ (eB ∧ ((Ok64 nw fw) ∧ (t3 (if (@Eq Int (obE nw fw a) ((0 : Int))) then (T0 ∧ (if (x < (0 : Int)) then q3 else (t2 (if (obR nw fw a ≤ x) then q3 else q4)))) else q4)))))))))
theorem okr_rE (ew nw cw : Nat) (fw : RF) (a : Int) (x : Int) (K : Value → List Blk → Prop) : okr_rV ew nw cw fw a x K = bodyX (mk XS) (callN (mk XS) 6) (okr_rA ew nw cw fw a x) Try.f55 [rsl 0 0 nw cw, .int .i64 a, .int .i64 x] (stOf [.row true [.u64] ew nw cw fw]) (Fd 1 K) := by kernel_rfl
set_option tactic.hygienic false in
theorem okr_rP (ew nw cw : Nat) (fw : RF) (a : Int) (x : Int) (K : Value → List Blk → Prop)  (hnw : nw ≤ 100000) (hcw : nw ≤ cw) (hU : Ok64 nw fw) (h : K (.tuple ⟨[.int .u64 (rwV nw fw a x), .int .i64 (rwE nw fw a x)]⟩) []) : okr_rV ew nw cw fw a x K := by
  unfold okr_rV
  conv => zeta
  have z0 := ar_cases nw fw
  have z1 := ob_cases hU a
  have z2 := fun (h1 : 0 ≤ a) (h2 : a < nw) => hU.at h1 h2
  have z3 := rw_cases nw fw a x
  repeat' (first | (with_reducible exact rfl) | (with_reducible exact trivial) | (with_reducible refine And.intro ?_ ?_) | (intro) | (with_reducible refine br_d (fun hq => ?_) (fun hq => ?_)) | (with_reducible refine br_nd (fun hq => ?_) (fun hq => ?_)) | (with_reducible refine br_intro (fun hq => ?_) (fun hq => ?_)) | (with_reducible refine if_both (fun hz => ?_) (fun hz => ?_)) | fail)

  all_goals first
    | (with_reducible assumption)
    | (refine (id ?_ : ∃ (v1 : Value) (news : List Blk), _)
       first
        | contradiction
        | exact fin0 (by kernel_rfl) (by kernel_rfl) h
        | exact fin0 (by kernel_rfl) (by kernel_rfl) (fin0i (by omega) h)
        | exact fin0 (by kernel_rfl) (by kernel_rfl) (fin0p (by omega) (by omega) h)
        | exact fin0 (by kernel_rfl) (by kernel_rfl) (fin0u (by omega) (by omega) h)
        | exact fin0 (by kernel_rfl) (by kernel_rfl) (fin0s (by omega) (by omega) (by omega) h)
        | exact fin0 (by kernel_rfl) (by kernel_rfl) (fin0n (by omega) h)
        | (exfalso; simp at hq; omega)
        | (exfalso; omega)
       )
    | omega
    | contradiction
    | exact fin0 (by kernel_rfl) (by kernel_rfl) h
    | exact fin0 (by kernel_rfl) (by kernel_rfl) (fin0i (by omega) h)
    | exact fin0 (by kernel_rfl) (by kernel_rfl) (fin0p (by omega) (by omega) h)
    | exact fin0 (by kernel_rfl) (by kernel_rfl) (fin0u (by omega) (by omega) h)
    | exact fin0 (by kernel_rfl) (by kernel_rfl) (fin0s (by omega) (by omega) (by omega) h)
    | exact fin0 (by kernel_rfl) (by kernel_rfl) (fin0n (by omega) h)
    | (exfalso; simp at hq; omega)
    | (exfalso; omega)
theorem okr_ok : BodyOk (mk XS) 6 Try.f55 okr := by
  intro vs bs K hh hro
  clear hro
  unfold okr at hh
  split at hh
  · rename_i vw a x
    rcases parseQ_inv hh with ⟨rfl, hh0⟩ | ⟨ew, nw, cw, fw, btw, rfl, hnw, hcw, rfl, hh0⟩ <;> clear hh
    · obtain ⟨rfl, hU, hc⟩ := hh0
      exact ⟨_, _, cast (okr_nE  a x K) (okr_nP  a x K  hU hc)⟩
    · obtain ⟨rfl, hU, hc⟩ := hh0
      exact ⟨_, _, cast (okr_rE ew nw cw fw a x K) (okr_rP ew nw cw fw a x K hnw hcw hU hc)⟩
  · exact hh.elim
theorem okr_told : Told 55 (specOf okr) := told (X := XS) XS_told (by kernel_rfl) (by kernel_rfl) (by kernel_rfl) okr_ok
end Go.Proofs.Ytfgeoglegebncaa.Fr
namespace Go.Proofs.Ytfgeoglegebncaa.Fr
set_option maxRecDepth 100000
set_option maxHeartbeats 4000000
open Go.Rx
open Go.RowKit (Below)
set_option linter.unusedVariables false
def idR (b n : Nat) : List (Nat × Nat) := (List.range' b (n - b)).map fun i => (i, i)
theorem app1P {v : Int} {P : Nat → Int → Prop} (h : P 0 v) : ∀ i, i < 1 → P i (appF (fun _ _ => 0) 0 (litF 1 [v]) 0 i 0) := fun i hi => by
  obtain rfl : i = 0 := by omega
  simpa [appF, litF] using h
theorem appSP {f : RF} {k : Nat} {v : Int} {P : Nat → Int → Prop} (hf : ∀ i, i < k → P i (f i 0)) (h : P k v) : ∀ i, i < k + 1 → P i (appF f k (litF 1 [v]) 0 i 0) := fun i hi => by
  unfold appF
  split
  · exact hf i (by assumption)
  · obtain rfl : i = k := by omega
    simpa [litF] using h
/-- The slots of an object; what its pointer fields hold. -/
theorem obP_pos {n : Nat} {f : RF} (hU : Ok64 n f) (a : Int) : 0 ≤ obP n f a := by
  have := ob_cases hU a
  omega
def ptF (f : RF) (a : Int) : RF := fun i _ => f (Int.toNat (a + 1 + (i : Int))) 0
def allP (n : Nat) (f : RF) (a : Int) : Prop := ∀ i : Nat, i < (obP n f a).toNat → f (Int.toNat (a + 1 + (i : Int))) 0 ≤ 1600
/-- Two objects: the error; are they alike? -/
def alE (n : Nat) (f : RF) (a b : Int) : Int := if obE n f a = 0 then obE n f b else obE n f a
theorem al_cases (n : Nat) (f : RF) (a b : Int) : (¬ obE n f a = 0 ∧ alE n f a b = obE n f a) ∨ (obE n f a = 0 ∧ alE n f a b = obE n f b) := by
  unfold alE
  split
  · exact .inr ⟨by assumption, rfl⟩
  · exact .inl ⟨by assumption, rfl⟩
def alP (f : RF) (a b : Int) : Prop := hsP (f a.toNat 0) = hsP (f b.toNat 0) ∧ hsR (f a.toNat 0) = hsR (f b.toNat 0) ∧ ∀ i : Nat, i < (hsR (f a.toNat 0)).toNat → f ((a + 1 + hsP (f a.toNat 0)).toNat + i) 0 = f ((b + 1 + hsP (f b.toNat 0)).toNat + i) 0
end Go.Proofs.Ytfgeoglegebncaa.Fr
