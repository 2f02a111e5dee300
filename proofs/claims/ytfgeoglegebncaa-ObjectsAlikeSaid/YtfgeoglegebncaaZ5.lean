/-
  The program's tables, as the calculus takes them. No project text.
-/
import Derived.Test.YtfgeoglegebncaaZ4
import Derived.Test.YtfgeoglegebncaaChecked
namespace Go.Proofs.Ytfgeoglegebncaa.Fr
set_option maxRecDepth 100000
set_option maxHeartbeats 4000000
open Go.Rx
abbrev T0 : Prop := true = true
abbrev t2 (p : Prop) : Prop := T0 ∧ T0 ∧ p
abbrev t3 (p : Prop) : Prop := T0 ∧ T0 ∧ T0 ∧ p
abbrev t4 (p : Prop) : Prop := T0 ∧ T0 ∧ T0 ∧ T0 ∧ p
abbrev t5 (p : Prop) : Prop := T0 ∧ T0 ∧ T0 ∧ T0 ∧ T0 ∧ p
abbrev t6 (p : Prop) : Prop := T0 ∧ T0 ∧ T0 ∧ T0 ∧ T0 ∧ T0 ∧ p
abbrev t7 (p : Prop) : Prop := T0 ∧ T0 ∧ T0 ∧ T0 ∧ T0 ∧ T0 ∧ T0 ∧ p
abbrev t8 (p : Prop) : Prop := T0 ∧ T0 ∧ T0 ∧ T0 ∧ T0 ∧ T0 ∧ T0 ∧ T0 ∧ p
abbrev t9 (p : Prop) : Prop := T0 ∧ T0 ∧ T0 ∧ T0 ∧ T0 ∧ T0 ∧ T0 ∧ T0 ∧ T0 ∧ p
abbrev TS : Prop := @Eq Ev.TK Ev.TK.slice Ev.TK.slice
abbrev vi (z : Int) : Value := .int .i64 z
abbrev vn : Value := .slice none 0 0
abbrev eN (n : Nat) : Prop := n = n
abbrev k2 : List IntKind := [.i64, .i64]
abbrev eK : Prop := k2 = k2
abbrev eB : Prop := @Eq (List Blk) [] []
abbrev rF (e n c : Nat) (f : Nat → Nat → Int) : Blk := .row false [.i64, .i64] e n c f
abbrev rT (e n c : Nat) (f : Nat → Nat → Int) : Blk := .row true [.i64, .i64] e n c f
abbrev Fd (m : Nat) (K : Value → List Blk → Prop) : KV := fun v s' => ∃ v1 news, Rx.Found m v s' v1 news ∧ K v1 news
open Go.Rx
open Go.RowKit (Below)
set_option linter.unusedVariables false
def T : List (Nat × Ev.TI) := [
  (3, { size := (1 : Nat), bytes := (8 : Nat), agg := false, zero := some [Value.int IntKind.i64 (0 : Int)], zval := some (Value.int IntKind.i64 (0 : Int)), kind := Ev.TK.int IntKind.i64, fields := [], len := (0 : Nat), elem := (0 : Nat), eagg := false, esize := (1 : Nat), kk := Ev.TK.other }),
  (4, { size := (1 : Nat), bytes := (1 : Nat), agg := false, zero := some [Value.bool false], zval := some (Value.bool false), kind := Ev.TK.other, fields := [], len := (0 : Nat), elem := (0 : Nat), eagg := false, esize := (1 : Nat), kk := Ev.TK.other }),
  (5, { size := (1 : Nat), bytes := (1 : Nat), agg := false, zero := some [Value.int IntKind.u8 (0 : Int)], zval := some (Value.int IntKind.u8 (0 : Int)), kind := Ev.TK.int IntKind.u8, fields := [], len := (0 : Nat), elem := (0 : Nat), eagg := false, esize := (1 : Nat), kk := Ev.TK.other }),
  (22, { size := (5 : Nat), bytes := (40 : Nat), agg := true, zero := some [Value.int IntKind.i64 (0 : Int), Value.int IntKind.i64 (0 : Int), Value.int IntKind.i64 (0 : Int), Value.int IntKind.i64 (0 : Int), Value.int IntKind.i64 (0 : Int)], zval := some (Value.agg { toList := [Value.int IntKind.i64 (0 : Int), Value.int IntKind.i64 (0 : Int), Value.int IntKind.i64 (0 : Int), Value.int IntKind.i64 (0 : Int), Value.int IntKind.i64 (0 : Int)] }), kind := Ev.TK.struct, fields := [((0 : Nat), false, (1 : Nat)), ((1 : Nat), false, (1 : Nat)), ((2 : Nat), false, (1 : Nat)), ((3 : Nat), false, (1 : Nat)), ((4 : Nat), false, (1 : Nat))], len := (0 : Nat), elem := (0 : Nat), eagg := false, esize := (1 : Nat), kk := Ev.TK.other }),
  (23, { size := (5 : Nat), bytes := (40 : Nat), agg := true, zero := some [Value.int IntKind.i64 (0 : Int), Value.int IntKind.i64 (0 : Int), Value.int IntKind.i64 (0 : Int), Value.int IntKind.i64 (0 : Int), Value.int IntKind.i64 (0 : Int)], zval := some (Value.agg { toList := [Value.int IntKind.i64 (0 : Int), Value.int IntKind.i64 (0 : Int), Value.int IntKind.i64 (0 : Int), Value.int IntKind.i64 (0 : Int), Value.int IntKind.i64 (0 : Int)] }), kind := Ev.TK.struct, fields := [((0 : Nat), false, (1 : Nat)), ((1 : Nat), false, (1 : Nat)), ((2 : Nat), false, (1 : Nat)), ((3 : Nat), false, (1 : Nat)), ((4 : Nat), false, (1 : Nat))], len := (0 : Nat), elem := (0 : Nat), eagg := false, esize := (1 : Nat), kk := Ev.TK.other }),
  (24, { size := (1 : Nat), bytes := (24 : Nat), agg := false, zero := some [Value.slice none (0 : Nat) (0 : Nat)], zval := some (Value.slice none (0 : Nat) (0 : Nat)), kind := Ev.TK.slice, fields := [], len := (0 : Nat), elem := (25 : Nat), eagg := false, esize := (1 : Nat), kk := Ev.TK.other }),
  (25, { size := (1 : Nat), bytes := (8 : Nat), agg := false, zero := some [Value.int IntKind.u64 (0 : Int)], zval := some (Value.int IntKind.u64 (0 : Int)), kind := Ev.TK.int IntKind.u64, fields := [], len := (0 : Nat), elem := (0 : Nat), eagg := false, esize := (1 : Nat), kk := Ev.TK.other }),
  (26, { size := (2 : Nat), bytes := (16 : Nat), agg := true, zero := some [Value.int IntKind.i64 (0 : Int), Value.int IntKind.u64 (0 : Int)], zval := some (Value.agg { toList := [Value.int IntKind.i64 (0 : Int), Value.int IntKind.u64 (0 : Int)] }), kind := Ev.TK.struct, fields := [((0 : Nat), false, (1 : Nat)), ((1 : Nat), false, (1 : Nat))], len := (0 : Nat), elem := (0 : Nat), eagg := false, esize := (1 : Nat), kk := Ev.TK.other }),
  (27, { size := (2 : Nat), bytes := (16 : Nat), agg := true, zero := some [Value.int IntKind.i64 (0 : Int), Value.int IntKind.u64 (0 : Int)], zval := some (Value.agg { toList := [Value.int IntKind.i64 (0 : Int), Value.int IntKind.u64 (0 : Int)] }), kind := Ev.TK.struct, fields := [((0 : Nat), false, (1 : Nat)), ((1 : Nat), false, (1 : Nat))], len := (0 : Nat), elem := (0 : Nat), eagg := false, esize := (1 : Nat), kk := Ev.TK.other }),
  (29, { size := (1 : Nat), bytes := (8 : Nat), agg := false, zero := some [Value.int IntKind.i64 (0 : Int)], zval := some (Value.int IntKind.i64 (0 : Int)), kind := Ev.TK.int IntKind.i64, fields := [], len := (0 : Nat), elem := (0 : Nat), eagg := false, esize := (1 : Nat), kk := Ev.TK.other }),
  (38, { size := (3 : Nat), bytes := (24 : Nat), agg := true, zero := some [Value.int IntKind.i64 (0 : Int), Value.int IntKind.i64 (0 : Int), Value.int IntKind.i64 (0 : Int)], zval := some (Value.agg { toList := [Value.int IntKind.i64 (0 : Int), Value.int IntKind.i64 (0 : Int), Value.int IntKind.i64 (0 : Int)] }), kind := Ev.TK.array, fields := [], len := (3 : Nat), elem := (3 : Nat), eagg := false, esize := (1 : Nat), kk := Ev.TK.other }),
  (43, { size := (1 : Nat), bytes := (24 : Nat), agg := false, zero := some [Value.slice none (0 : Nat) (0 : Nat)], zval := some (Value.slice none (0 : Nat) (0 : Nat)), kind := Ev.TK.slice, fields := [], len := (0 : Nat), elem := (3 : Nat), eagg := false, esize := (1 : Nat), kk := Ev.TK.other }),
  (48, { size := (1 : Nat), bytes := (24 : Nat), agg := false, zero := some [Value.slice none (0 : Nat) (0 : Nat)], zval := some (Value.slice none (0 : Nat) (0 : Nat)), kind := Ev.TK.slice, fields := [], len := (0 : Nat), elem := (56 : Nat), eagg := true, esize := (5 : Nat), kk := Ev.TK.other }),
  (49, { size := (2 : Nat), bytes := (16 : Nat), agg := true, zero := some [Value.int IntKind.i64 (0 : Int), Value.int IntKind.i64 (0 : Int)], zval := some (Value.agg { toList := [Value.int IntKind.i64 (0 : Int), Value.int IntKind.i64 (0 : Int)] }), kind := Ev.TK.struct, fields := [((0 : Nat), false, (1 : Nat)), ((1 : Nat), false, (1 : Nat))], len := (0 : Nat), elem := (0 : Nat), eagg := false, esize := (1 : Nat), kk := Ev.TK.other }),
  (50, { size := (2 : Nat), bytes := (16 : Nat), agg := true, zero := some [Value.int IntKind.i64 (0 : Int), Value.int IntKind.i64 (0 : Int)], zval := some (Value.agg { toList := [Value.int IntKind.i64 (0 : Int), Value.int IntKind.i64 (0 : Int)] }), kind := Ev.TK.struct, fields := [((0 : Nat), false, (1 : Nat)), ((1 : Nat), false, (1 : Nat))], len := (0 : Nat), elem := (0 : Nat), eagg := false, esize := (1 : Nat), kk := Ev.TK.other }),
  (55, { size := (5 : Nat), bytes := (40 : Nat), agg := true, zero := some [Value.int IntKind.i64 (0 : Int), Value.int IntKind.i64 (0 : Int), Value.int IntKind.i64 (0 : Int), Value.int IntKind.i64 (0 : Int), Value.int IntKind.u64 (0 : Int)], zval := some (Value.agg { toList := [Value.int IntKind.i64 (0 : Int), Value.int IntKind.i64 (0 : Int), Value.int IntKind.i64 (0 : Int), Value.int IntKind.i64 (0 : Int), Value.int IntKind.u64 (0 : Int)] }), kind := Ev.TK.struct, fields := [((0 : Nat), false, (1 : Nat)), ((1 : Nat), false, (1 : Nat)), ((2 : Nat), false, (1 : Nat)), ((3 : Nat), false, (1 : Nat)), ((4 : Nat), false, (1 : Nat))], len := (0 : Nat), elem := (0 : Nat), eagg := false, esize := (1 : Nat), kk := Ev.TK.other }),
  (56, { size := (5 : Nat), bytes := (40 : Nat), agg := true, zero := some [Value.int IntKind.i64 (0 : Int), Value.int IntKind.i64 (0 : Int), Value.int IntKind.i64 (0 : Int), Value.int IntKind.i64 (0 : Int), Value.int IntKind.u64 (0 : Int)], zval := some (Value.agg { toList := [Value.int IntKind.i64 (0 : Int), Value.int IntKind.i64 (0 : Int), Value.int IntKind.i64 (0 : Int), Value.int IntKind.i64 (0 : Int), Value.int IntKind.u64 (0 : Int)] }), kind := Ev.TK.struct, fields := [((0 : Nat), false, (1 : Nat)), ((1 : Nat), false, (1 : Nat)), ((2 : Nat), false, (1 : Nat)), ((3 : Nat), false, (1 : Nat)), ((4 : Nat), false, (1 : Nat))], len := (0 : Nat), elem := (0 : Nat), eagg := false, esize := (1 : Nat), kk := Ev.TK.other }),
  (59, { size := (2 : Nat), bytes := (16 : Nat), agg := true, zero := some [Value.int IntKind.i64 (0 : Int), Value.int IntKind.i64 (0 : Int)], zval := some (Value.agg { toList := [Value.int IntKind.i64 (0 : Int), Value.int IntKind.i64 (0 : Int)] }), kind := Ev.TK.struct, fields := [((0 : Nat), false, (1 : Nat)), ((1 : Nat), false, (1 : Nat))], len := (0 : Nat), elem := (0 : Nat), eagg := false, esize := (1 : Nat), kk := Ev.TK.other }),
  (60, { size := (2 : Nat), bytes := (16 : Nat), agg := true, zero := some [Value.int IntKind.i64 (0 : Int), Value.int IntKind.i64 (0 : Int)], zval := some (Value.agg { toList := [Value.int IntKind.i64 (0 : Int), Value.int IntKind.i64 (0 : Int)] }), kind := Ev.TK.struct, fields := [((0 : Nat), false, (1 : Nat)), ((1 : Nat), false, (1 : Nat))], len := (0 : Nat), elem := (0 : Nat), eagg := false, esize := (1 : Nat), kk := Ev.TK.other }),
  (69, { size := (2 : Nat), bytes := (16 : Nat), agg := true, zero := some [Value.int IntKind.i64 (0 : Int), Value.int IntKind.i64 (0 : Int)], zval := some (Value.agg { toList := [Value.int IntKind.i64 (0 : Int), Value.int IntKind.i64 (0 : Int)] }), kind := Ev.TK.array, fields := [], len := (2 : Nat), elem := (3 : Nat), eagg := false, esize := (1 : Nat), kk := Ev.TK.other }),
  (73, { size := (4 : Nat), bytes := (32 : Nat), agg := true, zero := some [Value.int IntKind.i64 (0 : Int), Value.int IntKind.i64 (0 : Int), Value.int IntKind.i64 (0 : Int), Value.int IntKind.u64 (0 : Int)], zval := some (Value.agg { toList := [Value.int IntKind.i64 (0 : Int), Value.int IntKind.i64 (0 : Int), Value.int IntKind.i64 (0 : Int), Value.int IntKind.u64 (0 : Int)] }), kind := Ev.TK.struct, fields := [((0 : Nat), false, (1 : Nat)), ((1 : Nat), false, (1 : Nat)), ((2 : Nat), false, (1 : Nat)), ((3 : Nat), false, (1 : Nat))], len := (0 : Nat), elem := (0 : Nat), eagg := false, esize := (1 : Nat), kk := Ev.TK.other }),
  (74, { size := (4 : Nat), bytes := (32 : Nat), agg := true, zero := some [Value.int IntKind.i64 (0 : Int), Value.int IntKind.i64 (0 : Int), Value.int IntKind.i64 (0 : Int), Value.int IntKind.u64 (0 : Int)], zval := some (Value.agg { toList := [Value.int IntKind.i64 (0 : Int), Value.int IntKind.i64 (0 : Int), Value.int IntKind.i64 (0 : Int), Value.int IntKind.u64 (0 : Int)] }), kind := Ev.TK.struct, fields := [((0 : Nat), false, (1 : Nat)), ((1 : Nat), false, (1 : Nat)), ((2 : Nat), false, (1 : Nat)), ((3 : Nat), false, (1 : Nat))], len := (0 : Nat), elem := (0 : Nat), eagg := false, esize := (1 : Nat), kk := Ev.TK.other }),
  (86, { size := (1 : Nat), bytes := (24 : Nat), agg := false, zero := some [Value.slice none (0 : Nat) (0 : Nat)], zval := some (Value.slice none (0 : Nat) (0 : Nat)), kind := Ev.TK.slice, fields := [], len := (0 : Nat), elem := (91 : Nat), eagg := true, esize := (2 : Nat), kk := Ev.TK.other }),
  (90, { size := (2 : Nat), bytes := (16 : Nat), agg := true, zero := some [Value.int IntKind.i64 (0 : Int), Value.int IntKind.i64 (0 : Int)], zval := some (Value.agg { toList := [Value.int IntKind.i64 (0 : Int), Value.int IntKind.i64 (0 : Int)] }), kind := Ev.TK.struct, fields := [((0 : Nat), false, (1 : Nat)), ((1 : Nat), false, (1 : Nat))], len := (0 : Nat), elem := (0 : Nat), eagg := false, esize := (1 : Nat), kk := Ev.TK.other }),
  (91, { size := (2 : Nat), bytes := (16 : Nat), agg := true, zero := some [Value.int IntKind.i64 (0 : Int), Value.int IntKind.i64 (0 : Int)], zval := some (Value.agg { toList := [Value.int IntKind.i64 (0 : Int), Value.int IntKind.i64 (0 : Int)] }), kind := Ev.TK.struct, fields := [((0 : Nat), false, (1 : Nat)), ((1 : Nat), false, (1 : Nat))], len := (0 : Nat), elem := (0 : Nat), eagg := false, esize := (1 : Nat), kk := Ev.TK.other }),
  (103, { size := (1 : Nat), bytes := (24 : Nat), agg := false, zero := some [Value.slice none (0 : Nat) (0 : Nat)], zval := some (Value.slice none (0 : Nat) (0 : Nat)), kind := Ev.TK.slice, fields := [], len := (0 : Nat), elem := (24 : Nat), eagg := false, esize := (1 : Nat), kk := Ev.TK.other }),
  (104, { size := (1 : Nat), bytes := (8 : Nat), agg := false, zero := some [Value.pointer none], zval := some (Value.pointer none), kind := Ev.TK.pointer, fields := [], len := (0 : Nat), elem := (107 : Nat), eagg := true, esize := (4 : Nat), kk := Ev.TK.other }),
  (106, { size := (4 : Nat), bytes := (64 : Nat), agg := true, zero := some [Value.slice none (0 : Nat) (0 : Nat), Value.slice none (0 : Nat) (0 : Nat), Value.int IntKind.i64 (0 : Int), Value.int IntKind.i64 (0 : Int)], zval := some (Value.agg { toList := [Value.slice none (0 : Nat) (0 : Nat), Value.slice none (0 : Nat) (0 : Nat), Value.int IntKind.i64 (0 : Int), Value.int IntKind.i64 (0 : Int)] }), kind := Ev.TK.struct, fields := [((0 : Nat), false, (1 : Nat)), ((1 : Nat), false, (1 : Nat)), ((2 : Nat), true, (2 : Nat))], len := (0 : Nat), elem := (0 : Nat), eagg := false, esize := (1 : Nat), kk := Ev.TK.other }),
  (107, { size := (4 : Nat), bytes := (64 : Nat), agg := true, zero := some [Value.slice none (0 : Nat) (0 : Nat), Value.slice none (0 : Nat) (0 : Nat), Value.int IntKind.i64 (0 : Int), Value.int IntKind.i64 (0 : Int)], zval := some (Value.agg { toList := [Value.slice none (0 : Nat) (0 : Nat), Value.slice none (0 : Nat) (0 : Nat), Value.int IntKind.i64 (0 : Int), Value.int IntKind.i64 (0 : Int)] }), kind := Ev.TK.struct, fields := [((0 : Nat), false, (1 : Nat)), ((1 : Nat), false, (1 : Nat)), ((2 : Nat), true, (2 : Nat))], len := (0 : Nat), elem := (0 : Nat), eagg := false, esize := (1 : Nat), kk := Ev.TK.other }),
  (108, { size := (1 : Nat), bytes := (8 : Nat), agg := false, zero := some [Value.nilFunc], zval := some Value.nilFunc, kind := Ev.TK.func, fields := [], len := (0 : Nat), elem := (0 : Nat), eagg := false, esize := (1 : Nat), kk := Ev.TK.other }),
  (111, { size := (1 : Nat), bytes := (24 : Nat), agg := true, zero := some [Value.slice none (0 : Nat) (0 : Nat)], zval := some (Value.agg { toList := [Value.slice none (0 : Nat) (0 : Nat)] }), kind := Ev.TK.struct, fields := [((0 : Nat), false, (1 : Nat))], len := (0 : Nat), elem := (0 : Nat), eagg := false, esize := (1 : Nat), kk := Ev.TK.other }),
  (112, { size := (1 : Nat), bytes := (24 : Nat), agg := true, zero := some [Value.slice none (0 : Nat) (0 : Nat)], zval := some (Value.agg { toList := [Value.slice none (0 : Nat) (0 : Nat)] }), kind := Ev.TK.struct, fields := [((0 : Nat), false, (1 : Nat))], len := (0 : Nat), elem := (0 : Nat), eagg := false, esize := (1 : Nat), kk := Ev.TK.other }),
  (113, { size := (2 : Nat), bytes := (32 : Nat), agg := true, zero := some [Value.slice none (0 : Nat) (0 : Nat), Value.int IntKind.i64 (0 : Int)], zval := some (Value.agg { toList := [Value.slice none (0 : Nat) (0 : Nat), Value.int IntKind.i64 (0 : Int)] }), kind := Ev.TK.struct, fields := [((0 : Nat), true, (1 : Nat)), ((1 : Nat), false, (1 : Nat))], len := (0 : Nat), elem := (0 : Nat), eagg := false, esize := (1 : Nat), kk := Ev.TK.other }),
  (114, { size := (2 : Nat), bytes := (32 : Nat), agg := true, zero := some [Value.slice none (0 : Nat) (0 : Nat), Value.int IntKind.i64 (0 : Int)], zval := some (Value.agg { toList := [Value.slice none (0 : Nat) (0 : Nat), Value.int IntKind.i64 (0 : Int)] }), kind := Ev.TK.struct, fields := [((0 : Nat), true, (1 : Nat)), ((1 : Nat), false, (1 : Nat))], len := (0 : Nat), elem := (0 : Nat), eagg := false, esize := (1 : Nat), kk := Ev.TK.other }),
  (115, { size := (1 : Nat), bytes := (24 : Nat), agg := true, zero := some [Value.slice none (0 : Nat) (0 : Nat)], zval := some (Value.agg { toList := [Value.slice none (0 : Nat) (0 : Nat)] }), kind := Ev.TK.struct, fields := [((0 : Nat), true, (1 : Nat))], len := (0 : Nat), elem := (0 : Nat), eagg := false, esize := (1 : Nat), kk := Ev.TK.other }),
  (116, { size := (1 : Nat), bytes := (24 : Nat), agg := true, zero := some [Value.slice none (0 : Nat) (0 : Nat)], zval := some (Value.agg { toList := [Value.slice none (0 : Nat) (0 : Nat)] }), kind := Ev.TK.struct, fields := [((0 : Nat), true, (1 : Nat))], len := (0 : Nat), elem := (0 : Nat), eagg := false, esize := (1 : Nat), kk := Ev.TK.other }),
  (117, { size := (5 : Nat), bytes := (72 : Nat), agg := true, zero := some [Value.int IntKind.i64 (0 : Int), Value.int IntKind.i64 (0 : Int), Value.slice none (0 : Nat) (0 : Nat), Value.int IntKind.i64 (0 : Int), Value.slice none (0 : Nat) (0 : Nat)], zval := some (Value.agg { toList := [Value.int IntKind.i64 (0 : Int), Value.int IntKind.i64 (0 : Int), Value.slice none (0 : Nat) (0 : Nat), Value.int IntKind.i64 (0 : Int), Value.slice none (0 : Nat) (0 : Nat)] }), kind := Ev.TK.struct, fields := [((0 : Nat), true, (2 : Nat)), ((2 : Nat), true, (2 : Nat)), ((4 : Nat), true, (1 : Nat))], len := (0 : Nat), elem := (0 : Nat), eagg := false, esize := (1 : Nat), kk := Ev.TK.other }),
  (118, { size := (5 : Nat), bytes := (72 : Nat), agg := true, zero := some [Value.int IntKind.i64 (0 : Int), Value.int IntKind.i64 (0 : Int), Value.slice none (0 : Nat) (0 : Nat), Value.int IntKind.i64 (0 : Int), Value.slice none (0 : Nat) (0 : Nat)], zval := some (Value.agg { toList := [Value.int IntKind.i64 (0 : Int), Value.int IntKind.i64 (0 : Int), Value.slice none (0 : Nat) (0 : Nat), Value.int IntKind.i64 (0 : Int), Value.slice none (0 : Nat) (0 : Nat)] }), kind := Ev.TK.struct, fields := [((0 : Nat), true, (2 : Nat)), ((2 : Nat), true, (2 : Nat)), ((4 : Nat), true, (1 : Nat))], len := (0 : Nat), elem := (0 : Nat), eagg := false, esize := (1 : Nat), kk := Ev.TK.other }),
  (133, { size := (1 : Nat), bytes := (8 : Nat), agg := false, zero := some [Value.map none], zval := some (Value.map none), kind := Ev.TK.map, fields := [], len := (0 : Nat), elem := (3 : Nat), eagg := false, esize := (1 : Nat), kk := Ev.TK.int IntKind.i64 }),
  (134, { size := (1 : Nat), bytes := (24 : Nat), agg := false, zero := some [Value.slice none (0 : Nat) (0 : Nat)], zval := some (Value.slice none (0 : Nat) (0 : Nat)), kind := Ev.TK.slice, fields := [], len := (0 : Nat), elem := (4 : Nat), eagg := false, esize := (1 : Nat), kk := Ev.TK.other }),
  (137, { size := (1 : Nat), bytes := (8 : Nat), agg := false, zero := some [Value.map none], zval := some (Value.map none), kind := Ev.TK.map, fields := [], len := (0 : Nat), elem := (108 : Nat), eagg := false, esize := (1 : Nat), kk := Ev.TK.int IntKind.i64 }),
  (141, { size := (1 : Nat), bytes := (8 : Nat), agg := false, zero := some [Value.int IntKind.u64 (0 : Int)], zval := some (Value.int IntKind.u64 (0 : Int)), kind := Ev.TK.int IntKind.u64, fields := [], len := (0 : Nat), elem := (0 : Nat), eagg := false, esize := (1 : Nat), kk := Ev.TK.other }),
  (145, { size := (1 : Nat), bytes := (8 : Nat), agg := false, zero := some [Value.int IntKind.u64 (0 : Int)], zval := some (Value.int IntKind.u64 (0 : Int)), kind := Ev.TK.int IntKind.u64, fields := [], len := (0 : Nat), elem := (0 : Nat), eagg := false, esize := (1 : Nat), kk := Ev.TK.other }),
  (163, { size := (1 : Nat), bytes := (8 : Nat), agg := false, zero := some [Value.pointer none], zval := some (Value.pointer none), kind := Ev.TK.pointer, fields := [], len := (0 : Nat), elem := (3 : Nat), eagg := false, esize := (1 : Nat), kk := Ev.TK.other }),
  (165, { size := (1 : Nat), bytes := (24 : Nat), agg := false, zero := some [Value.slice none (0 : Nat) (0 : Nat)], zval := some (Value.slice none (0 : Nat) (0 : Nat)), kind := Ev.TK.slice, fields := [], len := (0 : Nat), elem := (170 : Nat), eagg := true, esize := (5 : Nat), kk := Ev.TK.other }),
  (167, { size := (1 : Nat), bytes := (8 : Nat), agg := false, zero := some [Value.nilFunc], zval := some Value.nilFunc, kind := Ev.TK.func, fields := [], len := (0 : Nat), elem := (0 : Nat), eagg := false, esize := (1 : Nat), kk := Ev.TK.other }),
  (168, { size := (1 : Nat), bytes := (8 : Nat), agg := false, zero := some [Value.nilFunc], zval := some Value.nilFunc, kind := Ev.TK.func, fields := [], len := (0 : Nat), elem := (0 : Nat), eagg := false, esize := (1 : Nat), kk := Ev.TK.other }),
  (169, { size := (5 : Nat), bytes := (48 : Nat), agg := true, zero := some [Value.string { data := #[] }, Value.int IntKind.i64 (0 : Int), Value.int IntKind.i64 (0 : Int), Value.nilFunc, Value.nilFunc], zval := some (Value.agg { toList := [Value.string { data := #[] }, Value.int IntKind.i64 (0 : Int), Value.int IntKind.i64 (0 : Int), Value.nilFunc, Value.nilFunc] }), kind := Ev.TK.struct, fields := [((0 : Nat), false, (1 : Nat)), ((1 : Nat), false, (1 : Nat)), ((2 : Nat), false, (1 : Nat)), ((3 : Nat), false, (1 : Nat)), ((4 : Nat), false, (1 : Nat))], len := (0 : Nat), elem := (0 : Nat), eagg := false, esize := (1 : Nat), kk := Ev.TK.other }),
  (170, { size := (5 : Nat), bytes := (48 : Nat), agg := true, zero := some [Value.string { data := #[] }, Value.int IntKind.i64 (0 : Int), Value.int IntKind.i64 (0 : Int), Value.nilFunc, Value.nilFunc], zval := some (Value.agg { toList := [Value.string { data := #[] }, Value.int IntKind.i64 (0 : Int), Value.int IntKind.i64 (0 : Int), Value.nilFunc, Value.nilFunc] }), kind := Ev.TK.struct, fields := [((0 : Nat), false, (1 : Nat)), ((1 : Nat), false, (1 : Nat)), ((2 : Nat), false, (1 : Nat)), ((3 : Nat), false, (1 : Nat)), ((4 : Nat), false, (1 : Nat))], len := (0 : Nat), elem := (0 : Nat), eagg := false, esize := (1 : Nat), kk := Ev.TK.other }),
  (171, { size := (1 : Nat), bytes := (8 : Nat), agg := false, zero := some [Value.pointer none], zval := some (Value.pointer none), kind := Ev.TK.pointer, fields := [], len := (0 : Nat), elem := (23 : Nat), eagg := true, esize := (5 : Nat), kk := Ev.TK.other })]
noncomputable def F : List (Nat × Func) := [(3, Try.f3), (4, Try.f4), (5, Try.f5), (6, Try.f6), (7, Try.f7), (8, Try.f8), (9, Try.f9), (10, Try.f10), (11, Try.f11), (12, Try.f12), (13, Try.f13), (14, Try.f14), (15, Try.f15), (16, Try.f16), (17, Try.f17), (18, Try.f18), (19, Try.f19), (20, Try.f20), (21, Try.f21), (22, Try.f22), (23, Try.f23), (24, Try.f24), (25, Try.f25), (26, Try.f26), (27, Try.f27), (28, Try.f28), (29, Try.f29), (30, Try.f30), (31, Try.f31), (32, Try.f32), (33, Try.f33), (34, Try.f34), (35, Try.f35), (36, Try.f36), (37, Try.f37), (38, Try.f38), (39, Try.f39), (40, Try.f40), (41, Try.f41), (42, Try.f42), (43, Try.f43), (44, Try.f44), (45, Try.f45), (46, Try.f46), (47, Try.f47), (48, Try.f48), (49, Try.f49), (50, Try.f50), (51, Try.f51), (52, Try.f52), (53, Try.f53), (54, Try.f54), (55, Try.f55), (56, Try.f56), (57, Try.f57), (58, Try.f58), (59, Try.f59), (60, Try.f60), (61, Try.f61), (62, Try.f62), (63, Try.f63), (64, Try.f64), (65, Try.f65), (66, Try.f66), (67, Try.f67), (68, Try.f68), (69, Try.f69), (70, Try.f70), (71, Try.f71), (72, Try.f72), (73, Try.f73), (74, Try.f74), (75, Try.f75), (76, Try.f76), (77, Try.f77), (78, Try.f78), (79, Try.f79), (80, Try.f80), (81, Try.f81), (82, Try.f82), (83, Try.f83), (84, Try.f84), (85, Try.f85), (86, Try.f86), (87, Try.f87), (88, Try.f88), (89, Try.f89), (90, Try.f90), (91, Try.f91), (92, Try.f92), (93, Try.f93), (94, Try.f94), (95, Try.f95), (96, Try.f96), (97, Try.f97), (98, Try.f98), (99, Try.f99), (100, Try.f100), (101, Try.f101), (102, Try.f102), (103, Try.f103), (104, Try.f104), (105, Try.f105), (106, Try.f106), (107, Try.f107), (108, Try.f108), (109, Try.f109), (110, Try.f110), (111, Try.f111), (112, Try.f112), (113, Try.f113), (114, Try.f114), (115, Try.f115), (116, Try.f116), (117, Try.f117), (118, Try.f118), (119, Try.f119), (120, Try.f120), (121, Try.f121), (122, Try.f122), (123, Try.f123), (124, Try.f124), (125, Try.f125), (126, Try.f126), (127, Try.f127), (128, Try.f128), (129, Try.f129), (130, Try.f130), (131, Try.f131), (132, Try.f132), (133, Try.f133), (134, Try.f134), (135, Try.f135), (136, Try.f136), (137, Try.f137), (138, Try.f138), (139, Try.f139), (140, Try.f140), (141, Try.f141), (142, Try.f142), (143, Try.f143), (144, Try.f144), (145, Try.f145), (146, Try.f146), (147, Try.f147), (148, Try.f148), (149, Try.f149), (150, Try.f150), (151, Try.f151), (152, Try.f152), (153, Try.f153), (154, Try.f154), (155, Try.f155), (156, Try.f156), (157, Try.f157), (158, Try.f158), (159, Try.f159), (160, Try.f160), (161, Try.f161), (162, Try.f162), (163, Try.f163), (164, Try.f164)]
def Q : List (Nat × List IntKind) := [(60, [.i64, .i64]), (50, [.i64, .i64])]
noncomputable abbrev mk (X : List (Nat × Rx.Spec)) : Env := ⟨Try.prog, T, F, Rx.look X, Q, [4]⟩
theorem qs60 : Ev.QOk Try.prog 60 [.i64, .i64] := by
  intro l m hl hm op x y w ho
  obtain ⟨aa0, aa1, rfl⟩ : ∃ aa0 aa1, l = [aa0, aa1] := by
    match l, hl with
    | [aa0, aa1], _ => exact ⟨aa0, aa1, rfl⟩
  obtain ⟨cc0, cc1, rfl⟩ : ∃ cc0 cc1, m = [cc0, cc1] := by
    match m, hm with
    | [cc0, cc1], _ => exact ⟨cc0, cc1, rfl⟩
  have u3 := Try.underlying3
  have a3 := Try.isAgg3
  have z3 := Try.sizeOf3
  have hS : Try.prog.underlying 60 = some (.struct (Try.prog.fieldsOf 60)) := by kernel_rfl
  have hp : Try.prog.stoodInHeld 60 = false := by kernel_rfl
  have hg : Try.prog.eqGuardType Try.prog.depth 60 = false := by kernel_rfl
  simp only [Ev.ints]
  rw [Sem.run_bind, run_eqGuard_agg w op 60 x y _ _ hg]
  rcases ho with rfl | rfl
  · simp only [Result.andThen_ok]
    rw [run_eql_struct, show (10000 : Nat) = 9999 + 1 from rfl, run_equalIn_agg w 9999 60 _ _ hS hp]
    simp only [Program.fieldsOf, Try.underlying60]
    go_simp
    by_cases h0 : aa0 = cc0 <;> by_cases h1 : aa1 = cc1 <;> simp [h0, h1]
  · simp only [Result.andThen_ok]
    rw [run_neq_struct, show (10000 : Nat) = 9999 + 1 from rfl, run_equalIn_agg w 9999 60 _ _ hS hp]
    simp only [Program.fieldsOf, Try.underlying60]
    go_simp
    by_cases h0 : aa0 = cc0 <;> by_cases h1 : aa1 = cc1 <;> simp [h0, h1]
theorem qs50 : Ev.QOk Try.prog 50 [.i64, .i64] := by
  intro l m hl hm op x y w ho
  obtain ⟨aa0, aa1, rfl⟩ : ∃ aa0 aa1, l = [aa0, aa1] := by
    match l, hl with
    | [aa0, aa1], _ => exact ⟨aa0, aa1, rfl⟩
  obtain ⟨cc0, cc1, rfl⟩ : ∃ cc0 cc1, m = [cc0, cc1] := by
    match m, hm with
    | [cc0, cc1], _ => exact ⟨cc0, cc1, rfl⟩
  have u3 := Try.underlying3
  have a3 := Try.isAgg3
  have z3 := Try.sizeOf3
  have hS : Try.prog.underlying 50 = some (.struct (Try.prog.fieldsOf 50)) := by kernel_rfl
  have hp : Try.prog.stoodInHeld 50 = false := by kernel_rfl
  have hg : Try.prog.eqGuardType Try.prog.depth 50 = false := by kernel_rfl
  simp only [Ev.ints]
  rw [Sem.run_bind, run_eqGuard_agg w op 50 x y _ _ hg]
  rcases ho with rfl | rfl
  · simp only [Result.andThen_ok]
    rw [run_eql_struct, show (10000 : Nat) = 9999 + 1 from rfl, run_equalIn_agg w 9999 50 _ _ hS hp]
    simp only [Program.fieldsOf, Try.underlying50]
    go_simp
    by_cases h0 : aa0 = cc0 <;> by_cases h1 : aa1 = cc1 <;> simp [h0, h1]
  · simp only [Result.andThen_ok]
    rw [run_neq_struct, show (10000 : Nat) = 9999 + 1 from rfl, run_equalIn_agg w 9999 50 _ _ hS hp]
    simp only [Program.fieldsOf, Try.underlying50]
    go_simp
    by_cases h0 : aa0 = cc0 <;> by_cases h1 : aa1 = cc1 <;> simp [h0, h1]
theorem mixed : Try.prog.follows .mixedOrders = true := by kernel_rfl
/-- A function's contract may be used. -/
def Told (f : Nat) (sp : Rx.Spec) : Prop := (∃ fn, Try.prog.funcs[f]? = some fn ∧ fn.body.isSome = true ∧ (fn.name == "runtime.NumGoroutine") = false) ∧ SpecOk Try.prog f sp
theorem mkOk {X : List (Nat × Rx.Spec)} (h : ∀ p ∈ X, Told p.1 p.2) : EnvOk (mk X) where
  types := look_all (q := fun ty i => Ev.mkTI Try.prog ty = some i) (by
    intro p hp
    simp only [T, List.mem_cons, List.not_mem_nil, or_false] at hp
    rcases hp with rfl | rfl | rfl | rfl | rfl | rfl | rfl | rfl | rfl | rfl | rfl | rfl | rfl | rfl | rfl | rfl | rfl | rfl | rfl | rfl | rfl | rfl | rfl | rfl | rfl | rfl | rfl | rfl | rfl | rfl | rfl | rfl | rfl | rfl | rfl | rfl | rfl | rfl | rfl | rfl | rfl | rfl | rfl | rfl | rfl | rfl | rfl | rfl | rfl | rfl <;> kernel_rfl)
  funcs := look_all (q := fun f fn => Try.prog.funcs[f]? = some fn ∧ (fn.name == "runtime.NumGoroutine") = false) (by
    intro p hp
    simp only [F, List.mem_cons, List.not_mem_nil, or_false] at hp
    rcases hp with rfl | rfl | rfl | rfl | rfl | rfl | rfl | rfl | rfl | rfl | rfl | rfl | rfl | rfl | rfl | rfl | rfl | rfl | rfl | rfl | rfl | rfl | rfl | rfl | rfl | rfl | rfl | rfl | rfl | rfl | rfl | rfl | rfl | rfl | rfl | rfl | rfl | rfl | rfl | rfl | rfl | rfl | rfl | rfl | rfl | rfl | rfl | rfl | rfl | rfl | rfl | rfl | rfl | rfl | rfl | rfl | rfl | rfl | rfl | rfl | rfl | rfl | rfl | rfl | rfl | rfl | rfl | rfl | rfl | rfl | rfl | rfl | rfl | rfl | rfl | rfl | rfl | rfl | rfl | rfl | rfl | rfl | rfl | rfl | rfl | rfl | rfl | rfl | rfl | rfl | rfl | rfl | rfl | rfl | rfl | rfl | rfl | rfl | rfl | rfl | rfl | rfl | rfl | rfl | rfl | rfl | rfl | rfl | rfl | rfl | rfl | rfl | rfl | rfl | rfl | rfl | rfl | rfl | rfl | rfl | rfl | rfl | rfl | rfl | rfl | rfl | rfl | rfl | rfl | rfl | rfl | rfl | rfl | rfl | rfl | rfl | rfl | rfl | rfl | rfl | rfl | rfl | rfl | rfl | rfl | rfl | rfl | rfl | rfl | rfl | rfl | rfl | rfl | rfl | rfl | rfl | rfl | rfl | rfl | rfl | rfl | rfl <;> exact ⟨by kernel_rfl, by kernel_rfl⟩)
  specs := look_all (q := Told) h
  mixed := mixed
  qs := look_all (q := fun ty ks => Ev.QOk Try.prog ty ks) (by
    intro p hp
    simp only [Q, List.mem_cons, List.not_mem_nil, or_false] at hp
    rcases hp with rfl | rfl
    · exact qs60
    · exact qs50)
  bo := by
    intro ty hty
    simp only [List.mem_cons, List.not_mem_nil, or_false] at hty
    subst hty
    kernel_rfl
/-- From a function's body to its contract. -/
theorem told {X : List (Nat × Rx.Spec)} (hX : ∀ p ∈ X, Told p.1 p.2) {f n : Nat} {fn : Func} (hf : Try.prog.funcs[f]? = some fn) (h1 : fn.body.isSome = true) (h2 : (fn.name == "runtime.NumGoroutine") = false) {c : Con} (hb : BodyOk (mk X) n fn c) : Told f (specOf c) :=
  ⟨⟨fn, hf, h1, h2⟩, specOf_ok (mkOk hX) hf hb⟩
end Go.Proofs.Ytfgeoglegebncaa.Fr
namespace Go.Proofs.Ytfgeoglegebncaa.Fr
set_option maxRecDepth 100000
set_option maxHeartbeats 4000000
open Go.Rx
open Go.RowKit (Below)
set_option linter.unusedVariables false
/-- A narrower contract. -/
theorem Told.mono {f : Nat} {c c' : Con} (h : Told f (specOf c)) (hc : ∀ vs bs K, c' vs bs K → c vs bs K) : Told f (specOf c') :=
  ⟨h.1, fun args s K hk => h.2 args s K (locA_mono (fun us bs => hc us bs _) args 0 hk)⟩
/-- A slice of a row of these kinds, or none; with the room that it has. -/
def parseQ (ks : List IntKind) (j : Nat) (v : Value) (bs : List Blk) (k : Nat → RF → Nat → List Blk → Prop) : Prop :=
  match v with
  | .slice none 0 0 => k 0 zF j bs
  | .slice (some ⟨b, 0, some 0⟩) n c => (b = j ∧ n ≤ 100000 ∧ n ≤ c) ∧ match bs with
    | .row true ks' _ n' c' f :: bs' => (ks' = ks ∧ n' = n ∧ c' = c) ∧ k n f (j + 1) bs'
    | _ => False
  | _ => False
theorem parseQ_inv {ks : List IntKind} {j : Nat} {v : Value} {bs : List Blk} {k : Nat → RF → Nat → List Blk → Prop} (h : parseQ ks j v bs k) : (v = .slice none 0 0 ∧ k 0 zF j bs) ∨ ∃ e n c f bs', v = rsl j 0 n c ∧ n ≤ 100000 ∧ n ≤ c ∧ bs = .row true ks e n c f :: bs' ∧ k n f (j + 1) bs' := by
  unfold parseQ at h
  split at h
  · exact .inl ⟨rfl, h⟩
  · obtain ⟨⟨rfl, hn, hc⟩, h⟩ := h
    split at h
    · obtain ⟨⟨rfl, rfl, rfl⟩, h⟩ := h
      exact .inr ⟨_, _, _, _, _, rfl, hn, hc, rfl, h⟩
    · exact h.elim
  · exact h.elim
def parseRQ (ks : List IntKind) (j : Nat) (v : Value) (bs : List Blk) (k : Nat → RF → Nat → List Blk → Prop) : Prop :=
  match v with
  | .slice (some ⟨b, 0, some 0⟩) n c => (b = j ∧ n ≤ 100000 ∧ n ≤ c) ∧ match bs with
    | .row true ks' _ n' c' f :: bs' => (ks' = ks ∧ n' = n ∧ c' = c) ∧ k n f (j + 1) bs'
    | _ => False
  | _ => False
theorem parseRQ_inv {ks : List IntKind} {j : Nat} {v : Value} {bs : List Blk} {k : Nat → RF → Nat → List Blk → Prop} (h : parseRQ ks j v bs k) : ∃ e n c f bs', v = rsl j 0 n c ∧ n ≤ 100000 ∧ n ≤ c ∧ bs = .row true ks e n c f :: bs' ∧ k n f (j + 1) bs' := by
  unfold parseRQ at h
  split at h
  · obtain ⟨⟨rfl, hn, hc⟩, h⟩ := h
    split at h
    · obtain ⟨⟨rfl, rfl, rfl⟩, h⟩ := h
      exact ⟨_, _, _, _, _, rfl, hn, hc, rfl, h⟩
    · exact h.elim
  · exact h.elim
abbrev KB := Value → List Blk → Prop
theorem fin0i {K : KB} {x y : Int} (e : x = y) (h : K (.int .i64 x) []) : K (.int .i64 y) [] := e ▸ h
theorem fin0p {K : KB} {x y x' y' : Int} (e : x = x') (e' : y = y') (h : K (.tuple ⟨[.int .i64 x, .int .i64 y]⟩) []) : K (.tuple ⟨[.int .i64 x', .int .i64 y']⟩) [] := e ▸ e' ▸ h
theorem fin0u {K : KB} {x y x' y' : Int} (e : x = x') (e' : y = y') (h : K (.tuple ⟨[.int .u64 x, .int .i64 y]⟩) []) : K (.tuple ⟨[.int .u64 x', .int .i64 y']⟩) [] := e ▸ e' ▸ h
theorem fin0s {K : KB} {x y z x' y' z' : Int} (e : x = x') (e' : y = y') (e2 : z = z') (h : K (.tuple ⟨[.agg ⟨[.int .i64 x, .int .i64 y]⟩, .int .i64 z]⟩) []) : K (.tuple ⟨[.agg ⟨[.int .i64 x', .int .i64 y']⟩, .int .i64 z']⟩) [] := e ▸ e' ▸ e2 ▸ h
theorem fin0n {K : KB} {y y' : Int} (e : y = y') (h : K (.tuple ⟨[.slice none 0 0, .int .i64 y]⟩) []) : K (.tuple ⟨[.slice none 0 0, .int .i64 y']⟩) [] := e ▸ h
/-- Words of an arena. -/
structure Ok64 (n : Nat) (f : RF) : Prop where
  h : ∀ i, i < n → 0 ≤ f i 0 ∧ f i 0 ≤ 18446744073709551615
theorem Ok64.nil {f : RF} : Ok64 0 f := ⟨fun i h => absurd h (by omega)⟩
/-- The error of an arena. -/
def arE (n : Nat) (f : RF) : Int := if n < 1 ∨ 1601 < n then 3 else if f (Int.toNat 0) 0 = 0 then 0 else 6
theorem ar_cases (n : Nat) (f : RF) : (arE n f = 3 ∧ (n < 1 ∨ 1601 < n)) ∨ (arE n f = 6 ∧ 1 ≤ n ∧ n ≤ 1601 ∧ ¬ f (Int.toNat 0) 0 = 0) ∨ (arE n f = 0 ∧ 1 ≤ n ∧ n ≤ 1601 ∧ f (Int.toNat 0) 0 = 0) := by
  unfold arE
  repeat' split
  all_goals omega
/-- The error of a shape, its size, its header. -/
def sze (p q : Int) : Int := if p < 0 ∨ q < 0 then 7 else if 64 ≤ p ∨ 64 ≤ q ∨ 64 < 1 + p + q then 11 else 0
def szn (p q : Int) : Int := if sze p q = 0 then 1 + p + q else 0
def pkv (p q : Int) : Int := if sze p q = 0 then 1 + 256 * p + 65536 * q else 0
theorem sze_cases (p q : Int) : (sze p q = 7 ∧ (p < 0 ∨ q < 0)) ∨ (sze p q = 11 ∧ 0 ≤ p ∧ 0 ≤ q ∧ (64 ≤ p ∨ 64 ≤ q ∨ 64 < 1 + p + q)) ∨ (sze p q = 0 ∧ 0 ≤ p ∧ 0 ≤ q ∧ 1 + p + q ≤ 64) := by
  unfold sze
  repeat' split
  all_goals omega
theorem szn_cases (p q : Int) : (sze p q = 0 ∧ szn p q = 1 + p + q) ∨ (¬ sze p q = 0 ∧ szn p q = 0) := by
  unfold szn
  split
  · exact .inl ⟨by assumption, rfl⟩
  · exact .inr ⟨by assumption, rfl⟩
theorem pkv_cases (p q : Int) : (sze p q = 0 ∧ pkv p q = 1 + 256 * p + 65536 * q) ∨ (¬ sze p q = 0 ∧ pkv p q = 0) := by
  unfold pkv
  split
  · exact .inl ⟨by assumption, rfl⟩
  · exact .inr ⟨by assumption, rfl⟩
/-- A word as a header: its error, and the shape. -/
def hsE (v : Int) : Int := if v % 256 = 1 ∧ v / 65536 < 64 ∧ v / 256 % 256 < 64 ∧ 1 + v / 256 % 256 + v / 65536 ≤ 64 then 0 else 6
def hsP (v : Int) : Int := if hsE v = 0 then v / 256 % 256 else 0
def hsR (v : Int) : Int := if hsE v = 0 then v / 65536 else 0
theorem hs_cases (v : Int) : (hsE v = 0 ∧ v % 256 = 1 ∧ v / 65536 < 64 ∧ v / 256 % 256 < 64 ∧ 1 + v / 256 % 256 + v / 65536 ≤ 64 ∧ hsP v = v / 256 % 256 ∧ hsR v = v / 65536) ∨
    (hsE v = 6 ∧ hsP v = 0 ∧ hsR v = 0 ∧ ¬ (v % 256 = 1 ∧ v / 65536 < 64 ∧ v / 256 % 256 < 64 ∧ 1 + v / 256 % 256 + v / 65536 ≤ 64)) := by
  by_cases h : v % 256 = 1 ∧ v / 65536 < 64 ∧ v / 256 % 256 < 64 ∧ 1 + v / 256 % 256 + v / 65536 ≤ 64
  · have e : hsE v = 0 := if_pos h
    have e1 : hsP v = v / 256 % 256 := if_pos e
    have e2 : hsR v = v / 65536 := if_pos e
    exact .inl ⟨e, h.1, h.2.1, h.2.2.1, h.2.2.2, e1, e2⟩
  · have e : hsE v = 6 := if_neg h
    have e1 : hsP v = 0 := if_neg (by omega)
    have e2 : hsR v = 0 := if_neg (by omega)
    exact .inr ⟨e, e1, e2, h⟩
/-- An object: its error, and its shape. -/
def obE (n : Nat) (f : RF) (a : Int) : Int := if arE n f = 0 then (if a < 1 ∨ (n : Int) ≤ a then 7 else if hsE (f a.toNat 0) = 0 ∧ hsP (f a.toNat 0) + hsR (f a.toNat 0) < n - a then 0 else 6) else arE n f
def obP (n : Nat) (f : RF) (a : Int) : Int := if obE n f a = 0 then hsP (f a.toNat 0) else 0
def obR (n : Nat) (f : RF) (a : Int) : Int := if obE n f a = 0 then hsR (f a.toNat 0) else 0
theorem ob_cases {n : Nat} {f : RF} (hU : Ok64 n f) (a : Int) : (¬ arE n f = 0 ∧ obE n f a = arE n f ∧ obP n f a = 0 ∧ obR n f a = 0) ∨
    (arE n f = 0 ∧ obE n f a = 7 ∧ (a < 1 ∨ (n : Int) ≤ a) ∧ obP n f a = 0 ∧ obR n f a = 0) ∨
    (arE n f = 0 ∧ obE n f a = 6 ∧ 1 ≤ a ∧ a < n ∧ (¬ hsE (f a.toNat 0) = 0 ∨ n - a ≤ hsP (f a.toNat 0) + hsR (f a.toNat 0)) ∧ obP n f a = 0 ∧ obR n f a = 0) ∨
    (arE n f = 0 ∧ obE n f a = 0 ∧ 1 ≤ a ∧ a < n ∧ hsE (f a.toNat 0) = 0 ∧ obP n f a = hsP (f a.toNat 0) ∧ obR n f a = hsR (f a.toNat 0) ∧ 0 ≤ hsP (f a.toNat 0) ∧ 0 ≤ hsR (f a.toNat 0) ∧ hsP (f a.toNat 0) + hsR (f a.toNat 0) < n - a ∧ hsP (f a.toNat 0) + hsR (f a.toNat 0) ≤ 63) := by
  have b := hs_cases (f a.toNat 0)
  by_cases h0 : arE n f = 0
  · by_cases h1 : a < 1 ∨ (n : Int) ≤ a
    · have e : obE n f a = 7 := by unfold obE; rw [if_pos h0, if_pos h1]
      have e1 : obP n f a = 0 := if_neg (by omega)
      have e2 : obR n f a = 0 := if_neg (by omega)
      exact .inr (.inl ⟨h0, e, h1, e1, e2⟩)
    · have hv := (hU.h a.toNat (by omega)).1
      by_cases h2 : hsE (f a.toNat 0) = 0 ∧ hsP (f a.toNat 0) + hsR (f a.toNat 0) < n - a
      · have e : obE n f a = 0 := by unfold obE; rw [if_pos h0, if_neg h1, if_pos h2]
        have e1 : obP n f a = hsP (f a.toNat 0) := if_pos e
        have e2 : obR n f a = hsR (f a.toNat 0) := if_pos e
        exact .inr (.inr (.inr ⟨h0, e, by omega, by omega, h2.1, e1, e2, by omega, by omega, h2.2, by omega⟩))
      · have e : obE n f a = 6 := by unfold obE; rw [if_pos h0, if_neg h1, if_neg h2]
        have e1 : obP n f a = 0 := if_neg (by omega)
        have e2 : obR n f a = 0 := if_neg (by omega)
        exact .inr (.inr (.inl ⟨h0, e, by omega, by omega, by omega, e1, e2⟩))
  · have e : obE n f a = arE n f := if_neg h0
    have e1 : obP n f a = 0 := if_neg (by omega)
    have e2 : obR n f a = 0 := if_neg (by omega)
    exact .inl ⟨h0, e, e1, e2⟩
/-- Another word; words that are 0. -/
def setF (f : RF) (a : Nat) (v : Int) : RF := fun i _ => if i = a then v else f i 0
def zroF (f : RF) (a m : Nat) : RF := fun i _ => if a ≤ i ∧ i < a + m then 0 else f i 0
theorem Ok64.set {n : Nat} {f : RF} (h : Ok64 n f) {a : Nat} {v : Int} (hv : 0 ≤ v ∧ v ≤ 18446744073709551615) : Ok64 n (setF f a v) := ⟨fun i hi => by
  unfold setF
  split
  · exact hv
  · exact h.h i hi⟩
@[reducible] def XZ : List (Nat × Rx.Spec) := []
theorem XZ_told : ∀ p ∈ XZ, Told p.1 p.2 := fun p hp => by cases hp
def arC : Con := fun vs bs K => match vs with
  | [vw] => parseQ [.u64] 0 vw bs fun nw fw j0 bs0 => bs0 = [] ∧ (True) ∧ (K (.int .i64 (arE nw fw)) [])
  | _ => False

def arC_nA  : Ann := fun _ _ _ => none
def arC_rA (ew nw cw : Nat) (fw : RF) : Ann := fun _ _ _ => none
def arK : Con := fun vs bs K => match vs with
  | [vw] => parseQ [.u64] 0 vw bs fun nw fw j0 bs0 => bs0 = [] ∧ (True) ∧ (K (.int .i64 (arE nw fw)) [])
  | _ => False

def arK_nA  : Ann := fun _ _ _ => none
def arK_rA (ew nw cw : Nat) (fw : RF) : Ann := fun _ _ _ => none
def hdC : Con := fun vs bs K => match vs with
  | [.agg ⟨[.int .i64 p, .int .i64 q]⟩] => bs = [] ∧ (True) ∧ (K (.int .i64 (sze p q)) [])
  | _ => False

def hdC_zA (p : Int) (q : Int) : Ann := fun _ _ _ => none
def hdK : Con := fun vs bs K => match vs with
  | [.agg ⟨[.int .i64 p, .int .i64 q]⟩] => bs = [] ∧ (True) ∧ (K (.int .i64 (sze p q)) [])
  | _ => False

def hdK_zA (p : Int) (q : Int) : Ann := fun _ _ _ => none
def arC_nV  (K : Value → List Blk → Prop) : Prop := (T0 ∧ (TS ∧ (T0 ∧ (∃ y0 : Value, (∃ y1 : List Blk, ((Go.Rx.Found 0 (vi (3 : Int)) ({ h := [], next := (0 : Nat) }) (y0) (y1)) ∧ (K y0 y1)))))))
theorem arC_nE  (K : Value → List Blk → Prop) : arC_nV  K = bodyX (mk XZ) (callN (mk XZ) 6) (arC_nA ) Try.f24 [.slice none 0 0] (stOf []) (Fd 0 K) := by kernel_rfl
set_option tactic.hygienic false in
theorem arC_nP  (K : Value → List Blk → Prop)  (h : K (.int .i64 (arE 0 zF)) []) : arC_nV  K := by
  unfold arC_nV
  have z0 := ar_cases 0 zF
  repeat' (first | (with_reducible exact rfl) | (with_reducible exact trivial) | (with_reducible refine And.intro ?_ ?_) | (intro) | (with_reducible refine br_d (fun hq => ?_) (fun hq => ?_)) | (with_reducible refine br_nd (fun hq => ?_) (fun hq => ?_)) | (with_reducible refine br_intro (fun hq => ?_) (fun hq => ?_)) | (with_reducible refine if_both (fun hz => ?_) (fun hz => ?_)) | fail)

  all_goals first
    | (with_reducible assumption)
    | (refine (id ?_ : ∃ (v1 : Value) (news : List Blk), _)
       first
        | contradiction
        | exact fin0 (by kernel_rfl) (by kernel_rfl) h
        | exact fin0 (by kernel_rfl) (by kernel_rfl) (fin0i (by omega) h)
        | exact fin0 (by kernel_rfl) (by kernel_rfl) (fin0p (by omega) (by omega) h)
        | exact fin0 (by kernel_rfl) (by kernel_rfl) (fin0u (by omega) (by omega) h)
        | exact fin0 (by kernel_rfl) (by kernel_rfl) (fin0s (by omega) (by omega) (by omega) h)
        | exact fin0 (by kernel_rfl) (by kernel_rfl) (fin0n (by omega) h)
        | (exfalso; simp at hq; omega)
        | (exfalso; omega)
       )
    | omega
    | contradiction
    | exact fin0 (by kernel_rfl) (by kernel_rfl) h
    | exact fin0 (by kernel_rfl) (by kernel_rfl) (fin0i (by omega) h)
    | exact fin0 (by kernel_rfl) (by kernel_rfl) (fin0p (by omega) (by omega) h)
    | exact fin0 (by kernel_rfl) (by kernel_rfl) (fin0u (by omega) (by omega) h)
    | exact fin0 (by kernel_rfl) (by kernel_rfl) (fin0s (by omega) (by omega) (by omega) h)
    | exact fin0 (by kernel_rfl) (by kernel_rfl) (fin0n (by omega) h)
    | (exfalso; simp at hq; omega)
    | (exfalso; omega)
def arC_rV (ew nw cw : Nat) (fw : RF) (K : Value → List Blk → Prop) : Prop := let q0 := TS; let q1 := (∃ y0 : Value, (∃ y1 : List Blk, ((Go.Rx.Found 1 (vi (3 : Int)) ({ h := [((0 : Nat), Blk.row true [IntKind.u64] ew nw cw fw)], next := (1 : Nat) }) (y0) (y1)) ∧ (K y0 y1)))); (T0 ∧ (q0 ∧ (T0 ∧ (if ((↑nw : Int) < (1 : Int)) then q1 else (q0 ∧ (T0 ∧ (if ((1601 : Int) < (↑nw : Int)) then q1 else ((q0 ∧ (@Eq Nat ((1 : Nat)) ((1 : Nat)))) ∧ ((((0 : Int) ≤ (0 : Int)) ∧ ((0 : Int) < (↑nw : Int))) ∧ ((Int.toNat (0 : Int) < nw) ∧ (T0 ∧ (if (@Eq Int (fw (Int.toNat (0 : Int)) (0 : Nat)) ((0 : Int))) then (∃ y0 : Value, (∃ y1 : List Blk, ((Go.Rx.Found 1 (vi (0 : Int)) ({ h := [((0 : Nat), Blk.row true [IntKind.u64] ew nw cw fw)], next := (1 : Nat) }) (y0) (y1)) ∧ (K y0 y1)))) else (∃ y0 : Value, (∃ y1 : List Blk, ((Go.Rx.Found 1 (vi (6 : Int)) ({ h := [((0 : Nat), Blk.row true [IntKind.u64] ew nw cw fw)], next := (1 : Nat) }) (y0) (y1)) ∧ (K y0 y1))))))))))))))))
theorem arC_rE (ew nw cw : Nat) (fw : RF) (K : Value → List Blk → Prop) : arC_rV ew nw cw fw K = bodyX (mk XZ) (callN (mk XZ) 6) (arC_rA ew nw cw fw) Try.f24 [rsl 0 0 nw cw] (stOf [.row true [.u64] ew nw cw fw]) (Fd 1 K) := by kernel_rfl
set_option tactic.hygienic false in
theorem arC_rP (ew nw cw : Nat) (fw : RF) (K : Value → List Blk → Prop)  (hnw : nw ≤ 100000) (hcw : nw ≤ cw) (h : K (.int .i64 (arE nw fw)) []) : arC_rV ew nw cw fw K := by
  unfold arC_rV
  conv => zeta
  have z0 := ar_cases nw fw
  repeat' (first | (with_reducible exact rfl) | (with_reducible exact trivial) | (with_reducible refine And.intro ?_ ?_) | (intro) | (with_reducible refine br_d (fun hq => ?_) (fun hq => ?_)) | (with_reducible refine br_nd (fun hq => ?_) (fun hq => ?_)) | (with_reducible refine br_intro (fun hq => ?_) (fun hq => ?_)) | (with_reducible refine if_both (fun hz => ?_) (fun hz => ?_)) | fail)

  all_goals first
    | (with_reducible assumption)
    | (refine (id ?_ : ∃ (v1 : Value) (news : List Blk), _)
       first
        | contradiction
        | exact fin0 (by kernel_rfl) (by kernel_rfl) h
        | exact fin0 (by kernel_rfl) (by kernel_rfl) (fin0i (by omega) h)
        | exact fin0 (by kernel_rfl) (by kernel_rfl) (fin0p (by omega) (by omega) h)
        | exact fin0 (by kernel_rfl) (by kernel_rfl) (fin0u (by omega) (by omega) h)
        | exact fin0 (by kernel_rfl) (by kernel_rfl) (fin0s (by omega) (by omega) (by omega) h)
        | exact fin0 (by kernel_rfl) (by kernel_rfl) (fin0n (by omega) h)
        | (exfalso; simp at hq; omega)
        | (exfalso; omega)
       )
    | omega
    | contradiction
    | exact fin0 (by kernel_rfl) (by kernel_rfl) h
    | exact fin0 (by kernel_rfl) (by kernel_rfl) (fin0i (by omega) h)
    | exact fin0 (by kernel_rfl) (by kernel_rfl) (fin0p (by omega) (by omega) h)
    | exact fin0 (by kernel_rfl) (by kernel_rfl) (fin0u (by omega) (by omega) h)
    | exact fin0 (by kernel_rfl) (by kernel_rfl) (fin0s (by omega) (by omega) (by omega) h)
    | exact fin0 (by kernel_rfl) (by kernel_rfl) (fin0n (by omega) h)
    | (exfalso; simp at hq; omega)
    | (exfalso; omega)
theorem arC_ok : BodyOk (mk XZ) 6 Try.f24 arC := by
  intro vs bs K hh hro
  clear hro
  unfold arC at hh
  split at hh
  · rename_i vw
    rcases parseQ_inv hh with ⟨rfl, hh0⟩ | ⟨ew, nw, cw, fw, btw, rfl, hnw, hcw, rfl, hh0⟩ <;> clear hh
    · obtain ⟨rfl, -, hc⟩ := hh0
      exact ⟨_, _, cast (arC_nE   K) (arC_nP   K   hc)⟩
    · obtain ⟨rfl, -, hc⟩ := hh0
      exact ⟨_, _, cast (arC_rE ew nw cw fw  K) (arC_rP ew nw cw fw  K hnw hcw  hc)⟩
  · exact hh.elim
theorem arC_told : Told 24 (specOf arC) := told (X := XZ) XZ_told (by kernel_rfl) (by kernel_rfl) (by kernel_rfl) arC_ok
def arK_nV  (K : Value → List Blk → Prop) : Prop := (T0 ∧ (TS ∧ (T0 ∧ (∃ y0 : Value, (∃ y1 : List Blk, ((Go.Rx.Found 0 (vi (3 : Int)) ({ h := [], next := (0 : Nat) }) (y0) (y1)) ∧ (K y0 y1)))))))
theorem arK_nE  (K : Value → List Blk → Prop) : arK_nV  K = bodyX (mk XZ) (callN (mk XZ) 6) (arK_nA ) Try.f25 [.slice none 0 0] (stOf []) (Fd 0 K) := by kernel_rfl
set_option tactic.hygienic false in
theorem arK_nP  (K : Value → List Blk → Prop)  (h : K (.int .i64 (arE 0 zF)) []) : arK_nV  K := by
  unfold arK_nV
  have z0 := ar_cases 0 zF
  repeat' (first | (with_reducible exact rfl) | (with_reducible exact trivial) | (with_reducible refine And.intro ?_ ?_) | (intro) | (with_reducible refine br_d (fun hq => ?_) (fun hq => ?_)) | (with_reducible refine br_nd (fun hq => ?_) (fun hq => ?_)) | (with_reducible refine br_intro (fun hq => ?_) (fun hq => ?_)) | (with_reducible refine if_both (fun hz => ?_) (fun hz => ?_)) | fail)

  all_goals first
    | (with_reducible assumption)
    | (refine (id ?_ : ∃ (v1 : Value) (news : List Blk), _)
       first
        | contradiction
        | exact fin0 (by kernel_rfl) (by kernel_rfl) h
        | exact fin0 (by kernel_rfl) (by kernel_rfl) (fin0i (by omega) h)
        | exact fin0 (by kernel_rfl) (by kernel_rfl) (fin0p (by omega) (by omega) h)
        | exact fin0 (by kernel_rfl) (by kernel_rfl) (fin0u (by omega) (by omega) h)
        | exact fin0 (by kernel_rfl) (by kernel_rfl) (fin0s (by omega) (by omega) (by omega) h)
        | exact fin0 (by kernel_rfl) (by kernel_rfl) (fin0n (by omega) h)
        | (exfalso; simp at hq; omega)
        | (exfalso; omega)
       )
    | omega
    | contradiction
    | exact fin0 (by kernel_rfl) (by kernel_rfl) h
    | exact fin0 (by kernel_rfl) (by kernel_rfl) (fin0i (by omega) h)
    | exact fin0 (by kernel_rfl) (by kernel_rfl) (fin0p (by omega) (by omega) h)
    | exact fin0 (by kernel_rfl) (by kernel_rfl) (fin0u (by omega) (by omega) h)
    | exact fin0 (by kernel_rfl) (by kernel_rfl) (fin0s (by omega) (by omega) (by omega) h)
    | exact fin0 (by kernel_rfl) (by kernel_rfl) (fin0n (by omega) h)
    | (exfalso; simp at hq; omega)
    | (exfalso; omega)
def arK_rV (ew nw cw : Nat) (fw : RF) (K : Value → List Blk → Prop) : Prop := let q0 := TS; let q1 := (∃ y0 : Value, (∃ y1 : List Blk, ((Go.Rx.Found 1 (vi (3 : Int)) ({ h := [((0 : Nat), Blk.row true [IntKind.u64] ew nw cw fw)], next := (1 : Nat) }) (y0) (y1)) ∧ (K y0 y1)))); (T0 ∧ (q0 ∧ (T0 ∧ (if ((↑nw : Int) < (1 : Int)) then q1 else (q0 ∧ (T0 ∧ (if ((1601 : Int) < (↑nw : Int)) then q1 else ((q0 ∧ (@Eq Nat ((1 : Nat)) ((1 : Nat)))) ∧ ((((0 : Int) ≤ (0 : Int)) ∧ ((0 : Int) < (↑nw : Int))) ∧ ((Int.toNat (0 : Int) < nw) ∧ (T0 ∧ (if (@Eq Int (fw (Int.toNat (0 : Int)) (0 : Nat)) ((0 : Int))) then (∃ y0 : Value, (∃ y1 : List Blk, ((Go.Rx.Found 1 (vi (0 : Int)) ({ h := [((0 : Nat), Blk.row true [IntKind.u64] ew nw cw fw)], next := (1 : Nat) }) (y0) (y1)) ∧ (K y0 y1)))) else (∃ y0 : Value, (∃ y1 : List Blk, ((Go.Rx.Found 1 (vi (6 : Int)) ({ h := [((0 : Nat), Blk.row true [IntKind.u64] ew nw cw fw)], next := (1 : Nat) }) (y0) (y1)) ∧ (K y0 y1))))))))))))))))
theorem arK_rE (ew nw cw : Nat) (fw : RF) (K : Value → List Blk → Prop) : arK_rV ew nw cw fw K = bodyX (mk XZ) (callN (mk XZ) 6) (arK_rA ew nw cw fw) Try.f25 [rsl 0 0 nw cw] (stOf [.row true [.u64] ew nw cw fw]) (Fd 1 K) := by kernel_rfl
set_option tactic.hygienic false in
theorem arK_rP (ew nw cw : Nat) (fw : RF) (K : Value → List Blk → Prop)  (hnw : nw ≤ 100000) (hcw : nw ≤ cw) (h : K (.int .i64 (arE nw fw)) []) : arK_rV ew nw cw fw K := by
  unfold arK_rV
  conv => zeta
  have z0 := ar_cases nw fw
  repeat' (first | (with_reducible exact rfl) | (with_reducible exact trivial) | (with_reducible refine And.intro ?_ ?_) | (intro) | (with_reducible refine br_d (fun hq => ?_) (fun hq => ?_)) | (with_reducible refine br_nd (fun hq => ?_) (fun hq => ?_)) | (with_reducible refine br_intro (fun hq => ?_) (fun hq => ?_)) | (with_reducible refine if_both (fun hz => ?_) (fun hz => ?_)) | fail)

  all_goals first
    | (with_reducible assumption)
    | (refine (id ?_ : ∃ (v1 : Value) (news : List Blk), _)
       first
        | contradiction
        | exact fin0 (by kernel_rfl) (by kernel_rfl) h
        | exact fin0 (by kernel_rfl) (by kernel_rfl) (fin0i (by omega) h)
        | exact fin0 (by kernel_rfl) (by kernel_rfl) (fin0p (by omega) (by omega) h)
        | exact fin0 (by kernel_rfl) (by kernel_rfl) (fin0u (by omega) (by omega) h)
        | exact fin0 (by kernel_rfl) (by kernel_rfl) (fin0s (by omega) (by omega) (by omega) h)
        | exact fin0 (by kernel_rfl) (by kernel_rfl) (fin0n (by omega) h)
        | (exfalso; simp at hq; omega)
        | (exfalso; omega)
       )
    | omega
    | contradiction
    | exact fin0 (by kernel_rfl) (by kernel_rfl) h
    | exact fin0 (by kernel_rfl) (by kernel_rfl) (fin0i (by omega) h)
    | exact fin0 (by kernel_rfl) (by kernel_rfl) (fin0p (by omega) (by omega) h)
    | exact fin0 (by kernel_rfl) (by kernel_rfl) (fin0u (by omega) (by omega) h)
    | exact fin0 (by kernel_rfl) (by kernel_rfl) (fin0s (by omega) (by omega) (by omega) h)
    | exact fin0 (by kernel_rfl) (by kernel_rfl) (fin0n (by omega) h)
    | (exfalso; simp at hq; omega)
    | (exfalso; omega)
theorem arK_ok : BodyOk (mk XZ) 6 Try.f25 arK := by
  intro vs bs K hh hro
  clear hro
  unfold arK at hh
  split at hh
  · rename_i vw
    rcases parseQ_inv hh with ⟨rfl, hh0⟩ | ⟨ew, nw, cw, fw, btw, rfl, hnw, hcw, rfl, hh0⟩ <;> clear hh
    · obtain ⟨rfl, -, hc⟩ := hh0
      exact ⟨_, _, cast (arK_nE   K) (arK_nP   K   hc)⟩
    · obtain ⟨rfl, -, hc⟩ := hh0
      exact ⟨_, _, cast (arK_rE ew nw cw fw  K) (arK_rP ew nw cw fw  K hnw hcw  hc)⟩
  · exact hh.elim
theorem arK_told : Told 25 (specOf arK) := told (X := XZ) XZ_told (by kernel_rfl) (by kernel_rfl) (by kernel_rfl) arK_ok
def hdC_zV (p : Int) (q : Int) (K : Value → List Blk → Prop) : Prop := let q0 := (9223372036854775807 : Int); let q1 := (-9223372036854775808 : Int); let q2 := (∃ y0 : Value, (∃ y1 : List Blk, ((Go.Rx.Found 0 (vi (7 : Int)) ({ h := [((0 : Nat), Blk.cells [vi p, vi q] (60 : Nat))], next := (1 : Nat) }) (y0) (y1)) ∧ (K y0 y1)))); let q3 := (∃ y0 : Value, (∃ y1 : List Blk, ((Go.Rx.Found 0 (vi (11 : Int)) ({ h := [((0 : Nat), Blk.cells [vi p, vi q] (60 : Nat))], next := (1 : Nat) }) (y0) (y1)) ∧ (K y0 y1)))); (t3 (if (p < (0 : Int)) then q2 else (t2 (if (q < (0 : Int)) then q2 else (t2 (if ((64 : Int) ≤ p) then q3 else (t2 (if ((64 : Int) ≤ q) then q3 else (t2 (((q1 ≤ (1 : Int) + p) ∧ ((1 : Int) + p ≤ q0)) ∧ (t2 (((q1 ≤ (1 : Int) + p + q) ∧ ((1 : Int) + p + q ≤ q0)) ∧ (T0 ∧ (if ((64 : Int) < (1 : Int) + p + q) then q3 else (∃ y0 : Value, (∃ y1 : List Blk, ((Go.Rx.Found 0 (vi (0 : Int)) ({ h := [((0 : Nat), Blk.cells [vi p, vi q] (60 : Nat))], next := (1 : Nat) }) (y0) (y1)) ∧ (K y0 y1))))))))))))))))))
theorem hdC_zE (p : Int) (q : Int) (K : Value → List Blk → Prop) : hdC_zV p q K = bodyX (mk XZ) (callN (mk XZ) 6) (hdC_zA p q) Try.f118 [.agg ⟨[.int .i64 p, .int .i64 q]⟩] (stOf []) (Fd 0 K) := by kernel_rfl
set_option tactic.hygienic false in
theorem hdC_zP (p : Int) (q : Int) (K : Value → List Blk → Prop)  (h : K (.int .i64 (sze p q)) []) : hdC_zV p q K := by
  unfold hdC_zV
  conv => zeta
  have z0 := sze_cases p q
  repeat' (first | (with_reducible exact rfl) | (with_reducible exact trivial) | (with_reducible refine And.intro ?_ ?_) | (intro) | (with_reducible refine br_d (fun hq => ?_) (fun hq => ?_)) | (with_reducible refine br_nd (fun hq => ?_) (fun hq => ?_)) | (with_reducible refine br_intro (fun hq => ?_) (fun hq => ?_)) | (with_reducible refine if_both (fun hz => ?_) (fun hz => ?_)) | fail)

  all_goals first
    | (with_reducible assumption)
    | (refine (id ?_ : ∃ (v1 : Value) (news : List Blk), _)
       first
        | contradiction
        | exact fin0 (by kernel_rfl) (by kernel_rfl) h
        | exact fin0 (by kernel_rfl) (by kernel_rfl) (fin0i (by omega) h)
        | exact fin0 (by kernel_rfl) (by kernel_rfl) (fin0p (by omega) (by omega) h)
        | exact fin0 (by kernel_rfl) (by kernel_rfl) (fin0u (by omega) (by omega) h)
        | exact fin0 (by kernel_rfl) (by kernel_rfl) (fin0s (by omega) (by omega) (by omega) h)
        | exact fin0 (by kernel_rfl) (by kernel_rfl) (fin0n (by omega) h)
        | (exfalso; simp at hq; omega)
        | (exfalso; omega)
       )
    | omega
    | contradiction
    | exact fin0 (by kernel_rfl) (by kernel_rfl) h
    | exact fin0 (by kernel_rfl) (by kernel_rfl) (fin0i (by omega) h)
    | exact fin0 (by kernel_rfl) (by kernel_rfl) (fin0p (by omega) (by omega) h)
    | exact fin0 (by kernel_rfl) (by kernel_rfl) (fin0u (by omega) (by omega) h)
    | exact fin0 (by kernel_rfl) (by kernel_rfl) (fin0s (by omega) (by omega) (by omega) h)
    | exact fin0 (by kernel_rfl) (by kernel_rfl) (fin0n (by omega) h)
    | (exfalso; simp at hq; omega)
    | (exfalso; omega)
theorem hdC_ok : BodyOk (mk XZ) 6 Try.f118 hdC := by
  intro vs bs K hh hro
  clear hro
  unfold hdC at hh
  split at hh
  · rename_i p q
    obtain ⟨rfl, -, hc⟩ := hh
    exact ⟨_, _, cast (hdC_zE  p q K) (hdC_zP  p q K   hc)⟩
  · exact hh.elim
theorem hdC_told : Told 118 (specOf hdC) := told (X := XZ) XZ_told (by kernel_rfl) (by kernel_rfl) (by kernel_rfl) hdC_ok
def hdK_zV (p : Int) (q : Int) (K : Value → List Blk → Prop) : Prop := let q0 := (9223372036854775807 : Int); let q1 := (-9223372036854775808 : Int); let q2 := (∃ y0 : Value, (∃ y1 : List Blk, ((Go.Rx.Found 0 (vi (7 : Int)) ({ h := [((0 : Nat), Blk.cells [vi p, vi q] (60 : Nat))], next := (1 : Nat) }) (y0) (y1)) ∧ (K y0 y1)))); let q3 := (∃ y0 : Value, (∃ y1 : List Blk, ((Go.Rx.Found 0 (vi (11 : Int)) ({ h := [((0 : Nat), Blk.cells [vi p, vi q] (60 : Nat))], next := (1 : Nat) }) (y0) (y1)) ∧ (K y0 y1)))); (t3 (if (p < (0 : Int)) then q2 else (t2 (if (q < (0 : Int)) then q2 else (t2 (if ((64 : Int) < p) then q3 else (t2 (if ((64 : Int) < q) then q3 else (t2 (((q1 ≤ (1 : Int) + p) ∧ ((1 : Int) + p ≤ q0)) ∧ (t2 (((q1 ≤ (1 : Int) + p + q) ∧ ((1 : Int) + p + q ≤ q0)) ∧ (T0 ∧ (if ((64 : Int) < (1 : Int) + p + q) then q3 else (∃ y0 : Value, (∃ y1 : List Blk, ((Go.Rx.Found 0 (vi (0 : Int)) ({ h := [((0 : Nat), Blk.cells [vi p, vi q] (60 : Nat))], next := (1 : Nat) }) (y0) (y1)) ∧ (K y0 y1))))))))))))))))))
theorem hdK_zE (p : Int) (q : Int) (K : Value → List Blk → Prop) : hdK_zV p q K = bodyX (mk XZ) (callN (mk XZ) 6) (hdK_zA p q) Try.f91 [.agg ⟨[.int .i64 p, .int .i64 q]⟩] (stOf []) (Fd 0 K) := by kernel_rfl
set_option tactic.hygienic false in
theorem hdK_zP (p : Int) (q : Int) (K : Value → List Blk → Prop)  (h : K (.int .i64 (sze p q)) []) : hdK_zV p q K := by
  unfold hdK_zV
  conv => zeta
  have z0 := sze_cases p q
  repeat' (first | (with_reducible exact rfl) | (with_reducible exact trivial) | (with_reducible refine And.intro ?_ ?_) | (intro) | (with_reducible refine br_d (fun hq => ?_) (fun hq => ?_)) | (with_reducible refine br_nd (fun hq => ?_) (fun hq => ?_)) | (with_reducible refine br_intro (fun hq => ?_) (fun hq => ?_)) | (with_reducible refine if_both (fun hz => ?_) (fun hz => ?_)) | fail)

  all_goals first
    | (with_reducible assumption)
    | (refine (id ?_ : ∃ (v1 : Value) (news : List Blk), _)
       first
        | contradiction
        | exact fin0 (by kernel_rfl) (by kernel_rfl) h
        | exact fin0 (by kernel_rfl) (by kernel_rfl) (fin0i (by omega) h)
        | exact fin0 (by kernel_rfl) (by kernel_rfl) (fin0p (by omega) (by omega) h)
        | exact fin0 (by kernel_rfl) (by kernel_rfl) (fin0u (by omega) (by omega) h)
        | exact fin0 (by kernel_rfl) (by kernel_rfl) (fin0s (by omega) (by omega) (by omega) h)
        | exact fin0 (by kernel_rfl) (by kernel_rfl) (fin0n (by omega) h)
        | (exfalso; simp at hq; omega)
        | (exfalso; omega)
       )
    | omega
    | contradiction
    | exact fin0 (by kernel_rfl) (by kernel_rfl) h
    | exact fin0 (by kernel_rfl) (by kernel_rfl) (fin0i (by omega) h)
    | exact fin0 (by kernel_rfl) (by kernel_rfl) (fin0p (by omega) (by omega) h)
    | exact fin0 (by kernel_rfl) (by kernel_rfl) (fin0u (by omega) (by omega) h)
    | exact fin0 (by kernel_rfl) (by kernel_rfl) (fin0s (by omega) (by omega) (by omega) h)
    | exact fin0 (by kernel_rfl) (by kernel_rfl) (fin0n (by omega) h)
    | (exfalso; simp at hq; omega)
    | (exfalso; omega)
theorem hdK_ok : BodyOk (mk XZ) 6 Try.f91 hdK := by
  intro vs bs K hh hro
  clear hro
  unfold hdK at hh
  split at hh
  · rename_i p q
    obtain ⟨rfl, -, hc⟩ := hh
    exact ⟨_, _, cast (hdK_zE  p q K) (hdK_zP  p q K   hc)⟩
  · exact hh.elim
theorem hdK_told : Told 91 (specOf hdK) := told (X := XZ) XZ_told (by kernel_rfl) (by kernel_rfl) (by kernel_rfl) hdK_ok
end Go.Proofs.Ytfgeoglegebncaa.Fr
namespace Go.Proofs.Ytfgeoglegebncaa.Fr
set_option maxRecDepth 100000
set_option maxHeartbeats 4000000
open Go.Rx
open Go.RowKit (Below)
set_option linter.unusedVariables false
@[reducible] def XC : List (Nat × Rx.Spec) := [(118, specOf hdC), (24, specOf arC)]
theorem XC_told : ∀ p ∈ XC, Told p.1 p.2 := by
  intro p hp
  simp only [List.mem_cons, List.not_mem_nil, or_false] at hp
  rcases hp with rfl | rfl
  · exact hdC_told
  · exact arC_told
@[reducible] def XK : List (Nat × Rx.Spec) := [(91, specOf hdK), (25, specOf arK)]
theorem XK_told : ∀ p ∈ XK, Told p.1 p.2 := by
  intro p hp
  simp only [List.mem_cons, List.not_mem_nil, or_false] at hp
  rcases hp with rfl | rfl
  · exact hdK_told
  · exact arK_told
def hdP : Con := fun vs bs K => match vs with
  | [.agg ⟨[.int .i64 p, .int .i64 q]⟩] => bs = [] ∧ (True) ∧ (K (.tuple ⟨[.int .u64 (pkv p q), .int .i64 (sze p q)]⟩) [])
  | _ => False

def hdP_zA (p : Int) (q : Int) : Ann := fun _ _ _ => none
def hkN : Con := fun vs bs K => match vs with
  | [.agg ⟨[.int .i64 p, .int .i64 q]⟩] => bs = [] ∧ (True) ∧ (K (.tuple ⟨[.int .i64 (szn p q), .int .i64 (sze p q)]⟩) [])
  | _ => False

def hkN_zA (p : Int) (q : Int) : Ann := fun _ _ _ => none
def hdS : Con := fun vs bs K => match vs with
  | [.int .u64 v] => bs = [] ∧ ((0 ≤ v ∧ v ≤ 18446744073709551615)) ∧ (K (.tuple ⟨[.agg ⟨[.int .i64 (hsP v), .int .i64 (hsR v)]⟩, .int .i64 (hsE v)]⟩) [])
  | _ => False

def hdS_zA (v : Int) : Ann := fun _ _ _ => none
def hdP_zV (p : Int) (q : Int) (K : Value → List Blk → Prop) : Prop := let q0 := (18446744073709551616 : Int); (t4 (eB ∧ ((True) ∧ (T0 ∧ (if (@Eq Int (sze p q) ((0 : Int))) then (t4 ((((0 : Int) ≤ (16 : Int)) ∧ ((16 : Int) ≤ (64 : Int))) ∧ (t2 ((((0 : Int) ≤ (8 : Int)) ∧ ((8 : Int) ≤ (64 : Int))) ∧ (t2 (∃ y0 : Value, (∃ y1 : List Blk, ((Go.Rx.Found 0 (Value.tuple { toList := [Value.int IntKind.u64 ((((0 : Int) + (q % q0 * (65536 : Int) % q0 + (1 : Int)) % q0) % q0 + p % q0 * (256 : Int) % q0) % q0), vi (0 : Int)] }) ({ h := [((0 : Nat), Blk.cells [vi p, vi q] (60 : Nat))], next := (1 : Nat) }) (y0) (y1)) ∧ (K y0 y1))))))))) else (∃ y0 : Value, (∃ y1 : List Blk, ((Go.Rx.Found 0 (Value.tuple { toList := [Value.int IntKind.u64 (0 : Int), vi (sze p q)] }) ({ h := [((0 : Nat), Blk.cells [vi p, vi q] (60 : Nat))], next := (1 : Nat) }) (y0) (y1)) ∧ (K y0 y1)))))))))
theorem hdP_zE (p : Int) (q : Int) (K : Value → List Blk → Prop) : hdP_zV p q K = bodyX (mk XC) (callN (mk XC) 6) (hdP_zA p q) Try.f89 [.agg ⟨[.int .i64 p, .int .i64 q]⟩] (stOf []) (Fd 0 K) := by kernel_rfl
set_option tactic.hygienic false in
theorem hdP_zP (p : Int) (q : Int) (K : Value → List Blk → Prop)  (h : K (.tuple ⟨[.int .u64 (pkv p q), .int .i64 (sze p q)]⟩) []) : hdP_zV p q K := by
  unfold hdP_zV
  conv => zeta
  have z0 := sze_cases p q
  have z1 := pkv_cases p q
  repeat' (first | (with_reducible exact rfl) | (with_reducible exact trivial) | (with_reducible refine And.intro ?_ ?_) | (intro) | (with_reducible refine br_d (fun hq => ?_) (fun hq => ?_)) | (with_reducible refine br_nd (fun hq => ?_) (fun hq => ?_)) | (with_reducible refine br_intro (fun hq => ?_) (fun hq => ?_)) | (with_reducible refine if_both (fun hz => ?_) (fun hz => ?_)) | fail)

  all_goals first
    | (with_reducible assumption)
    | (refine (id ?_ : ∃ (v1 : Value) (news : List Blk), _)
       first
        | contradiction
        | exact fin0 (by kernel_rfl) (by kernel_rfl) h
        | exact fin0 (by kernel_rfl) (by kernel_rfl) (fin0i (by omega) h)
        | exact fin0 (by kernel_rfl) (by kernel_rfl) (fin0p (by omega) (by omega) h)
        | exact fin0 (by kernel_rfl) (by kernel_rfl) (fin0u (by omega) (by omega) h)
        | exact fin0 (by kernel_rfl) (by kernel_rfl) (fin0s (by omega) (by omega) (by omega) h)
        | exact fin0 (by kernel_rfl) (by kernel_rfl) (fin0n (by omega) h)
        | (exfalso; simp at hq; omega)
        | (exfalso; omega)
       )
    | omega
    | contradiction
    | exact fin0 (by kernel_rfl) (by kernel_rfl) h
    | exact fin0 (by kernel_rfl) (by kernel_rfl) (fin0i (by omega) h)
    | exact fin0 (by kernel_rfl) (by kernel_rfl) (fin0p (by omega) (by omega) h)
    | exact fin0 (by kernel_rfl) (by kernel_rfl) (fin0u (by omega) (by omega) h)
    | exact fin0 (by kernel_rfl) (by kernel_rfl) (fin0s (by omega) (by omega) (by omega) h)
    | exact fin0 (by kernel_rfl) (by kernel_rfl) (fin0n (by omega) h)
    | (exfalso; simp at hq; omega)
    | (exfalso; omega)
theorem hdP_ok : BodyOk (mk XC) 6 Try.f89 hdP := by
  intro vs bs K hh hro
  clear hro
  unfold hdP at hh
  split at hh
  · rename_i p q
    obtain ⟨rfl, -, hc⟩ := hh
    exact ⟨_, _, cast (hdP_zE  p q K) (hdP_zP  p q K   hc)⟩
  · exact hh.elim
theorem hdP_told : Told 89 (specOf hdP) := told (X := XC) XC_told (by kernel_rfl) (by kernel_rfl) (by kernel_rfl) hdP_ok
def hkN_zV (p : Int) (q : Int) (K : Value → List Blk → Prop) : Prop := let q0 := (9223372036854775807 : Int); let q1 := (-9223372036854775808 : Int); (t4 (eB ∧ ((True) ∧ (T0 ∧ (if (@Eq Int (sze p q) ((0 : Int))) then (t2 (((q1 ≤ (1 : Int) + p) ∧ ((1 : Int) + p ≤ q0)) ∧ (t2 (((q1 ≤ (1 : Int) + p + q) ∧ ((1 : Int) + p + q ≤ q0)) ∧ (∃ y0 : Value, (∃ y1 : List Blk, ((Go.Rx.Found 0 (Value.tuple { toList := [vi ((1 : Int) + p + q), vi (0 : Int)] }) ({ h := [((0 : Nat), Blk.cells [vi p, vi q] (60 : Nat))], next := (1 : Nat) }) (y0) (y1)) ∧ (K y0 y1)))))))) else (∃ y0 : Value, (∃ y1 : List Blk, ((Go.Rx.Found 0 (Value.tuple { toList := [vi (0 : Int), vi (sze p q)] }) ({ h := [((0 : Nat), Blk.cells [vi p, vi q] (60 : Nat))], next := (1 : Nat) }) (y0) (y1)) ∧ (K y0 y1)))))))))
theorem hkN_zE (p : Int) (q : Int) (K : Value → List Blk → Prop) : hkN_zV p q K = bodyX (mk XK) (callN (mk XK) 6) (hkN_zA p q) Try.f65 [.agg ⟨[.int .i64 p, .int .i64 q]⟩] (stOf []) (Fd 0 K) := by kernel_rfl
set_option tactic.hygienic false in
theorem hkN_zP (p : Int) (q : Int) (K : Value → List Blk → Prop)  (h : K (.tuple ⟨[.int .i64 (szn p q), .int .i64 (sze p q)]⟩) []) : hkN_zV p q K := by
  unfold hkN_zV
  conv => zeta
  have z0 := sze_cases p q
  have z1 := szn_cases p q
  repeat' (first | (with_reducible exact rfl) | (with_reducible exact trivial) | (with_reducible refine And.intro ?_ ?_) | (intro) | (with_reducible refine br_d (fun hq => ?_) (fun hq => ?_)) | (with_reducible refine br_nd (fun hq => ?_) (fun hq => ?_)) | (with_reducible refine br_intro (fun hq => ?_) (fun hq => ?_)) | (with_reducible refine if_both (fun hz => ?_) (fun hz => ?_)) | fail)

  all_goals first
    | (with_reducible assumption)
    | (refine (id ?_ : ∃ (v1 : Value) (news : List Blk), _)
       first
        | contradiction
        | exact fin0 (by kernel_rfl) (by kernel_rfl) h
        | exact fin0 (by kernel_rfl) (by kernel_rfl) (fin0i (by omega) h)
        | exact fin0 (by kernel_rfl) (by kernel_rfl) (fin0p (by omega) (by omega) h)
        | exact fin0 (by kernel_rfl) (by kernel_rfl) (fin0u (by omega) (by omega) h)
        | exact fin0 (by kernel_rfl) (by kernel_rfl) (fin0s (by omega) (by omega) (by omega) h)
        | exact fin0 (by kernel_rfl) (by kernel_rfl) (fin0n (by omega) h)
        | (exfalso; simp at hq; omega)
        | (exfalso; omega)
       )
    | omega
    | contradiction
    | exact fin0 (by kernel_rfl) (by kernel_rfl) h
    | exact fin0 (by kernel_rfl) (by kernel_rfl) (fin0i (by omega) h)
    | exact fin0 (by kernel_rfl) (by kernel_rfl) (fin0p (by omega) (by omega) h)
    | exact fin0 (by kernel_rfl) (by kernel_rfl) (fin0u (by omega) (by omega) h)
    | exact fin0 (by kernel_rfl) (by kernel_rfl) (fin0s (by omega) (by omega) (by omega) h)
    | exact fin0 (by kernel_rfl) (by kernel_rfl) (fin0n (by omega) h)
    | (exfalso; simp at hq; omega)
    | (exfalso; omega)
theorem hkN_ok : BodyOk (mk XK) 6 Try.f65 hkN := by
  intro vs bs K hh hro
  clear hro
  unfold hkN at hh
  split at hh
  · rename_i p q
    obtain ⟨rfl, -, hc⟩ := hh
    exact ⟨_, _, cast (hkN_zE  p q K) (hkN_zP  p q K   hc)⟩
  · exact hh.elim
theorem hkN_told : Told 65 (specOf hkN) := told (X := XK) XK_told (by kernel_rfl) (by kernel_rfl) (by kernel_rfl) hkN_ok
def hdS_zV (v : Int) (K : Value → List Blk → Prop) : Prop := let q0 := (9223372036854775807 : Int); let q1 := (-9223372036854775808 : Int); let q2 := (18446744073709551615 : Int); let q3 := (v / (256 : Int) % (256 : Int)); let q4 := (((0 : Int) ≤ (8 : Int)) ∧ ((8 : Int) ≤ (64 : Int))); let q5 := (((0 : Int) ≤ (16 : Int)) ∧ ((16 : Int) ≤ (64 : Int))); let q6 := (((255 : Int) ≤ q2) ∧ T0); let q7 := ((0 : Nat), Blk.cells [vi (0 : Int), vi (0 : Int)] (60 : Nat)); let q8 := ((q1 ≤ v / (65536 : Int)) ∧ (v / (65536 : Int) ≤ q0)); let q9 := (((0 : Int) ≤ v) ∧ ((v ≤ q2) ∧ q6)); let q10 := ((q1 ≤ v / (256 : Int) % (256 : Int)) ∧ (v / (256 : Int) % (256 : Int) ≤ q0)); let q11 := ((1 : Nat), Blk.cells [vi q3, vi (v / (65536 : Int))] (60 : Nat)); let q12 := (((0 : Int) ≤ v / (256 : Int)) ∧ ((v / (256 : Int) ≤ q2) ∧ q6)); let q13 := (t4 (∃ y0 : Value, (∃ y1 : List Blk, ((Go.Rx.Found 0 (Value.tuple { toList := [Value.agg { toList := [vi (0 : Int), vi (0 : Int)] }, vi (6 : Int)] }) ({ h := [q7], next := (1 : Nat) }) (y0) (y1)) ∧ (K y0 y1))))); let q14 := (t4 (∃ y0 : Value, (∃ y1 : List Blk, ((Go.Rx.Found 0 (Value.tuple { toList := [Value.agg { toList := [vi (0 : Int), vi (0 : Int)] }, vi (6 : Int)] }) ({ h := [q11, q7], next := (2 : Nat) }) (y0) (y1)) ∧ (K y0 y1))))); let q15 := (t2 (q9 ∧ (T0 ∧ (if (@Eq Int (v % (256 : Int)) ((2 : Int))) then (T0 ∧ (q4 ∧ (T0 ∧ (if ((1 : Int) ≤ v / (256 : Int)) then (T0 ∧ (q4 ∧ (T0 ∧ (if (v / (256 : Int) ≤ (1600 : Int)) then q13 else q13)))) else q13)))) else q13)))); (t5 (q9 ∧ (T0 ∧ (if (@Eq Int (v % (256 : Int)) ((1 : Int))) then (T0 ∧ (q5 ∧ (T0 ∧ (if (v / (65536 : Int) < (64 : Int)) then (t2 (q4 ∧ (T0 ∧ (q12 ∧ (q10 ∧ (T0 ∧ (q5 ∧ (q8 ∧ (t5 (eB ∧ ((True) ∧ (T0 ∧ (if (@Eq Int (sze q3 (v / (65536 : Int))) ((0 : Int))) then (t3 (q4 ∧ (T0 ∧ (q12 ∧ (q10 ∧ (T0 ∧ (q5 ∧ (q8 ∧ (t6 (∃ y0 : Value, (∃ y1 : List Blk, ((Go.Rx.Found 0 (Value.tuple { toList := [Value.agg { toList := [vi q3, vi (v / (65536 : Int))] }, vi (0 : Int)] }) ({ h := [((2 : Nat), Blk.cells [vi q3, vi (v / (65536 : Int))] (60 : Nat)), q11, ((0 : Nat), Blk.cells [vi q3, vi (v / (65536 : Int))] (60 : Nat))], next := (3 : Nat) }) (y0) (y1)) ∧ (K y0 y1))))))))))))) else (t2 (q9 ∧ (T0 ∧ (if (@Eq Int (v % (256 : Int)) ((2 : Int))) then (T0 ∧ (q4 ∧ (T0 ∧ (if ((1 : Int) ≤ v / (256 : Int)) then (T0 ∧ (q4 ∧ (T0 ∧ (if (v / (256 : Int) ≤ (1600 : Int)) then q14 else q14)))) else q14)))) else q14))))))))))))))))) else q15)))) else q15))))
theorem hdS_zE (v : Int) (K : Value → List Blk → Prop) : hdS_zV v K = bodyX (mk XC) (callN (mk XC) 6) (hdS_zA v) Try.f120 [.int .u64 v] (stOf []) (Fd 0 K) := by kernel_rfl
set_option tactic.hygienic false in
theorem hdS_zP (v : Int) (K : Value → List Blk → Prop)  (hv : 0 ≤ v ∧ v ≤ 18446744073709551615) (h : K (.tuple ⟨[.agg ⟨[.int .i64 (hsP v), .int .i64 (hsR v)]⟩, .int .i64 (hsE v)]⟩) []) : hdS_zV v K := by
  unfold hdS_zV
  conv => zeta
  have z0 := hs_cases v
  have z1 := sze_cases (v / 256 % 256) (v / 65536)
  repeat' (first | (with_reducible exact rfl) | (with_reducible exact trivial) | (with_reducible refine And.intro ?_ ?_) | (intro) | (with_reducible refine br_d (fun hq => ?_) (fun hq => ?_)) | (with_reducible refine br_nd (fun hq => ?_) (fun hq => ?_)) | (with_reducible refine br_intro (fun hq => ?_) (fun hq => ?_)) | (with_reducible refine if_both (fun hz => ?_) (fun hz => ?_)) | fail)

  all_goals first
    | (with_reducible assumption)
    | (refine (id ?_ : ∃ (v1 : Value) (news : List Blk), _)
       first
        | contradiction
        | exact fin0 (by kernel_rfl) (by kernel_rfl) h
        | exact fin0 (by kernel_rfl) (by kernel_rfl) (fin0i (by omega) h)
        | exact fin0 (by kernel_rfl) (by kernel_rfl) (fin0p (by omega) (by omega) h)
        | exact fin0 (by kernel_rfl) (by kernel_rfl) (fin0u (by omega) (by omega) h)
        | exact fin0 (by kernel_rfl) (by kernel_rfl) (fin0s (by omega) (by omega) (by omega) h)
        | exact fin0 (by kernel_rfl) (by kernel_rfl) (fin0n (by omega) h)
        | (exfalso; simp at hq; omega)
        | (exfalso; omega)
       )
    | omega
    | contradiction
    | exact fin0 (by kernel_rfl) (by kernel_rfl) h
    | exact fin0 (by kernel_rfl) (by kernel_rfl) (fin0i (by omega) h)
    | exact fin0 (by kernel_rfl) (by kernel_rfl) (fin0p (by omega) (by omega) h)
    | exact fin0 (by kernel_rfl) (by kernel_rfl) (fin0u (by omega) (by omega) h)
    | exact fin0 (by kernel_rfl) (by kernel_rfl) (fin0s (by omega) (by omega) (by omega) h)
    | exact fin0 (by kernel_rfl) (by kernel_rfl) (fin0n (by omega) h)
    | (exfalso; simp at hq; omega)
    | (exfalso; omega)
theorem hdS_ok : BodyOk (mk XC) 6 Try.f120 hdS := by
  intro vs bs K hh hro
  clear hro
  unfold hdS at hh
  split at hh
  · rename_i v
    obtain ⟨rfl, hv, hc⟩ := hh
    exact ⟨_, _, cast (hdS_zE  v K) (hdS_zP  v K  hv hc)⟩
  · exact hh.elim
theorem hdS_told : Told 120 (specOf hdS) := told (X := XC) XC_told (by kernel_rfl) (by kernel_rfl) (by kernel_rfl) hdS_ok
end Go.Proofs.Ytfgeoglegebncaa.Fr
namespace Go.Proofs.Ytfgeoglegebncaa.Fr
set_option maxRecDepth 100000
set_option maxHeartbeats 4000000
open Go.Rx
open Go.RowKit (Below)
set_option linter.unusedVariables false
theorem hs_bd {v : Int} (h : 0 ≤ v) : 0 ≤ hsP v ∧ hsP v ≤ 63 ∧ 0 ≤ hsR v ∧ hsR v ≤ 63 ∧ hsP v + hsR v ≤ 63 := by
  have := hs_cases v
  omega
theorem Ok64.at {n : Nat} {f : RF} (h : Ok64 n f) {a : Int} (h1 : 0 ≤ a) (h2 : a < n) : 0 ≤ f (Int.toNat a) 0 ∧ f (Int.toNat a) 0 ≤ 18446744073709551615 := h.h _ (by omega)
def rwE (n : Nat) (f : RF) (a x : Int) : Int := if obE n f a = 0 then (if 0 ≤ x ∧ x < obR n f a then 0 else 10) else obE n f a
def rwV (n : Nat) (f : RF) (a x : Int) : Int := if rwE n f a x = 0 then f (a + 1 + obP n f a + x).toNat 0 else 0
theorem rw_cases (n : Nat) (f : RF) (a x : Int) : (¬ obE n f a = 0 ∧ rwE n f a x = obE n f a ∧ rwV n f a x = 0) ∨ (obE n f a = 0 ∧ rwE n f a x = 10 ∧ rwV n f a x = 0 ∧ (x < 0 ∨ obR n f a ≤ x)) ∨ (obE n f a = 0 ∧ rwE n f a x = 0 ∧ rwV n f a x = f (a + 1 + obP n f a + x).toNat 0 ∧ 0 ≤ x ∧ x < obR n f a) := by
  by_cases h0 : obE n f a = 0
  · by_cases h1 : 0 ≤ x ∧ x < obR n f a
    · have e : rwE n f a x = 0 := by unfold rwE; rw [if_pos h0, if_pos h1]
      exact .inr (.inr ⟨h0, e, if_pos e, h1⟩)
    · have e : rwE n f a x = 10 := by unfold rwE; rw [if_pos h0, if_neg h1]
      exact .inr (.inl ⟨h0, e, if_neg (by omega), by omega⟩)
  · have e : rwE n f a x = obE n f a := if_neg h0
    exact .inl ⟨h0, e, if_neg (by omega)⟩
/-- The error of a pointer that is set. -/
def spE (n : Nat) (f : RF) (a x t : Int) : Int := if obE n f a = 0 then (if 0 ≤ x ∧ x < obP n f a then (if 0 ≤ t ∧ t < n then 0 else 7) else 10) else obE n f a
theorem sp_cases (n : Nat) (f : RF) (a x t : Int) : (¬ obE n f a = 0 ∧ spE n f a x t = obE n f a) ∨ (obE n f a = 0 ∧ spE n f a x t = 10 ∧ (x < 0 ∨ obP n f a ≤ x)) ∨ (obE n f a = 0 ∧ spE n f a x t = 7 ∧ 0 ≤ x ∧ x < obP n f a ∧ ¬ (0 ≤ t ∧ t < n)) ∨ (obE n f a = 0 ∧ spE n f a x t = 0 ∧ 0 ≤ x ∧ x < obP n f a ∧ 0 ≤ t ∧ t < n) := by
  unfold spE
  repeat' split
  all_goals omega
/-- The error of an object that is made. -/
def mkE (n : Nat) (f : RF) (a p q : Int) : Int := if arE n f = 0 then (if sze p q = 0 then (if 1 ≤ a ∧ p + q < n - a then 0 else 7) else sze p q) else arE n f
theorem mk_cases (n : Nat) (f : RF) (a p q : Int) : (¬ arE n f = 0 ∧ mkE n f a p q = arE n f) ∨ (arE n f = 0 ∧ ¬ sze p q = 0 ∧ mkE n f a p q = sze p q) ∨ (arE n f = 0 ∧ sze p q = 0 ∧ mkE n f a p q = 7 ∧ ¬ (1 ≤ a ∧ p + q < n - a)) ∨ (arE n f = 0 ∧ sze p q = 0 ∧ mkE n f a p q = 0 ∧ 1 ≤ a ∧ p + q < n - a) := by
  unfold mkE
  repeat' split
  all_goals omega
@[reducible] def XO : List (Nat × Rx.Spec) := [(24, specOf arC), (120, specOf hdS)]
theorem XO_told : ∀ p ∈ XO, Told p.1 p.2 := by
  intro p hp
  simp only [List.mem_cons, List.not_mem_nil, or_false] at hp
  rcases hp with rfl | rfl
  · exact arC_told
  · exact hdS_told
end Go.Proofs.Ytfgeoglegebncaa.Fr
namespace Go.Proofs.Ytfgeoglegebncaa.Fr
set_option maxRecDepth 100000
set_option maxHeartbeats 4000000
open Go.Rx
open Go.RowKit (Below)
set_option linter.unusedVariables false
theorem app_nil {f : RF} : appF (fun _ _ => 0) 0 f 0 = f := by
  funext i j
  simp [appF]
/-- An object that is made. -/
def mkF (f : RF) (a m : Nat) (v : Int) : RF := fun i _ => if i = a then v else if a < i ∧ i < a + m then 0 else f i 0
theorem Ok64.mk_ {n : Nat} {f : RF} (h : Ok64 n f) {a m : Nat} {v : Int} (hv : 0 ≤ v ∧ v ≤ 18446744073709551615) : Ok64 n (mkF f a m v) := ⟨fun i hi => by
  unfold mkF
  repeat' split
  · exact hv
  · omega
  · exact h.h i hi⟩
end Go.Proofs.Ytfgeoglegebncaa.Fr
namespace Go.Proofs.Ytfgeoglegebncaa.Fr
set_option maxRecDepth 100000
set_option maxHeartbeats 4000000
open Go.Rx
open Go.RowKit (Below)
set_option linter.unusedVariables false
/-- Two objects: the error; are they alike? -/
def alE (n : Nat) (f : RF) (a b : Int) : Int := if obE n f a = 0 then obE n f b else obE n f a
theorem al_cases (n : Nat) (f : RF) (a b : Int) : (¬ obE n f a = 0 ∧ alE n f a b = obE n f a) ∨ (obE n f a = 0 ∧ alE n f a b = obE n f b) := by
  unfold alE
  split
  · exact .inr ⟨by assumption, rfl⟩
  · exact .inl ⟨by assumption, rfl⟩
def alP (f : RF) (a b : Int) : Prop := hsP (f a.toNat 0) = hsP (f b.toNat 0) ∧ hsR (f a.toNat 0) = hsR (f b.toNat 0) ∧ ∀ i : Nat, i < (hsR (f a.toNat 0)).toNat → f ((a + 1 + hsP (f a.toNat 0)).toNat + i) 0 = f ((b + 1 + hsP (f b.toNat 0)).toNat + i) 0
end Go.Proofs.Ytfgeoglegebncaa.Fr
namespace Go.Proofs.Ytfgeoglegebncaa.Fr
set_option maxRecDepth 100000
set_option maxHeartbeats 4000000
open Go.Rx
open Go.RowKit (Below)
set_option linter.unusedVariables false
def spOG : Con := fun vs bs K => match vs with
  | [vw, .int .i64 a, .int .i64 x, .int .i64 t] => parseRQ [.u64] 0 vw bs fun nw fw j0 bs0 => bs0 = [] ∧ ((Ok64 nw fw) ∧ (spE nw fw a x t = 0)) ∧ (∀ cp, nw ≤ cp → K (.tuple ⟨[rsl j0 0 (nw) cp, .int .i64 (0)]⟩) [.row false [.u64] 25 (nw) cp (setF fw (Int.toNat (a + 1 + x)) t)])
  | _ => False

def spOG_rA (ew nw cw : Nat) (fw : RF) (a : Int) (x : Int) (t : Int) : Ann := fun _ _ _ => none
def spOG_rV (ew nw cw : Nat) (fw : RF) (a : Int) (x : Int) (t : Int) (K : Value → List Blk → Prop) : Prop := let q0 := ((0 : Nat) + nw ≤ nw); let q1 := (nw ≤ (100000 : Nat)); let q2 := (decide ((0 : Nat) < nw)); let q3 := eB; let q4 := (List.length [IntKind.u64]); let q5 := ((0 : Int) ≤ a + (1 : Int)); let q6 := (9223372036854775807 : Int); let q7 := (18446744073709551615 : Int); let q8 := (-9223372036854775808 : Int); let q9 := (fw (Int.toNat a) (0 : Nat)); let q10 := (@Eq Nat ((0 : Nat)) ((0 : Nat))); let q11 := (@Eq Nat ((1 : Nat)) ((1 : Nat))); let q12 := (hsP q9); let q13 := (hsR q9); let q14 := (((0 : Int) ≤ a) ∧ (a < (↑nw : Int))); let q15 := (litF q4 []); let q16 := TS; let q17 := (Int.toNat (a + (1 : Int)) + Int.toNat x < nw); let q18 := (Nat.succ (Nat.succ (Int.toNat (a + (1 : Int))))); let q19 := (a + (1 : Int) + hsP q9); let q20 := ((0 : Nat), Blk.row true [IntKind.u64] ew nw cw fw); let q21 := ((3 : Nat), Blk.cells [vn] (112 : Nat)); let q22 := (appF (fun x x_1 ↦ (0 : Int)) (0 : Nat) fw (0 : Nat) (Int.toNat a) (0 : Nat)); let q23 := (q16 ∧ q11); let q24 := (Int.toNat (a + (1 : Int) + hsP q9 - (a + (1 : Int)))); let q25 := (hsP q22); let q26 := (hsR q22); let q27 := (a + (1 : Int) + hsP q9 + hsR q9); let q28 := ((q8 ≤ a + (1 : Int)) ∧ (a + (1 : Int) ≤ q6)); let q29 := (a + (1 : Int) + hsP q22); let q30 := ((q8 ≤ (↑nw : Int) - a) ∧ ((↑nw : Int) - a ≤ q6)); let q31 := ((0 : Int) ≤ a + (1 : Int) + hsP q22); let q32 := (a + (1 : Int) ≤ a + (1 : Int) + hsP q22); let q33 := (Int.toNat (a + (1 : Int) + hsP q22 - (a + (1 : Int)))); let q34 := (Nat.succ (Nat.succ (Int.toNat q29))); let q35 := (putF (appF (fun x x_1 ↦ (0 : Int)) (0 : Nat) fw (0 : Nat)) (Int.toNat (a + (1 : Int)) + Int.toNat x) (0 : Nat) (t % (18446744073709551616 : Int))); let q36 := ((3 : Nat), Blk.cells [vi q12, vi q13] (60 : Nat)); let q37 := (Int.toNat (a + (1 : Int) + hsP q9 + hsR q9 - q19)); let q38 := (((0 : Int) ≤ x) ∧ (x < (↑q33 : Int))); let q39 := (a + (1 : Int) + hsP q22 + hsR q22); let q40 := (t9 (T0 ∧ (False))); let q41 := (a + (1 : Int) + hsP q22 ≤ a + (1 : Int) + hsP q22); let q42 := (((0 : Int) ≤ appF (fun x x_1 ↦ (0 : Int)) (0 : Nat) fw (0 : Nat) (Int.toNat a) (0 : Nat)) ∧ (appF (fun x x_1 ↦ (0 : Int)) (0 : Nat) fw (0 : Nat) (Int.toNat a) (0 : Nat) ≤ q7)); let q43 := (@Eq Int q29 q29); let q44 := ((2 : Nat), Blk.cells [vi (0 : Int), vi (0 : Int), vn, vi (0 : Int), vn] (118 : Nat)); let q45 := ((1 : Nat), Blk.cells [vi (0 : Int), vi (0 : Int), vn, vi (0 : Int), vn] (118 : Nat)); let q46 := ((q8 ≤ a + (1 : Int) + hsP q22) ∧ (a + (1 : Int) + hsP q22 ≤ q6)); let q47 := (a + (1 : Int) + hsP q22 ≤ a + (1 : Int) + hsP q22 + hsR q22); let q48 := (Int.toNat (a + (1 : Int) + hsP q22 + hsR q22 - q29)); let q49 := ((5 : Nat), Blk.cells [Value.slice (some { block := (0 : Nat), off := (0 : Nat), spot := some q18 }) q24 q24] (112 : Nat)); let q50 := (a + (1 : Int) + hsP q22 + hsR q22 ≤ a + (1 : Int) + hsP q22 + hsR q22); let q51 := (@Eq Int q39 q39); let q52 := ((q8 ≤ hsP q22 + hsR q22) ∧ (hsP q22 + hsR q22 ≤ q6)); let q53 := ((q8 ≤ a + (1 : Int) + hsP q22 + hsR q22) ∧ (a + (1 : Int) + hsP q22 + hsR q22 ≤ q6)); let q54 := (∃ y0 : Value, (∃ y1 : List Blk, ((Go.Rx.Found 1 (Value.tuple { toList := [vn, vi (7 : Int)] }) ({ h := [q21, q44, q45, q20], next := (4 : Nat) }) (y0) (y1)) ∧ (K y0 y1)))); let q55 := (∃ y0 : Value, (∃ y1 : List Blk, ((Go.Rx.Found 1 (Value.tuple { toList := [vn, vi (10 : Int)] }) ({ h := [q21, q44, q45, q20], next := (4 : Nat) }) (y0) (y1)) ∧ (K y0 y1)))); let q56 := ((4 : Nat), Blk.cells [vi q12, vi q13, Value.slice (some { block := (0 : Nat), off := (0 : Nat), spot := some q18 }) q24 q24, vi (a + (1 : Int)), Value.slice (some { block := (0 : Nat), off := (0 : Nat), spot := some (Nat.succ (Nat.succ (Int.toNat q19))) }) q37 q37] (118 : Nat)); let q57 := ((2 : Nat), Blk.cells [vi q12, vi q13, Value.slice (some { block := (0 : Nat), off := (0 : Nat), spot := some q18 }) q24 q24, vi (a + (1 : Int)), Value.slice (some { block := (0 : Nat), off := (0 : Nat), spot := some (Nat.succ (Nat.succ (Int.toNat q19))) }) q37 q37] (118 : Nat)); let q58 := ((1 : Nat), Blk.cells [vi q12, vi q13, Value.slice (some { block := (0 : Nat), off := (0 : Nat), spot := some q18 }) q24 q24, vi (a + (1 : Int)), Value.slice (some { block := (0 : Nat), off := (0 : Nat), spot := some (Nat.succ (Nat.succ (Int.toNat q19))) }) q37 q37] (118 : Nat)); let q59 := (t9 (∃ y0 : Value, (∃ y1 : List Blk, ((Go.Rx.Found 1 (Value.tuple { toList := [vn, vi (7 : Int)] }) ({ h := [((3 : Nat), Blk.cells [vi (0 : Int), vi (0 : Int), vn, vi (0 : Int), vn] (118 : Nat)), q44, q45, q20], next := (4 : Nat) }) (y0) (y1)) ∧ (K y0 y1))))); let q60 := (t2 (if (a < (1 : Int)) then q40 else (q16 ∧ (T0 ∧ (if ((↑(0 : Nat) : Int) ≤ a) then q40 else (q23 ∧ ((((0 : Int) ≤ a) ∧ (a < (↑(0 : Nat) : Int))) ∧ ((Int.toNat a < (0 : Nat)) ∧ (T0 ∧ (q3 ∧ ((((0 : Int) ≤ litF q4 [] (Int.toNat a) (0 : Nat)) ∧ (litF q4 [] (Int.toNat a) (0 : Nat) ≤ q7)) ∧ (t3 q40)))))))))))); let q61 := (t9 (∃ y0 : Value, (∃ y1 : List Blk, ((Go.Rx.Found 1 (Value.tuple { toList := [vn, vi (6 : Int)] }) ({ h := [((4 : Nat), Blk.cells [vi (0 : Int), vi (0 : Int), vn, vi (0 : Int), vn] (118 : Nat)), q36, q44, q45, q20], next := (5 : Nat) }) (y0) (y1)) ∧ (K y0 y1))))); let q62 := (∃ y0 : Value, (∃ y1 : List Blk, ((Go.Rx.Found 1 (Value.tuple { toList := [vn, vi (7 : Int)] }) ({ h := [q49, q56, q36, q57, q58, q20], next := (6 : Nat) }) (y0) (y1)) ∧ (K y0 y1)))); let q63 := (∃ y0 : Value, (∃ y1 : List Blk, ((Go.Rx.Found 1 (Value.tuple { toList := [vn, vi (10 : Int)] }) ({ h := [q49, q56, q36, q57, q58, q20], next := (6 : Nat) }) (y0) (y1)) ∧ (K y0 y1)))); (t2 (q0 ∧ ((q10 ∧ (q1 ∧ (nw ≤ cw))) ∧ (((@Eq (List IntKind) ([IntKind.u64]) ([IntKind.u64])) ∧ ((@Eq Nat (nw) (nw)) ∧ (@Eq Nat (cw) (cw)))) ∧ (q3 ∧ ((True) ∧ (T0 ∧ (if (@Eq Int (arE nw fw) ((0 : Int))) then (t2 (if (a < (1 : Int)) then q59 else (q16 ∧ (T0 ∧ (if ((↑nw : Int) ≤ a) then q59 else (q23 ∧ (q14 ∧ ((Int.toNat a < nw) ∧ (T0 ∧ (q3 ∧ ((((0 : Int) ≤ fw (Int.toNat a) (0 : Nat)) ∧ (fw (Int.toNat a) (0 : Nat) ≤ q7)) ∧ (t3 (if (@Eq Int (hsE q9) ((0 : Int))) then (t3 (((q8 ≤ hsP q9 + hsR q9) ∧ (hsP q9 + hsR q9 ≤ q6)) ∧ (q16 ∧ (T0 ∧ (q30 ∧ (T0 ∧ (if ((↑nw : Int) - a ≤ hsP q9 + hsR q9) then q61 else (T0 ∧ (q28 ∧ (t2 (((q8 ≤ a + (1 : Int) + hsP q9) ∧ (a + (1 : Int) + hsP q9 ≤ q6)) ∧ (t2 (((q8 ≤ a + (1 : Int) + hsP q9 + hsR q9) ∧ (a + (1 : Int) + hsP q9 + hsR q9 ≤ q6)) ∧ (t8 (q16 ∧ (t4 (q11 ∧ ((q5 ∧ ((a + (1 : Int) ≤ a + (1 : Int) + hsP q9) ∧ ((a + (1 : Int) + hsP q9 ≤ a + (1 : Int) + hsP q9) ∧ (a + (1 : Int) + hsP q9 ≤ (↑cw : Int))))) ∧ ((@Eq Int q19 q19) ∧ (t8 (q16 ∧ (t4 (q11 ∧ ((((0 : Int) ≤ a + (1 : Int) + hsP q9) ∧ ((a + (1 : Int) + hsP q9 ≤ a + (1 : Int) + hsP q9 + hsR q9) ∧ ((a + (1 : Int) + hsP q9 + hsR q9 ≤ a + (1 : Int) + hsP q9 + hsR q9) ∧ (a + (1 : Int) + hsP q9 + hsR q9 ≤ (↑cw : Int))))) ∧ ((@Eq Int q27 q27) ∧ (t9 (t8 (if ((0 : Int) ≤ x) then (T0 ∧ (q16 ∧ (T0 ∧ (if (x < (↑q24 : Int)) then (T0 ∧ (if (t < (0 : Int)) then q62 else (q16 ∧ (T0 ∧ (if ((↑nw : Int) ≤ t) then q62 else (T0 ∧ (q16 ∧ (q16 ∧ (t4 (q16 ∧ (q16 ∧ (t4 (q0 ∧ (q1 ∧ (T0 ∧ (q10 ∧ (Go.Rx.br q2 (∀ y0 : Nat, let q66 := (y0 - (1 : Nat) + (1 : Nat)); let q67 := (↑q66 : Int); ((nw ≤ y0) → (t2 (if (a < (1 : Int)) then q40 else (q16 ∧ (T0 ∧ (if ((↑nw : Int) ≤ a) then q40 else (q23 ∧ (q14 ∧ ((Int.toNat a < nw) ∧ (T0 ∧ (q3 ∧ (q42 ∧ (t3 (if (@Eq Int (hsE q22) ((0 : Int))) then (t3 (q52 ∧ (q16 ∧ (T0 ∧ (q30 ∧ (T0 ∧ (if ((↑nw : Int) - a ≤ hsP q22 + hsR q22) then q40 else (T0 ∧ (q28 ∧ (t2 (q46 ∧ (t2 (q53 ∧ (t8 (q16 ∧ (t4 (q11 ∧ ((q5 ∧ (q32 ∧ (q41 ∧ (a + (1 : Int) + hsP q22 ≤ q67)))) ∧ (q43 ∧ (t8 (q16 ∧ (t4 (q11 ∧ ((q31 ∧ (q47 ∧ (q50 ∧ (a + (1 : Int) + hsP q22 + hsR q22 ≤ q67)))) ∧ (q51 ∧ (t9 (t4 (q23 ∧ (q38 ∧ ((false = false) ∧ (q17 ∧ (t2 (∃ y1 : Value, (∃ y2 : List Blk, ((Go.Rx.Found 1 (Value.tuple { toList := [rsl (7 : Nat) (0 : Nat) nw q66, vi (0 : Int)] }) ({ h := [((11 : Nat), Blk.cells [Value.slice (some { block := (7 : Nat), off := (0 : Nat), spot := some q18 }) q33 q33] (112 : Nat)), ((10 : Nat), Blk.cells [vi q25, vi q26, Value.slice (some { block := (7 : Nat), off := (0 : Nat), spot := some q18 }) q33 q33, vi (a + (1 : Int)), Value.slice (some { block := (7 : Nat), off := (0 : Nat), spot := some q34 }) q48 q48] (118 : Nat)), ((9 : Nat), Blk.cells [vi q25, vi q26] (60 : Nat)), ((8 : Nat), Blk.cells [vi q25, vi q26, Value.slice (some { block := (7 : Nat), off := (0 : Nat), spot := some q18 }) q33 q33, vi (a + (1 : Int)), Value.slice (some { block := (7 : Nat), off := (0 : Nat), spot := some q34 }) q48 q48] (118 : Nat)), ((7 : Nat), Blk.row false [IntKind.u64] (25 : Nat) nw q66 q35), ((6 : Nat), Blk.row false [IntKind.u64] (25 : Nat) (0 : Nat) (0 : Nat) q15), q49, q56, q36, q57, q58, q20], next := (12 : Nat) }) (y1) (y2)) ∧ (K y1 y2)))))))))))))))))))))))))))))))))))) else q40))))))))))))))) q60))))))))))))))))) else q63)))) else q63)))))))))))))))))))))))))))) else q61))))))))))))) else (t6 (if (@Eq Int (arE nw fw) ((0 : Int))) then (t5 (if ((0 : Int) ≤ x) then (T0 ∧ (q16 ∧ (T0 ∧ (if (x < (↑(0 : Nat) : Int)) then (T0 ∧ (if (t < (0 : Int)) then q54 else (q16 ∧ (T0 ∧ (if ((↑nw : Int) ≤ t) then q54 else (T0 ∧ (q16 ∧ (q16 ∧ (t4 (q16 ∧ (q16 ∧ (t4 (q0 ∧ (q1 ∧ (T0 ∧ (q10 ∧ (Go.Rx.br q2 (∀ y0 : Nat, let q64 := (y0 - (1 : Nat) + (1 : Nat)); let q65 := (↑q64 : Int); ((nw ≤ y0) → (t2 (if (a < (1 : Int)) then q40 else (q16 ∧ (T0 ∧ (if ((↑nw : Int) ≤ a) then q40 else (q23 ∧ (q14 ∧ ((Int.toNat a < nw) ∧ (T0 ∧ (q3 ∧ (q42 ∧ (t3 (if (@Eq Int (hsE q22) ((0 : Int))) then (t3 (q52 ∧ (q16 ∧ (T0 ∧ (q30 ∧ (T0 ∧ (if ((↑nw : Int) - a ≤ hsP q22 + hsR q22) then q40 else (T0 ∧ (q28 ∧ (t2 (q46 ∧ (t2 (q53 ∧ (t8 (q16 ∧ (t4 (q11 ∧ ((q5 ∧ (q32 ∧ (q41 ∧ (a + (1 : Int) + hsP q22 ≤ q65)))) ∧ (q43 ∧ (t8 (q16 ∧ (t4 (q11 ∧ ((q31 ∧ (q47 ∧ (q50 ∧ (a + (1 : Int) + hsP q22 + hsR q22 ≤ q65)))) ∧ (q51 ∧ (t9 (t4 (q23 ∧ (q38 ∧ ((false = false) ∧ (q17 ∧ (t2 (∃ y1 : Value, (∃ y2 : List Blk, ((Go.Rx.Found 1 (Value.tuple { toList := [rsl (5 : Nat) (0 : Nat) nw q64, vi (0 : Int)] }) ({ h := [((9 : Nat), Blk.cells [Value.slice (some { block := (5 : Nat), off := (0 : Nat), spot := some q18 }) q33 q33] (112 : Nat)), ((8 : Nat), Blk.cells [vi q25, vi q26, Value.slice (some { block := (5 : Nat), off := (0 : Nat), spot := some q18 }) q33 q33, vi (a + (1 : Int)), Value.slice (some { block := (5 : Nat), off := (0 : Nat), spot := some q34 }) q48 q48] (118 : Nat)), ((7 : Nat), Blk.cells [vi q25, vi q26] (60 : Nat)), ((6 : Nat), Blk.cells [vi q25, vi q26, Value.slice (some { block := (5 : Nat), off := (0 : Nat), spot := some q18 }) q33 q33, vi (a + (1 : Int)), Value.slice (some { block := (5 : Nat), off := (0 : Nat), spot := some q34 }) q48 q48] (118 : Nat)), ((5 : Nat), Blk.row false [IntKind.u64] (25 : Nat) nw q64 q35), ((4 : Nat), Blk.row false [IntKind.u64] (25 : Nat) (0 : Nat) (0 : Nat) q15), q21, q44, q45, q20], next := (10 : Nat) }) (y1) (y2)) ∧ (K y1 y2)))))))))))))))))))))))))))))))))))) else q40))))))))))))))) q60))))))))))))))))) else q55)))) else q55)) else (∃ y0 : Value, (∃ y1 : List Blk, ((Go.Rx.Found 1 (Value.tuple { toList := [vn, vi (arE nw fw)] }) ({ h := [q44, q45, q20], next := (3 : Nat) }) (y0) (y1)) ∧ (K y0 y1))))))))))))))
theorem spOG_rE (ew nw cw : Nat) (fw : RF) (a : Int) (x : Int) (t : Int) (K : Value → List Blk → Prop) : spOG_rV ew nw cw fw a x t K = bodyX (mk XO) (callN (mk XO) 9) (spOG_rA ew nw cw fw a x t) Try.f60 [rsl 0 0 nw cw, .int .i64 a, .int .i64 x, .int .i64 t] (stOf [.row true [.u64] ew nw cw fw]) (Fd 1 K) := by kernel_rfl
set_option tactic.hygienic false in
theorem spOG_rP (ew nw cw : Nat) (fw : RF) (a : Int) (x : Int) (t : Int) (K : Value → List Blk → Prop)  (hnw : nw ≤ 100000) (hcw : nw ≤ cw) (hU : Ok64 nw fw) (h1 : spE nw fw a x t = 0) (h : ∀ cp, nw ≤ cp → K (.tuple ⟨[rsl 1 0 (nw) cp, .int .i64 (0)]⟩) [.row false [.u64] 25 (nw) cp (setF fw (Int.toNat (a + 1 + x)) t)]) : spOG_rV ew nw cw fw a x t K := by
  unfold spOG_rV
  conv => zeta
  have z0 := ar_cases nw fw
  have z1 := ob_cases hU a
  have z2 := fun (h1 : 0 ≤ a) (h2 : a < nw) => hU.at h1 h2
  have z3 := fun (h1 : 0 ≤ a) (h2 : a < nw) => hs_bd (hU.at h1 h2).1
  have z4 := sp_cases nw fw a x t
  repeat' (first | (with_reducible exact rfl) | (with_reducible exact trivial) | (with_reducible refine And.intro ?_ ?_) | (intro) | (with_reducible refine br_d (fun hq => ?_) (fun hq => ?_)) | (with_reducible refine br_nd (fun hq => ?_) (fun hq => ?_)) | (with_reducible refine br_intro (fun hq => ?_) (fun hq => ?_)) | (with_reducible refine if_both (fun hz => ?_) (fun hz => ?_)) | fail)
  all_goals try simp only [app_nil] at *
  all_goals first
    | (with_reducible assumption)
    | (refine (id ?_ : ∃ (v1 : Value) (news : List Blk), _)
       first
        | contradiction
        | (refine fin1t rfl ?_ (by kernel_rfl) (by kernel_rfl) (h _ (by omega)); (intro i j hi hj; obtain rfl : j = 0 := (by simp at hj; omega); (try unfold setF); (try unfold zroF); (try unfold mkF); (try unfold putF); (try unfold appF); (try unfold clrF); (try unfold setF); (try unfold zroF); (repeat' split) <;> first | rfl | omega | (exfalso; omega) | (simp_all; done) | (simp_all; omega)))
        | (exfalso; omega)
        | (exfalso; simp at hq; omega)
       )
    | omega
    | contradiction
    | (refine fin1t rfl ?_ (by kernel_rfl) (by kernel_rfl) (h _ (by omega)); (intro i j hi hj; obtain rfl : j = 0 := (by simp at hj; omega); (try unfold setF); (try unfold zroF); (try unfold mkF); (try unfold putF); (try unfold appF); (try unfold clrF); (try unfold setF); (try unfold zroF); (repeat' split) <;> first | rfl | omega | (exfalso; omega) | (simp_all; done) | (simp_all; omega)))
    | (exfalso; omega)
    | (exfalso; simp at hq; omega)
theorem spOG_ok : BodyOk (mk XO) 9 Try.f60 spOG := by
  intro vs bs K hh hro
  clear hro
  unfold spOG at hh
  split at hh
  · rename_i vw a x t
    obtain ⟨ew, nw, cw, fw, btw, rfl, hnw, hcw, rfl, hh0⟩ := parseRQ_inv hh
    obtain ⟨rfl, ⟨hU, h1⟩, hc⟩ := hh0
    exact ⟨_, _, cast (spOG_rE ew nw cw fw a x t K) (spOG_rP ew nw cw fw a x t K hnw hcw hU h1 hc)⟩
  · exact hh.elim
theorem spOG_told : Told 60 (specOf spOG) := told (X := XO) XO_told (by kernel_rfl) (by kernel_rfl) (by kernel_rfl) spOG_ok
end Go.Proofs.Ytfgeoglegebncaa.Fr
namespace Go.Proofs.Ytfgeoglegebncaa.Fr
set_option maxRecDepth 100000
set_option maxHeartbeats 4000000
open Go.Rx
open Go.RowKit (Below)
set_option linter.unusedVariables false
def srOG : Con := fun vs bs K => match vs with
  | [vw, .int .i64 a, .int .i64 x, .int .u64 v] => parseRQ [.u64] 0 vw bs fun nw fw j0 bs0 => bs0 = [] ∧ ((Ok64 nw fw) ∧ (rwE nw fw a x = 0)) ∧ (∀ cp, nw ≤ cp → K (.tuple ⟨[rsl j0 0 (nw) cp, .int .i64 (0)]⟩) [.row false [.u64] 25 (nw) cp (setF fw (Int.toNat (a + 1 + obP nw fw a + x)) v)])
  | _ => False

def srOG_rA (ew nw cw : Nat) (fw : RF) (a : Int) (x : Int) (v : Int) : Ann := fun _ _ _ => none
def srOG_rV (ew nw cw : Nat) (fw : RF) (a : Int) (x : Int) (v : Int) (K : Value → List Blk → Prop) : Prop := let q0 := ((0 : Nat) + nw ≤ nw); let q1 := (nw ≤ (100000 : Nat)); let q2 := (decide ((0 : Nat) < nw)); let q3 := eB; let q4 := (List.length [IntKind.u64]); let q5 := ((0 : Int) ≤ a + (1 : Int)); let q6 := (9223372036854775807 : Int); let q7 := (18446744073709551615 : Int); let q8 := (-9223372036854775808 : Int); let q9 := (fw (Int.toNat a) (0 : Nat)); let q10 := (@Eq Nat ((0 : Nat)) ((0 : Nat))); let q11 := (@Eq Nat ((1 : Nat)) ((1 : Nat))); let q12 := (hsP q9); let q13 := (hsR q9); let q14 := (((0 : Int) ≤ a) ∧ (a < (↑nw : Int))); let q15 := (litF q4 []); let q16 := TS; let q17 := (Nat.succ (Nat.succ (Int.toNat (a + (1 : Int))))); let q18 := (a + (1 : Int) + hsP q9); let q19 := ((0 : Nat), Blk.row true [IntKind.u64] ew nw cw fw); let q20 := ((3 : Nat), Blk.cells [vn] (112 : Nat)); let q21 := (appF (fun x x_1 ↦ (0 : Int)) (0 : Nat) fw (0 : Nat) (Int.toNat a) (0 : Nat)); let q22 := (q16 ∧ q11); let q23 := (Int.toNat (a + (1 : Int) + hsP q9 - (a + (1 : Int)))); let q24 := (hsP q21); let q25 := (hsR q21); let q26 := (a + (1 : Int) + hsP q9 + hsR q9); let q27 := ((q8 ≤ a + (1 : Int)) ∧ (a + (1 : Int) ≤ q6)); let q28 := (a + (1 : Int) + hsP q21); let q29 := ((q8 ≤ (↑nw : Int) - a) ∧ ((↑nw : Int) - a ≤ q6)); let q30 := ((0 : Int) ≤ a + (1 : Int) + hsP q21); let q31 := (a + (1 : Int) ≤ a + (1 : Int) + hsP q21); let q32 := (Int.toNat (a + (1 : Int) + hsP q21 - (a + (1 : Int)))); let q33 := (Int.toNat q28 + Int.toNat x < nw); let q34 := (Nat.succ (Nat.succ (Int.toNat q28))); let q35 := ((3 : Nat), Blk.cells [vi q12, vi q13] (60 : Nat)); let q36 := (Int.toNat (a + (1 : Int) + hsP q9 + hsR q9 - q18)); let q37 := (a + (1 : Int) + hsP q21 + hsR q21); let q38 := (t9 (T0 ∧ (False))); let q39 := (putF (appF (fun x x_1 ↦ (0 : Int)) (0 : Nat) fw (0 : Nat)) (Int.toNat q28 + Int.toNat x) (0 : Nat) v); let q40 := (a + (1 : Int) + hsP q21 ≤ a + (1 : Int) + hsP q21); let q41 := (((0 : Int) ≤ appF (fun x x_1 ↦ (0 : Int)) (0 : Nat) fw (0 : Nat) (Int.toNat a) (0 : Nat)) ∧ (appF (fun x x_1 ↦ (0 : Int)) (0 : Nat) fw (0 : Nat) (Int.toNat a) (0 : Nat) ≤ q7)); let q42 := (@Eq Int q28 q28); let q43 := ((2 : Nat), Blk.cells [vi (0 : Int), vi (0 : Int), vn, vi (0 : Int), vn] (118 : Nat)); let q44 := ((1 : Nat), Blk.cells [vi (0 : Int), vi (0 : Int), vn, vi (0 : Int), vn] (118 : Nat)); let q45 := ((q8 ≤ a + (1 : Int) + hsP q21) ∧ (a + (1 : Int) + hsP q21 ≤ q6)); let q46 := (a + (1 : Int) + hsP q21 ≤ a + (1 : Int) + hsP q21 + hsR q21); let q47 := (Int.toNat (a + (1 : Int) + hsP q21 + hsR q21 - q28)); let q48 := (((0 : Int) ≤ x) ∧ (x < (↑q47 : Int))); let q49 := (a + (1 : Int) + hsP q21 + hsR q21 ≤ a + (1 : Int) + hsP q21 + hsR q21); let q50 := (@Eq Int q37 q37); let q51 := ((q8 ≤ hsP q21 + hsR q21) ∧ (hsP q21 + hsR q21 ≤ q6)); let q52 := ((q8 ≤ a + (1 : Int) + hsP q21 + hsR q21) ∧ (a + (1 : Int) + hsP q21 + hsR q21 ≤ q6)); let q53 := ((5 : Nat), Blk.cells [Value.slice (some { block := (0 : Nat), off := (0 : Nat), spot := some (Nat.succ (Nat.succ (Int.toNat q18))) }) q36 q36] (112 : Nat)); let q54 := (∃ y0 : Value, (∃ y1 : List Blk, ((Go.Rx.Found 1 (Value.tuple { toList := [vn, vi (10 : Int)] }) ({ h := [q20, q43, q44, q19], next := (4 : Nat) }) (y0) (y1)) ∧ (K y0 y1)))); let q55 := ((4 : Nat), Blk.cells [vi q12, vi q13, Value.slice (some { block := (0 : Nat), off := (0 : Nat), spot := some q17 }) q23 q23, vi (a + (1 : Int)), Value.slice (some { block := (0 : Nat), off := (0 : Nat), spot := some (Nat.succ (Nat.succ (Int.toNat q18))) }) q36 q36] (118 : Nat)); let q56 := ((2 : Nat), Blk.cells [vi q12, vi q13, Value.slice (some { block := (0 : Nat), off := (0 : Nat), spot := some q17 }) q23 q23, vi (a + (1 : Int)), Value.slice (some { block := (0 : Nat), off := (0 : Nat), spot := some (Nat.succ (Nat.succ (Int.toNat q18))) }) q36 q36] (118 : Nat)); let q57 := ((1 : Nat), Blk.cells [vi q12, vi q13, Value.slice (some { block := (0 : Nat), off := (0 : Nat), spot := some q17 }) q23 q23, vi (a + (1 : Int)), Value.slice (some { block := (0 : Nat), off := (0 : Nat), spot := some (Nat.succ (Nat.succ (Int.toNat q18))) }) q36 q36] (118 : Nat)); let q58 := (t9 (∃ y0 : Value, (∃ y1 : List Blk, ((Go.Rx.Found 1 (Value.tuple { toList := [vn, vi (7 : Int)] }) ({ h := [((3 : Nat), Blk.cells [vi (0 : Int), vi (0 : Int), vn, vi (0 : Int), vn] (118 : Nat)), q43, q44, q19], next := (4 : Nat) }) (y0) (y1)) ∧ (K y0 y1))))); let q59 := (t2 (if (a < (1 : Int)) then q38 else (q16 ∧ (T0 ∧ (if ((↑(0 : Nat) : Int) ≤ a) then q38 else (q22 ∧ ((((0 : Int) ≤ a) ∧ (a < (↑(0 : Nat) : Int))) ∧ ((Int.toNat a < (0 : Nat)) ∧ (T0 ∧ (q3 ∧ ((((0 : Int) ≤ litF q4 [] (Int.toNat a) (0 : Nat)) ∧ (litF q4 [] (Int.toNat a) (0 : Nat) ≤ q7)) ∧ (t3 q38)))))))))))); let q60 := (t9 (∃ y0 : Value, (∃ y1 : List Blk, ((Go.Rx.Found 1 (Value.tuple { toList := [vn, vi (6 : Int)] }) ({ h := [((4 : Nat), Blk.cells [vi (0 : Int), vi (0 : Int), vn, vi (0 : Int), vn] (118 : Nat)), q35, q43, q44, q19], next := (5 : Nat) }) (y0) (y1)) ∧ (K y0 y1))))); let q61 := (∃ y0 : Value, (∃ y1 : List Blk, ((Go.Rx.Found 1 (Value.tuple { toList := [vn, vi (10 : Int)] }) ({ h := [q53, q55, q35, q56, q57, q19], next := (6 : Nat) }) (y0) (y1)) ∧ (K y0 y1)))); (t2 (q0 ∧ ((q10 ∧ (q1 ∧ (nw ≤ cw))) ∧ (((@Eq (List IntKind) ([IntKind.u64]) ([IntKind.u64])) ∧ ((@Eq Nat (nw) (nw)) ∧ (@Eq Nat (cw) (cw)))) ∧ (q3 ∧ ((True) ∧ (T0 ∧ (if (@Eq Int (arE nw fw) ((0 : Int))) then (t2 (if (a < (1 : Int)) then q58 else (q16 ∧ (T0 ∧ (if ((↑nw : Int) ≤ a) then q58 else (q22 ∧ (q14 ∧ ((Int.toNat a < nw) ∧ (T0 ∧ (q3 ∧ ((((0 : Int) ≤ fw (Int.toNat a) (0 : Nat)) ∧ (fw (Int.toNat a) (0 : Nat) ≤ q7)) ∧ (t3 (if (@Eq Int (hsE q9) ((0 : Int))) then (t3 (((q8 ≤ hsP q9 + hsR q9) ∧ (hsP q9 + hsR q9 ≤ q6)) ∧ (q16 ∧ (T0 ∧ (q29 ∧ (T0 ∧ (if ((↑nw : Int) - a ≤ hsP q9 + hsR q9) then q60 else (T0 ∧ (q27 ∧ (t2 (((q8 ≤ a + (1 : Int) + hsP q9) ∧ (a + (1 : Int) + hsP q9 ≤ q6)) ∧ (t2 (((q8 ≤ a + (1 : Int) + hsP q9 + hsR q9) ∧ (a + (1 : Int) + hsP q9 + hsR q9 ≤ q6)) ∧ (t8 (q16 ∧ (t4 (q11 ∧ ((q5 ∧ ((a + (1 : Int) ≤ a + (1 : Int) + hsP q9) ∧ ((a + (1 : Int) + hsP q9 ≤ a + (1 : Int) + hsP q9) ∧ (a + (1 : Int) + hsP q9 ≤ (↑cw : Int))))) ∧ ((@Eq Int q18 q18) ∧ (t8 (q16 ∧ (t4 (q11 ∧ ((((0 : Int) ≤ a + (1 : Int) + hsP q9) ∧ ((a + (1 : Int) + hsP q9 ≤ a + (1 : Int) + hsP q9 + hsR q9) ∧ ((a + (1 : Int) + hsP q9 + hsR q9 ≤ a + (1 : Int) + hsP q9 + hsR q9) ∧ (a + (1 : Int) + hsP q9 + hsR q9 ≤ (↑cw : Int))))) ∧ ((@Eq Int q26 q26) ∧ (t9 (t8 (if ((0 : Int) ≤ x) then (T0 ∧ (q16 ∧ (T0 ∧ (if (x < (↑q36 : Int)) then (T0 ∧ (q16 ∧ (q16 ∧ (t4 (q16 ∧ (q16 ∧ (t4 (q0 ∧ (q1 ∧ (T0 ∧ (q10 ∧ (Go.Rx.br q2 (∀ y0 : Nat, let q64 := (y0 - (1 : Nat) + (1 : Nat)); let q65 := (↑q64 : Int); ((nw ≤ y0) → (t2 (if (a < (1 : Int)) then q38 else (q16 ∧ (T0 ∧ (if ((↑nw : Int) ≤ a) then q38 else (q22 ∧ (q14 ∧ ((Int.toNat a < nw) ∧ (T0 ∧ (q3 ∧ (q41 ∧ (t3 (if (@Eq Int (hsE q21) ((0 : Int))) then (t3 (q51 ∧ (q16 ∧ (T0 ∧ (q29 ∧ (T0 ∧ (if ((↑nw : Int) - a ≤ hsP q21 + hsR q21) then q38 else (T0 ∧ (q27 ∧ (t2 (q45 ∧ (t2 (q52 ∧ (t8 (q16 ∧ (t4 (q11 ∧ ((q5 ∧ (q31 ∧ (q40 ∧ (a + (1 : Int) + hsP q21 ≤ q65)))) ∧ (q42 ∧ (t8 (q16 ∧ (t4 (q11 ∧ ((q30 ∧ (q46 ∧ (q49 ∧ (a + (1 : Int) + hsP q21 + hsR q21 ≤ q65)))) ∧ (q50 ∧ (t9 (t4 (q22 ∧ (q48 ∧ ((false = false) ∧ (q33 ∧ (t2 (∃ y1 : Value, (∃ y2 : List Blk, ((Go.Rx.Found 1 (Value.tuple { toList := [rsl (7 : Nat) (0 : Nat) nw q64, vi (0 : Int)] }) ({ h := [((11 : Nat), Blk.cells [Value.slice (some { block := (7 : Nat), off := (0 : Nat), spot := some q34 }) q47 q47] (112 : Nat)), ((10 : Nat), Blk.cells [vi q24, vi q25, Value.slice (some { block := (7 : Nat), off := (0 : Nat), spot := some q17 }) q32 q32, vi (a + (1 : Int)), Value.slice (some { block := (7 : Nat), off := (0 : Nat), spot := some q34 }) q47 q47] (118 : Nat)), ((9 : Nat), Blk.cells [vi q24, vi q25] (60 : Nat)), ((8 : Nat), Blk.cells [vi q24, vi q25, Value.slice (some { block := (7 : Nat), off := (0 : Nat), spot := some q17 }) q32 q32, vi (a + (1 : Int)), Value.slice (some { block := (7 : Nat), off := (0 : Nat), spot := some q34 }) q47 q47] (118 : Nat)), ((7 : Nat), Blk.row false [IntKind.u64] (25 : Nat) nw q64 q39), ((6 : Nat), Blk.row false [IntKind.u64] (25 : Nat) (0 : Nat) (0 : Nat) q15), q53, q55, q35, q56, q57, q19], next := (12 : Nat) }) (y1) (y2)) ∧ (K y1 y2)))))))))))))))))))))))))))))))))))) else q38))))))))))))))) q59)))))))))))) else q61)))) else q61)))))))))))))))))))))))))))) else q60))))))))))))) else (t6 (if (@Eq Int (arE nw fw) ((0 : Int))) then (t5 (if ((0 : Int) ≤ x) then (T0 ∧ (q16 ∧ (T0 ∧ (if (x < (↑(0 : Nat) : Int)) then (T0 ∧ (q16 ∧ (q16 ∧ (t4 (q16 ∧ (q16 ∧ (t4 (q0 ∧ (q1 ∧ (T0 ∧ (q10 ∧ (Go.Rx.br q2 (∀ y0 : Nat, let q62 := (y0 - (1 : Nat) + (1 : Nat)); let q63 := (↑q62 : Int); ((nw ≤ y0) → (t2 (if (a < (1 : Int)) then q38 else (q16 ∧ (T0 ∧ (if ((↑nw : Int) ≤ a) then q38 else (q22 ∧ (q14 ∧ ((Int.toNat a < nw) ∧ (T0 ∧ (q3 ∧ (q41 ∧ (t3 (if (@Eq Int (hsE q21) ((0 : Int))) then (t3 (q51 ∧ (q16 ∧ (T0 ∧ (q29 ∧ (T0 ∧ (if ((↑nw : Int) - a ≤ hsP q21 + hsR q21) then q38 else (T0 ∧ (q27 ∧ (t2 (q45 ∧ (t2 (q52 ∧ (t8 (q16 ∧ (t4 (q11 ∧ ((q5 ∧ (q31 ∧ (q40 ∧ (a + (1 : Int) + hsP q21 ≤ q63)))) ∧ (q42 ∧ (t8 (q16 ∧ (t4 (q11 ∧ ((q30 ∧ (q46 ∧ (q49 ∧ (a + (1 : Int) + hsP q21 + hsR q21 ≤ q63)))) ∧ (q50 ∧ (t9 (t4 (q22 ∧ (q48 ∧ ((false = false) ∧ (q33 ∧ (t2 (∃ y1 : Value, (∃ y2 : List Blk, ((Go.Rx.Found 1 (Value.tuple { toList := [rsl (5 : Nat) (0 : Nat) nw q62, vi (0 : Int)] }) ({ h := [((9 : Nat), Blk.cells [Value.slice (some { block := (5 : Nat), off := (0 : Nat), spot := some q34 }) q47 q47] (112 : Nat)), ((8 : Nat), Blk.cells [vi q24, vi q25, Value.slice (some { block := (5 : Nat), off := (0 : Nat), spot := some q17 }) q32 q32, vi (a + (1 : Int)), Value.slice (some { block := (5 : Nat), off := (0 : Nat), spot := some q34 }) q47 q47] (118 : Nat)), ((7 : Nat), Blk.cells [vi q24, vi q25] (60 : Nat)), ((6 : Nat), Blk.cells [vi q24, vi q25, Value.slice (some { block := (5 : Nat), off := (0 : Nat), spot := some q17 }) q32 q32, vi (a + (1 : Int)), Value.slice (some { block := (5 : Nat), off := (0 : Nat), spot := some q34 }) q47 q47] (118 : Nat)), ((5 : Nat), Blk.row false [IntKind.u64] (25 : Nat) nw q62 q39), ((4 : Nat), Blk.row false [IntKind.u64] (25 : Nat) (0 : Nat) (0 : Nat) q15), q20, q43, q44, q19], next := (10 : Nat) }) (y1) (y2)) ∧ (K y1 y2)))))))))))))))))))))))))))))))))))) else q38))))))))))))))) q59)))))))))))) else q54)))) else q54)) else (∃ y0 : Value, (∃ y1 : List Blk, ((Go.Rx.Found 1 (Value.tuple { toList := [vn, vi (arE nw fw)] }) ({ h := [q43, q44, q19], next := (3 : Nat) }) (y0) (y1)) ∧ (K y0 y1))))))))))))))
theorem srOG_rE (ew nw cw : Nat) (fw : RF) (a : Int) (x : Int) (v : Int) (K : Value → List Blk → Prop) : srOG_rV ew nw cw fw a x v K = bodyX (mk XO) (callN (mk XO) 9) (srOG_rA ew nw cw fw a x v) Try.f62 [rsl 0 0 nw cw, .int .i64 a, .int .i64 x, .int .u64 v] (stOf [.row true [.u64] ew nw cw fw]) (Fd 1 K) := by kernel_rfl
set_option tactic.hygienic false in
theorem srOG_rP (ew nw cw : Nat) (fw : RF) (a : Int) (x : Int) (v : Int) (K : Value → List Blk → Prop)  (hnw : nw ≤ 100000) (hcw : nw ≤ cw) (hU : Ok64 nw fw) (h1 : rwE nw fw a x = 0) (h : ∀ cp, nw ≤ cp → K (.tuple ⟨[rsl 1 0 (nw) cp, .int .i64 (0)]⟩) [.row false [.u64] 25 (nw) cp (setF fw (Int.toNat (a + 1 + obP nw fw a + x)) v)]) : srOG_rV ew nw cw fw a x v K := by
  unfold srOG_rV
  conv => zeta
  have z0 := ar_cases nw fw
  have z1 := ob_cases hU a
  have z2 := fun (h1 : 0 ≤ a) (h2 : a < nw) => hU.at h1 h2
  have z3 := fun (h1 : 0 ≤ a) (h2 : a < nw) => hs_bd (hU.at h1 h2).1
  have z4 := rw_cases nw fw a x
  repeat' (first | (with_reducible exact rfl) | (with_reducible exact trivial) | (with_reducible refine And.intro ?_ ?_) | (intro) | (with_reducible refine br_d (fun hq => ?_) (fun hq => ?_)) | (with_reducible refine br_nd (fun hq => ?_) (fun hq => ?_)) | (with_reducible refine br_intro (fun hq => ?_) (fun hq => ?_)) | (with_reducible refine if_both (fun hz => ?_) (fun hz => ?_)) | fail)
  all_goals try simp only [app_nil] at *
  all_goals first
    | (with_reducible assumption)
    | (refine (id ?_ : ∃ (v1 : Value) (news : List Blk), _)
       first
        | contradiction
        | (refine fin1t rfl ?_ (by kernel_rfl) (by kernel_rfl) (h _ (by omega)); (intro i j hi hj; obtain rfl : j = 0 := (by simp at hj; omega); (try unfold setF); (try unfold zroF); (try unfold mkF); (try unfold putF); (try unfold appF); (try unfold clrF); (try unfold setF); (try unfold zroF); (repeat' split) <;> first | rfl | omega | (exfalso; omega) | (simp_all; done) | (simp_all; omega)))
        | (exfalso; omega)
        | (exfalso; simp at hq; omega)
       )
    | omega
    | contradiction
    | (refine fin1t rfl ?_ (by kernel_rfl) (by kernel_rfl) (h _ (by omega)); (intro i j hi hj; obtain rfl : j = 0 := (by simp at hj; omega); (try unfold setF); (try unfold zroF); (try unfold mkF); (try unfold putF); (try unfold appF); (try unfold clrF); (try unfold setF); (try unfold zroF); (repeat' split) <;> first | rfl | omega | (exfalso; omega) | (simp_all; done) | (simp_all; omega)))
    | (exfalso; omega)
    | (exfalso; simp at hq; omega)
theorem srOG_ok : BodyOk (mk XO) 9 Try.f62 srOG := by
  intro vs bs K hh hro
  clear hro
  unfold srOG at hh
  split at hh
  · rename_i vw a x v
    obtain ⟨ew, nw, cw, fw, btw, rfl, hnw, hcw, rfl, hh0⟩ := parseRQ_inv hh
    obtain ⟨rfl, ⟨hU, h1⟩, hc⟩ := hh0
    exact ⟨_, _, cast (srOG_rE ew nw cw fw a x v K) (srOG_rP ew nw cw fw a x v K hnw hcw hU h1 hc)⟩
  · exact hh.elim
theorem srOG_told : Told 62 (specOf srOG) := told (X := XO) XO_told (by kernel_rfl) (by kernel_rfl) (by kernel_rfl) srOG_ok
end Go.Proofs.Ytfgeoglegebncaa.Fr
namespace Go.Proofs.Ytfgeoglegebncaa.Fr
set_option maxRecDepth 100000
set_option maxHeartbeats 4000000
open Go.Rx
open Go.RowKit (Below)
set_option linter.unusedVariables false
/-- What Differ finds. -/
structure DifL (n : Nat) (f g : RF) (m : Nat) (l : RF) : Prop where
  pos : 1 ≤ m
  mem : ∀ i, i < m → 0 ≤ l i 0 ∧ l i 0 < n ∧ ¬ f (l i 0).toNat 0 = g (l i 0).toNat 0
  asc : ∀ i j, i < j → j < m → l i 0 < l j 0
/-- Indexes below k where two rows differ. -/
structure DifK (k n : Nat) (f g : RF) (m : Nat) (l : RF) : Prop where
  pos : 1 ≤ m
  mem : ∀ i, i < m → 0 ≤ l i 0 ∧ l i 0 < k ∧ ¬ f (l i 0).toNat 0 = g (l i 0).toNat 0
  asc : ∀ i j, i < j → j < m → l i 0 < l j 0
theorem DifK.next {k n m : Nat} {f g l : RF} (H : DifK k n f g m l) : DifK (k + 1) n f g m l := ⟨H.pos, fun i hi => by
  have := H.mem i hi
  exact ⟨this.1, by omega, this.2.2⟩, H.asc⟩
end Go.Proofs.Ytfgeoglegebncaa.Fr
namespace Go.Proofs.Ytfgeoglegebncaa.Fr
set_option maxRecDepth 100000
set_option maxHeartbeats 4000000
open Go.Rx
open Go.RowKit (Below)
set_option linter.unusedVariables false
theorem ob_set {n : Nat} {f : RF} {a : Int} {p : Nat} {z : Int} (hp : 0 < p) (ha : ¬ p = a.toNat) : arE n (setF f p z) = arE n f ∧ obE n (setF f p z) a = obE n f a ∧ obP n (setF f p z) a = obP n f a ∧ obR n (setF f p z) a = obR n f a := by
  have e0 : setF f p z (Int.toNat 0) 0 = f (Int.toNat 0) 0 := if_neg (by simp; omega)
  have e1 : setF f p z a.toNat 0 = f a.toNat 0 := if_neg (by omega)
  have h1 : arE n (setF f p z) = arE n f := by unfold arE; rw [e0]
  have h2 : obE n (setF f p z) a = obE n f a := by unfold obE; rw [h1, e1]
  refine ⟨h1, h2, ?_, ?_⟩
  · unfold obP; rw [h2, e1]
  · unfold obR; rw [h2, e1]
end Go.Proofs.Ytfgeoglegebncaa.Fr
namespace Go.Proofs.Ytfgeoglegebncaa.Fr
set_option maxRecDepth 100000
set_option maxHeartbeats 4000000
open Go.Rx
open Go.RowKit (Below)
set_option linter.unusedVariables false
@[reducible] def XM : List (Nat × Rx.Spec) := [(24, specOf arC), (89, specOf hdP)]
theorem XM_told : ∀ p ∈ XM, Told p.1 p.2 := by
  intro p hp
  simp only [List.mem_cons, List.not_mem_nil, or_false] at hp
  rcases hp with rfl | rfl
  · exact arC_told
  · exact hdP_told
def mkO_G : Con := fun vs bs K => match vs with
  | [vw, .int .i64 a, .agg ⟨[.int .i64 p, .int .i64 q]⟩] => parseRQ [.u64] 0 vw bs fun nw fw j0 bs0 => bs0 = [] ∧ ((Ok64 nw fw) ∧ (mkE nw fw a p q = 0)) ∧ (∀ cp, nw ≤ cp → K (.tuple ⟨[rsl j0 0 (nw) cp, .int .i64 (0)]⟩) [.row false [.u64] 25 (nw) cp (mkF fw (Int.toNat a) (Int.toNat (1 + p + q)) (1 + 256 * p + 65536 * q))])
  | _ => False

def mkO_G_rA (ew nw cw : Nat) (fw : RF) (a : Int) (p : Int) (q : Int) : Ann := fun _ _ _ => none
def mkO_G_rV (ew nw cw : Nat) (fw : RF) (a : Int) (p : Int) (q : Int) (K : Value → List Blk → Prop) : Prop := let q0 := ((0 : Nat) + nw ≤ nw); let q1 := (nw ≤ (100000 : Nat)); let q2 := eB; let q3 := (Int.toNat (a + (1 : Int))); let q4 := ((0 : Int) ≤ a + (1 : Int)); let q5 := (9223372036854775807 : Int); let q6 := (-9223372036854775808 : Int); let q7 := (@Eq Nat ((0 : Nat)) ((0 : Nat))); let q8 := (@Eq Nat ((1 : Nat)) ((1 : Nat))); let q9 := (litF (List.length [IntKind.u64]) []); let q10 := (a + (1 : Int) ≤ a + (1 : Int) + p + q); let q11 := TS; let q12 := (a + (1 : Int) + p + q - (a + (1 : Int))); let q13 := ((0 : Nat), Blk.row true [IntKind.u64] ew nw cw fw); let q14 := (Int.toNat q12); let q15 := (putF q9 (Int.toNat a) (0 : Nat) (pkv p q)); let q16 := (q11 ∧ q8); let q17 := ((1 : Nat), Blk.cells [vi p, vi q] (60 : Nat)); let q18 := (putF (appF (fun x x_1 ↦ (0 : Int)) (0 : Nat) fw (0 : Nat)) (Int.toNat a) (0 : Nat) (pkv p q)); let q19 := ((q6 ≤ a + (1 : Int)) ∧ (a + (1 : Int) ≤ q5)); let q20 := ((q6 ≤ a + (1 : Int) + p) ∧ (a + (1 : Int) + p ≤ q5)); let q21 := ((2 : Nat), Blk.row false [IntKind.u64] (25 : Nat) (0 : Nat) (0 : Nat) q9); let q22 := ((q6 ≤ a + (1 : Int) + p + q) ∧ (a + (1 : Int) + p + q ≤ q5)); let q23 := (∃ y0 : Value, (∃ y1 : List Blk, ((Go.Rx.Found 1 (Value.tuple { toList := [vn, vi (7 : Int)] }) ({ h := [q17, q13], next := (2 : Nat) }) (y0) (y1)) ∧ (K y0 y1)))); (T0 ∧ (q0 ∧ ((q7 ∧ (q1 ∧ (nw ≤ cw))) ∧ (((@Eq (List IntKind) ([IntKind.u64]) ([IntKind.u64])) ∧ ((@Eq Nat (nw) (nw)) ∧ (@Eq Nat (cw) (cw)))) ∧ (q2 ∧ ((True) ∧ (T0 ∧ (if (@Eq Int (arE nw fw) ((0 : Int))) then (t3 (q2 ∧ ((True) ∧ (T0 ∧ (if (@Eq Int (sze p q) ((0 : Int))) then (T0 ∧ (if (a < (1 : Int)) then q23 else (q11 ∧ (T0 ∧ (if ((↑nw : Int) ≤ a) then q23 else (t3 (((q6 ≤ p + q) ∧ (p + q ≤ q5)) ∧ (q11 ∧ (T0 ∧ (((q6 ≤ (↑nw : Int) - a) ∧ ((↑nw : Int) - a ≤ q5)) ∧ (T0 ∧ (if ((↑nw : Int) - a ≤ p + q) then q23 else (T0 ∧ (q11 ∧ (q11 ∧ (t4 (q11 ∧ (q11 ∧ (t4 (q0 ∧ (q1 ∧ (T0 ∧ (q7 ∧ (Go.Rx.br (decide ((0 : Nat) < nw)) (∀ y0 : Nat, let q24 := (y0 - (1 : Nat) + (1 : Nat)); let q25 := (↑q24 : Int); ((nw ≤ y0) → (q16 ∧ ((((0 : Int) ≤ a) ∧ (a < (↑nw : Int))) ∧ ((false = false) ∧ ((Int.toNat a < nw) ∧ (t3 (q19 ∧ (T0 ∧ (q19 ∧ (t2 (q20 ∧ (t2 (q22 ∧ (q11 ∧ (t4 (q8 ∧ ((q4 ∧ (q10 ∧ ((a + (1 : Int) + p + q ≤ q25) ∧ (q25 ≤ q25)))) ∧ (Go.Rx.br (decide (a + (1 : Int) < q25)) (q11 ∧ (t3 (((false = false) ∧ ((Int.toNat (a + (1 : Int)) + Int.toNat q12 ≤ nw) ∧ T0)) ∧ (∃ y1 : Value, (∃ y2 : List Blk, ((Go.Rx.Found 1 (Value.tuple { toList := [rsl (3 : Nat) (0 : Nat) nw q24, vi (0 : Int)] }) ({ h := [((3 : Nat), Blk.row false [IntKind.u64] (25 : Nat) nw q24 (clrF q18 q3 q14)), q21, q17, q13], next := (4 : Nat) }) (y1) (y2)) ∧ (K y1 y2))))))) (q11 ∧ (t3 (((false = false) ∧ (((0 : Nat) ≤ nw) ∧ T0)) ∧ (∃ y1 : Value, (∃ y2 : List Blk, ((Go.Rx.Found 1 (Value.tuple { toList := [rsl (3 : Nat) (0 : Nat) nw q24, vi (0 : Int)] }) ({ h := [((3 : Nat), Blk.row false [IntKind.u64] (25 : Nat) nw q24 (clrF q18 (0 : Nat) (0 : Nat))), q21, q17, q13], next := (4 : Nat) }) (y1) (y2)) ∧ (K y1 y2)))))))))))))))))))))))))) (q16 ∧ ((((0 : Int) ≤ a) ∧ (a < (↑(0 : Nat) : Int))) ∧ ((false = false) ∧ ((Int.toNat a < (0 : Nat)) ∧ (t3 (q19 ∧ (T0 ∧ (q19 ∧ (t2 (q20 ∧ (t2 (q22 ∧ (q11 ∧ (t4 (q8 ∧ ((q4 ∧ (q10 ∧ ((a + (1 : Int) + p + q ≤ (↑(0 : Nat) : Int)) ∧ ((↑(0 : Nat) : Int) ≤ (↑(0 : Nat) : Int))))) ∧ (Go.Rx.br (decide (a + (1 : Int) < (↑(0 : Nat) : Int))) (q11 ∧ (t3 (((false = false) ∧ ((Int.toNat (a + (1 : Int)) + Int.toNat q12 ≤ (0 : Nat)) ∧ T0)) ∧ (∃ y0 : Value, (∃ y1 : List Blk, ((Go.Rx.Found 1 (Value.tuple { toList := [rsl (2 : Nat) (0 : Nat) (0 : Nat) (0 : Nat), vi (0 : Int)] }) ({ h := [((2 : Nat), Blk.row false [IntKind.u64] (25 : Nat) (0 : Nat) (0 : Nat) (clrF q15 q3 q14)), q17, q13], next := (3 : Nat) }) (y0) (y1)) ∧ (K y0 y1))))))) (q11 ∧ (t3 (((false = false) ∧ (((0 : Nat) ≤ (0 : Nat)) ∧ T0)) ∧ (∃ y0 : Value, (∃ y1 : List Blk, ((Go.Rx.Found 1 (Value.tuple { toList := [rsl (2 : Nat) (0 : Nat) (0 : Nat) (0 : Nat), vi (0 : Int)] }) ({ h := [((2 : Nat), Blk.row false [IntKind.u64] (25 : Nat) (0 : Nat) (0 : Nat) (clrF q15 (0 : Nat) (0 : Nat))), q17, q13], next := (3 : Nat) }) (y0) (y1)) ∧ (K y0 y1)))))))))))))))))))))))))))))))))))))))))))))))) else (∃ y0 : Value, (∃ y1 : List Blk, ((Go.Rx.Found 1 (Value.tuple { toList := [vn, vi (sze p q)] }) ({ h := [q17, q13], next := (2 : Nat) }) (y0) (y1)) ∧ (K y0 y1))))))))) else (∃ y0 : Value, (∃ y1 : List Blk, ((Go.Rx.Found 1 (Value.tuple { toList := [vn, vi (arE nw fw)] }) ({ h := [q17, q13], next := (2 : Nat) }) (y0) (y1)) ∧ (K y0 y1))))))))))))
theorem mkO_G_rE (ew nw cw : Nat) (fw : RF) (a : Int) (p : Int) (q : Int) (K : Value → List Blk → Prop) : mkO_G_rV ew nw cw fw a p q K = bodyX (mk XM) (callN (mk XM) 9) (mkO_G_rA ew nw cw fw a p q) Try.f44 [rsl 0 0 nw cw, .int .i64 a, .agg ⟨[.int .i64 p, .int .i64 q]⟩] (stOf [.row true [.u64] ew nw cw fw]) (Fd 1 K) := by kernel_rfl
set_option tactic.hygienic false in
theorem mkO_G_rP (ew nw cw : Nat) (fw : RF) (a : Int) (p : Int) (q : Int) (K : Value → List Blk → Prop)  (hnw : nw ≤ 100000) (hcw : nw ≤ cw) (hU : Ok64 nw fw) (h1 : mkE nw fw a p q = 0) (h : ∀ cp, nw ≤ cp → K (.tuple ⟨[rsl 1 0 (nw) cp, .int .i64 (0)]⟩) [.row false [.u64] 25 (nw) cp (mkF fw (Int.toNat a) (Int.toNat (1 + p + q)) (1 + 256 * p + 65536 * q))]) : mkO_G_rV ew nw cw fw a p q K := by
  unfold mkO_G_rV
  conv => zeta
  have z0 := ar_cases nw fw
  have z1 := mk_cases nw fw a p q
  have z2 := sze_cases p q
  have z3 := pkv_cases p q
  repeat' (first | (with_reducible exact rfl) | (with_reducible exact trivial) | (with_reducible refine And.intro ?_ ?_) | (intro) | (with_reducible refine br_d (fun hq => ?_) (fun hq => ?_)) | (with_reducible refine br_nd (fun hq => ?_) (fun hq => ?_)) | (with_reducible refine br_intro (fun hq => ?_) (fun hq => ?_)) | (with_reducible refine if_both (fun hz => ?_) (fun hz => ?_)) | fail)

  all_goals first
    | (with_reducible assumption)
    | (refine (id ?_ : ∃ (v1 : Value) (news : List Blk), _)
       first
        | contradiction
        | (refine fin1t rfl ?_ (by kernel_rfl) (by kernel_rfl) (h _ (by omega)); (intro i j hi hj; obtain rfl : j = 0 := (by simp at hj; omega); (try unfold setF); (try unfold zroF); (try unfold mkF); (try unfold putF); (try unfold appF); (try unfold clrF); (try unfold setF); (try unfold zroF); (repeat' split) <;> first | rfl | omega | (exfalso; omega) | (simp_all; done) | (simp_all; omega)))
        | (exfalso; omega)
        | (exfalso; simp at hq; omega)
       )
    | omega
    | contradiction
    | (refine fin1t rfl ?_ (by kernel_rfl) (by kernel_rfl) (h _ (by omega)); (intro i j hi hj; obtain rfl : j = 0 := (by simp at hj; omega); (try unfold setF); (try unfold zroF); (try unfold mkF); (try unfold putF); (try unfold appF); (try unfold clrF); (try unfold setF); (try unfold zroF); (repeat' split) <;> first | rfl | omega | (exfalso; omega) | (simp_all; done) | (simp_all; omega)))
    | (exfalso; omega)
    | (exfalso; simp at hq; omega)
theorem mkO_G_ok : BodyOk (mk XM) 9 Try.f44 mkO_G := by
  intro vs bs K hh hro
  clear hro
  unfold mkO_G at hh
  split at hh
  · rename_i vw a p q
    obtain ⟨ew, nw, cw, fw, btw, rfl, hnw, hcw, rfl, hh0⟩ := parseRQ_inv hh
    obtain ⟨rfl, ⟨hU, h1⟩, hc⟩ := hh0
    exact ⟨_, _, cast (mkO_G_rE ew nw cw fw a p q K) (mkO_G_rP ew nw cw fw a p q K hnw hcw hU h1 hc)⟩
  · exact hh.elim
theorem mkO_G_told : Told 44 (specOf mkO_G) := told (X := XM) XM_told (by kernel_rfl) (by kernel_rfl) (by kernel_rfl) mkO_G_ok
end Go.Proofs.Ytfgeoglegebncaa.Fr
namespace Go.Proofs.Ytfgeoglegebncaa.Fr
set_option maxRecDepth 100000
set_option maxHeartbeats 4000000
open Go.Rx
open Go.RowKit (Below)
set_option linter.unusedVariables false
theorem hs_of (p q : Int) (h : sze p q = 0) : hsE (1 + 256 * p + 65536 * q) = 0 ∧ hsP (1 + 256 * p + 65536 * q) = p ∧ hsR (1 + 256 * p + 65536 * q) = q := by
  have z1 := sze_cases p q
  have z2 := hs_cases (1 + 256 * p + 65536 * q)
  omega
theorem mk_ok {n : Nat} {f : RF} {a p q : Int} (hU : Ok64 n f) (h : mkE n f a p q = 0) : arE n f = 0 ∧ n ≤ 1601 ∧ sze p q = 0 ∧ 0 ≤ p ∧ 0 ≤ q ∧ p + q ≤ 63 ∧ 1 ≤ a ∧ p + q < n - a ∧ Ok64 n (mkF f a.toNat (1 + p + q).toNat (1 + 256 * p + 65536 * q)) ∧ arE n (mkF f a.toNat (1 + p + q).toNat (1 + 256 * p + 65536 * q)) = 0 ∧
    obE n (mkF f a.toNat (1 + p + q).toNat (1 + 256 * p + 65536 * q)) a = 0 ∧ obP n (mkF f a.toNat (1 + p + q).toNat (1 + 256 * p + 65536 * q)) a = p ∧ obR n (mkF f a.toNat (1 + p + q).toNat (1 + 256 * p + 65536 * q)) a = q := by
  have z1 := mk_cases n f a p q
  have z2 := sze_cases p q
  have z3 := ar_cases n f
  have z4 := ar_cases n (mkF f a.toNat (1 + p + q).toNat (1 + 256 * p + 65536 * q))
  have e0 : mkF f a.toNat (1 + p + q).toNat (1 + 256 * p + 65536 * q) (Int.toNat 0) 0 = f (Int.toNat 0) 0 := by
    unfold mkF
    rw [if_neg (by have : Int.toNat 0 = 0 := rfl; omega), if_neg (by have : Int.toNat 0 = 0 := rfl; omega)]
  have hO : Ok64 n (mkF f a.toNat (1 + p + q).toNat (1 + 256 * p + 65536 * q)) := hU.mk_ (by omega)
  have z5 := ob_cases hO a
  have e1 : mkF f a.toNat (1 + p + q).toNat (1 + 256 * p + 65536 * q) a.toNat 0 = 1 + 256 * p + 65536 * q := if_pos rfl
  rw [e1] at z5
  have z6 := hs_of p q (by omega)
  refine ⟨by omega, by omega, by omega, by omega, by omega, by omega, by omega, by omega, hO, by omega, by omega, by omega, by omega⟩
end Go.Proofs.Ytfgeoglegebncaa.Fr
namespace Go.Proofs.Ytfgeoglegebncaa.Fr
set_option maxRecDepth 100000
set_option maxHeartbeats 4000000
open Go.Rx
open Go.RowKit (Below)
set_option linter.unusedVariables false
def eqO : Con := fun vs bs K => match vs with
  | [va, vb] => parseQ [.u64] 0 va bs fun na fa j0 bs0 => parseQ [.u64] j0 vb bs0 fun nb fb j1 bs1 => bs1 = [] ∧ (True) ∧ (∀ bb : Bool, (bb = true ↔ (na = nb ∧ ∀ i, i < na → fa i 0 = fb i 0)) → K (.bool bb) [])
  | _ => False

def eqO_nnA  : Ann := fun k tt ss => bif Nat.beq k 4 then some [{ α := Nat, T := fun k => ⟨26, [(0, .slice none 0 0), (1, .slice none 0 0), (12, .int .i64 (0 : Nat)), (13, .int .i64 (k : Int))]⟩, S := fun _ => ⟨[], 0⟩, I := fun k => (k ≤ 0 ∧ 0 = 0) ∧ ∀ i, i < k → zF i 0 = zF i 0, m := fun k => 0 - k, ρ0 := [], ρ1 := [[]] }] else none
def eqO_nrA (eb nb cb : Nat) (fb : RF) : Ann := fun k tt ss => bif Nat.beq k 4 then some [{ α := Nat, T := fun k => ⟨26, [(0, .slice none 0 0), (1, rsl 0 0 nb cb), (12, .int .i64 (0 : Nat)), (13, .int .i64 (k : Int))]⟩, S := fun _ => ⟨[(0, .row true [.u64] eb nb cb fb)], 1⟩, I := fun k => (k ≤ 0 ∧ 0 = nb) ∧ ∀ i, i < k → zF i 0 = fb i 0, m := fun k => 0 - k, ρ0 := [], ρ1 := [[]] }] else none
def eqO_rnA (ea na ca : Nat) (fa : RF) : Ann := fun k tt ss => bif Nat.beq k 4 then some [{ α := Nat, T := fun k => ⟨26, [(0, rsl 0 0 na ca), (1, .slice none 0 0), (12, .int .i64 (na : Nat)), (13, .int .i64 (k : Int))]⟩, S := fun _ => ⟨[(0, .row true [.u64] ea na ca fa)], 1⟩, I := fun k => (k ≤ na ∧ na = 0) ∧ ∀ i, i < k → fa i 0 = zF i 0, m := fun k => na - k, ρ0 := [], ρ1 := [[]] }] else none
def eqO_rrA (ea na ca : Nat) (fa : RF) (eb nb cb : Nat) (fb : RF) : Ann := fun k tt ss => bif Nat.beq k 4 then some [{ α := Nat, T := fun k => ⟨26, [(0, rsl 0 0 na ca), (1, rsl 1 0 nb cb), (12, .int .i64 (na : Nat)), (13, .int .i64 (k : Int))]⟩, S := fun _ => ⟨[(0, .row true [.u64] ea na ca fa), (1, .row true [.u64] eb nb cb fb)], 2⟩, I := fun k => (k ≤ na ∧ na = nb) ∧ ∀ i, i < k → fa i 0 = fb i 0, m := fun k => na - k, ρ0 := [], ρ1 := [[]] }] else none
def eqO_nnV  (K : Value → List Blk → Prop) : Prop := let q0 := (@Eq Nat ((0 : Nat)) ((0 : Nat))); let q1 := TS; (T0 ∧ (q1 ∧ (q1 ∧ (T0 ∧ (q1 ∧ ((∃ y0 : Nat, ((Go.Rx.Sub 0 [] ⟨26, [(13, vi (0 : Int)), (12, vi (0 : Int)), (0, vn), (1, vn)]⟩ ⟨[], 0⟩ ({ n := (26 : Nat), m := [((0 : Nat), vn), ((1 : Nat), vn), ((12 : Nat), vi (0 : Int)), ((13 : Nat), vi (↑y0 : Int))] }) ({ h := [], next := (0 : Nat) })) ∧ (((y0 ≤ (0 : Nat)) ∧ q0) ∧ (∀ y1 : Nat, ((y1 < y0) → (@Eq Int (zF y1 (0 : Nat)) (zF y1 (0 : Nat)))))))) ∧ (∀ y0 : Nat, ((((y0 ≤ (0 : Nat)) ∧ q0) ∧ (∀ y1 : Nat, ((y1 < y0) → (@Eq Int (zF y1 (0 : Nat)) (zF y1 (0 : Nat)))))) → (T0 ∧ (∃ y1 : Value, (∃ y2 : List Blk, ((Go.Rx.Found 0 (Value.bool true) ({ h := [], next := (0 : Nat) }) (y1) (y2)) ∧ (K y1 y2)))))))))))))
theorem eqO_nnE  (K : Value → List Blk → Prop) : eqO_nnV  K = bodyX (mk XZ) (callN (mk XZ) 4) (eqO_nnA ) Try.f99 [.slice none 0 0, .slice none 0 0] (stOf []) (Fd 0 K) := by kernel_rfl
set_option tactic.hygienic false in
theorem eqO_nnP  (K : Value → List Blk → Prop)  (h : ∀ bb : Bool, (bb = true ↔ (0 = 0 ∧ ∀ i, i < 0 → zF i 0 = zF i 0)) → K (.bool bb) []) : eqO_nnV  K := by
  unfold eqO_nnV
  conv => zeta

  repeat' (first | (with_reducible exact rfl) | (with_reducible exact trivial) | (with_reducible refine And.intro ?_ ?_) | (intro) | (with_reducible refine br_d (fun hq => ?_) (fun hq => ?_)) | (with_reducible refine br_nd (fun hq => ?_) (fun hq => ?_)) | (with_reducible refine br_intro (fun hq => ?_) (fun hq => ?_)) | (with_reducible refine if_both (fun hz => ?_) (fun hz => ?_)) | fail)

  all_goals first
    | omega
    | assumption
    | contradiction
    | exact ⟨0, (by (refine And.intro (And.intro rfl (And.intro rfl (And.intro rfl rfl))) ?_; (repeat' (first | exact trivial | exact rfl | exact fun _ _ _ _ => rfl | refine And.intro ?_ ?_ | omega | fail)); done)), ⟨by omega, by omega⟩, fun i hi => absurd hi (by omega)⟩
    | (rename _ ∧ (∀ _ : Nat, _) => I
       exact ⟨y0 + 1, (by (refine And.intro (And.intro rfl (And.intro rfl (And.intro rfl rfl))) ?_; (repeat' (first | exact trivial | exact rfl | exact fun _ _ _ _ => rfl | refine And.intro ?_ ?_ | omega | fail)); done)), ⟨⟨by omega, by omega⟩, fun i hi => (by
         rcases Nat.lt_or_ge i y0 with q | q
         · exact I.2 i q
         · obtain rfl : i = y0 := by omega
           omega)⟩, by omega⟩)
    | exact fin0 (by kernel_rfl) (by kernel_rfl) (h false ⟨fun e => (by cases e), fun e => absurd e.1 (by omega)⟩)
    | (rename _ ∧ (∀ _ : Nat, _) => I
       exact fin0 (by kernel_rfl) (by kernel_rfl) (h false ⟨fun e => (by cases e), fun e => absurd (e.2 y0 (by omega)) (by assumption)⟩))
    | (rename _ ∧ (∀ _ : Nat, _) => I
       exact fin0 (by kernel_rfl) (by kernel_rfl) (h true ⟨fun _ => ⟨by omega, fun i hi => I.2 i (by omega)⟩, fun _ => rfl⟩))
    | exact fin0 (by kernel_rfl) (by kernel_rfl) (h true ⟨fun _ => ⟨by omega, fun i hi => absurd hi (by omega)⟩, fun _ => rfl⟩)
def eqO_nrV (eb nb cb : Nat) (fb : RF) (K : Value → List Blk → Prop) : Prop := let q0 := (@Eq Nat ((0 : Nat)) (nb)); let q1 := TS; (T0 ∧ (q1 ∧ (q1 ∧ (T0 ∧ (if (@Eq Int ((0 : Int)) ((↑nb : Int))) then (q1 ∧ ((∃ y0 : Nat, ((Go.Rx.Sub 1 [] ⟨26, [(13, vi (0 : Int)), (12, vi (0 : Int)), (0, vn), (1, rsl (0 : Nat) (0 : Nat) nb cb)]⟩ ⟨[(0, Blk.row true [IntKind.u64] eb nb cb fb)], 1⟩ ({ n := (26 : Nat), m := [((0 : Nat), vn), ((1 : Nat), rsl (0 : Nat) (0 : Nat) nb cb), ((12 : Nat), vi (0 : Int)), ((13 : Nat), vi (↑y0 : Int))] }) ({ h := [((0 : Nat), Blk.row true [IntKind.u64] eb nb cb fb)], next := (1 : Nat) })) ∧ (((y0 ≤ (0 : Nat)) ∧ q0) ∧ (∀ y1 : Nat, ((y1 < y0) → (@Eq Int (zF y1 (0 : Nat)) (fb y1 (0 : Nat)))))))) ∧ (∀ y0 : Nat, ((((y0 ≤ (0 : Nat)) ∧ q0) ∧ (∀ y1 : Nat, ((y1 < y0) → (@Eq Int (zF y1 (0 : Nat)) (fb y1 (0 : Nat)))))) → (T0 ∧ (∃ y1 : Value, (∃ y2 : List Blk, ((Go.Rx.Found 1 (Value.bool true) ({ h := [((0 : Nat), Blk.row true [IntKind.u64] eb nb cb fb)], next := (1 : Nat) }) (y1) (y2)) ∧ (K y1 y2))))))))) else (∃ y0 : Value, (∃ y1 : List Blk, ((Go.Rx.Found 1 (Value.bool false) ({ h := [((0 : Nat), Blk.row true [IntKind.u64] eb nb cb fb)], next := (1 : Nat) }) (y0) (y1)) ∧ (K y0 y1)))))))))
theorem eqO_nrE (eb nb cb : Nat) (fb : RF) (K : Value → List Blk → Prop) : eqO_nrV eb nb cb fb K = bodyX (mk XZ) (callN (mk XZ) 4) (eqO_nrA eb nb cb fb) Try.f99 [.slice none 0 0, rsl 0 0 nb cb] (stOf [.row true [.u64] eb nb cb fb]) (Fd 1 K) := by kernel_rfl
set_option tactic.hygienic false in
theorem eqO_nrP (eb nb cb : Nat) (fb : RF) (K : Value → List Blk → Prop)  (hnb : nb ≤ 100000) (hcb : nb ≤ cb) (h : ∀ bb : Bool, (bb = true ↔ (0 = nb ∧ ∀ i, i < 0 → zF i 0 = fb i 0)) → K (.bool bb) []) : eqO_nrV eb nb cb fb K := by
  unfold eqO_nrV
  conv => zeta

  repeat' (first | (with_reducible exact rfl) | (with_reducible exact trivial) | (with_reducible refine And.intro ?_ ?_) | (intro) | (with_reducible refine br_d (fun hq => ?_) (fun hq => ?_)) | (with_reducible refine br_nd (fun hq => ?_) (fun hq => ?_)) | (with_reducible refine br_intro (fun hq => ?_) (fun hq => ?_)) | (with_reducible refine if_both (fun hz => ?_) (fun hz => ?_)) | fail)

  all_goals first
    | omega
    | assumption
    | contradiction
    | exact ⟨0, (by (refine And.intro (And.intro rfl (And.intro rfl (And.intro rfl rfl))) ?_; (repeat' (first | exact trivial | exact rfl | exact fun _ _ _ _ => rfl | refine And.intro ?_ ?_ | omega | fail)); done)), ⟨by omega, by omega⟩, fun i hi => absurd hi (by omega)⟩
    | (rename _ ∧ (∀ _ : Nat, _) => I
       exact ⟨y0 + 1, (by (refine And.intro (And.intro rfl (And.intro rfl (And.intro rfl rfl))) ?_; (repeat' (first | exact trivial | exact rfl | exact fun _ _ _ _ => rfl | refine And.intro ?_ ?_ | omega | fail)); done)), ⟨⟨by omega, by omega⟩, fun i hi => (by
         rcases Nat.lt_or_ge i y0 with q | q
         · exact I.2 i q
         · obtain rfl : i = y0 := by omega
           omega)⟩, by omega⟩)
    | exact fin0 (by kernel_rfl) (by kernel_rfl) (h false ⟨fun e => (by cases e), fun e => absurd e.1 (by omega)⟩)
    | (rename _ ∧ (∀ _ : Nat, _) => I
       exact fin0 (by kernel_rfl) (by kernel_rfl) (h false ⟨fun e => (by cases e), fun e => absurd (e.2 y0 (by omega)) (by assumption)⟩))
    | (rename _ ∧ (∀ _ : Nat, _) => I
       exact fin0 (by kernel_rfl) (by kernel_rfl) (h true ⟨fun _ => ⟨by omega, fun i hi => I.2 i (by omega)⟩, fun _ => rfl⟩))
    | exact fin0 (by kernel_rfl) (by kernel_rfl) (h true ⟨fun _ => ⟨by omega, fun i hi => absurd hi (by omega)⟩, fun _ => rfl⟩)
def eqO_rnV (ea na ca : Nat) (fa : RF) (K : Value → List Blk → Prop) : Prop := let q0 := (@Eq Nat (na) ((0 : Nat))); let q1 := TS; (T0 ∧ (q1 ∧ (q1 ∧ (T0 ∧ (if (@Eq Int ((↑na : Int)) ((0 : Int))) then (q1 ∧ ((∃ y0 : Nat, ((Go.Rx.Sub 1 [] ⟨26, [(13, vi (0 : Int)), (12, vi (↑na : Int)), (0, rsl (0 : Nat) (0 : Nat) na ca), (1, vn)]⟩ ⟨[(0, Blk.row true [IntKind.u64] ea na ca fa)], 1⟩ ({ n := (26 : Nat), m := [((0 : Nat), rsl (0 : Nat) (0 : Nat) na ca), ((1 : Nat), vn), ((12 : Nat), vi (↑na : Int)), ((13 : Nat), vi (↑y0 : Int))] }) ({ h := [((0 : Nat), Blk.row true [IntKind.u64] ea na ca fa)], next := (1 : Nat) })) ∧ (((y0 ≤ na) ∧ q0) ∧ (∀ y1 : Nat, ((y1 < y0) → (@Eq Int (fa y1 (0 : Nat)) (zF y1 (0 : Nat)))))))) ∧ (∀ y0 : Nat, ((((y0 ≤ na) ∧ q0) ∧ (∀ y1 : Nat, ((y1 < y0) → (@Eq Int (fa y1 (0 : Nat)) (zF y1 (0 : Nat)))))) → (T0 ∧ (if ((↑y0 : Int) < (↑na : Int)) then (t4 ((q1 ∧ (@Eq Nat ((1 : Nat)) ((1 : Nat)))) ∧ ((((0 : Int) ≤ (↑y0 : Int)) ∧ ((↑y0 : Int) < (↑na : Int))) ∧ (T0 ∧ ((y0 < na) ∧ (t3 (False))))))) else (∃ y1 : Value, (∃ y2 : List Blk, ((Go.Rx.Found 1 (Value.bool true) ({ h := [((0 : Nat), Blk.row true [IntKind.u64] ea na ca fa)], next := (1 : Nat) }) (y1) (y2)) ∧ (K y1 y2)))))))))) else (∃ y0 : Value, (∃ y1 : List Blk, ((Go.Rx.Found 1 (Value.bool false) ({ h := [((0 : Nat), Blk.row true [IntKind.u64] ea na ca fa)], next := (1 : Nat) }) (y0) (y1)) ∧ (K y0 y1)))))))))
theorem eqO_rnE (ea na ca : Nat) (fa : RF) (K : Value → List Blk → Prop) : eqO_rnV ea na ca fa K = bodyX (mk XZ) (callN (mk XZ) 4) (eqO_rnA ea na ca fa) Try.f99 [rsl 0 0 na ca, .slice none 0 0] (stOf [.row true [.u64] ea na ca fa]) (Fd 1 K) := by kernel_rfl
set_option tactic.hygienic false in
theorem eqO_rnP (ea na ca : Nat) (fa : RF) (K : Value → List Blk → Prop)  (hna : na ≤ 100000) (hca : na ≤ ca) (h : ∀ bb : Bool, (bb = true ↔ (na = 0 ∧ ∀ i, i < na → fa i 0 = zF i 0)) → K (.bool bb) []) : eqO_rnV ea na ca fa K := by
  unfold eqO_rnV
  conv => zeta

  repeat' (first | (with_reducible exact rfl) | (with_reducible exact trivial) | (with_reducible refine And.intro ?_ ?_) | (intro) | (with_reducible refine br_d (fun hq => ?_) (fun hq => ?_)) | (with_reducible refine br_nd (fun hq => ?_) (fun hq => ?_)) | (with_reducible refine br_intro (fun hq => ?_) (fun hq => ?_)) | (with_reducible refine if_both (fun hz => ?_) (fun hz => ?_)) | fail)

  all_goals first
    | omega
    | assumption
    | contradiction
    | exact ⟨0, (by (refine And.intro (And.intro rfl (And.intro rfl (And.intro rfl rfl))) ?_; (repeat' (first | exact trivial | exact rfl | exact fun _ _ _ _ => rfl | refine And.intro ?_ ?_ | omega | fail)); done)), ⟨by omega, by omega⟩, fun i hi => absurd hi (by omega)⟩
    | (rename _ ∧ (∀ _ : Nat, _) => I
       exact ⟨y0 + 1, (by (refine And.intro (And.intro rfl (And.intro rfl (And.intro rfl rfl))) ?_; (repeat' (first | exact trivial | exact rfl | exact fun _ _ _ _ => rfl | refine And.intro ?_ ?_ | omega | fail)); done)), ⟨⟨by omega, by omega⟩, fun i hi => (by
         rcases Nat.lt_or_ge i y0 with q | q
         · exact I.2 i q
         · obtain rfl : i = y0 := by omega
           omega)⟩, by omega⟩)
    | exact fin0 (by kernel_rfl) (by kernel_rfl) (h false ⟨fun e => (by cases e), fun e => absurd e.1 (by omega)⟩)
    | (rename _ ∧ (∀ _ : Nat, _) => I
       exact fin0 (by kernel_rfl) (by kernel_rfl) (h false ⟨fun e => (by cases e), fun e => absurd (e.2 y0 (by omega)) (by assumption)⟩))
    | (rename _ ∧ (∀ _ : Nat, _) => I
       exact fin0 (by kernel_rfl) (by kernel_rfl) (h true ⟨fun _ => ⟨by omega, fun i hi => I.2 i (by omega)⟩, fun _ => rfl⟩))
    | exact fin0 (by kernel_rfl) (by kernel_rfl) (h true ⟨fun _ => ⟨by omega, fun i hi => absurd hi (by omega)⟩, fun _ => rfl⟩)
def eqO_rrV (ea na ca : Nat) (fa : RF) (eb nb cb : Nat) (fb : RF) (K : Value → List Blk → Prop) : Prop := let q0 := (0, rsl (0 : Nat) (0 : Nat) na ca); let q1 := (1, rsl (1 : Nat) (0 : Nat) nb cb); let q2 := (12, vi (↑na : Int)); let q3 := TS; let q4 := ((0 : Nat), rsl (0 : Nat) (0 : Nat) na ca); let q5 := ((1 : Nat), rsl (1 : Nat) (0 : Nat) nb cb); let q6 := (0, Blk.row true [IntKind.u64] ea na ca fa); let q7 := (1, Blk.row true [IntKind.u64] eb nb cb fb); let q8 := ((12 : Nat), vi (↑na : Int)); let q9 := (q3 ∧ (@Eq Nat ((1 : Nat)) ((1 : Nat)))); (T0 ∧ (q3 ∧ (q3 ∧ (T0 ∧ (if (@Eq Int ((↑na : Int)) ((↑nb : Int))) then (q3 ∧ ((∃ y0 : Nat, ((Go.Rx.Sub 2 [] ⟨26, [(13, vi (0 : Int)), q2, q0, q1]⟩ ⟨[q6, q7], 2⟩ ({ n := (26 : Nat), m := [q4, q5, q8, ((13 : Nat), vi (↑y0 : Int))] }) ({ h := [((0 : Nat), Blk.row true [IntKind.u64] ea na ca fa), ((1 : Nat), Blk.row true [IntKind.u64] eb nb cb fb)], next := (2 : Nat) })) ∧ (((y0 ≤ na) ∧ (@Eq Nat (na) (nb))) ∧ (∀ y1 : Nat, ((y1 < y0) → (@Eq Int (fa y1 (0 : Nat)) (fb y1 (0 : Nat)))))))) ∧ (∀ y0 : Nat, let q10 := ((0 : Int) ≤ (↑y0 : Int)); ((((y0 ≤ na) ∧ (@Eq Nat (na) (nb))) ∧ (∀ y1 : Nat, ((y1 < y0) → (@Eq Int (fa y1 (0 : Nat)) (fb y1 (0 : Nat)))))) → (T0 ∧ (if ((↑y0 : Int) < (↑na : Int)) then (t4 (q9 ∧ ((q10 ∧ ((↑y0 : Int) < (↑na : Int))) ∧ (T0 ∧ ((y0 < na) ∧ (t3 (q9 ∧ ((q10 ∧ ((↑y0 : Int) < (↑nb : Int))) ∧ (T0 ∧ ((y0 < nb) ∧ (t2 (if (@Eq Int (fa y0 (0 : Nat)) (fb y0 (0 : Nat))) then (T0 ∧ ((((-9223372036854775808 : Int) ≤ (↑y0 : Int) + (1 : Int)) ∧ ((↑y0 : Int) + (1 : Int) ≤ (9223372036854775807 : Int))) ∧ (∃ y1 : Nat, ((Go.Rx.Sub 2 [] ⟨26, [(13, vi ((↑y0 : Int) + (1 : Int))), q0, q1, q2]⟩ ⟨[q6, q7], 2⟩ ({ n := (26 : Nat), m := [q4, q5, q8, ((13 : Nat), vi (↑y1 : Int))] }) ({ h := [((0 : Nat), Blk.row true [IntKind.u64] ea na ca fa), ((1 : Nat), Blk.row true [IntKind.u64] eb nb cb fb)], next := (2 : Nat) })) ∧ ((((y1 ≤ na) ∧ (@Eq Nat (na) (nb))) ∧ (∀ y2 : Nat, ((y2 < y1) → (@Eq Int (fa y2 (0 : Nat)) (fb y2 (0 : Nat)))))) ∧ (na - y1 < na - y0)))))) else (∃ y1 : Value, (∃ y2 : List Blk, ((Go.Rx.Found 2 (Value.bool false) ({ h := [((0 : Nat), Blk.row true [IntKind.u64] ea na ca fa), ((1 : Nat), Blk.row true [IntKind.u64] eb nb cb fb)], next := (2 : Nat) }) (y1) (y2)) ∧ (K y1 y2)))))))))))))))) else (∃ y1 : Value, (∃ y2 : List Blk, ((Go.Rx.Found 2 (Value.bool true) ({ h := [((0 : Nat), Blk.row true [IntKind.u64] ea na ca fa), ((1 : Nat), Blk.row true [IntKind.u64] eb nb cb fb)], next := (2 : Nat) }) (y1) (y2)) ∧ (K y1 y2)))))))))) else (∃ y0 : Value, (∃ y1 : List Blk, ((Go.Rx.Found 2 (Value.bool false) ({ h := [((0 : Nat), Blk.row true [IntKind.u64] ea na ca fa), ((1 : Nat), Blk.row true [IntKind.u64] eb nb cb fb)], next := (2 : Nat) }) (y0) (y1)) ∧ (K y0 y1)))))))))
theorem eqO_rrE (ea na ca : Nat) (fa : RF) (eb nb cb : Nat) (fb : RF) (K : Value → List Blk → Prop) : eqO_rrV ea na ca fa eb nb cb fb K = bodyX (mk XZ) (callN (mk XZ) 4) (eqO_rrA ea na ca fa eb nb cb fb) Try.f99 [rsl 0 0 na ca, rsl 1 0 nb cb] (stOf [.row true [.u64] ea na ca fa, .row true [.u64] eb nb cb fb]) (Fd 2 K) := by kernel_rfl
set_option tactic.hygienic false in
theorem eqO_rrP (ea na ca : Nat) (fa : RF) (eb nb cb : Nat) (fb : RF) (K : Value → List Blk → Prop)  (hna : na ≤ 100000) (hca : na ≤ ca) (hnb : nb ≤ 100000) (hcb : nb ≤ cb) (h : ∀ bb : Bool, (bb = true ↔ (na = nb ∧ ∀ i, i < na → fa i 0 = fb i 0)) → K (.bool bb) []) : eqO_rrV ea na ca fa eb nb cb fb K := by
  unfold eqO_rrV
  conv => zeta

  repeat' (first | (with_reducible exact rfl) | (with_reducible exact trivial) | (with_reducible refine And.intro ?_ ?_) | (intro) | (with_reducible refine br_d (fun hq => ?_) (fun hq => ?_)) | (with_reducible refine br_nd (fun hq => ?_) (fun hq => ?_)) | (with_reducible refine br_intro (fun hq => ?_) (fun hq => ?_)) | (with_reducible refine if_both (fun hz => ?_) (fun hz => ?_)) | fail)

  all_goals first
    | omega
    | assumption
    | contradiction
    | exact ⟨0, (by (refine And.intro (And.intro rfl (And.intro rfl (And.intro rfl rfl))) ?_; (repeat' (first | exact trivial | exact rfl | exact fun _ _ _ _ => rfl | refine And.intro ?_ ?_ | omega | fail)); done)), ⟨by omega, by omega⟩, fun i hi => absurd hi (by omega)⟩
    | (rename _ ∧ (∀ _ : Nat, _) => I
       exact ⟨y0 + 1, (by (refine And.intro (And.intro rfl (And.intro rfl (And.intro rfl rfl))) ?_; (repeat' (first | exact trivial | exact rfl | exact fun _ _ _ _ => rfl | refine And.intro ?_ ?_ | omega | fail)); done)), ⟨⟨by omega, by omega⟩, fun i hi => (by
         rcases Nat.lt_or_ge i y0 with q | q
         · exact I.2 i q
         · obtain rfl : i = y0 := by omega
           omega)⟩, by omega⟩)
    | exact fin0 (by kernel_rfl) (by kernel_rfl) (h false ⟨fun e => (by cases e), fun e => absurd e.1 (by omega)⟩)
    | (rename _ ∧ (∀ _ : Nat, _) => I
       exact fin0 (by kernel_rfl) (by kernel_rfl) (h false ⟨fun e => (by cases e), fun e => absurd (e.2 y0 (by omega)) (by assumption)⟩))
    | (rename _ ∧ (∀ _ : Nat, _) => I
       exact fin0 (by kernel_rfl) (by kernel_rfl) (h true ⟨fun _ => ⟨by omega, fun i hi => I.2 i (by omega)⟩, fun _ => rfl⟩))
    | exact fin0 (by kernel_rfl) (by kernel_rfl) (h true ⟨fun _ => ⟨by omega, fun i hi => absurd hi (by omega)⟩, fun _ => rfl⟩)
theorem eqO_ok : BodyOk (mk XZ) 4 Try.f99 eqO := by
  intro vs bs K hh hro
  clear hro
  unfold eqO at hh
  split at hh
  · rename_i va vb
    rcases parseQ_inv hh with ⟨rfl, hh0⟩ | ⟨ea, na, ca, fa, bta, rfl, hna, hca, rfl, hh0⟩ <;> clear hh
    · rcases parseQ_inv hh0 with ⟨rfl, hh1⟩ | ⟨eb, nb, cb, fb, btb, rfl, hnb, hcb, rfl, hh1⟩ <;> clear hh0
      · obtain ⟨rfl, -, hc⟩ := hh1
        exact ⟨_, _, cast (eqO_nnE   K) (eqO_nnP   K   hc)⟩
      · obtain ⟨rfl, -, hc⟩ := hh1
        exact ⟨_, _, cast (eqO_nrE eb nb cb fb  K) (eqO_nrP eb nb cb fb  K hnb hcb  hc)⟩
    · rcases parseQ_inv hh0 with ⟨rfl, hh1⟩ | ⟨eb, nb, cb, fb, btb, rfl, hnb, hcb, rfl, hh1⟩ <;> clear hh0
      · obtain ⟨rfl, -, hc⟩ := hh1
        exact ⟨_, _, cast (eqO_rnE ea na ca fa  K) (eqO_rnP ea na ca fa  K hna hca  hc)⟩
      · obtain ⟨rfl, -, hc⟩ := hh1
        exact ⟨_, _, cast (eqO_rrE ea na ca fa eb nb cb fb  K) (eqO_rrP ea na ca fa eb nb cb fb  K hna hca hnb hcb  hc)⟩
  · exact hh.elim
theorem eqO_told : Told 99 (specOf eqO) := told (X := XZ) XZ_told (by kernel_rfl) (by kernel_rfl) (by kernel_rfl) eqO_ok
end Go.Proofs.Ytfgeoglegebncaa.Fr
namespace Go.Proofs.Ytfgeoglegebncaa.Fr
set_option maxRecDepth 100000
set_option maxHeartbeats 4000000
open Go.Rx
open Go.RowKit (Below)
set_option linter.unusedVariables false
@[reducible] def XAL : List (Nat × Rx.Spec) := [(24, specOf arC), (120, specOf hdS), (99, specOf eqO)]
theorem XAL_told : ∀ p ∈ XAL, Told p.1 p.2 := by
  intro p hp
  simp only [List.mem_cons, List.not_mem_nil, or_false] at hp
  rcases hp with rfl | rfl | rfl
  · exact arC_told
  · exact hdS_told
  · exact eqO_told
def alOG : Con := fun vs bs K => match vs with
  | [vw, .int .i64 a, .int .i64 b] => parseRQ [.u64] 0 vw bs fun nw fw j0 bs0 => bs0 = [] ∧ ((Ok64 nw fw) ∧ (alE nw fw a b = 0)) ∧ (∀ bb : Bool, (bb = true ↔ alP fw a b) → K (.tuple ⟨[.bool bb, .int .i64 0]⟩) [])
  | _ => False

def alOG_rA (ew nw cw : Nat) (fw : RF) (a : Int) (b : Int) : Ann := fun _ _ _ => none
def alOG_rV (ew nw cw : Nat) (fw : RF) (a : Int) (b : Int) (K : Value → List Blk → Prop) : Prop := let q0 := ((0 : Nat) + nw ≤ nw); let q1 := eB; let q2 := (9223372036854775807 : Int); let q3 := (fw (Int.toNat b) (0 : Nat)); let q4 := (-9223372036854775808 : Int); let q5 := (18446744073709551615 : Int); let q6 := (fw (Int.toNat a) (0 : Nat)); let q7 := (@Eq Nat ((1 : Nat)) ((1 : Nat))); let q8 := (@Eq Nat ((0 : Nat)) ((0 : Nat))); let q9 := (hsP q3); let q10 := (hsR q3); let q11 := (hsP q6); let q12 := (hsR q6); let q13 := (((0 : Int) ≤ b) ∧ (b < (↑nw : Int))); let q14 := TS; let q15 := (b + (1 : Int) + hsP q3); let q16 := (a + (1 : Int) + hsP q6); let q17 := ((0 : Nat), Blk.row true [IntKind.u64] ew nw cw fw); let q18 := (@Eq (List IntKind) ([IntKind.u64]) ([IntKind.u64])); let q19 := (Int.toNat q15); let q20 := (Int.toNat q16); let q21 := (q8 ∧ ((nw ≤ (100000 : Nat)) ∧ (nw ≤ cw))); let q22 := (q14 ∧ q7); let q23 := (Int.toNat (b + (1 : Int) + hsP q3 - (b + (1 : Int)))); let q24 := (Int.toNat (a + (1 : Int) + hsP q6 - (a + (1 : Int)))); let q25 := (b + (1 : Int) + hsP q3 + hsR q3); let q26 := (a + (1 : Int) + hsP q6 + hsR q6); let q27 := ((q4 ≤ b + (1 : Int)) ∧ (b + (1 : Int) ≤ q2)); let q28 := (q18 ∧ ((@Eq Nat (nw) (nw)) ∧ (@Eq Nat (cw) (cw)))); let q29 := ((q4 ≤ (↑nw : Int) - b) ∧ ((↑nw : Int) - b ≤ q2)); let q30 := (((0 : Int) ≤ fw (Int.toNat b) (0 : Nat)) ∧ (fw (Int.toNat b) (0 : Nat) ≤ q5)); let q31 := (@Eq Int q15 q15); let q32 := (b + (1 : Int) + hsP q3 + hsR q3 - q15); let q33 := (a + (1 : Int) + hsP q6 + hsR q6 - q16); let q34 := ((5 : Nat), Blk.cells [vi q9, vi q10] (60 : Nat)); let q35 := (Int.toNat q32); let q36 := ((3 : Nat), Blk.cells [vi q11, vi q12] (60 : Nat)); let q37 := (Int.toNat q33); let q38 := ((7 : Nat), Blk.cells [vi q9, vi q10] (60 : Nat)); let q39 := ((q4 ≤ b + (1 : Int) + hsP q3) ∧ (b + (1 : Int) + hsP q3 ≤ q2)); let q40 := (@Eq Int q25 q25); let q41 := ((q4 ≤ hsP q3 + hsR q3) ∧ (hsP q3 + hsR q3 ≤ q2)); let q42 := ((2 : Nat), Blk.cells [vi (0 : Int), vi (0 : Int), vn, vi (0 : Int), vn] (118 : Nat)); let q43 := ((1 : Nat), Blk.cells [vi (0 : Int), vi (0 : Int), vn, vi (0 : Int), vn] (118 : Nat)); let q44 := ((4 : Nat), Blk.cells [vi (0 : Int), vi (0 : Int), vn, vi (0 : Int), vn] (118 : Nat)); let q45 := ((3 : Nat), Blk.cells [vi (0 : Int), vi (0 : Int), vn, vi (0 : Int), vn] (118 : Nat)); let q46 := ((6 : Nat), Blk.cells [vi (0 : Int), vi (0 : Int), vn, vi (0 : Int), vn] (118 : Nat)); let q47 := ((5 : Nat), Blk.cells [vi (0 : Int), vi (0 : Int), vn, vi (0 : Int), vn] (118 : Nat)); let q48 := ((q4 ≤ b + (1 : Int) + hsP q3 + hsR q3) ∧ (b + (1 : Int) + hsP q3 + hsR q3 ≤ q2)); let q49 := (((0 : Int) ≤ b + (1 : Int)) ∧ ((b + (1 : Int) ≤ b + (1 : Int) + hsP q3) ∧ ((b + (1 : Int) + hsP q3 ≤ b + (1 : Int) + hsP q3) ∧ (b + (1 : Int) + hsP q3 ≤ (↑cw : Int))))); let q50 := (@Eq Nat q35 q35); let q51 := (@Eq Nat q37 q37); let q52 := ((Int.toNat q32 ≤ (100000 : Nat)) ∧ (Int.toNat q32 ≤ Int.toNat q32)); let q53 := (((0 : Int) ≤ b + (1 : Int) + hsP q3) ∧ ((b + (1 : Int) + hsP q3 ≤ b + (1 : Int) + hsP q3 + hsR q3) ∧ ((b + (1 : Int) + hsP q3 + hsR q3 ≤ b + (1 : Int) + hsP q3 + hsR q3) ∧ (b + (1 : Int) + hsP q3 + hsR q3 ≤ (↑cw : Int))))); let q54 := (q8 ∧ ((Int.toNat q33 ≤ (100000 : Nat)) ∧ (Int.toNat q33 ≤ Int.toNat q33))); let q55 := ((Int.toNat q15 + Int.toNat q32 ≤ nw) ∧ q50); let q56 := ((Int.toNat q16 + Int.toNat q33 ≤ nw) ∧ q51); let q57 := (q18 ∧ (q50 ∧ q50)); let q58 := (q18 ∧ (q51 ∧ q51)); let q59 := ((6 : Nat), Blk.cells [vi q9, vi q10, Value.slice (some { block := (0 : Nat), off := (0 : Nat), spot := some (Nat.succ (Nat.succ (Int.toNat (b + (1 : Int))))) }) q23 q23, vi (b + (1 : Int)), Value.slice (some { block := (0 : Nat), off := (0 : Nat), spot := some (Nat.succ (Nat.succ q19)) }) q35 q35] (118 : Nat)); let q60 := ((4 : Nat), Blk.cells [vi q11, vi q12, Value.slice (some { block := (0 : Nat), off := (0 : Nat), spot := some (Nat.succ (Nat.succ (Int.toNat (a + (1 : Int))))) }) q24 q24, vi (a + (1 : Int)), Value.slice (some { block := (0 : Nat), off := (0 : Nat), spot := some (Nat.succ (Nat.succ q20)) }) q37 q37] (118 : Nat)); let q61 := ((2 : Nat), Blk.cells [vi q11, vi q12, Value.slice (some { block := (0 : Nat), off := (0 : Nat), spot := some (Nat.succ (Nat.succ (Int.toNat (a + (1 : Int))))) }) q24 q24, vi (a + (1 : Int)), Value.slice (some { block := (0 : Nat), off := (0 : Nat), spot := some (Nat.succ (Nat.succ q20)) }) q37 q37] (118 : Nat)); let q62 := ((1 : Nat), Blk.cells [vi q11, vi q12, Value.slice (some { block := (0 : Nat), off := (0 : Nat), spot := some (Nat.succ (Nat.succ (Int.toNat (a + (1 : Int))))) }) q24 q24, vi (a + (1 : Int)), Value.slice (some { block := (0 : Nat), off := (0 : Nat), spot := some (Nat.succ (Nat.succ q20)) }) q37 q37] (118 : Nat)); let q63 := (t9 (∃ y0 : Value, (∃ y1 : List Blk, ((Go.Rx.Found 1 (Value.tuple { toList := [Value.bool false, vi (7 : Int)] }) ({ h := [q45, q42, q43, q17], next := (4 : Nat) }) (y0) (y1)) ∧ (K y0 y1))))); let q64 := (t9 (∃ y0 : Value, (∃ y1 : List Blk, ((Go.Rx.Found 1 (Value.tuple { toList := [Value.bool false, vi (6 : Int)] }) ({ h := [q44, q36, q42, q43, q17], next := (5 : Nat) }) (y0) (y1)) ∧ (K y0 y1))))); let q65 := (t9 (∃ y0 : Value, (∃ y1 : List Blk, ((Go.Rx.Found 1 (Value.tuple { toList := [Value.bool false, vi (7 : Int)] }) ({ h := [q47, q44, q45, q42, q43, q17], next := (6 : Nat) }) (y0) (y1)) ∧ (K y0 y1))))); let q66 := (t9 (∃ y0 : Value, (∃ y1 : List Blk, ((Go.Rx.Found 1 (Value.tuple { toList := [Value.bool false, vi (6 : Int)] }) ({ h := [q46, q34, q44, q45, q42, q43, q17], next := (7 : Nat) }) (y0) (y1)) ∧ (K y0 y1))))); let q67 := (t9 (∃ y0 : Value, (∃ y1 : List Blk, ((Go.Rx.Found 1 (Value.tuple { toList := [Value.bool false, vi (7 : Int)] }) ({ h := [((7 : Nat), Blk.cells [vi (0 : Int), vi (0 : Int), vn, vi (0 : Int), vn] (118 : Nat)), q46, q47, q60, q36, q61, q62, q17], next := (8 : Nat) }) (y0) (y1)) ∧ (K y0 y1))))); let q68 := (t9 (∃ y0 : Value, (∃ y1 : List Blk, ((Go.Rx.Found 1 (Value.tuple { toList := [Value.bool false, vi (6 : Int)] }) ({ h := [((8 : Nat), Blk.cells [vi (0 : Int), vi (0 : Int), vn, vi (0 : Int), vn] (118 : Nat)), q38, q46, q47, q60, q36, q61, q62, q17], next := (9 : Nat) }) (y0) (y1)) ∧ (K y0 y1))))); (t2 (q0 ∧ (q21 ∧ (q28 ∧ (q1 ∧ ((True) ∧ (T0 ∧ (if (@Eq Int (arE nw fw) ((0 : Int))) then (t2 (if (a < (1 : Int)) then q63 else (q14 ∧ (T0 ∧ (if ((↑nw : Int) ≤ a) then q63 else (q22 ∧ ((((0 : Int) ≤ a) ∧ (a < (↑nw : Int))) ∧ ((Int.toNat a < nw) ∧ (T0 ∧ (q1 ∧ ((((0 : Int) ≤ fw (Int.toNat a) (0 : Nat)) ∧ (fw (Int.toNat a) (0 : Nat) ≤ q5)) ∧ (t3 (if (@Eq Int (hsE q6) ((0 : Int))) then (t3 (((q4 ≤ hsP q6 + hsR q6) ∧ (hsP q6 + hsR q6 ≤ q2)) ∧ (q14 ∧ (T0 ∧ (((q4 ≤ (↑nw : Int) - a) ∧ ((↑nw : Int) - a ≤ q2)) ∧ (T0 ∧ (if ((↑nw : Int) - a ≤ hsP q6 + hsR q6) then q64 else (T0 ∧ (((q4 ≤ a + (1 : Int)) ∧ (a + (1 : Int) ≤ q2)) ∧ (t2 (((q4 ≤ a + (1 : Int) + hsP q6) ∧ (a + (1 : Int) + hsP q6 ≤ q2)) ∧ (t2 (((q4 ≤ a + (1 : Int) + hsP q6 + hsR q6) ∧ (a + (1 : Int) + hsP q6 + hsR q6 ≤ q2)) ∧ (t8 (q14 ∧ (t4 (q7 ∧ ((((0 : Int) ≤ a + (1 : Int)) ∧ ((a + (1 : Int) ≤ a + (1 : Int) + hsP q6) ∧ ((a + (1 : Int) + hsP q6 ≤ a + (1 : Int) + hsP q6) ∧ (a + (1 : Int) + hsP q6 ≤ (↑cw : Int))))) ∧ ((@Eq Int q16 q16) ∧ (t8 (q14 ∧ (t4 (q7 ∧ ((((0 : Int) ≤ a + (1 : Int) + hsP q6) ∧ ((a + (1 : Int) + hsP q6 ≤ a + (1 : Int) + hsP q6 + hsR q6) ∧ ((a + (1 : Int) + hsP q6 + hsR q6 ≤ a + (1 : Int) + hsP q6 + hsR q6) ∧ (a + (1 : Int) + hsP q6 + hsR q6 ≤ (↑cw : Int))))) ∧ ((@Eq Int q26 q26) ∧ (t9 (t4 (q0 ∧ (q21 ∧ (q28 ∧ (q1 ∧ ((True) ∧ (T0 ∧ (if (@Eq Int (arE nw fw) ((0 : Int))) then (t2 (if (b < (1 : Int)) then q67 else (q14 ∧ (T0 ∧ (if ((↑nw : Int) ≤ b) then q67 else (q22 ∧ (q13 ∧ ((Int.toNat b < nw) ∧ (T0 ∧ (q1 ∧ (q30 ∧ (t3 (if (@Eq Int (hsE q3) ((0 : Int))) then (t3 (q41 ∧ (q14 ∧ (T0 ∧ (q29 ∧ (T0 ∧ (if ((↑nw : Int) - b ≤ hsP q3 + hsR q3) then q68 else (T0 ∧ (q27 ∧ (t2 (q39 ∧ (t2 (q48 ∧ (t8 (q14 ∧ (t4 (q7 ∧ (q49 ∧ (q31 ∧ (t8 (q14 ∧ (t4 (q7 ∧ (q53 ∧ (q40 ∧ (t9 (t7 (if (eqL [hsP q6, hsR q6] [hsP q3, hsR q3]) then (t6 (q56 ∧ (q55 ∧ (q54 ∧ (q58 ∧ ((q7 ∧ q52) ∧ (q57 ∧ (q1 ∧ ((True) ∧ (∀ y0 : Bool, ((y0 = true ↔ Int.toNat q33 = Int.toNat q32 ∧ ∀ (i : Nat), i < Int.toNat q33 → shiftF fw q20 i (0 : Nat) = shiftF fw q19 i (0 : Nat)) → (∃ y1 : Value, (∃ y2 : List Blk, ((Go.Rx.Found 1 (Value.tuple { toList := [Value.bool y0, vi (0 : Int)] }) ({ h := [((8 : Nat), Blk.cells [vi q9, vi q10, Value.slice (some { block := (0 : Nat), off := (0 : Nat), spot := some (Nat.succ (Nat.succ (Int.toNat (b + (1 : Int))))) }) q23 q23, vi (b + (1 : Int)), Value.slice (some { block := (0 : Nat), off := (0 : Nat), spot := some (Nat.succ (Nat.succ q19)) }) q35 q35] (118 : Nat)), q38, q59, ((5 : Nat), Blk.cells [vi q9, vi q10, Value.slice (some { block := (0 : Nat), off := (0 : Nat), spot := some (Nat.succ (Nat.succ (Int.toNat (b + (1 : Int))))) }) q23 q23, vi (b + (1 : Int)), Value.slice (some { block := (0 : Nat), off := (0 : Nat), spot := some (Nat.succ (Nat.succ q19)) }) q35 q35] (118 : Nat)), q60, q36, q61, q62, q17], next := (9 : Nat) }) (y1) (y2)) ∧ (K y1 y2))))))))))))))) else (∃ y0 : Value, (∃ y1 : List Blk, ((Go.Rx.Found 1 (Value.tuple { toList := [Value.bool false, vi (0 : Int)] }) ({ h := [((8 : Nat), Blk.cells [vi q9, vi q10, Value.slice (some { block := (0 : Nat), off := (0 : Nat), spot := some (Nat.succ (Nat.succ (Int.toNat (b + (1 : Int))))) }) q23 q23, vi (b + (1 : Int)), Value.slice (some { block := (0 : Nat), off := (0 : Nat), spot := some (Nat.succ (Nat.succ q19)) }) q35 q35] (118 : Nat)), q38, q59, ((5 : Nat), Blk.cells [vi q9, vi q10, Value.slice (some { block := (0 : Nat), off := (0 : Nat), spot := some (Nat.succ (Nat.succ (Int.toNat (b + (1 : Int))))) }) q23 q23, vi (b + (1 : Int)), Value.slice (some { block := (0 : Nat), off := (0 : Nat), spot := some (Nat.succ (Nat.succ q19)) }) q35 q35] (118 : Nat)), q60, q36, q61, q62, q17], next := (9 : Nat) }) (y0) (y1)) ∧ (K y0 y1)))))))))))))))))))))))))))))))) else q68))))))))))))) else (t6 (if (@Eq Int (arE nw fw) ((0 : Int))) then (t4 (if (eqL [hsP q6, hsR q6] [(0 : Int), (0 : Int)]) then (t6 (q56 ∧ (T0 ∧ (q54 ∧ (q58 ∧ (q1 ∧ ((True) ∧ (∀ y0 : Bool, ((y0 = true ↔ Int.toNat q33 = (0 : Nat) ∧ ∀ (i : Nat), i < Int.toNat q33 → shiftF fw q20 i (0 : Nat) = zF i (0 : Nat)) → (∃ y1 : Value, (∃ y2 : List Blk, ((Go.Rx.Found 1 (Value.tuple { toList := [Value.bool y0, vi (0 : Int)] }) ({ h := [q46, q47, q60, q36, q61, q62, q17], next := (7 : Nat) }) (y1) (y2)) ∧ (K y1 y2))))))))))))) else (∃ y0 : Value, (∃ y1 : List Blk, ((Go.Rx.Found 1 (Value.tuple { toList := [Value.bool false, vi (0 : Int)] }) ({ h := [q46, q47, q60, q36, q61, q62, q17], next := (7 : Nat) }) (y0) (y1)) ∧ (K y0 y1)))))) else (∃ y0 : Value, (∃ y1 : List Blk, ((Go.Rx.Found 1 (Value.tuple { toList := [Value.bool false, vi (arE nw fw)] }) ({ h := [q46, q47, q60, q36, q61, q62, q17], next := (7 : Nat) }) (y0) (y1)) ∧ (K y0 y1)))))))))))))))))))))))))))))))))))))))) else q64))))))))))))) else (t6 (if (@Eq Int (arE nw fw) ((0 : Int))) then (T0 ∧ (q0 ∧ (q21 ∧ (q28 ∧ (q1 ∧ ((True) ∧ (T0 ∧ (if (@Eq Int (arE nw fw) ((0 : Int))) then (t2 (if (b < (1 : Int)) then q65 else (q14 ∧ (T0 ∧ (if ((↑nw : Int) ≤ b) then q65 else (q22 ∧ (q13 ∧ ((Int.toNat b < nw) ∧ (T0 ∧ (q1 ∧ (q30 ∧ (t3 (if (@Eq Int (hsE q3) ((0 : Int))) then (t3 (q41 ∧ (q14 ∧ (T0 ∧ (q29 ∧ (T0 ∧ (if ((↑nw : Int) - b ≤ hsP q3 + hsR q3) then q66 else (T0 ∧ (q27 ∧ (t2 (q39 ∧ (t2 (q48 ∧ (t8 (q14 ∧ (t4 (q7 ∧ (q49 ∧ (q31 ∧ (t8 (q14 ∧ (t4 (q7 ∧ (q53 ∧ (q40 ∧ (t9 (t7 (if (eqL [(0 : Int), (0 : Int)] [hsP q3, hsR q3]) then (t7 (q55 ∧ ((q8 ∧ q52) ∧ (q57 ∧ (q1 ∧ ((True) ∧ (∀ y0 : Bool, ((y0 = true ↔ (0 : Nat) = Int.toNat q32 ∧ ∀ (i : Nat), i < (0 : Nat) → zF i (0 : Nat) = shiftF fw q19 i (0 : Nat)) → (∃ y1 : Value, (∃ y2 : List Blk, ((Go.Rx.Found 1 (Value.tuple { toList := [Value.bool y0, vi (0 : Int)] }) ({ h := [q59, q34, ((4 : Nat), Blk.cells [vi q9, vi q10, Value.slice (some { block := (0 : Nat), off := (0 : Nat), spot := some (Nat.succ (Nat.succ (Int.toNat (b + (1 : Int))))) }) q23 q23, vi (b + (1 : Int)), Value.slice (some { block := (0 : Nat), off := (0 : Nat), spot := some (Nat.succ (Nat.succ q19)) }) q35 q35] (118 : Nat)), ((3 : Nat), Blk.cells [vi q9, vi q10, Value.slice (some { block := (0 : Nat), off := (0 : Nat), spot := some (Nat.succ (Nat.succ (Int.toNat (b + (1 : Int))))) }) q23 q23, vi (b + (1 : Int)), Value.slice (some { block := (0 : Nat), off := (0 : Nat), spot := some (Nat.succ (Nat.succ q19)) }) q35 q35] (118 : Nat)), q42, q43, q17], next := (7 : Nat) }) (y1) (y2)) ∧ (K y1 y2)))))))))))) else (∃ y0 : Value, (∃ y1 : List Blk, ((Go.Rx.Found 1 (Value.tuple { toList := [Value.bool false, vi (0 : Int)] }) ({ h := [q59, q34, ((4 : Nat), Blk.cells [vi q9, vi q10, Value.slice (some { block := (0 : Nat), off := (0 : Nat), spot := some (Nat.succ (Nat.succ (Int.toNat (b + (1 : Int))))) }) q23 q23, vi (b + (1 : Int)), Value.slice (some { block := (0 : Nat), off := (0 : Nat), spot := some (Nat.succ (Nat.succ q19)) }) q35 q35] (118 : Nat)), ((3 : Nat), Blk.cells [vi q9, vi q10, Value.slice (some { block := (0 : Nat), off := (0 : Nat), spot := some (Nat.succ (Nat.succ (Int.toNat (b + (1 : Int))))) }) q23 q23, vi (b + (1 : Int)), Value.slice (some { block := (0 : Nat), off := (0 : Nat), spot := some (Nat.succ (Nat.succ q19)) }) q35 q35] (118 : Nat)), q42, q43, q17], next := (7 : Nat) }) (y0) (y1)) ∧ (K y0 y1)))))))))))))))))))))))))))))))) else q66))))))))))))) else (t6 (if (@Eq Int (arE nw fw) ((0 : Int))) then (t9 (t3 (q1 ∧ ((True) ∧ (∀ y0 : Bool, ((y0 = true ↔ (0 : Nat) = (0 : Nat) ∧ ∀ (i : Nat), i < (0 : Nat) → zF i (0 : Nat) = zF i (0 : Nat)) → (∃ y1 : Value, (∃ y2 : List Blk, ((Go.Rx.Found 1 (Value.tuple { toList := [Value.bool y0, vi (0 : Int)] }) ({ h := [q44, q45, q42, q43, q17], next := (5 : Nat) }) (y1) (y2)) ∧ (K y1 y2)))))))))) else (∃ y0 : Value, (∃ y1 : List Blk, ((Go.Rx.Found 1 (Value.tuple { toList := [Value.bool false, vi (arE nw fw)] }) ({ h := [q44, q45, q42, q43, q17], next := (5 : Nat) }) (y0) (y1)) ∧ (K y0 y1)))))))))))))) else (∃ y0 : Value, (∃ y1 : List Blk, ((Go.Rx.Found 1 (Value.tuple { toList := [Value.bool false, vi (arE nw fw)] }) ({ h := [q42, q43, q17], next := (3 : Nat) }) (y0) (y1)) ∧ (K y0 y1))))))))))))))
theorem alOG_rE (ew nw cw : Nat) (fw : RF) (a : Int) (b : Int) (K : Value → List Blk → Prop) : alOG_rV ew nw cw fw a b K = bodyX (mk XAL) (callN (mk XAL) 9) (alOG_rA ew nw cw fw a b) Try.f58 [rsl 0 0 nw cw, .int .i64 a, .int .i64 b] (stOf [.row true [.u64] ew nw cw fw]) (Fd 1 K) := by kernel_rfl
set_option tactic.hygienic false in
theorem alOG_rP (ew nw cw : Nat) (fw : RF) (a : Int) (b : Int) (K : Value → List Blk → Prop)  (hnw : nw ≤ 100000) (hcw : nw ≤ cw) (hU : Ok64 nw fw) (h1 : alE nw fw a b = 0) (h : ∀ bb : Bool, (bb = true ↔ alP fw a b) → K (.tuple ⟨[.bool bb, .int .i64 0]⟩) []) : alOG_rV ew nw cw fw a b K := by
  unfold alOG_rV
  conv => zeta
  have z0 := ob_cases hU a
  have z1 := fun (h1 : 0 ≤ a) (h2 : a < nw) => hU.at h1 h2
  have z2 := fun (h1 : 0 ≤ a) (h2 : a < nw) => hs_bd (hU.at h1 h2).1
  have z3 := ob_cases hU b
  have z4 := fun (h1 : 0 ≤ b) (h2 : b < nw) => hU.at h1 h2
  have z5 := fun (h1 : 0 ≤ b) (h2 : b < nw) => hs_bd (hU.at h1 h2).1
  have z6 := al_cases nw fw a b
  repeat' (first | (with_reducible exact rfl) | (with_reducible exact trivial) | (with_reducible refine And.intro ?_ ?_) | (intro) | (with_reducible refine br_d (fun hq => ?_) (fun hq => ?_)) | (with_reducible refine br_nd (fun hq => ?_) (fun hq => ?_)) | (with_reducible refine br_intro (fun hq => ?_) (fun hq => ?_)) | (with_reducible refine if_both (fun hz => ?_) (fun hz => ?_)) | fail)
  all_goals try simp only [eqL] at *
  all_goals first
    | (with_reducible assumption)
    | (refine (id ?_ : ∃ (v1 : Value) (news : List Blk), _)
       first
        | contradiction
        | (rename (_ = true ↔ _) => hb
           exact fin0 (by kernel_rfl) (by kernel_rfl) (h _ (hb.trans ⟨fun e => ⟨by omega, by omega, fun i hi => (by
             have q := e.2 i (by omega)
             simpa only [shiftF_eq] using q)⟩, fun e => ⟨by omega, fun i hi => (by
             have q := e.2.2 i (by omega)
             simpa only [shiftF_eq] using q)⟩⟩)))
        | exact fin0 (by kernel_rfl) (by kernel_rfl) (h false ⟨fun e => (by cases e), fun e => absurd (And.intro e.1 e.2.1) (by assumption)⟩)
        | exact fin0 (by kernel_rfl) (by kernel_rfl) (h false ⟨fun e => (by cases e), fun e => (by have q1 := e.1; have q2 := e.2.1; omega)⟩)
        | (exfalso; omega)
       )
    | omega
    | contradiction
    | (rename (_ = true ↔ _) => hb
       exact fin0 (by kernel_rfl) (by kernel_rfl) (h _ (hb.trans ⟨fun e => ⟨by omega, by omega, fun i hi => (by
         have q := e.2 i (by omega)
         simpa only [shiftF_eq] using q)⟩, fun e => ⟨by omega, fun i hi => (by
         have q := e.2.2 i (by omega)
         simpa only [shiftF_eq] using q)⟩⟩)))
    | exact fin0 (by kernel_rfl) (by kernel_rfl) (h false ⟨fun e => (by cases e), fun e => absurd (And.intro e.1 e.2.1) (by assumption)⟩)
    | exact fin0 (by kernel_rfl) (by kernel_rfl) (h false ⟨fun e => (by cases e), fun e => (by have q1 := e.1; have q2 := e.2.1; omega)⟩)
    | (exfalso; omega)
theorem alOG_ok : BodyOk (mk XAL) 9 Try.f58 alOG := by
  intro vs bs K hh hro
  clear hro
  unfold alOG at hh
  split at hh
  · rename_i vw a b
    obtain ⟨ew, nw, cw, fw, btw, rfl, hnw, hcw, rfl, hh0⟩ := parseRQ_inv hh
    obtain ⟨rfl, ⟨hU, h1⟩, hc⟩ := hh0
    exact ⟨_, _, cast (alOG_rE ew nw cw fw a b K) (alOG_rP ew nw cw fw a b K hnw hcw hU h1 hc)⟩
  · exact hh.elim
theorem alOG_told : Told 58 (specOf alOG) := told (X := XAL) XAL_told (by kernel_rfl) (by kernel_rfl) (by kernel_rfl) alOG_ok
end Go.Proofs.Ytfgeoglegebncaa.Fr
namespace Go.Proofs.Ytfgeoglegebncaa.Fr
set_option maxRecDepth 100000
set_option maxHeartbeats 4000000
open Go.Rx
open Go.RowKit (Below)
set_option linter.unusedVariables false
/-- Are two objects alike? -/
noncomputable def alB (f : RF) (a b : Int) : Bool := @decide (alP f a b) (Classical.propDecidable _)
theorem alB_true {f : RF} {a b : Int} (h : alP f a b) : alB f a b = true := by
  exact @decide_eq_true _ (Classical.propDecidable _) h
theorem alB_false {f : RF} {a b : Int} (h : ¬ alP f a b) : alB f a b = false := by
  exact @decide_eq_false _ (Classical.propDecidable _) h
theorem alB_iff {f : RF} {a b : Int} {bb : Bool} (h : bb = true ↔ alP f a b) : bb = alB f a b := by
  cases bb with
  | true => exact (alB_true (h.1 rfl)).symm
  | false => exact (alB_false fun q => by cases h.2 q).symm
def alOD : Con := fun vs bs K => match vs with
  | [vw, .int .i64 a, .int .i64 b] => parseRQ [.u64] 0 vw bs fun nw fw j0 bs0 => bs0 = [] ∧ ((Ok64 nw fw) ∧ (alE nw fw a b = 0)) ∧ K (.tuple ⟨[.bool (alB fw a b), .int .i64 0]⟩) []
  | _ => False
theorem alOD_told : Told 58 (specOf alOD) := alOG_told.mono fun vs bs K y => by
  unfold alOD at y
  unfold alOG
  split at y
  · rename_i vw a b
    obtain ⟨e, n, c, f, bt, rfl, hn, hc, rfl, y1⟩ := parseRQ_inv y
    clear y
    obtain ⟨rfl, h, y2⟩ := y1
    exact ⟨⟨rfl, hn, hc⟩, ⟨rfl, rfl, rfl⟩, rfl, h, fun bb hb => (by rw [alB_iff hb]; exact y2)⟩
  · exact y.elim
theorem ob_of {n : Nat} {f : RF} {a p q : Int} (hU : Ok64 n f) (h0 : arE n f = 0) (h1 : 1 ≤ a) (h2 : a < n) (h3 : f a.toNat 0 = 1 + 256 * p + 65536 * q) (h4 : sze p q = 0) (h5 : p + q < n - a) : obE n f a = 0 ∧ obP n f a = p ∧ obR n f a = q := by
  have z := ob_cases hU a
  have k := hs_of p q h4
  rw [h3] at z
  omega
theorem alP_of {f : RF} {a b p q p' q' : Int} (h1 : f a.toNat 0 = 1 + 256 * p + 65536 * q) (h2 : f b.toNat 0 = 1 + 256 * p' + 65536 * q') (h3 : sze p q = 0) (h4 : sze p' q' = 0) :
    alP f a b ↔ (p = p' ∧ q = q' ∧ ∀ i : Nat, i < q.toNat → f ((a + 1 + p).toNat + i) 0 = f ((b + 1 + p').toNat + i) 0) := by
  have k := hs_of p q h3
  have k' := hs_of p' q' h4
  unfold alP
  rw [h1, h2, k.2.1, k.2.2, k'.2.1, k'.2.2]
def F0a : RF := fun _ _ => 0
def F1a (p q : Int) : RF := mkF F0a (Int.toNat 1) (Int.toNat (1 + p + q)) (1 + 256 * p + 65536 * q)
def F2a (p q : Int) : RF := mkF (F1a p q) (Int.toNat (1 + szn p q)) (Int.toNat (1 + p + q)) (1 + 256 * p + 65536 * q)
def Na (p q : Int) : Nat := Int.toNat (1 + 2 * szn p q)
theorem F2_at (p q : Int) (h : sze p q = 0) (i : Nat) : (i = 1 → F2a p q i 0 = 1 + 256 * p + 65536 * q) ∧ (i = (1 + szn p q).toNat → F2a p q i 0 = 1 + 256 * p + 65536 * q) ∧ (¬ i = 1 → ¬ i = (1 + szn p q).toNat → F2a p q i 0 = 0) := by
  have z1 := sze_cases p q
  have z2 := szn_cases p q
  have e1 : Int.toNat 1 = 1 := rfl
  refine ⟨fun hi => ?_, fun hi => ?_, fun hi hj => ?_⟩
  · unfold F2a
    unfold mkF
    rw [if_neg (by omega), if_neg (by omega)]
    unfold F1a
    unfold mkF
    rw [if_pos (by omega)]
  · unfold F2a
    unfold mkF
    rw [if_pos hi]
  · unfold F2a
    unfold mkF
    rw [if_neg hj]
    split
    · rfl
    · unfold F1a
      unfold mkF
      rw [if_neg (by omega)]
      split
      · rfl
      · rfl
structure AlBase (p q : Int) : Prop where
  n : ((Na p q : Nat) : Int) = 3 + 2 * (p + q) ∧ szn p q = 1 + p + q ∧ 0 ≤ p ∧ 0 ≤ q
  o0 : Ok64 (Na p q) F0a
  m0 : mkE (Na p q) F0a 1 p q = 0
  o1 : Ok64 (Na p q) (F1a p q)
  m1 : mkE (Na p q) (F1a p q) (1 + szn p q) p q = 0
  o2 : Ok64 (Na p q) (F2a p q)
  a2 : arE (Na p q) (F2a p q) = 0
theorem al_base {p q : Int} (h : sze p q = 0) (h40 : szn p q ≤ 40) : AlBase p q := by
  have z1 := sze_cases p q
  have z2 := szn_cases p q
  have hn : ((Na p q : Nat) : Int) = 3 + 2 * (p + q) := by unfold Na; omega
  have o0 : Ok64 (Na p q) F0a := ⟨fun i _ => by unfold F0a; omega⟩
  have a0 : arE (Na p q) F0a = 0 := by
    have z := ar_cases (Na p q) F0a
    have e : F0a (Int.toNat 0) 0 = 0 := rfl
    omega
  have m0 : mkE (Na p q) F0a 1 p q = 0 := by
    have z := mk_cases (Na p q) F0a 1 p q
    omega
  have k1 := mk_ok o0 m0
  obtain ⟨-, -, -, -, -, -, -, -, o1, a1, -⟩ := k1
  have o1 : Ok64 (Na p q) (F1a p q) := o1
  have a1 : arE (Na p q) (F1a p q) = 0 := a1
  have m1 : mkE (Na p q) (F1a p q) (1 + szn p q) p q = 0 := by
    have z := mk_cases (Na p q) (F1a p q) (1 + szn p q) p q
    omega
  have k2 := mk_ok o1 m1
  obtain ⟨-, -, -, -, -, -, -, -, o2, a2, -⟩ := k2
  exact ⟨⟨hn, by omega, by omega, by omega⟩, o0, m0, o1, m1, o2, a2⟩
theorem al_E {p q p' q' : Int} {f : RF} (h : sze p q = 0) (h' : sze p' q' = 0) (hs : p' + q' = p + q) (B : AlBase p q) (hU : Ok64 (Na p q) f) (ha : arE (Na p q) f = 0) (h1 : f (Int.toNat 1) 0 = 1 + 256 * p + 65536 * q) (h2 : f (Int.toNat (1 + szn p q)) 0 = 1 + 256 * p' + 65536 * q') :
    alE (Na p q) f 1 1 = 0 ∧ alE (Na p q) f 1 (1 + szn p q) = 0 ∧ alE (Na p q) f (1 + szn p q) 1 = 0 := by
  have b := B.n
  have o1 := ob_of hU ha (by omega) (by omega) h1 h (by omega)
  have o2 := ob_of (a := 1 + szn p q) hU ha (by omega) (by omega) h2 h' (by omega)
  have c1 := al_cases (Na p q) f 1 1
  have c2 := al_cases (Na p q) f 1 (1 + szn p q)
  have c3 := al_cases (Na p q) f (1 + szn p q) 1
  omega
theorem al_two {p q : Int} (h : sze p q = 0) (B : AlBase p q) : (alE (Na p q) (F2a p q) 1 1 = 0 ∧ alE (Na p q) (F2a p q) 1 (1 + szn p q) = 0 ∧ obE (Na p q) (F2a p q) 1 = 0 ∧ obP (Na p q) (F2a p q) 1 = p ∧ obR (Na p q) (F2a p q) 1 = q) ∧ alB (F2a p q) 1 1 = true ∧ alB (F2a p q) 1 (1 + szn p q) = true := by
  have b := B.n
  have e1 := (F2_at p q h (Int.toNat 1)).1 rfl
  have e2 := (F2_at p q h (Int.toNat (1 + szn p q))).2.1 rfl
  have k := al_E h h rfl B B.o2 B.a2 e1 e2
  have o := ob_of B.o2 B.a2 (by omega) (by omega) e1 h (by omega)
  refine ⟨⟨k.1, k.2.1, o⟩, alB_true ((alP_of e1 e1 h h).2 ⟨rfl, rfl, fun i hi => rfl⟩), alB_true ((alP_of e1 e2 h h).2 ⟨rfl, rfl, fun i hi => ?_⟩)⟩
  rw [(F2_at p q h _).2.2 (by omega) (by omega), (F2_at p q h _).2.2 (by omega) (by omega)]
theorem al_ptr {p q x : Int} (h : sze p q = 0) (B : AlBase p q) (hx : 0 ≤ x) (hx' : x < p) : spE (Na p q) (F2a p q) 1 x (1 + szn p q) = 0 ∧ Ok64 (Na p q) (setF (F2a p q) (Int.toNat (1 + 1 + x)) (1 + szn p q)) ∧ alE (Na p q) (setF (F2a p q) (Int.toNat (1 + 1 + x)) (1 + szn p q)) 1 (1 + szn p q) = 0 ∧ alB (setF (F2a p q) (Int.toNat (1 + 1 + x)) (1 + szn p q)) 1 (1 + szn p q) = true := by
  have b := B.n
  have z1 := sze_cases p q
  have o := (al_two h B).1
  have c := sp_cases (Na p q) (F2a p q) 1 x (1 + szn p q)
  have hS : ∀ i : Nat, ¬ i = (1 + 1 + x).toNat → setF (F2a p q) (Int.toNat (1 + 1 + x)) (1 + szn p q) i 0 = F2a p q i 0 := fun i hi => if_neg hi
  have e1 : setF (F2a p q) (Int.toNat (1 + 1 + x)) (1 + szn p q) (Int.toNat 1) 0 = 1 + 256 * p + 65536 * q := (hS _ (by have : Int.toNat 1 = 1 := rfl; omega)).trans ((F2_at p q h (Int.toNat 1)).1 rfl)
  have e2 : setF (F2a p q) (Int.toNat (1 + 1 + x)) (1 + szn p q) (Int.toNat (1 + szn p q)) 0 = 1 + 256 * p + 65536 * q := (hS _ (by omega)).trans ((F2_at p q h _).2.1 rfl)
  have hO : Ok64 (Na p q) (setF (F2a p q) (Int.toNat (1 + 1 + x)) (1 + szn p q)) := B.o2.set (by omega)
  have hA := (ob_set (n := Na p q) (f := F2a p q) (a := 1) (p := Int.toNat (1 + 1 + x)) (z := 1 + szn p q) (by omega) (by have : Int.toNat 1 = 1 := rfl; omega)).1
  have k := al_E h h rfl B hO (by rw [hA]; exact B.a2) e1 e2
  refine ⟨by omega, hO, k.2.1, alB_true ((alP_of e1 e2 h h).2 ⟨rfl, rfl, fun i hi => ?_⟩)⟩
  rw [hS _ (by omega), hS _ (by omega), (F2_at p q h _).2.2 (by omega) (by omega), (F2_at p q h _).2.2 (by omega) (by omega)]
theorem al_raw {p q x v : Int} (h : sze p q = 0) (B : AlBase p q) (hx : 0 ≤ x) (hx' : x < q) (hv : 0 ≤ v ∧ v ≤ 18446744073709551615) : rwE (Na p q) (F2a p q) 1 x = 0 ∧ Ok64 (Na p q) (setF (F2a p q) (Int.toNat (1 + 1 + obP (Na p q) (F2a p q) 1 + x)) v) ∧ (alE (Na p q) (setF (F2a p q) (Int.toNat (1 + 1 + obP (Na p q) (F2a p q) 1 + x)) v) 1 (1 + szn p q) = 0 ∧ alE (Na p q) (setF (F2a p q) (Int.toNat (1 + 1 + obP (Na p q) (F2a p q) 1 + x)) v) (1 + szn p q) 1 = 0) ∧
    (v = 0 → alB (setF (F2a p q) (Int.toNat (1 + 1 + obP (Na p q) (F2a p q) 1 + x)) v) 1 (1 + szn p q) = true ∧ alB (setF (F2a p q) (Int.toNat (1 + 1 + obP (Na p q) (F2a p q) 1 + x)) v) (1 + szn p q) 1 = true) ∧
    (¬ v = 0 → alB (setF (F2a p q) (Int.toNat (1 + 1 + obP (Na p q) (F2a p q) 1 + x)) v) 1 (1 + szn p q) = false ∧ alB (setF (F2a p q) (Int.toNat (1 + 1 + obP (Na p q) (F2a p q) 1 + x)) v) (1 + szn p q) 1 = false) := by
  have b := B.n
  have z1 := sze_cases p q
  have o := (al_two h B).1
  have c := rw_cases (Na p q) (F2a p q) 1 x
  rw [o.2.2.2.1] at c ⊢
  have hS : ∀ i : Nat, ¬ i = (1 + 1 + p + x).toNat → setF (F2a p q) (Int.toNat (1 + 1 + p + x)) v i 0 = F2a p q i 0 := fun i hi => if_neg hi
  have hE : setF (F2a p q) (Int.toNat (1 + 1 + p + x)) v (Int.toNat (1 + 1 + p + x)) 0 = v := if_pos rfl
  have e1 : setF (F2a p q) (Int.toNat (1 + 1 + p + x)) v (Int.toNat 1) 0 = 1 + 256 * p + 65536 * q := (hS _ (by have : Int.toNat 1 = 1 := rfl; omega)).trans ((F2_at p q h (Int.toNat 1)).1 rfl)
  have e2 : setF (F2a p q) (Int.toNat (1 + 1 + p + x)) v (Int.toNat (1 + szn p q)) 0 = 1 + 256 * p + 65536 * q := (hS _ (by omega)).trans ((F2_at p q h _).2.1 rfl)
  have hO : Ok64 (Na p q) (setF (F2a p q) (Int.toNat (1 + 1 + p + x)) v) := B.o2.set hv
  have hA := (ob_set (n := Na p q) (f := F2a p q) (a := 1) (p := Int.toNat (1 + 1 + p + x)) (z := v) (by omega) (by have : Int.toNat 1 = 1 := rfl; omega)).1
  have k := al_E h h rfl B hO (by rw [hA]; exact B.a2) e1 e2
  have hz : ∀ i : Nat, i < q.toNat → setF (F2a p q) (Int.toNat (1 + 1 + p + x)) v ((1 + szn p q + 1 + p).toNat + i) 0 = 0 := fun i hi => (hS _ (by omega)).trans ((F2_at p q h _).2.2 (by omega) (by omega))
  have hv0 : v = 0 → ∀ i : Nat, i < q.toNat → setF (F2a p q) (Int.toNat (1 + 1 + p + x)) v ((1 + 1 + p).toNat + i) 0 = 0 := fun h0 i hi => by
    by_cases e : (1 + 1 + p).toNat + i = (1 + 1 + p + x).toNat
    · rw [e, hE]; exact h0
    · exact (hS _ e).trans ((F2_at p q h _).2.2 (by omega) (by omega))
  have hx1 : (1 + 1 + p).toNat + x.toNat = (1 + 1 + p + x).toNat := by omega
  refine ⟨by omega, hO, ⟨k.2.1, k.2.2⟩, fun h0 => ⟨alB_true ((alP_of e1 e2 h h).2 ⟨rfl, rfl, fun i hi => ?_⟩), alB_true ((alP_of e2 e1 h h).2 ⟨rfl, rfl, fun i hi => ?_⟩)⟩, fun h0 => ⟨alB_false fun P => h0 ?_, alB_false fun P => h0 ?_⟩⟩
  · rw [hv0 h0 i hi, hz i hi]
  · rw [hv0 h0 i hi, hz i hi]
  · have P3 := ((alP_of e1 e2 h h).1 P).2.2 x.toNat (by omega)
    rw [hz _ (by omega), hx1, hE] at P3
    exact P3
  · have P3 := ((alP_of e2 e1 h h).1 P).2.2 x.toNat (by omega)
    rw [hz _ (by omega), hx1, hE] at P3
    exact P3.symm
theorem al_mk {p q : Int} (h : sze p q = 0) (B : AlBase p q) : mkE (Na p q) (F2a p q) (1 + szn p q) q p = 0 ∧ Ok64 (Na p q) (mkF (F2a p q) (Int.toNat (1 + szn p q)) (Int.toNat (1 + q + p)) (1 + 256 * q + 65536 * p)) ∧ alE (Na p q) (mkF (F2a p q) (Int.toNat (1 + szn p q)) (Int.toNat (1 + q + p)) (1 + 256 * q + 65536 * p)) 1 (1 + szn p q) = 0 ∧
    (p = q → alB (mkF (F2a p q) (Int.toNat (1 + szn p q)) (Int.toNat (1 + q + p)) (1 + 256 * q + 65536 * p)) 1 (1 + szn p q) = true) ∧ (¬ p = q → alB (mkF (F2a p q) (Int.toNat (1 + szn p q)) (Int.toNat (1 + q + p)) (1 + 256 * q + 65536 * p)) 1 (1 + szn p q) = false) := by
  have b := B.n
  have z1 := sze_cases p q
  have z2 := sze_cases q p
  have h' : sze q p = 0 := by omega
  have c := mk_cases (Na p q) (F2a p q) (1 + szn p q) q p
  have m : mkE (Na p q) (F2a p q) (1 + szn p q) q p = 0 := by have := B.a2; omega
  have k := mk_ok B.o2 m
  obtain ⟨-, -, -, -, -, -, -, -, hO, hA, -⟩ := k
  have hM : ∀ i : Nat, ¬ i = (1 + szn p q).toNat → (¬ i = 1 → mkF (F2a p q) (Int.toNat (1 + szn p q)) (Int.toNat (1 + q + p)) (1 + 256 * q + 65536 * p) i 0 = 0) ∧ (i = 1 → mkF (F2a p q) (Int.toNat (1 + szn p q)) (Int.toNat (1 + q + p)) (1 + 256 * q + 65536 * p) i 0 = 1 + 256 * p + 65536 * q) := fun i hi => by
    refine ⟨fun h1 => ?_, fun h1 => ?_⟩
    · unfold mkF
      rw [if_neg hi]
      split
      · rfl
      · exact (F2_at p q h i).2.2 h1 hi
    · unfold mkF
      rw [if_neg hi, if_neg (by omega)]
      exact (F2_at p q h i).1 h1
  have e1 := (hM (Int.toNat 1) (by have : Int.toNat 1 = 1 := rfl; omega)).2 rfl
  have e2 : mkF (F2a p q) (Int.toNat (1 + szn p q)) (Int.toNat (1 + q + p)) (1 + 256 * q + 65536 * p) (Int.toNat (1 + szn p q)) 0 = 1 + 256 * q + 65536 * p := if_pos rfl
  have kE := al_E h h' (by omega) B hO hA e1 e2
  refine ⟨m, hO, kE.2.1, fun hpq => alB_true ((alP_of e1 e2 h h').2 ⟨hpq, hpq.symm, fun i hi => ?_⟩), fun hpq => alB_false fun P => hpq ((alP_of e1 e2 h h').1 P).1⟩
  rw [(hM _ (by omega)).1 (by omega), (hM _ (by omega)).1 (by omega)]
end Go.Proofs.Ytfgeoglegebncaa.Fr
namespace Go.Proofs.Ytfgeoglegebncaa.Fr
set_option maxRecDepth 100000
set_option maxHeartbeats 4000000
open Go.Rx
open Go.RowKit (Below)
def sp43 : Rx.Spec := fun args s K => args = [] ∧ K (.bool true) s
set_option maxRecDepth 1000000 in
theorem closed43 : Ev.run ⟨Try.prog, Ev.mkTT Try.prog, Ev.mkFT Try.prog, [], [], [], none⟩ 1000000 43 [] = some true := by kernel_rfl
theorem told43 : Told 43 sp43 := ⟨⟨Try.f43, by kernel_rfl, by kernel_rfl, by kernel_rfl⟩, specTrue_ok (Ev.run_closed mixed closed43)⟩
end Go.Proofs.Ytfgeoglegebncaa.Fr
namespace Go.Proofs.Ytfgeoglegebncaa.Fr
set_option maxRecDepth 100000
set_option maxHeartbeats 4000000
open Go.Rx
open Go.RowKit (Below)
set_option linter.unusedVariables false
@[reducible] def X14 : List (Nat × Rx.Spec) := [(43, sp43), (65, specOf hkN), (44, specOf mkO_G), (58, specOf alOD), (60, specOf spOG), (62, specOf srOG)]
theorem X14_told : ∀ p ∈ X14, Told p.1 p.2 := by
  intro p hp
  simp only [List.mem_cons, List.not_mem_nil, or_false] at hp
  rcases hp with rfl | rfl | rfl | rfl | rfl | rfl
  · exact told43
  · exact hkN_told
  · exact mkO_G_told
  · exact alOD_told
  · exact spOG_told
  · exact srOG_told
end Go.Proofs.Ytfgeoglegebncaa.Fr
namespace Go.Proofs.Ytfgeoglegebncaa.Fr
set_option maxRecDepth 100000
set_option maxHeartbeats 4000000
open Go.Rx
open Go.RowKit (Below)
set_option linter.unusedVariables false

def lalkZ_zA (p : Int) (q : Int) (v : Int) (u : Int) : Ann := fun _ _ _ => none
def lalkZ_zV (p : Int) (q : Int) (v : Int) (u : Int) (K : Value → List Blk → Prop) : Prop := let q0 := eB; let q1 := (9223372036854775807 : Int); let q2 := (-9223372036854775808 : Int); let q3 := (Int.toNat ((1 : Int) + p + q)); let q4 := (Int.toNat ((1 : Int) + szn p q)); let q5 := ((1 : Int) + (2 : Int) * szn p q); let q6 := (@Eq Nat ((0 : Nat)) ((0 : Nat))); let q7 := ((0 : Int) ≤ IntKind.wrap IntKind.i64 u); let q8 := (Int.toNat q5); let q9 := ((1 : Int) + (256 : Int) * p + (65536 : Int) * q); let q10 := (@Eq (Value) (Value.bool false) (Value.bool true)); let q11 := (@Eq (List IntKind) ([IntKind.u64]) ([IntKind.u64])); let q12 := (q7 ∧ ((0 : Int) < q)); let q13 := (Int.toNat q5 ≤ (100000 : Nat)); let q14 := ((@Eq (List Value) ([]) ([])) ∧ (@Eq (Value) (Value.bool true) (Value.bool true))); let q15 := (@Eq Nat q8 q8); let q16 := ((0 : Nat) + Int.toNat q5 ≤ Int.toNat q5); let q17 := ((q2 ≤ (1 : Int) + szn p q) ∧ ((1 : Int) + szn p q ≤ q1)); let q18 := (mkF (fun x x_1 ↦ (0 : Int)) (Int.toNat (1 : Int)) q3 q9); let q19 := (mkF q18 q4 q3 q9); let q20 := (!alB q19 (1 : Int) (1 : Int)); let q21 := (Ok64 q8 q19); let q22 := (Go.Rx.br q20 q10 (False)); let q23 := (setF q19 (Int.toNat ((1 : Int) + (1 : Int) + IntKind.wrap IntKind.i64 u % p)) ((1 : Int) + szn p q)); let q24 := (mkF q19 q4 (Int.toNat ((1 : Int) + q + p)) ((1 : Int) + (256 : Int) * q + (65536 : Int) * p)); let q25 := (setF q19 (Int.toNat ((1 : Int) + (1 : Int) + obP q8 q19 (1 : Int) + IntKind.wrap IntKind.i64 u % q)) v); let q26 := (q21 ∧ (@Eq Int (mkE q8 q19 ((1 : Int) + szn p q) q p) ((0 : Int)))); let q27 := (q21 ∧ (@Eq Int (rwE q8 q19 (1 : Int) (IntKind.wrap IntKind.i64 u % q)) ((0 : Int)))); let q28 := (!alB q25 (1 : Int) ((1 : Int) + szn p q) == true); let q29 := (!alB q25 (1 : Int) ((1 : Int) + szn p q) == false); let q30 := (Ok64 q8 q25); let q31 := (Go.Rx.br q28 q10 (False)); let q32 := (Go.Rx.br q29 q10 (False)); let q33 := (!alB q25 ((1 : Int) + szn p q) (1 : Int) == alB q25 (1 : Int) ((1 : Int) + szn p q)); let q34 := (q30 ∧ (@Eq Int (alE q8 q25 (1 : Int) ((1 : Int) + szn p q)) ((0 : Int)))); let q35 := (q30 ∧ (@Eq Int (alE q8 q25 ((1 : Int) + szn p q) (1 : Int)) ((0 : Int)))); let q36 := (Go.Rx.br q28 q31 (False)); let q37 := (Go.Rx.br q29 q32 (False)); let q38 := (q0 ∧ (((Ok64 q8 q24) ∧ (@Eq Int (alE q8 q24 (1 : Int) ((1 : Int) + szn p q)) ((0 : Int)))) ∧ (t5 (if (@Eq Int (p) (q)) then (T0 ∧ (Go.Rx.br (!alB q24 (1 : Int) ((1 : Int) + szn p q) == true) q10 q14)) else (T0 ∧ (Go.Rx.br (!alB q24 (1 : Int) ((1 : Int) + szn p q) == false) q10 q14)))))); let q39 := (Go.Rx.br q28 q36 q36); let q40 := (Go.Rx.br q29 q37 q37); (t4 (q0 ∧ ((True) ∧ (T0 ∧ (if (@Eq Int (sze p q) ((0 : Int))) then (T0 ∧ (if ((40 : Int) < szn p q) then q14 else (T0 ∧ (((q2 ≤ (2 : Int) * szn p q) ∧ ((2 : Int) * szn p q ≤ q1)) ∧ (T0 ∧ (((q2 ≤ (1 : Int) + (2 : Int) * szn p q) ∧ ((1 : Int) + (2 : Int) * szn p q ≤ q1)) ∧ (TS ∧ (t3 ((((0 : Int) ≤ (1 : Int) + (2 : Int) * szn p q) ∧ (((1 : Int) + (2 : Int) * szn p q ≤ (1 : Int) + (2 : Int) * szn p q) ∧ ((1 : Int) + (2 : Int) * szn p q ≤ (100000 : Int)))) ∧ (T0 ∧ (q16 ∧ (t3 ((q6 ∧ (q13 ∧ (Int.toNat q5 ≤ Int.toNat q5))) ∧ ((q11 ∧ (q15 ∧ q15)) ∧ (q0 ∧ (((Ok64 q8 fun x x_1 ↦ (0 : Int)) ∧ (@Eq Int (mkE q8 (fun x x_1 ↦ (0 : Int)) (1 : Int) p q) ((0 : Int)))) ∧ (∀ y0 : Nat, let q41 := (Int.toNat q5 ≤ y0); (q41 → (t2 (q17 ∧ (T0 ∧ (q16 ∧ (t3 ((q6 ∧ (q13 ∧ q41)) ∧ ((q11 ∧ (q15 ∧ (@Eq Nat (y0) (y0)))) ∧ (q0 ∧ (((Ok64 q8 q18) ∧ (@Eq Int (mkE q8 q18 ((1 : Int) + szn p q) p q) ((0 : Int)))) ∧ (∀ y1 : Nat, let q42 := (Int.toNat q5 ≤ y1); let q43 := (q6 ∧ (q13 ∧ q42)); let q44 := (q11 ∧ (q15 ∧ (@Eq Nat (y1) (y1)))); let q45 := (T0 ∧ (if ((1 : Int) < szn p q) then (T0 ∧ (q17 ∧ (t2 (q16 ∧ (t3 (q43 ∧ (q44 ∧ (q0 ∧ (q26 ∧ (∀ y3 : Nat, let q52 := (Int.toNat q5 ≤ y3); (q52 → (T0 ∧ (q17 ∧ (q16 ∧ (t2 ((q6 ∧ (q13 ∧ q52)) ∧ ((q11 ∧ (q15 ∧ (@Eq Nat (y3) (y3)))) ∧ q38))))))))))))))))) else q14)); let q46 := (Go.Rx.br q33 q10 q45); let q47 := (Go.Rx.br q33 q10 (T0 ∧ (if ((1 : Int) < szn p q) then (T0 ∧ (q17 ∧ (t2 (q16 ∧ (t3 (q43 ∧ (q44 ∧ (q0 ∧ (q26 ∧ (∀ y4 : Nat, let q57 := (Int.toNat q5 ≤ y4); (q57 → (T0 ∧ (q17 ∧ (q16 ∧ (t2 ((q6 ∧ (q13 ∧ q57)) ∧ ((q11 ∧ (q15 ∧ (@Eq Nat (y4) (y4)))) ∧ q38))))))))))))))))) else q14))); (q42 → (T0 ∧ (q16 ∧ (t2 (q43 ∧ (q44 ∧ (q0 ∧ ((q21 ∧ (@Eq Int (alE q8 q19 (1 : Int) (1 : Int)) ((0 : Int)))) ∧ (T0 ∧ (q17 ∧ (q16 ∧ (t2 (q43 ∧ (q44 ∧ (q0 ∧ ((q21 ∧ (@Eq Int (alE q8 q19 (1 : Int) ((1 : Int) + szn p q)) ((0 : Int)))) ∧ (t2 (Go.Rx.br q20 (Go.Rx.br q20 q22 (False)) (Go.Rx.br q20 q22 (Go.Rx.br q20 q10 (Go.Rx.br (!alB q19 (1 : Int) ((1 : Int) + szn p q)) q10 (t2 (if ((0 : Int) < p) then (t2 ((q7 ∧ ((0 : Int) < p)) ∧ (T0 ∧ (q17 ∧ (q16 ∧ (t3 (q43 ∧ (q44 ∧ (q0 ∧ ((q21 ∧ (@Eq Int (spE q8 q19 (1 : Int) (IntKind.wrap IntKind.i64 u % p) ((1 : Int) + szn p q)) ((0 : Int)))) ∧ (∀ y2 : Nat, let q53 := (Int.toNat q5 ≤ y2); (q53 → (T0 ∧ (q17 ∧ (q16 ∧ (t2 ((q6 ∧ (q13 ∧ q53)) ∧ ((q11 ∧ (q15 ∧ (@Eq Nat (y2) (y2)))) ∧ (q0 ∧ (((Ok64 q8 q23) ∧ (@Eq Int (alE q8 q23 (1 : Int) ((1 : Int) + szn p q)) ((0 : Int)))) ∧ (t2 (Go.Rx.br (!alB q23 (1 : Int) ((1 : Int) + szn p q)) q10 (t2 (if ((0 : Int) < q) then (t2 (q12 ∧ (q16 ∧ (t3 (q43 ∧ (q44 ∧ (q0 ∧ (q27 ∧ (∀ y3 : Nat, let q54 := (Int.toNat q5 ≤ y3); let q55 := (q6 ∧ (q13 ∧ q54)); let q56 := (q11 ∧ (q15 ∧ (@Eq Nat (y3) (y3)))); (q54 → (T0 ∧ (q17 ∧ (q16 ∧ (t2 (q55 ∧ (q56 ∧ (q0 ∧ (q34 ∧ (T0 ∧ (q17 ∧ (q16 ∧ (t2 (q55 ∧ (q56 ∧ (q0 ∧ (q35 ∧ (t4 (if (@Eq Int (v) ((0 : Int))) then (T0 ∧ (Go.Rx.br q28 q39 (Go.Rx.br q28 q36 (Go.Rx.br q28 q31 (T0 ∧ (Go.Rx.br q28 q10 q47)))))) else (T0 ∧ (Go.Rx.br q29 q40 (Go.Rx.br q29 q37 (Go.Rx.br q29 q32 (T0 ∧ (Go.Rx.br q29 q10 q47)))))))))))))))))))))))))))))))))) else q45)))))))))))))))))))))))) else (t2 (if ((0 : Int) < q) then (t2 (q12 ∧ (q16 ∧ (t3 (q43 ∧ (q44 ∧ (q0 ∧ (q27 ∧ (∀ y2 : Nat, let q49 := (Int.toNat q5 ≤ y2); let q50 := (q6 ∧ (q13 ∧ q49)); let q51 := (q11 ∧ (q15 ∧ (@Eq Nat (y2) (y2)))); (q49 → (T0 ∧ (q17 ∧ (q16 ∧ (t2 (q50 ∧ (q51 ∧ (q0 ∧ (q34 ∧ (T0 ∧ (q17 ∧ (q16 ∧ (t2 (q50 ∧ (q51 ∧ (q0 ∧ (q35 ∧ (t4 (if (@Eq Int (v) ((0 : Int))) then (T0 ∧ (Go.Rx.br q28 q39 (Go.Rx.br q28 q36 (Go.Rx.br q28 q31 (T0 ∧ (Go.Rx.br q28 q10 q46)))))) else (T0 ∧ (Go.Rx.br q29 q40 (Go.Rx.br q29 q37 (Go.Rx.br q29 q32 (T0 ∧ (Go.Rx.br q29 q10 q46)))))))))))))))))))))))))))))))))) else (T0 ∧ (if ((1 : Int) < szn p q) then (T0 ∧ (q17 ∧ (t2 (q16 ∧ (t3 (q43 ∧ (q44 ∧ (q0 ∧ (q26 ∧ (∀ y2 : Nat, let q48 := (Int.toNat q5 ≤ y2); (q48 → (T0 ∧ (q17 ∧ (q16 ∧ (t2 ((q6 ∧ (q13 ∧ q48)) ∧ ((q11 ∧ (q15 ∧ (@Eq Nat (y2) (y2)))) ∧ q38))))))))))))))))) else q14))))))))))))))))))))))))))))))))))))))))))))))))))))))) else q14)))))
theorem lalkZ_zE (p : Int) (q : Int) (v : Int) (u : Int) (K : Value → List Blk → Prop) : lalkZ_zV p q v u K = bodyX (mk X14) (callN (mk X14) 6) (lalkZ_zA p q v u) Try.f14 [.agg ⟨[.int .i64 p, .int .i64 q]⟩, .int .u64 v, .int .u8 u] (stOf []) fun v _ => v = .bool true := by kernel_rfl
set_option tactic.hygienic false in
theorem lalkZ_zP (p : Int) (q : Int) (v : Int) (u : Int) (K : Value → List Blk → Prop)  (hv : 0 ≤ v ∧ v ≤ 18446744073709551615) (hu : 0 ≤ u ∧ u ≤ 255) (hs : ¬ (sze p q = 0 ∧ szn p q ≤ 40)) : lalkZ_zV p q v u K := by
  unfold lalkZ_zV
  conv => zeta
  have z0 := sze_cases p q
  have z1 := szn_cases p q
  have hw : IntKind.i64.wrap u = u := wrap_id ⟨by simp only [lo]; omega, by simp only [hi]; omega⟩

  repeat' (first | (with_reducible exact rfl) | (with_reducible exact trivial) | (with_reducible refine And.intro ?_ ?_) | (intro) | (with_reducible refine br_d (fun hq => ?_) (fun hq => ?_)) | (with_reducible refine br_nd (fun hq => ?_) (fun hq => ?_)) | (with_reducible refine br_intro (fun hq => ?_) (fun hq => ?_)) | (with_reducible refine if_both (fun hz => ?_) (fun hz => ?_)) | fail)

  all_goals first
    | (with_reducible assumption)
    | (refine (id ?_ : False)
       first
        | contradiction
        | (exfalso; omega)
        | (exfalso; simp at hq; omega)
        | (exfalso; simp_all; done)
       )
    | omega
    | contradiction
    | (exfalso; omega)
    | (exfalso; simp at hq; omega)
    | (exfalso; simp_all; done)
end Go.Proofs.Ytfgeoglegebncaa.Fr
namespace Go.Proofs.Ytfgeoglegebncaa.Fr
set_option maxRecDepth 100000
set_option maxHeartbeats 4000000
open Go.Rx
open Go.RowKit (Below)
set_option linter.unusedVariables false

def lalkPQ_zA (p : Int) (q : Int) (v : Int) (u : Int) : Ann := fun _ _ _ => none
def lalkPQ_zV (p : Int) (q : Int) (v : Int) (u : Int) (K : Value → List Blk → Prop) : Prop := let q0 := eB; let q1 := (9223372036854775807 : Int); let q2 := (-9223372036854775808 : Int); let q3 := (Int.toNat ((1 : Int) + p + q)); let q4 := (Int.toNat ((1 : Int) + szn p q)); let q5 := ((1 : Int) + (2 : Int) * szn p q); let q6 := (@Eq Nat ((0 : Nat)) ((0 : Nat))); let q7 := ((0 : Int) ≤ IntKind.wrap IntKind.i64 u); let q8 := (Int.toNat q5); let q9 := ((1 : Int) + (256 : Int) * p + (65536 : Int) * q); let q10 := (@Eq (Value) (Value.bool false) (Value.bool true)); let q11 := (@Eq (List IntKind) ([IntKind.u64]) ([IntKind.u64])); let q12 := (q7 ∧ ((0 : Int) < q)); let q13 := (Int.toNat q5 ≤ (100000 : Nat)); let q14 := ((@Eq (List Value) ([]) ([])) ∧ (@Eq (Value) (Value.bool true) (Value.bool true))); let q15 := (@Eq Nat q8 q8); let q16 := ((0 : Nat) + Int.toNat q5 ≤ Int.toNat q5); let q17 := ((q2 ≤ (1 : Int) + szn p q) ∧ ((1 : Int) + szn p q ≤ q1)); let q18 := (mkF (fun x x_1 ↦ (0 : Int)) (Int.toNat (1 : Int)) q3 q9); let q19 := (mkF q18 q4 q3 q9); let q20 := (!alB q19 (1 : Int) (1 : Int)); let q21 := (Ok64 q8 q19); let q22 := (Go.Rx.br q20 q10 (False)); let q23 := (setF q19 (Int.toNat ((1 : Int) + (1 : Int) + IntKind.wrap IntKind.i64 u % p)) ((1 : Int) + szn p q)); let q24 := (mkF q19 q4 (Int.toNat ((1 : Int) + q + p)) ((1 : Int) + (256 : Int) * q + (65536 : Int) * p)); let q25 := (setF q19 (Int.toNat ((1 : Int) + (1 : Int) + obP q8 q19 (1 : Int) + IntKind.wrap IntKind.i64 u % q)) v); let q26 := (q21 ∧ (@Eq Int (mkE q8 q19 ((1 : Int) + szn p q) q p) ((0 : Int)))); let q27 := (q21 ∧ (@Eq Int (rwE q8 q19 (1 : Int) (IntKind.wrap IntKind.i64 u % q)) ((0 : Int)))); let q28 := (!alB q25 (1 : Int) ((1 : Int) + szn p q) == true); let q29 := (!alB q25 (1 : Int) ((1 : Int) + szn p q) == false); let q30 := (Ok64 q8 q25); let q31 := (Go.Rx.br q28 q10 (False)); let q32 := (Go.Rx.br q29 q10 (False)); let q33 := (!alB q25 ((1 : Int) + szn p q) (1 : Int) == alB q25 (1 : Int) ((1 : Int) + szn p q)); let q34 := (q30 ∧ (@Eq Int (alE q8 q25 (1 : Int) ((1 : Int) + szn p q)) ((0 : Int)))); let q35 := (q30 ∧ (@Eq Int (alE q8 q25 ((1 : Int) + szn p q) (1 : Int)) ((0 : Int)))); let q36 := (Go.Rx.br q28 q31 (False)); let q37 := (Go.Rx.br q29 q32 (False)); let q38 := (q0 ∧ (((Ok64 q8 q24) ∧ (@Eq Int (alE q8 q24 (1 : Int) ((1 : Int) + szn p q)) ((0 : Int)))) ∧ (t5 (if (@Eq Int (p) (q)) then (T0 ∧ (Go.Rx.br (!alB q24 (1 : Int) ((1 : Int) + szn p q) == true) q10 q14)) else (T0 ∧ (Go.Rx.br (!alB q24 (1 : Int) ((1 : Int) + szn p q) == false) q10 q14)))))); let q39 := (Go.Rx.br q28 q36 q36); let q40 := (Go.Rx.br q29 q37 q37); (t4 (q0 ∧ ((True) ∧ (T0 ∧ (if (@Eq Int (sze p q) ((0 : Int))) then (T0 ∧ (if ((40 : Int) < szn p q) then q14 else (T0 ∧ (((q2 ≤ (2 : Int) * szn p q) ∧ ((2 : Int) * szn p q ≤ q1)) ∧ (T0 ∧ (((q2 ≤ (1 : Int) + (2 : Int) * szn p q) ∧ ((1 : Int) + (2 : Int) * szn p q ≤ q1)) ∧ (TS ∧ (t3 ((((0 : Int) ≤ (1 : Int) + (2 : Int) * szn p q) ∧ (((1 : Int) + (2 : Int) * szn p q ≤ (1 : Int) + (2 : Int) * szn p q) ∧ ((1 : Int) + (2 : Int) * szn p q ≤ (100000 : Int)))) ∧ (T0 ∧ (q16 ∧ (t3 ((q6 ∧ (q13 ∧ (Int.toNat q5 ≤ Int.toNat q5))) ∧ ((q11 ∧ (q15 ∧ q15)) ∧ (q0 ∧ (((Ok64 q8 fun x x_1 ↦ (0 : Int)) ∧ (@Eq Int (mkE q8 (fun x x_1 ↦ (0 : Int)) (1 : Int) p q) ((0 : Int)))) ∧ (∀ y0 : Nat, let q41 := (Int.toNat q5 ≤ y0); (q41 → (t2 (q17 ∧ (T0 ∧ (q16 ∧ (t3 ((q6 ∧ (q13 ∧ q41)) ∧ ((q11 ∧ (q15 ∧ (@Eq Nat (y0) (y0)))) ∧ (q0 ∧ (((Ok64 q8 q18) ∧ (@Eq Int (mkE q8 q18 ((1 : Int) + szn p q) p q) ((0 : Int)))) ∧ (∀ y1 : Nat, let q42 := (Int.toNat q5 ≤ y1); let q43 := (q6 ∧ (q13 ∧ q42)); let q44 := (q11 ∧ (q15 ∧ (@Eq Nat (y1) (y1)))); let q45 := (T0 ∧ (if ((1 : Int) < szn p q) then (T0 ∧ (q17 ∧ (t2 (q16 ∧ (t3 (q43 ∧ (q44 ∧ (q0 ∧ (q26 ∧ (∀ y3 : Nat, let q52 := (Int.toNat q5 ≤ y3); (q52 → (T0 ∧ (q17 ∧ (q16 ∧ (t2 ((q6 ∧ (q13 ∧ q52)) ∧ ((q11 ∧ (q15 ∧ (@Eq Nat (y3) (y3)))) ∧ q38))))))))))))))))) else q14)); let q46 := (Go.Rx.br q33 q10 q45); let q47 := (Go.Rx.br q33 q10 (T0 ∧ (if ((1 : Int) < szn p q) then (T0 ∧ (q17 ∧ (t2 (q16 ∧ (t3 (q43 ∧ (q44 ∧ (q0 ∧ (q26 ∧ (∀ y4 : Nat, let q57 := (Int.toNat q5 ≤ y4); (q57 → (T0 ∧ (q17 ∧ (q16 ∧ (t2 ((q6 ∧ (q13 ∧ q57)) ∧ ((q11 ∧ (q15 ∧ (@Eq Nat (y4) (y4)))) ∧ q38))))))))))))))))) else q14))); (q42 → (T0 ∧ (q16 ∧ (t2 (q43 ∧ (q44 ∧ (q0 ∧ ((q21 ∧ (@Eq Int (alE q8 q19 (1 : Int) (1 : Int)) ((0 : Int)))) ∧ (T0 ∧ (q17 ∧ (q16 ∧ (t2 (q43 ∧ (q44 ∧ (q0 ∧ ((q21 ∧ (@Eq Int (alE q8 q19 (1 : Int) ((1 : Int) + szn p q)) ((0 : Int)))) ∧ (t2 (Go.Rx.br q20 (Go.Rx.br q20 q22 (False)) (Go.Rx.br q20 q22 (Go.Rx.br q20 q10 (Go.Rx.br (!alB q19 (1 : Int) ((1 : Int) + szn p q)) q10 (t2 (if ((0 : Int) < p) then (t2 ((q7 ∧ ((0 : Int) < p)) ∧ (T0 ∧ (q17 ∧ (q16 ∧ (t3 (q43 ∧ (q44 ∧ (q0 ∧ ((q21 ∧ (@Eq Int (spE q8 q19 (1 : Int) (IntKind.wrap IntKind.i64 u % p) ((1 : Int) + szn p q)) ((0 : Int)))) ∧ (∀ y2 : Nat, let q53 := (Int.toNat q5 ≤ y2); (q53 → (T0 ∧ (q17 ∧ (q16 ∧ (t2 ((q6 ∧ (q13 ∧ q53)) ∧ ((q11 ∧ (q15 ∧ (@Eq Nat (y2) (y2)))) ∧ (q0 ∧ (((Ok64 q8 q23) ∧ (@Eq Int (alE q8 q23 (1 : Int) ((1 : Int) + szn p q)) ((0 : Int)))) ∧ (t2 (Go.Rx.br (!alB q23 (1 : Int) ((1 : Int) + szn p q)) q10 (t2 (if ((0 : Int) < q) then (t2 (q12 ∧ (q16 ∧ (t3 (q43 ∧ (q44 ∧ (q0 ∧ (q27 ∧ (∀ y3 : Nat, let q54 := (Int.toNat q5 ≤ y3); let q55 := (q6 ∧ (q13 ∧ q54)); let q56 := (q11 ∧ (q15 ∧ (@Eq Nat (y3) (y3)))); (q54 → (T0 ∧ (q17 ∧ (q16 ∧ (t2 (q55 ∧ (q56 ∧ (q0 ∧ (q34 ∧ (T0 ∧ (q17 ∧ (q16 ∧ (t2 (q55 ∧ (q56 ∧ (q0 ∧ (q35 ∧ (t4 (if (@Eq Int (v) ((0 : Int))) then (T0 ∧ (Go.Rx.br q28 q39 (Go.Rx.br q28 q36 (Go.Rx.br q28 q31 (T0 ∧ (Go.Rx.br q28 q10 q47)))))) else (T0 ∧ (Go.Rx.br q29 q40 (Go.Rx.br q29 q37 (Go.Rx.br q29 q32 (T0 ∧ (Go.Rx.br q29 q10 q47)))))))))))))))))))))))))))))))))) else q45)))))))))))))))))))))))) else (t2 (if ((0 : Int) < q) then (t2 (q12 ∧ (q16 ∧ (t3 (q43 ∧ (q44 ∧ (q0 ∧ (q27 ∧ (∀ y2 : Nat, let q49 := (Int.toNat q5 ≤ y2); let q50 := (q6 ∧ (q13 ∧ q49)); let q51 := (q11 ∧ (q15 ∧ (@Eq Nat (y2) (y2)))); (q49 → (T0 ∧ (q17 ∧ (q16 ∧ (t2 (q50 ∧ (q51 ∧ (q0 ∧ (q34 ∧ (T0 ∧ (q17 ∧ (q16 ∧ (t2 (q50 ∧ (q51 ∧ (q0 ∧ (q35 ∧ (t4 (if (@Eq Int (v) ((0 : Int))) then (T0 ∧ (Go.Rx.br q28 q39 (Go.Rx.br q28 q36 (Go.Rx.br q28 q31 (T0 ∧ (Go.Rx.br q28 q10 q46)))))) else (T0 ∧ (Go.Rx.br q29 q40 (Go.Rx.br q29 q37 (Go.Rx.br q29 q32 (T0 ∧ (Go.Rx.br q29 q10 q46)))))))))))))))))))))))))))))))))) else (T0 ∧ (if ((1 : Int) < szn p q) then (T0 ∧ (q17 ∧ (t2 (q16 ∧ (t3 (q43 ∧ (q44 ∧ (q0 ∧ (q26 ∧ (∀ y2 : Nat, let q48 := (Int.toNat q5 ≤ y2); (q48 → (T0 ∧ (q17 ∧ (q16 ∧ (t2 ((q6 ∧ (q13 ∧ q48)) ∧ ((q11 ∧ (q15 ∧ (@Eq Nat (y2) (y2)))) ∧ q38))))))))))))))))) else q14))))))))))))))))))))))))))))))))))))))))))))))))))))))) else q14)))))
theorem lalkPQ_zE (p : Int) (q : Int) (v : Int) (u : Int) (K : Value → List Blk → Prop) : lalkPQ_zV p q v u K = bodyX (mk X14) (callN (mk X14) 6) (lalkPQ_zA p q v u) Try.f14 [.agg ⟨[.int .i64 p, .int .i64 q]⟩, .int .u64 v, .int .u8 u] (stOf []) fun v _ => v = .bool true := by kernel_rfl
set_option tactic.hygienic false in
theorem lalkPQ_zP (p : Int) (q : Int) (v : Int) (u : Int) (K : Value → List Blk → Prop)  (hv : 0 ≤ v ∧ v ≤ 18446744073709551615) (hu : 0 ≤ u ∧ u ≤ 255) (hs : sze p q = 0) (h40 : szn p q ≤ 40) (hp : 0 < p) (hq1 : 0 < q) : lalkPQ_zV p q v u K := by
  unfold lalkPQ_zV
  conv => zeta
  have z0 := sze_cases p q
  have z1 := szn_cases p q
  have hw : IntKind.i64.wrap u = u := wrap_id ⟨by simp only [lo]; omega, by simp only [hi]; omega⟩
  have BB := al_base hs h40
  have B0 := BB.o0
  have B1 := BB.m0
  have B2 := BB.o1
  have B3 := BB.m1
  have B4 := BB.o2
  obtain ⟨⟨C1, C2, C3, C4, C5⟩, D1, D2⟩ := al_two hs BB
  obtain ⟨M1, M2, M3, M4, M5⟩ := al_mk hs BB
  have W1 := Int.emod_nonneg (IntKind.i64.wrap u) (show ¬ p = 0 by omega)
  obtain ⟨P1, P2, P3, P4⟩ := al_ptr (x := IntKind.i64.wrap u % p) hs BB W1 (Int.emod_lt_of_pos _ hp)
  have W2 := Int.emod_nonneg (IntKind.i64.wrap u) (show ¬ q = 0 by omega)
  obtain ⟨R1, R2, ⟨R3, R4⟩, R5, R6⟩ := al_raw (x := IntKind.i64.wrap u % q) (v := v) hs BB W2 (Int.emod_lt_of_pos _ hq1) hv
  clear BB
  simp only [F2a, F1a, Na] at B0 B1 B2 B3 B4 C1 C2 C3 C4 C5 D1 D2 M1 M2 M3 M4 M5 P1 P2 P3 P4 R1 R2 R3 R4 R5 R6
  simp only [show F0a = (fun _ _ => 0) from rfl] at B0 B1 B2 B3 B4 C1 C2 C3 C4 C5 D1 D2 M1 M2 M3 M4 M5 P1 P2 P3 P4 R1 R2 R3 R4 R5 R6

  repeat' (first | (with_reducible exact rfl) | (with_reducible exact trivial) | (with_reducible refine And.intro ?_ ?_) | (intro) | (with_reducible refine br_d (fun hq => ?_) (fun hq => ?_)) | (with_reducible refine br_nd (fun hq => ?_) (fun hq => ?_)) | (with_reducible refine br_intro (fun hq => ?_) (fun hq => ?_)) | (with_reducible refine if_both (fun hz => ?_) (fun hz => ?_)) | fail)

  all_goals first
    | (with_reducible assumption)
    | (refine (id ?_ : False)
       first
        | contradiction
        | (exfalso; have e := D1; simp_all; done)
        | (exfalso; simp [D1, D2, P4] at *; done)
        | (exfalso; have e := M4 (by omega); simp [e] at *; done)
        | (exfalso; have e := M5 (by omega); simp [e] at *; done)
        | (exfalso; have e := R5 (by assumption); simp [e.1, e.2] at *; done)
        | (exfalso; have e := R6 (by assumption); simp [e.1, e.2] at *; done)
        | (exfalso; omega)
       )
    | omega
    | contradiction
    | (exfalso; have e := D1; simp_all; done)
    | (exfalso; simp [D1, D2, P4] at *; done)
    | (exfalso; have e := M4 (by omega); simp [e] at *; done)
    | (exfalso; have e := M5 (by omega); simp [e] at *; done)
    | (exfalso; have e := R5 (by assumption); simp [e.1, e.2] at *; done)
    | (exfalso; have e := R6 (by assumption); simp [e.1, e.2] at *; done)
    | (exfalso; omega)
end Go.Proofs.Ytfgeoglegebncaa.Fr
namespace Go.Proofs.Ytfgeoglegebncaa.Fr
set_option maxRecDepth 100000
set_option maxHeartbeats 4000000
open Go.Rx
open Go.RowKit (Below)
set_option linter.unusedVariables false

def lalkPM_zA (p : Int) (q : Int) (v : Int) (u : Int) : Ann := fun _ _ _ => none
def lalkPM_zV (p : Int) (q : Int) (v : Int) (u : Int) (K : Value → List Blk → Prop) : Prop := let q0 := eB; let q1 := (9223372036854775807 : Int); let q2 := (-9223372036854775808 : Int); let q3 := (Int.toNat ((1 : Int) + p + q)); let q4 := (Int.toNat ((1 : Int) + szn p q)); let q5 := ((1 : Int) + (2 : Int) * szn p q); let q6 := (@Eq Nat ((0 : Nat)) ((0 : Nat))); let q7 := ((0 : Int) ≤ IntKind.wrap IntKind.i64 u); let q8 := (Int.toNat q5); let q9 := ((1 : Int) + (256 : Int) * p + (65536 : Int) * q); let q10 := (@Eq (Value) (Value.bool false) (Value.bool true)); let q11 := (@Eq (List IntKind) ([IntKind.u64]) ([IntKind.u64])); let q12 := (q7 ∧ ((0 : Int) < q)); let q13 := (Int.toNat q5 ≤ (100000 : Nat)); let q14 := ((@Eq (List Value) ([]) ([])) ∧ (@Eq (Value) (Value.bool true) (Value.bool true))); let q15 := (@Eq Nat q8 q8); let q16 := ((0 : Nat) + Int.toNat q5 ≤ Int.toNat q5); let q17 := ((q2 ≤ (1 : Int) + szn p q) ∧ ((1 : Int) + szn p q ≤ q1)); let q18 := (mkF (fun x x_1 ↦ (0 : Int)) (Int.toNat (1 : Int)) q3 q9); let q19 := (mkF q18 q4 q3 q9); let q20 := (!alB q19 (1 : Int) (1 : Int)); let q21 := (Ok64 q8 q19); let q22 := (Go.Rx.br q20 q10 (False)); let q23 := (setF q19 (Int.toNat ((1 : Int) + (1 : Int) + IntKind.wrap IntKind.i64 u % p)) ((1 : Int) + szn p q)); let q24 := (mkF q19 q4 (Int.toNat ((1 : Int) + q + p)) ((1 : Int) + (256 : Int) * q + (65536 : Int) * p)); let q25 := (setF q19 (Int.toNat ((1 : Int) + (1 : Int) + obP q8 q19 (1 : Int) + IntKind.wrap IntKind.i64 u % q)) v); let q26 := (q21 ∧ (@Eq Int (mkE q8 q19 ((1 : Int) + szn p q) q p) ((0 : Int)))); let q27 := (q21 ∧ (@Eq Int (rwE q8 q19 (1 : Int) (IntKind.wrap IntKind.i64 u % q)) ((0 : Int)))); let q28 := (!alB q25 (1 : Int) ((1 : Int) + szn p q) == true); let q29 := (!alB q25 (1 : Int) ((1 : Int) + szn p q) == false); let q30 := (Ok64 q8 q25); let q31 := (Go.Rx.br q28 q10 (False)); let q32 := (Go.Rx.br q29 q10 (False)); let q33 := (!alB q25 ((1 : Int) + szn p q) (1 : Int) == alB q25 (1 : Int) ((1 : Int) + szn p q)); let q34 := (q30 ∧ (@Eq Int (alE q8 q25 (1 : Int) ((1 : Int) + szn p q)) ((0 : Int)))); let q35 := (q30 ∧ (@Eq Int (alE q8 q25 ((1 : Int) + szn p q) (1 : Int)) ((0 : Int)))); let q36 := (Go.Rx.br q28 q31 (False)); let q37 := (Go.Rx.br q29 q32 (False)); let q38 := (q0 ∧ (((Ok64 q8 q24) ∧ (@Eq Int (alE q8 q24 (1 : Int) ((1 : Int) + szn p q)) ((0 : Int)))) ∧ (t5 (if (@Eq Int (p) (q)) then (T0 ∧ (Go.Rx.br (!alB q24 (1 : Int) ((1 : Int) + szn p q) == true) q10 q14)) else (T0 ∧ (Go.Rx.br (!alB q24 (1 : Int) ((1 : Int) + szn p q) == false) q10 q14)))))); let q39 := (Go.Rx.br q28 q36 q36); let q40 := (Go.Rx.br q29 q37 q37); (t4 (q0 ∧ ((True) ∧ (T0 ∧ (if (@Eq Int (sze p q) ((0 : Int))) then (T0 ∧ (if ((40 : Int) < szn p q) then q14 else (T0 ∧ (((q2 ≤ (2 : Int) * szn p q) ∧ ((2 : Int) * szn p q ≤ q1)) ∧ (T0 ∧ (((q2 ≤ (1 : Int) + (2 : Int) * szn p q) ∧ ((1 : Int) + (2 : Int) * szn p q ≤ q1)) ∧ (TS ∧ (t3 ((((0 : Int) ≤ (1 : Int) + (2 : Int) * szn p q) ∧ (((1 : Int) + (2 : Int) * szn p q ≤ (1 : Int) + (2 : Int) * szn p q) ∧ ((1 : Int) + (2 : Int) * szn p q ≤ (100000 : Int)))) ∧ (T0 ∧ (q16 ∧ (t3 ((q6 ∧ (q13 ∧ (Int.toNat q5 ≤ Int.toNat q5))) ∧ ((q11 ∧ (q15 ∧ q15)) ∧ (q0 ∧ (((Ok64 q8 fun x x_1 ↦ (0 : Int)) ∧ (@Eq Int (mkE q8 (fun x x_1 ↦ (0 : Int)) (1 : Int) p q) ((0 : Int)))) ∧ (∀ y0 : Nat, let q41 := (Int.toNat q5 ≤ y0); (q41 → (t2 (q17 ∧ (T0 ∧ (q16 ∧ (t3 ((q6 ∧ (q13 ∧ q41)) ∧ ((q11 ∧ (q15 ∧ (@Eq Nat (y0) (y0)))) ∧ (q0 ∧ (((Ok64 q8 q18) ∧ (@Eq Int (mkE q8 q18 ((1 : Int) + szn p q) p q) ((0 : Int)))) ∧ (∀ y1 : Nat, let q42 := (Int.toNat q5 ≤ y1); let q43 := (q6 ∧ (q13 ∧ q42)); let q44 := (q11 ∧ (q15 ∧ (@Eq Nat (y1) (y1)))); let q45 := (T0 ∧ (if ((1 : Int) < szn p q) then (T0 ∧ (q17 ∧ (t2 (q16 ∧ (t3 (q43 ∧ (q44 ∧ (q0 ∧ (q26 ∧ (∀ y3 : Nat, let q52 := (Int.toNat q5 ≤ y3); (q52 → (T0 ∧ (q17 ∧ (q16 ∧ (t2 ((q6 ∧ (q13 ∧ q52)) ∧ ((q11 ∧ (q15 ∧ (@Eq Nat (y3) (y3)))) ∧ q38))))))))))))))))) else q14)); let q46 := (Go.Rx.br q33 q10 q45); let q47 := (Go.Rx.br q33 q10 (T0 ∧ (if ((1 : Int) < szn p q) then (T0 ∧ (q17 ∧ (t2 (q16 ∧ (t3 (q43 ∧ (q44 ∧ (q0 ∧ (q26 ∧ (∀ y4 : Nat, let q57 := (Int.toNat q5 ≤ y4); (q57 → (T0 ∧ (q17 ∧ (q16 ∧ (t2 ((q6 ∧ (q13 ∧ q57)) ∧ ((q11 ∧ (q15 ∧ (@Eq Nat (y4) (y4)))) ∧ q38))))))))))))))))) else q14))); (q42 → (T0 ∧ (q16 ∧ (t2 (q43 ∧ (q44 ∧ (q0 ∧ ((q21 ∧ (@Eq Int (alE q8 q19 (1 : Int) (1 : Int)) ((0 : Int)))) ∧ (T0 ∧ (q17 ∧ (q16 ∧ (t2 (q43 ∧ (q44 ∧ (q0 ∧ ((q21 ∧ (@Eq Int (alE q8 q19 (1 : Int) ((1 : Int) + szn p q)) ((0 : Int)))) ∧ (t2 (Go.Rx.br q20 (Go.Rx.br q20 q22 (False)) (Go.Rx.br q20 q22 (Go.Rx.br q20 q10 (Go.Rx.br (!alB q19 (1 : Int) ((1 : Int) + szn p q)) q10 (t2 (if ((0 : Int) < p) then (t2 ((q7 ∧ ((0 : Int) < p)) ∧ (T0 ∧ (q17 ∧ (q16 ∧ (t3 (q43 ∧ (q44 ∧ (q0 ∧ ((q21 ∧ (@Eq Int (spE q8 q19 (1 : Int) (IntKind.wrap IntKind.i64 u % p) ((1 : Int) + szn p q)) ((0 : Int)))) ∧ (∀ y2 : Nat, let q53 := (Int.toNat q5 ≤ y2); (q53 → (T0 ∧ (q17 ∧ (q16 ∧ (t2 ((q6 ∧ (q13 ∧ q53)) ∧ ((q11 ∧ (q15 ∧ (@Eq Nat (y2) (y2)))) ∧ (q0 ∧ (((Ok64 q8 q23) ∧ (@Eq Int (alE q8 q23 (1 : Int) ((1 : Int) + szn p q)) ((0 : Int)))) ∧ (t2 (Go.Rx.br (!alB q23 (1 : Int) ((1 : Int) + szn p q)) q10 (t2 (if ((0 : Int) < q) then (t2 (q12 ∧ (q16 ∧ (t3 (q43 ∧ (q44 ∧ (q0 ∧ (q27 ∧ (∀ y3 : Nat, let q54 := (Int.toNat q5 ≤ y3); let q55 := (q6 ∧ (q13 ∧ q54)); let q56 := (q11 ∧ (q15 ∧ (@Eq Nat (y3) (y3)))); (q54 → (T0 ∧ (q17 ∧ (q16 ∧ (t2 (q55 ∧ (q56 ∧ (q0 ∧ (q34 ∧ (T0 ∧ (q17 ∧ (q16 ∧ (t2 (q55 ∧ (q56 ∧ (q0 ∧ (q35 ∧ (t4 (if (@Eq Int (v) ((0 : Int))) then (T0 ∧ (Go.Rx.br q28 q39 (Go.Rx.br q28 q36 (Go.Rx.br q28 q31 (T0 ∧ (Go.Rx.br q28 q10 q47)))))) else (T0 ∧ (Go.Rx.br q29 q40 (Go.Rx.br q29 q37 (Go.Rx.br q29 q32 (T0 ∧ (Go.Rx.br q29 q10 q47)))))))))))))))))))))))))))))))))) else q45)))))))))))))))))))))))) else (t2 (if ((0 : Int) < q) then (t2 (q12 ∧ (q16 ∧ (t3 (q43 ∧ (q44 ∧ (q0 ∧ (q27 ∧ (∀ y2 : Nat, let q49 := (Int.toNat q5 ≤ y2); let q50 := (q6 ∧ (q13 ∧ q49)); let q51 := (q11 ∧ (q15 ∧ (@Eq Nat (y2) (y2)))); (q49 → (T0 ∧ (q17 ∧ (q16 ∧ (t2 (q50 ∧ (q51 ∧ (q0 ∧ (q34 ∧ (T0 ∧ (q17 ∧ (q16 ∧ (t2 (q50 ∧ (q51 ∧ (q0 ∧ (q35 ∧ (t4 (if (@Eq Int (v) ((0 : Int))) then (T0 ∧ (Go.Rx.br q28 q39 (Go.Rx.br q28 q36 (Go.Rx.br q28 q31 (T0 ∧ (Go.Rx.br q28 q10 q46)))))) else (T0 ∧ (Go.Rx.br q29 q40 (Go.Rx.br q29 q37 (Go.Rx.br q29 q32 (T0 ∧ (Go.Rx.br q29 q10 q46)))))))))))))))))))))))))))))))))) else (T0 ∧ (if ((1 : Int) < szn p q) then (T0 ∧ (q17 ∧ (t2 (q16 ∧ (t3 (q43 ∧ (q44 ∧ (q0 ∧ (q26 ∧ (∀ y2 : Nat, let q48 := (Int.toNat q5 ≤ y2); (q48 → (T0 ∧ (q17 ∧ (q16 ∧ (t2 ((q6 ∧ (q13 ∧ q48)) ∧ ((q11 ∧ (q15 ∧ (@Eq Nat (y2) (y2)))) ∧ q38))))))))))))))))) else q14))))))))))))))))))))))))))))))))))))))))))))))))))))))) else q14)))))
theorem lalkPM_zE (p : Int) (q : Int) (v : Int) (u : Int) (K : Value → List Blk → Prop) : lalkPM_zV p q v u K = bodyX (mk X14) (callN (mk X14) 6) (lalkPM_zA p q v u) Try.f14 [.agg ⟨[.int .i64 p, .int .i64 q]⟩, .int .u64 v, .int .u8 u] (stOf []) fun v _ => v = .bool true := by kernel_rfl
set_option tactic.hygienic false in
theorem lalkPM_zP (p : Int) (q : Int) (v : Int) (u : Int) (K : Value → List Blk → Prop)  (hv : 0 ≤ v ∧ v ≤ 18446744073709551615) (hu : 0 ≤ u ∧ u ≤ 255) (hs : sze p q = 0) (h40 : szn p q ≤ 40) (hp : 0 < p) (hq1 : ¬ 0 < q) : lalkPM_zV p q v u K := by
  unfold lalkPM_zV
  conv => zeta
  have z0 := sze_cases p q
  have z1 := szn_cases p q
  have hw : IntKind.i64.wrap u = u := wrap_id ⟨by simp only [lo]; omega, by simp only [hi]; omega⟩
  have BB := al_base hs h40
  have B0 := BB.o0
  have B1 := BB.m0
  have B2 := BB.o1
  have B3 := BB.m1
  have B4 := BB.o2
  obtain ⟨⟨C1, C2, C3, C4, C5⟩, D1, D2⟩ := al_two hs BB
  obtain ⟨M1, M2, M3, M4, M5⟩ := al_mk hs BB
  have W1 := Int.emod_nonneg (IntKind.i64.wrap u) (show ¬ p = 0 by omega)
  obtain ⟨P1, P2, P3, P4⟩ := al_ptr (x := IntKind.i64.wrap u % p) hs BB W1 (Int.emod_lt_of_pos _ hp)
  clear BB
  simp only [F2a, F1a, Na] at B0 B1 B2 B3 B4 C1 C2 C3 C4 C5 D1 D2 M1 M2 M3 M4 M5 P1 P2 P3 P4
  simp only [show F0a = (fun _ _ => 0) from rfl] at B0 B1 B2 B3 B4 C1 C2 C3 C4 C5 D1 D2 M1 M2 M3 M4 M5 P1 P2 P3 P4

  repeat' (first | (with_reducible exact rfl) | (with_reducible exact trivial) | (with_reducible refine And.intro ?_ ?_) | (intro) | (with_reducible refine br_d (fun hq => ?_) (fun hq => ?_)) | (with_reducible refine br_nd (fun hq => ?_) (fun hq => ?_)) | (with_reducible refine br_intro (fun hq => ?_) (fun hq => ?_)) | (with_reducible refine if_both (fun hz => ?_) (fun hz => ?_)) | fail)

  all_goals first
    | (with_reducible assumption)
    | (refine (id ?_ : False)
       first
        | contradiction
        | (exfalso; have e := D1; simp_all; done)
        | (exfalso; simp [D1, D2, P4] at *; done)
        | (exfalso; have e := M4 (by omega); simp [e] at *; done)
        | (exfalso; have e := M5 (by omega); simp [e] at *; done)
        | (exfalso; omega)
       )
    | omega
    | contradiction
    | (exfalso; have e := D1; simp_all; done)
    | (exfalso; simp [D1, D2, P4] at *; done)
    | (exfalso; have e := M4 (by omega); simp [e] at *; done)
    | (exfalso; have e := M5 (by omega); simp [e] at *; done)
    | (exfalso; omega)
end Go.Proofs.Ytfgeoglegebncaa.Fr
namespace Go.Proofs.Ytfgeoglegebncaa.Fr
set_option maxRecDepth 100000
set_option maxHeartbeats 4000000
open Go.Rx
open Go.RowKit (Below)
set_option linter.unusedVariables false

def lalkNQ_zA (p : Int) (q : Int) (v : Int) (u : Int) : Ann := fun _ _ _ => none
def lalkNQ_zV (p : Int) (q : Int) (v : Int) (u : Int) (K : Value → List Blk → Prop) : Prop := let q0 := eB; let q1 := (9223372036854775807 : Int); let q2 := (-9223372036854775808 : Int); let q3 := (Int.toNat ((1 : Int) + p + q)); let q4 := (Int.toNat ((1 : Int) + szn p q)); let q5 := ((1 : Int) + (2 : Int) * szn p q); let q6 := (@Eq Nat ((0 : Nat)) ((0 : Nat))); let q7 := ((0 : Int) ≤ IntKind.wrap IntKind.i64 u); let q8 := (Int.toNat q5); let q9 := ((1 : Int) + (256 : Int) * p + (65536 : Int) * q); let q10 := (@Eq (Value) (Value.bool false) (Value.bool true)); let q11 := (@Eq (List IntKind) ([IntKind.u64]) ([IntKind.u64])); let q12 := (q7 ∧ ((0 : Int) < q)); let q13 := (Int.toNat q5 ≤ (100000 : Nat)); let q14 := ((@Eq (List Value) ([]) ([])) ∧ (@Eq (Value) (Value.bool true) (Value.bool true))); let q15 := (@Eq Nat q8 q8); let q16 := ((0 : Nat) + Int.toNat q5 ≤ Int.toNat q5); let q17 := ((q2 ≤ (1 : Int) + szn p q) ∧ ((1 : Int) + szn p q ≤ q1)); let q18 := (mkF (fun x x_1 ↦ (0 : Int)) (Int.toNat (1 : Int)) q3 q9); let q19 := (mkF q18 q4 q3 q9); let q20 := (!alB q19 (1 : Int) (1 : Int)); let q21 := (Ok64 q8 q19); let q22 := (Go.Rx.br q20 q10 (False)); let q23 := (setF q19 (Int.toNat ((1 : Int) + (1 : Int) + IntKind.wrap IntKind.i64 u % p)) ((1 : Int) + szn p q)); let q24 := (mkF q19 q4 (Int.toNat ((1 : Int) + q + p)) ((1 : Int) + (256 : Int) * q + (65536 : Int) * p)); let q25 := (setF q19 (Int.toNat ((1 : Int) + (1 : Int) + obP q8 q19 (1 : Int) + IntKind.wrap IntKind.i64 u % q)) v); let q26 := (q21 ∧ (@Eq Int (mkE q8 q19 ((1 : Int) + szn p q) q p) ((0 : Int)))); let q27 := (q21 ∧ (@Eq Int (rwE q8 q19 (1 : Int) (IntKind.wrap IntKind.i64 u % q)) ((0 : Int)))); let q28 := (!alB q25 (1 : Int) ((1 : Int) + szn p q) == true); let q29 := (!alB q25 (1 : Int) ((1 : Int) + szn p q) == false); let q30 := (Ok64 q8 q25); let q31 := (Go.Rx.br q28 q10 (False)); let q32 := (Go.Rx.br q29 q10 (False)); let q33 := (!alB q25 ((1 : Int) + szn p q) (1 : Int) == alB q25 (1 : Int) ((1 : Int) + szn p q)); let q34 := (q30 ∧ (@Eq Int (alE q8 q25 (1 : Int) ((1 : Int) + szn p q)) ((0 : Int)))); let q35 := (q30 ∧ (@Eq Int (alE q8 q25 ((1 : Int) + szn p q) (1 : Int)) ((0 : Int)))); let q36 := (Go.Rx.br q28 q31 (False)); let q37 := (Go.Rx.br q29 q32 (False)); let q38 := (q0 ∧ (((Ok64 q8 q24) ∧ (@Eq Int (alE q8 q24 (1 : Int) ((1 : Int) + szn p q)) ((0 : Int)))) ∧ (t5 (if (@Eq Int (p) (q)) then (T0 ∧ (Go.Rx.br (!alB q24 (1 : Int) ((1 : Int) + szn p q) == true) q10 q14)) else (T0 ∧ (Go.Rx.br (!alB q24 (1 : Int) ((1 : Int) + szn p q) == false) q10 q14)))))); let q39 := (Go.Rx.br q28 q36 q36); let q40 := (Go.Rx.br q29 q37 q37); (t4 (q0 ∧ ((True) ∧ (T0 ∧ (if (@Eq Int (sze p q) ((0 : Int))) then (T0 ∧ (if ((40 : Int) < szn p q) then q14 else (T0 ∧ (((q2 ≤ (2 : Int) * szn p q) ∧ ((2 : Int) * szn p q ≤ q1)) ∧ (T0 ∧ (((q2 ≤ (1 : Int) + (2 : Int) * szn p q) ∧ ((1 : Int) + (2 : Int) * szn p q ≤ q1)) ∧ (TS ∧ (t3 ((((0 : Int) ≤ (1 : Int) + (2 : Int) * szn p q) ∧ (((1 : Int) + (2 : Int) * szn p q ≤ (1 : Int) + (2 : Int) * szn p q) ∧ ((1 : Int) + (2 : Int) * szn p q ≤ (100000 : Int)))) ∧ (T0 ∧ (q16 ∧ (t3 ((q6 ∧ (q13 ∧ (Int.toNat q5 ≤ Int.toNat q5))) ∧ ((q11 ∧ (q15 ∧ q15)) ∧ (q0 ∧ (((Ok64 q8 fun x x_1 ↦ (0 : Int)) ∧ (@Eq Int (mkE q8 (fun x x_1 ↦ (0 : Int)) (1 : Int) p q) ((0 : Int)))) ∧ (∀ y0 : Nat, let q41 := (Int.toNat q5 ≤ y0); (q41 → (t2 (q17 ∧ (T0 ∧ (q16 ∧ (t3 ((q6 ∧ (q13 ∧ q41)) ∧ ((q11 ∧ (q15 ∧ (@Eq Nat (y0) (y0)))) ∧ (q0 ∧ (((Ok64 q8 q18) ∧ (@Eq Int (mkE q8 q18 ((1 : Int) + szn p q) p q) ((0 : Int)))) ∧ (∀ y1 : Nat, let q42 := (Int.toNat q5 ≤ y1); let q43 := (q6 ∧ (q13 ∧ q42)); let q44 := (q11 ∧ (q15 ∧ (@Eq Nat (y1) (y1)))); let q45 := (T0 ∧ (if ((1 : Int) < szn p q) then (T0 ∧ (q17 ∧ (t2 (q16 ∧ (t3 (q43 ∧ (q44 ∧ (q0 ∧ (q26 ∧ (∀ y3 : Nat, let q52 := (Int.toNat q5 ≤ y3); (q52 → (T0 ∧ (q17 ∧ (q16 ∧ (t2 ((q6 ∧ (q13 ∧ q52)) ∧ ((q11 ∧ (q15 ∧ (@Eq Nat (y3) (y3)))) ∧ q38))))))))))))))))) else q14)); let q46 := (Go.Rx.br q33 q10 q45); let q47 := (Go.Rx.br q33 q10 (T0 ∧ (if ((1 : Int) < szn p q) then (T0 ∧ (q17 ∧ (t2 (q16 ∧ (t3 (q43 ∧ (q44 ∧ (q0 ∧ (q26 ∧ (∀ y4 : Nat, let q57 := (Int.toNat q5 ≤ y4); (q57 → (T0 ∧ (q17 ∧ (q16 ∧ (t2 ((q6 ∧ (q13 ∧ q57)) ∧ ((q11 ∧ (q15 ∧ (@Eq Nat (y4) (y4)))) ∧ q38))))))))))))))))) else q14))); (q42 → (T0 ∧ (q16 ∧ (t2 (q43 ∧ (q44 ∧ (q0 ∧ ((q21 ∧ (@Eq Int (alE q8 q19 (1 : Int) (1 : Int)) ((0 : Int)))) ∧ (T0 ∧ (q17 ∧ (q16 ∧ (t2 (q43 ∧ (q44 ∧ (q0 ∧ ((q21 ∧ (@Eq Int (alE q8 q19 (1 : Int) ((1 : Int) + szn p q)) ((0 : Int)))) ∧ (t2 (Go.Rx.br q20 (Go.Rx.br q20 q22 (False)) (Go.Rx.br q20 q22 (Go.Rx.br q20 q10 (Go.Rx.br (!alB q19 (1 : Int) ((1 : Int) + szn p q)) q10 (t2 (if ((0 : Int) < p) then (t2 ((q7 ∧ ((0 : Int) < p)) ∧ (T0 ∧ (q17 ∧ (q16 ∧ (t3 (q43 ∧ (q44 ∧ (q0 ∧ ((q21 ∧ (@Eq Int (spE q8 q19 (1 : Int) (IntKind.wrap IntKind.i64 u % p) ((1 : Int) + szn p q)) ((0 : Int)))) ∧ (∀ y2 : Nat, let q53 := (Int.toNat q5 ≤ y2); (q53 → (T0 ∧ (q17 ∧ (q16 ∧ (t2 ((q6 ∧ (q13 ∧ q53)) ∧ ((q11 ∧ (q15 ∧ (@Eq Nat (y2) (y2)))) ∧ (q0 ∧ (((Ok64 q8 q23) ∧ (@Eq Int (alE q8 q23 (1 : Int) ((1 : Int) + szn p q)) ((0 : Int)))) ∧ (t2 (Go.Rx.br (!alB q23 (1 : Int) ((1 : Int) + szn p q)) q10 (t2 (if ((0 : Int) < q) then (t2 (q12 ∧ (q16 ∧ (t3 (q43 ∧ (q44 ∧ (q0 ∧ (q27 ∧ (∀ y3 : Nat, let q54 := (Int.toNat q5 ≤ y3); let q55 := (q6 ∧ (q13 ∧ q54)); let q56 := (q11 ∧ (q15 ∧ (@Eq Nat (y3) (y3)))); (q54 → (T0 ∧ (q17 ∧ (q16 ∧ (t2 (q55 ∧ (q56 ∧ (q0 ∧ (q34 ∧ (T0 ∧ (q17 ∧ (q16 ∧ (t2 (q55 ∧ (q56 ∧ (q0 ∧ (q35 ∧ (t4 (if (@Eq Int (v) ((0 : Int))) then (T0 ∧ (Go.Rx.br q28 q39 (Go.Rx.br q28 q36 (Go.Rx.br q28 q31 (T0 ∧ (Go.Rx.br q28 q10 q47)))))) else (T0 ∧ (Go.Rx.br q29 q40 (Go.Rx.br q29 q37 (Go.Rx.br q29 q32 (T0 ∧ (Go.Rx.br q29 q10 q47)))))))))))))))))))))))))))))))))) else q45)))))))))))))))))))))))) else (t2 (if ((0 : Int) < q) then (t2 (q12 ∧ (q16 ∧ (t3 (q43 ∧ (q44 ∧ (q0 ∧ (q27 ∧ (∀ y2 : Nat, let q49 := (Int.toNat q5 ≤ y2); let q50 := (q6 ∧ (q13 ∧ q49)); let q51 := (q11 ∧ (q15 ∧ (@Eq Nat (y2) (y2)))); (q49 → (T0 ∧ (q17 ∧ (q16 ∧ (t2 (q50 ∧ (q51 ∧ (q0 ∧ (q34 ∧ (T0 ∧ (q17 ∧ (q16 ∧ (t2 (q50 ∧ (q51 ∧ (q0 ∧ (q35 ∧ (t4 (if (@Eq Int (v) ((0 : Int))) then (T0 ∧ (Go.Rx.br q28 q39 (Go.Rx.br q28 q36 (Go.Rx.br q28 q31 (T0 ∧ (Go.Rx.br q28 q10 q46)))))) else (T0 ∧ (Go.Rx.br q29 q40 (Go.Rx.br q29 q37 (Go.Rx.br q29 q32 (T0 ∧ (Go.Rx.br q29 q10 q46)))))))))))))))))))))))))))))))))) else (T0 ∧ (if ((1 : Int) < szn p q) then (T0 ∧ (q17 ∧ (t2 (q16 ∧ (t3 (q43 ∧ (q44 ∧ (q0 ∧ (q26 ∧ (∀ y2 : Nat, let q48 := (Int.toNat q5 ≤ y2); (q48 → (T0 ∧ (q17 ∧ (q16 ∧ (t2 ((q6 ∧ (q13 ∧ q48)) ∧ ((q11 ∧ (q15 ∧ (@Eq Nat (y2) (y2)))) ∧ q38))))))))))))))))) else q14))))))))))))))))))))))))))))))))))))))))))))))))))))))) else q14)))))
theorem lalkNQ_zE (p : Int) (q : Int) (v : Int) (u : Int) (K : Value → List Blk → Prop) : lalkNQ_zV p q v u K = bodyX (mk X14) (callN (mk X14) 6) (lalkNQ_zA p q v u) Try.f14 [.agg ⟨[.int .i64 p, .int .i64 q]⟩, .int .u64 v, .int .u8 u] (stOf []) fun v _ => v = .bool true := by kernel_rfl
set_option tactic.hygienic false in
theorem lalkNQ_zP (p : Int) (q : Int) (v : Int) (u : Int) (K : Value → List Blk → Prop)  (hv : 0 ≤ v ∧ v ≤ 18446744073709551615) (hu : 0 ≤ u ∧ u ≤ 255) (hs : sze p q = 0) (h40 : szn p q ≤ 40) (hp : ¬ 0 < p) (hq1 : 0 < q) : lalkNQ_zV p q v u K := by
  unfold lalkNQ_zV
  conv => zeta
  have z0 := sze_cases p q
  have z1 := szn_cases p q
  have hw : IntKind.i64.wrap u = u := wrap_id ⟨by simp only [lo]; omega, by simp only [hi]; omega⟩
  have BB := al_base hs h40
  have B0 := BB.o0
  have B1 := BB.m0
  have B2 := BB.o1
  have B3 := BB.m1
  have B4 := BB.o2
  obtain ⟨⟨C1, C2, C3, C4, C5⟩, D1, D2⟩ := al_two hs BB
  obtain ⟨M1, M2, M3, M4, M5⟩ := al_mk hs BB
  have W2 := Int.emod_nonneg (IntKind.i64.wrap u) (show ¬ q = 0 by omega)
  obtain ⟨R1, R2, ⟨R3, R4⟩, R5, R6⟩ := al_raw (x := IntKind.i64.wrap u % q) (v := v) hs BB W2 (Int.emod_lt_of_pos _ hq1) hv
  clear BB
  simp only [F2a, F1a, Na] at B0 B1 B2 B3 B4 C1 C2 C3 C4 C5 D1 D2 M1 M2 M3 M4 M5 R1 R2 R3 R4 R5 R6
  simp only [show F0a = (fun _ _ => 0) from rfl] at B0 B1 B2 B3 B4 C1 C2 C3 C4 C5 D1 D2 M1 M2 M3 M4 M5 R1 R2 R3 R4 R5 R6

  repeat' (first | (with_reducible exact rfl) | (with_reducible exact trivial) | (with_reducible refine And.intro ?_ ?_) | (intro) | (with_reducible refine br_d (fun hq => ?_) (fun hq => ?_)) | (with_reducible refine br_nd (fun hq => ?_) (fun hq => ?_)) | (with_reducible refine br_intro (fun hq => ?_) (fun hq => ?_)) | (with_reducible refine if_both (fun hz => ?_) (fun hz => ?_)) | fail)

  all_goals first
    | (with_reducible assumption)
    | (refine (id ?_ : False)
       first
        | contradiction
        | (exfalso; have e := D1; simp_all; done)
        | (exfalso; simp [D1, D2] at *; done)
        | (exfalso; have e := M4 (by omega); simp [e] at *; done)
        | (exfalso; have e := M5 (by omega); simp [e] at *; done)
        | (exfalso; have e := R5 (by assumption); simp [e.1, e.2] at *; done)
        | (exfalso; have e := R6 (by assumption); simp [e.1, e.2] at *; done)
        | (exfalso; omega)
       )
    | omega
    | contradiction
    | (exfalso; have e := D1; simp_all; done)
    | (exfalso; simp [D1, D2] at *; done)
    | (exfalso; have e := M4 (by omega); simp [e] at *; done)
    | (exfalso; have e := M5 (by omega); simp [e] at *; done)
    | (exfalso; have e := R5 (by assumption); simp [e.1, e.2] at *; done)
    | (exfalso; have e := R6 (by assumption); simp [e.1, e.2] at *; done)
    | (exfalso; omega)
end Go.Proofs.Ytfgeoglegebncaa.Fr
namespace Go.Proofs.Ytfgeoglegebncaa.Fr
set_option maxRecDepth 100000
set_option maxHeartbeats 4000000
open Go.Rx
open Go.RowKit (Below)
set_option linter.unusedVariables false

def lalkNM_zA (p : Int) (q : Int) (v : Int) (u : Int) : Ann := fun _ _ _ => none
def lalkNM_zV (p : Int) (q : Int) (v : Int) (u : Int) (K : Value → List Blk → Prop) : Prop := let q0 := eB; let q1 := (9223372036854775807 : Int); let q2 := (-9223372036854775808 : Int); let q3 := (Int.toNat ((1 : Int) + p + q)); let q4 := (Int.toNat ((1 : Int) + szn p q)); let q5 := ((1 : Int) + (2 : Int) * szn p q); let q6 := (@Eq Nat ((0 : Nat)) ((0 : Nat))); let q7 := ((0 : Int) ≤ IntKind.wrap IntKind.i64 u); let q8 := (Int.toNat q5); let q9 := ((1 : Int) + (256 : Int) * p + (65536 : Int) * q); let q10 := (@Eq (Value) (Value.bool false) (Value.bool true)); let q11 := (@Eq (List IntKind) ([IntKind.u64]) ([IntKind.u64])); let q12 := (q7 ∧ ((0 : Int) < q)); let q13 := (Int.toNat q5 ≤ (100000 : Nat)); let q14 := ((@Eq (List Value) ([]) ([])) ∧ (@Eq (Value) (Value.bool true) (Value.bool true))); let q15 := (@Eq Nat q8 q8); let q16 := ((0 : Nat) + Int.toNat q5 ≤ Int.toNat q5); let q17 := ((q2 ≤ (1 : Int) + szn p q) ∧ ((1 : Int) + szn p q ≤ q1)); let q18 := (mkF (fun x x_1 ↦ (0 : Int)) (Int.toNat (1 : Int)) q3 q9); let q19 := (mkF q18 q4 q3 q9); let q20 := (!alB q19 (1 : Int) (1 : Int)); let q21 := (Ok64 q8 q19); let q22 := (Go.Rx.br q20 q10 (False)); let q23 := (setF q19 (Int.toNat ((1 : Int) + (1 : Int) + IntKind.wrap IntKind.i64 u % p)) ((1 : Int) + szn p q)); let q24 := (mkF q19 q4 (Int.toNat ((1 : Int) + q + p)) ((1 : Int) + (256 : Int) * q + (65536 : Int) * p)); let q25 := (setF q19 (Int.toNat ((1 : Int) + (1 : Int) + obP q8 q19 (1 : Int) + IntKind.wrap IntKind.i64 u % q)) v); let q26 := (q21 ∧ (@Eq Int (mkE q8 q19 ((1 : Int) + szn p q) q p) ((0 : Int)))); let q27 := (q21 ∧ (@Eq Int (rwE q8 q19 (1 : Int) (IntKind.wrap IntKind.i64 u % q)) ((0 : Int)))); let q28 := (!alB q25 (1 : Int) ((1 : Int) + szn p q) == true); let q29 := (!alB q25 (1 : Int) ((1 : Int) + szn p q) == false); let q30 := (Ok64 q8 q25); let q31 := (Go.Rx.br q28 q10 (False)); let q32 := (Go.Rx.br q29 q10 (False)); let q33 := (!alB q25 ((1 : Int) + szn p q) (1 : Int) == alB q25 (1 : Int) ((1 : Int) + szn p q)); let q34 := (q30 ∧ (@Eq Int (alE q8 q25 (1 : Int) ((1 : Int) + szn p q)) ((0 : Int)))); let q35 := (q30 ∧ (@Eq Int (alE q8 q25 ((1 : Int) + szn p q) (1 : Int)) ((0 : Int)))); let q36 := (Go.Rx.br q28 q31 (False)); let q37 := (Go.Rx.br q29 q32 (False)); let q38 := (q0 ∧ (((Ok64 q8 q24) ∧ (@Eq Int (alE q8 q24 (1 : Int) ((1 : Int) + szn p q)) ((0 : Int)))) ∧ (t5 (if (@Eq Int (p) (q)) then (T0 ∧ (Go.Rx.br (!alB q24 (1 : Int) ((1 : Int) + szn p q) == true) q10 q14)) else (T0 ∧ (Go.Rx.br (!alB q24 (1 : Int) ((1 : Int) + szn p q) == false) q10 q14)))))); let q39 := (Go.Rx.br q28 q36 q36); let q40 := (Go.Rx.br q29 q37 q37); (t4 (q0 ∧ ((True) ∧ (T0 ∧ (if (@Eq Int (sze p q) ((0 : Int))) then (T0 ∧ (if ((40 : Int) < szn p q) then q14 else (T0 ∧ (((q2 ≤ (2 : Int) * szn p q) ∧ ((2 : Int) * szn p q ≤ q1)) ∧ (T0 ∧ (((q2 ≤ (1 : Int) + (2 : Int) * szn p q) ∧ ((1 : Int) + (2 : Int) * szn p q ≤ q1)) ∧ (TS ∧ (t3 ((((0 : Int) ≤ (1 : Int) + (2 : Int) * szn p q) ∧ (((1 : Int) + (2 : Int) * szn p q ≤ (1 : Int) + (2 : Int) * szn p q) ∧ ((1 : Int) + (2 : Int) * szn p q ≤ (100000 : Int)))) ∧ (T0 ∧ (q16 ∧ (t3 ((q6 ∧ (q13 ∧ (Int.toNat q5 ≤ Int.toNat q5))) ∧ ((q11 ∧ (q15 ∧ q15)) ∧ (q0 ∧ (((Ok64 q8 fun x x_1 ↦ (0 : Int)) ∧ (@Eq Int (mkE q8 (fun x x_1 ↦ (0 : Int)) (1 : Int) p q) ((0 : Int)))) ∧ (∀ y0 : Nat, let q41 := (Int.toNat q5 ≤ y0); (q41 → (t2 (q17 ∧ (T0 ∧ (q16 ∧ (t3 ((q6 ∧ (q13 ∧ q41)) ∧ ((q11 ∧ (q15 ∧ (@Eq Nat (y0) (y0)))) ∧ (q0 ∧ (((Ok64 q8 q18) ∧ (@Eq Int (mkE q8 q18 ((1 : Int) + szn p q) p q) ((0 : Int)))) ∧ (∀ y1 : Nat, let q42 := (Int.toNat q5 ≤ y1); let q43 := (q6 ∧ (q13 ∧ q42)); let q44 := (q11 ∧ (q15 ∧ (@Eq Nat (y1) (y1)))); let q45 := (T0 ∧ (if ((1 : Int) < szn p q) then (T0 ∧ (q17 ∧ (t2 (q16 ∧ (t3 (q43 ∧ (q44 ∧ (q0 ∧ (q26 ∧ (∀ y3 : Nat, let q52 := (Int.toNat q5 ≤ y3); (q52 → (T0 ∧ (q17 ∧ (q16 ∧ (t2 ((q6 ∧ (q13 ∧ q52)) ∧ ((q11 ∧ (q15 ∧ (@Eq Nat (y3) (y3)))) ∧ q38))))))))))))))))) else q14)); let q46 := (Go.Rx.br q33 q10 q45); let q47 := (Go.Rx.br q33 q10 (T0 ∧ (if ((1 : Int) < szn p q) then (T0 ∧ (q17 ∧ (t2 (q16 ∧ (t3 (q43 ∧ (q44 ∧ (q0 ∧ (q26 ∧ (∀ y4 : Nat, let q57 := (Int.toNat q5 ≤ y4); (q57 → (T0 ∧ (q17 ∧ (q16 ∧ (t2 ((q6 ∧ (q13 ∧ q57)) ∧ ((q11 ∧ (q15 ∧ (@Eq Nat (y4) (y4)))) ∧ q38))))))))))))))))) else q14))); (q42 → (T0 ∧ (q16 ∧ (t2 (q43 ∧ (q44 ∧ (q0 ∧ ((q21 ∧ (@Eq Int (alE q8 q19 (1 : Int) (1 : Int)) ((0 : Int)))) ∧ (T0 ∧ (q17 ∧ (q16 ∧ (t2 (q43 ∧ (q44 ∧ (q0 ∧ ((q21 ∧ (@Eq Int (alE q8 q19 (1 : Int) ((1 : Int) + szn p q)) ((0 : Int)))) ∧ (t2 (Go.Rx.br q20 (Go.Rx.br q20 q22 (False)) (Go.Rx.br q20 q22 (Go.Rx.br q20 q10 (Go.Rx.br (!alB q19 (1 : Int) ((1 : Int) + szn p q)) q10 (t2 (if ((0 : Int) < p) then (t2 ((q7 ∧ ((0 : Int) < p)) ∧ (T0 ∧ (q17 ∧ (q16 ∧ (t3 (q43 ∧ (q44 ∧ (q0 ∧ ((q21 ∧ (@Eq Int (spE q8 q19 (1 : Int) (IntKind.wrap IntKind.i64 u % p) ((1 : Int) + szn p q)) ((0 : Int)))) ∧ (∀ y2 : Nat, let q53 := (Int.toNat q5 ≤ y2); (q53 → (T0 ∧ (q17 ∧ (q16 ∧ (t2 ((q6 ∧ (q13 ∧ q53)) ∧ ((q11 ∧ (q15 ∧ (@Eq Nat (y2) (y2)))) ∧ (q0 ∧ (((Ok64 q8 q23) ∧ (@Eq Int (alE q8 q23 (1 : Int) ((1 : Int) + szn p q)) ((0 : Int)))) ∧ (t2 (Go.Rx.br (!alB q23 (1 : Int) ((1 : Int) + szn p q)) q10 (t2 (if ((0 : Int) < q) then (t2 (q12 ∧ (q16 ∧ (t3 (q43 ∧ (q44 ∧ (q0 ∧ (q27 ∧ (∀ y3 : Nat, let q54 := (Int.toNat q5 ≤ y3); let q55 := (q6 ∧ (q13 ∧ q54)); let q56 := (q11 ∧ (q15 ∧ (@Eq Nat (y3) (y3)))); (q54 → (T0 ∧ (q17 ∧ (q16 ∧ (t2 (q55 ∧ (q56 ∧ (q0 ∧ (q34 ∧ (T0 ∧ (q17 ∧ (q16 ∧ (t2 (q55 ∧ (q56 ∧ (q0 ∧ (q35 ∧ (t4 (if (@Eq Int (v) ((0 : Int))) then (T0 ∧ (Go.Rx.br q28 q39 (Go.Rx.br q28 q36 (Go.Rx.br q28 q31 (T0 ∧ (Go.Rx.br q28 q10 q47)))))) else (T0 ∧ (Go.Rx.br q29 q40 (Go.Rx.br q29 q37 (Go.Rx.br q29 q32 (T0 ∧ (Go.Rx.br q29 q10 q47)))))))))))))))))))))))))))))))))) else q45)))))))))))))))))))))))) else (t2 (if ((0 : Int) < q) then (t2 (q12 ∧ (q16 ∧ (t3 (q43 ∧ (q44 ∧ (q0 ∧ (q27 ∧ (∀ y2 : Nat, let q49 := (Int.toNat q5 ≤ y2); let q50 := (q6 ∧ (q13 ∧ q49)); let q51 := (q11 ∧ (q15 ∧ (@Eq Nat (y2) (y2)))); (q49 → (T0 ∧ (q17 ∧ (q16 ∧ (t2 (q50 ∧ (q51 ∧ (q0 ∧ (q34 ∧ (T0 ∧ (q17 ∧ (q16 ∧ (t2 (q50 ∧ (q51 ∧ (q0 ∧ (q35 ∧ (t4 (if (@Eq Int (v) ((0 : Int))) then (T0 ∧ (Go.Rx.br q28 q39 (Go.Rx.br q28 q36 (Go.Rx.br q28 q31 (T0 ∧ (Go.Rx.br q28 q10 q46)))))) else (T0 ∧ (Go.Rx.br q29 q40 (Go.Rx.br q29 q37 (Go.Rx.br q29 q32 (T0 ∧ (Go.Rx.br q29 q10 q46)))))))))))))))))))))))))))))))))) else (T0 ∧ (if ((1 : Int) < szn p q) then (T0 ∧ (q17 ∧ (t2 (q16 ∧ (t3 (q43 ∧ (q44 ∧ (q0 ∧ (q26 ∧ (∀ y2 : Nat, let q48 := (Int.toNat q5 ≤ y2); (q48 → (T0 ∧ (q17 ∧ (q16 ∧ (t2 ((q6 ∧ (q13 ∧ q48)) ∧ ((q11 ∧ (q15 ∧ (@Eq Nat (y2) (y2)))) ∧ q38))))))))))))))))) else q14))))))))))))))))))))))))))))))))))))))))))))))))))))))) else q14)))))
theorem lalkNM_zE (p : Int) (q : Int) (v : Int) (u : Int) (K : Value → List Blk → Prop) : lalkNM_zV p q v u K = bodyX (mk X14) (callN (mk X14) 6) (lalkNM_zA p q v u) Try.f14 [.agg ⟨[.int .i64 p, .int .i64 q]⟩, .int .u64 v, .int .u8 u] (stOf []) fun v _ => v = .bool true := by kernel_rfl
set_option tactic.hygienic false in
theorem lalkNM_zP (p : Int) (q : Int) (v : Int) (u : Int) (K : Value → List Blk → Prop)  (hv : 0 ≤ v ∧ v ≤ 18446744073709551615) (hu : 0 ≤ u ∧ u ≤ 255) (hs : sze p q = 0) (h40 : szn p q ≤ 40) (hp : ¬ 0 < p) (hq1 : ¬ 0 < q) : lalkNM_zV p q v u K := by
  unfold lalkNM_zV
  conv => zeta
  have z0 := sze_cases p q
  have z1 := szn_cases p q
  have hw : IntKind.i64.wrap u = u := wrap_id ⟨by simp only [lo]; omega, by simp only [hi]; omega⟩
  have BB := al_base hs h40
  have B0 := BB.o0
  have B1 := BB.m0
  have B2 := BB.o1
  have B3 := BB.m1
  have B4 := BB.o2
  obtain ⟨⟨C1, C2, C3, C4, C5⟩, D1, D2⟩ := al_two hs BB
  obtain ⟨M1, M2, M3, M4, M5⟩ := al_mk hs BB
  clear BB
  simp only [F2a, F1a, Na] at B0 B1 B2 B3 B4 C1 C2 C3 C4 C5 D1 D2 M1 M2 M3 M4 M5
  simp only [show F0a = (fun _ _ => 0) from rfl] at B0 B1 B2 B3 B4 C1 C2 C3 C4 C5 D1 D2 M1 M2 M3 M4 M5

  repeat' (first | (with_reducible exact rfl) | (with_reducible exact trivial) | (with_reducible refine And.intro ?_ ?_) | (intro) | (with_reducible refine br_d (fun hq => ?_) (fun hq => ?_)) | (with_reducible refine br_nd (fun hq => ?_) (fun hq => ?_)) | (with_reducible refine br_intro (fun hq => ?_) (fun hq => ?_)) | (with_reducible refine if_both (fun hz => ?_) (fun hz => ?_)) | fail)

  all_goals first
    | (with_reducible assumption)
    | (refine (id ?_ : False)
       first
        | contradiction
        | (exfalso; have e := D1; simp_all; done)
        | (exfalso; simp [D1, D2] at *; done)
        | (exfalso; have e := M4 (by omega); simp [e] at *; done)
        | (exfalso; have e := M5 (by omega); simp [e] at *; done)
        | (exfalso; omega)
       )
    | omega
    | contradiction
    | (exfalso; have e := D1; simp_all; done)
    | (exfalso; simp [D1, D2] at *; done)
    | (exfalso; have e := M4 (by omega); simp [e] at *; done)
    | (exfalso; have e := M5 (by omega); simp [e] at *; done)
    | (exfalso; omega)
end Go.Proofs.Ytfgeoglegebncaa.Fr
