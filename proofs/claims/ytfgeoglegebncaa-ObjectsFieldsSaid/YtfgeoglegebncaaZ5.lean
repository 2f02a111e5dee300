/-
  The program's tables, as the calculus takes them. No project text.
-/
import Derived.Test.YtfgeoglegebncaaZ4
import Derived.Test.YtfgeoglegebncaaChecked
namespace Go.Proofs.Ytfgeoglegebncaa.Fr
set_option maxRecDepth 100000
set_option maxHeartbeats 4000000
open Go.Rx
abbrev T0 : Prop := true = true
abbrev t2 (p : Prop) : Prop := T0 ∧ T0 ∧ p
abbrev t3 (p : Prop) : Prop := T0 ∧ T0 ∧ T0 ∧ p
abbrev t4 (p : Prop) : Prop := T0 ∧ T0 ∧ T0 ∧ T0 ∧ p
abbrev t5 (p : Prop) : Prop := T0 ∧ T0 ∧ T0 ∧ T0 ∧ T0 ∧ p
abbrev t6 (p : Prop) : Prop := T0 ∧ T0 ∧ T0 ∧ T0 ∧ T0 ∧ T0 ∧ p
abbrev t7 (p : Prop) : Prop := T0 ∧ T0 ∧ T0 ∧ T0 ∧ T0 ∧ T0 ∧ T0 ∧ p
abbrev t8 (p : Prop) : Prop := T0 ∧ T0 ∧ T0 ∧ T0 ∧ T0 ∧ T0 ∧ T0 ∧ T0 ∧ p
abbrev t9 (p : Prop) : Prop := T0 ∧ T0 ∧ T0 ∧ T0 ∧ T0 ∧ T0 ∧ T0 ∧ T0 ∧ T0 ∧ p
abbrev TS : Prop := @Eq Ev.TK Ev.TK.slice Ev.TK.slice
abbrev vi (z : Int) : Value := .int .i64 z
abbrev vn : Value := .slice none 0 0
abbrev eN (n : Nat) : Prop := n = n
abbrev k2 : List IntKind := [.i64, .i64]
abbrev eK : Prop := k2 = k2
abbrev eB : Prop := @Eq (List Blk) [] []
abbrev rF (e n c : Nat) (f : Nat → Nat → Int) : Blk := .row false [.i64, .i64] e n c f
abbrev rT (e n c : Nat) (f : Nat → Nat → Int) : Blk := .row true [.i64, .i64] e n c f
abbrev Fd (m : Nat) (K : Value → List Blk → Prop) : KV := fun v s' => ∃ v1 news, Rx.Found m v s' v1 news ∧ K v1 news
open Go.Rx
open Go.RowKit (Below)
set_option linter.unusedVariables false
def T : List (Nat × Ev.TI) := [
  (3, { size := (1 : Nat), bytes := (8 : Nat), agg := false, zero := some [Value.int IntKind.i64 (0 : Int)], zval := some (Value.int IntKind.i64 (0 : Int)), kind := Ev.TK.int IntKind.i64, fields := [], len := (0 : Nat), elem := (0 : Nat), eagg := false, esize := (1 : Nat), kk := Ev.TK.other }),
  (4, { size := (1 : Nat), bytes := (1 : Nat), agg := false, zero := some [Value.bool false], zval := some (Value.bool false), kind := Ev.TK.other, fields := [], len := (0 : Nat), elem := (0 : Nat), eagg := false, esize := (1 : Nat), kk := Ev.TK.other }),
  (5, { size := (1 : Nat), bytes := (1 : Nat), agg := false, zero := some [Value.int IntKind.u8 (0 : Int)], zval := some (Value.int IntKind.u8 (0 : Int)), kind := Ev.TK.int IntKind.u8, fields := [], len := (0 : Nat), elem := (0 : Nat), eagg := false, esize := (1 : Nat), kk := Ev.TK.other }),
  (22, { size := (5 : Nat), bytes := (40 : Nat), agg := true, zero := some [Value.int IntKind.i64 (0 : Int), Value.int IntKind.i64 (0 : Int), Value.int IntKind.i64 (0 : Int), Value.int IntKind.i64 (0 : Int), Value.int IntKind.i64 (0 : Int)], zval := some (Value.agg { toList := [Value.int IntKind.i64 (0 : Int), Value.int IntKind.i64 (0 : Int), Value.int IntKind.i64 (0 : Int), Value.int IntKind.i64 (0 : Int), Value.int IntKind.i64 (0 : Int)] }), kind := Ev.TK.struct, fields := [((0 : Nat), false, (1 : Nat)), ((1 : Nat), false, (1 : Nat)), ((2 : Nat), false, (1 : Nat)), ((3 : Nat), false, (1 : Nat)), ((4 : Nat), false, (1 : Nat))], len := (0 : Nat), elem := (0 : Nat), eagg := false, esize := (1 : Nat), kk := Ev.TK.other }),
  (23, { size := (5 : Nat), bytes := (40 : Nat), agg := true, zero := some [Value.int IntKind.i64 (0 : Int), Value.int IntKind.i64 (0 : Int), Value.int IntKind.i64 (0 : Int), Value.int IntKind.i64 (0 : Int), Value.int IntKind.i64 (0 : Int)], zval := some (Value.agg { toList := [Value.int IntKind.i64 (0 : Int), Value.int IntKind.i64 (0 : Int), Value.int IntKind.i64 (0 : Int), Value.int IntKind.i64 (0 : Int), Value.int IntKind.i64 (0 : Int)] }), kind := Ev.TK.struct, fields := [((0 : Nat), false, (1 : Nat)), ((1 : Nat), false, (1 : Nat)), ((2 : Nat), false, (1 : Nat)), ((3 : Nat), false, (1 : Nat)), ((4 : Nat), false, (1 : Nat))], len := (0 : Nat), elem := (0 : Nat), eagg := false, esize := (1 : Nat), kk := Ev.TK.other }),
  (24, { size := (1 : Nat), bytes := (24 : Nat), agg := false, zero := some [Value.slice none (0 : Nat) (0 : Nat)], zval := some (Value.slice none (0 : Nat) (0 : Nat)), kind := Ev.TK.slice, fields := [], len := (0 : Nat), elem := (25 : Nat), eagg := false, esize := (1 : Nat), kk := Ev.TK.other }),
  (25, { size := (1 : Nat), bytes := (8 : Nat), agg := false, zero := some [Value.int IntKind.u64 (0 : Int)], zval := some (Value.int IntKind.u64 (0 : Int)), kind := Ev.TK.int IntKind.u64, fields := [], len := (0 : Nat), elem := (0 : Nat), eagg := false, esize := (1 : Nat), kk := Ev.TK.other }),
  (26, { size := (2 : Nat), bytes := (16 : Nat), agg := true, zero := some [Value.int IntKind.i64 (0 : Int), Value.int IntKind.u64 (0 : Int)], zval := some (Value.agg { toList := [Value.int IntKind.i64 (0 : Int), Value.int IntKind.u64 (0 : Int)] }), kind := Ev.TK.struct, fields := [((0 : Nat), false, (1 : Nat)), ((1 : Nat), false, (1 : Nat))], len := (0 : Nat), elem := (0 : Nat), eagg := false, esize := (1 : Nat), kk := Ev.TK.other }),
  (27, { size := (2 : Nat), bytes := (16 : Nat), agg := true, zero := some [Value.int IntKind.i64 (0 : Int), Value.int IntKind.u64 (0 : Int)], zval := some (Value.agg { toList := [Value.int IntKind.i64 (0 : Int), Value.int IntKind.u64 (0 : Int)] }), kind := Ev.TK.struct, fields := [((0 : Nat), false, (1 : Nat)), ((1 : Nat), false, (1 : Nat))], len := (0 : Nat), elem := (0 : Nat), eagg := false, esize := (1 : Nat), kk := Ev.TK.other }),
  (29, { size := (1 : Nat), bytes := (8 : Nat), agg := false, zero := some [Value.int IntKind.i64 (0 : Int)], zval := some (Value.int IntKind.i64 (0 : Int)), kind := Ev.TK.int IntKind.i64, fields := [], len := (0 : Nat), elem := (0 : Nat), eagg := false, esize := (1 : Nat), kk := Ev.TK.other }),
  (38, { size := (3 : Nat), bytes := (24 : Nat), agg := true, zero := some [Value.int IntKind.i64 (0 : Int), Value.int IntKind.i64 (0 : Int), Value.int IntKind.i64 (0 : Int)], zval := some (Value.agg { toList := [Value.int IntKind.i64 (0 : Int), Value.int IntKind.i64 (0 : Int), Value.int IntKind.i64 (0 : Int)] }), kind := Ev.TK.array, fields := [], len := (3 : Nat), elem := (3 : Nat), eagg := false, esize := (1 : Nat), kk := Ev.TK.other }),
  (43, { size := (1 : Nat), bytes := (24 : Nat), agg := false, zero := some [Value.slice none (0 : Nat) (0 : Nat)], zval := some (Value.slice none (0 : Nat) (0 : Nat)), kind := Ev.TK.slice, fields := [], len := (0 : Nat), elem := (3 : Nat), eagg := false, esize := (1 : Nat), kk := Ev.TK.other }),
  (48, { size := (1 : Nat), bytes := (24 : Nat), agg := false, zero := some [Value.slice none (0 : Nat) (0 : Nat)], zval := some (Value.slice none (0 : Nat) (0 : Nat)), kind := Ev.TK.slice, fields := [], len := (0 : Nat), elem := (56 : Nat), eagg := true, esize := (5 : Nat), kk := Ev.TK.other }),
  (49, { size := (2 : Nat), bytes := (16 : Nat), agg := true, zero := some [Value.int IntKind.i64 (0 : Int), Value.int IntKind.i64 (0 : Int)], zval := some (Value.agg { toList := [Value.int IntKind.i64 (0 : Int), Value.int IntKind.i64 (0 : Int)] }), kind := Ev.TK.struct, fields := [((0 : Nat), false, (1 : Nat)), ((1 : Nat), false, (1 : Nat))], len := (0 : Nat), elem := (0 : Nat), eagg := false, esize := (1 : Nat), kk := Ev.TK.other }),
  (50, { size := (2 : Nat), bytes := (16 : Nat), agg := true, zero := some [Value.int IntKind.i64 (0 : Int), Value.int IntKind.i64 (0 : Int)], zval := some (Value.agg { toList := [Value.int IntKind.i64 (0 : Int), Value.int IntKind.i64 (0 : Int)] }), kind := Ev.TK.struct, fields := [((0 : Nat), false, (1 : Nat)), ((1 : Nat), false, (1 : Nat))], len := (0 : Nat), elem := (0 : Nat), eagg := false, esize := (1 : Nat), kk := Ev.TK.other }),
  (55, { size := (5 : Nat), bytes := (40 : Nat), agg := true, zero := some [Value.int IntKind.i64 (0 : Int), Value.int IntKind.i64 (0 : Int), Value.int IntKind.i64 (0 : Int), Value.int IntKind.i64 (0 : Int), Value.int IntKind.u64 (0 : Int)], zval := some (Value.agg { toList := [Value.int IntKind.i64 (0 : Int), Value.int IntKind.i64 (0 : Int), Value.int IntKind.i64 (0 : Int), Value.int IntKind.i64 (0 : Int), Value.int IntKind.u64 (0 : Int)] }), kind := Ev.TK.struct, fields := [((0 : Nat), false, (1 : Nat)), ((1 : Nat), false, (1 : Nat)), ((2 : Nat), false, (1 : Nat)), ((3 : Nat), false, (1 : Nat)), ((4 : Nat), false, (1 : Nat))], len := (0 : Nat), elem := (0 : Nat), eagg := false, esize := (1 : Nat), kk := Ev.TK.other }),
  (56, { size := (5 : Nat), bytes := (40 : Nat), agg := true, zero := some [Value.int IntKind.i64 (0 : Int), Value.int IntKind.i64 (0 : Int), Value.int IntKind.i64 (0 : Int), Value.int IntKind.i64 (0 : Int), Value.int IntKind.u64 (0 : Int)], zval := some (Value.agg { toList := [Value.int IntKind.i64 (0 : Int), Value.int IntKind.i64 (0 : Int), Value.int IntKind.i64 (0 : Int), Value.int IntKind.i64 (0 : Int), Value.int IntKind.u64 (0 : Int)] }), kind := Ev.TK.struct, fields := [((0 : Nat), false, (1 : Nat)), ((1 : Nat), false, (1 : Nat)), ((2 : Nat), false, (1 : Nat)), ((3 : Nat), false, (1 : Nat)), ((4 : Nat), false, (1 : Nat))], len := (0 : Nat), elem := (0 : Nat), eagg := false, esize := (1 : Nat), kk := Ev.TK.other }),
  (59, { size := (2 : Nat), bytes := (16 : Nat), agg := true, zero := some [Value.int IntKind.i64 (0 : Int), Value.int IntKind.i64 (0 : Int)], zval := some (Value.agg { toList := [Value.int IntKind.i64 (0 : Int), Value.int IntKind.i64 (0 : Int)] }), kind := Ev.TK.struct, fields := [((0 : Nat), false, (1 : Nat)), ((1 : Nat), false, (1 : Nat))], len := (0 : Nat), elem := (0 : Nat), eagg := false, esize := (1 : Nat), kk := Ev.TK.other }),
  (60, { size := (2 : Nat), bytes := (16 : Nat), agg := true, zero := some [Value.int IntKind.i64 (0 : Int), Value.int IntKind.i64 (0 : Int)], zval := some (Value.agg { toList := [Value.int IntKind.i64 (0 : Int), Value.int IntKind.i64 (0 : Int)] }), kind := Ev.TK.struct, fields := [((0 : Nat), false, (1 : Nat)), ((1 : Nat), false, (1 : Nat))], len := (0 : Nat), elem := (0 : Nat), eagg := false, esize := (1 : Nat), kk := Ev.TK.other }),
  (69, { size := (2 : Nat), bytes := (16 : Nat), agg := true, zero := some [Value.int IntKind.i64 (0 : Int), Value.int IntKind.i64 (0 : Int)], zval := some (Value.agg { toList := [Value.int IntKind.i64 (0 : Int), Value.int IntKind.i64 (0 : Int)] }), kind := Ev.TK.array, fields := [], len := (2 : Nat), elem := (3 : Nat), eagg := false, esize := (1 : Nat), kk := Ev.TK.other }),
  (73, { size := (4 : Nat), bytes := (32 : Nat), agg := true, zero := some [Value.int IntKind.i64 (0 : Int), Value.int IntKind.i64 (0 : Int), Value.int IntKind.i64 (0 : Int), Value.int IntKind.u64 (0 : Int)], zval := some (Value.agg { toList := [Value.int IntKind.i64 (0 : Int), Value.int IntKind.i64 (0 : Int), Value.int IntKind.i64 (0 : Int), Value.int IntKind.u64 (0 : Int)] }), kind := Ev.TK.struct, fields := [((0 : Nat), false, (1 : Nat)), ((1 : Nat), false, (1 : Nat)), ((2 : Nat), false, (1 : Nat)), ((3 : Nat), false, (1 : Nat))], len := (0 : Nat), elem := (0 : Nat), eagg := false, esize := (1 : Nat), kk := Ev.TK.other }),
  (74, { size := (4 : Nat), bytes := (32 : Nat), agg := true, zero := some [Value.int IntKind.i64 (0 : Int), Value.int IntKind.i64 (0 : Int), Value.int IntKind.i64 (0 : Int), Value.int IntKind.u64 (0 : Int)], zval := some (Value.agg { toList := [Value.int IntKind.i64 (0 : Int), Value.int IntKind.i64 (0 : Int), Value.int IntKind.i64 (0 : Int), Value.int IntKind.u64 (0 : Int)] }), kind := Ev.TK.struct, fields := [((0 : Nat), false, (1 : Nat)), ((1 : Nat), false, (1 : Nat)), ((2 : Nat), false, (1 : Nat)), ((3 : Nat), false, (1 : Nat))], len := (0 : Nat), elem := (0 : Nat), eagg := false, esize := (1 : Nat), kk := Ev.TK.other }),
  (86, { size := (1 : Nat), bytes := (24 : Nat), agg := false, zero := some [Value.slice none (0 : Nat) (0 : Nat)], zval := some (Value.slice none (0 : Nat) (0 : Nat)), kind := Ev.TK.slice, fields := [], len := (0 : Nat), elem := (91 : Nat), eagg := true, esize := (2 : Nat), kk := Ev.TK.other }),
  (90, { size := (2 : Nat), bytes := (16 : Nat), agg := true, zero := some [Value.int IntKind.i64 (0 : Int), Value.int IntKind.i64 (0 : Int)], zval := some (Value.agg { toList := [Value.int IntKind.i64 (0 : Int), Value.int IntKind.i64 (0 : Int)] }), kind := Ev.TK.struct, fields := [((0 : Nat), false, (1 : Nat)), ((1 : Nat), false, (1 : Nat))], len := (0 : Nat), elem := (0 : Nat), eagg := false, esize := (1 : Nat), kk := Ev.TK.other }),
  (91, { size := (2 : Nat), bytes := (16 : Nat), agg := true, zero := some [Value.int IntKind.i64 (0 : Int), Value.int IntKind.i64 (0 : Int)], zval := some (Value.agg { toList := [Value.int IntKind.i64 (0 : Int), Value.int IntKind.i64 (0 : Int)] }), kind := Ev.TK.struct, fields := [((0 : Nat), false, (1 : Nat)), ((1 : Nat), false, (1 : Nat))], len := (0 : Nat), elem := (0 : Nat), eagg := false, esize := (1 : Nat), kk := Ev.TK.other }),
  (103, { size := (1 : Nat), bytes := (24 : Nat), agg := false, zero := some [Value.slice none (0 : Nat) (0 : Nat)], zval := some (Value.slice none (0 : Nat) (0 : Nat)), kind := Ev.TK.slice, fields := [], len := (0 : Nat), elem := (24 : Nat), eagg := false, esize := (1 : Nat), kk := Ev.TK.other }),
  (104, { size := (1 : Nat), bytes := (8 : Nat), agg := false, zero := some [Value.pointer none], zval := some (Value.pointer none), kind := Ev.TK.pointer, fields := [], len := (0 : Nat), elem := (107 : Nat), eagg := true, esize := (4 : Nat), kk := Ev.TK.other }),
  (106, { size := (4 : Nat), bytes := (64 : Nat), agg := true, zero := some [Value.slice none (0 : Nat) (0 : Nat), Value.slice none (0 : Nat) (0 : Nat), Value.int IntKind.i64 (0 : Int), Value.int IntKind.i64 (0 : Int)], zval := some (Value.agg { toList := [Value.slice none (0 : Nat) (0 : Nat), Value.slice none (0 : Nat) (0 : Nat), Value.int IntKind.i64 (0 : Int), Value.int IntKind.i64 (0 : Int)] }), kind := Ev.TK.struct, fields := [((0 : Nat), false, (1 : Nat)), ((1 : Nat), false, (1 : Nat)), ((2 : Nat), true, (2 : Nat))], len := (0 : Nat), elem := (0 : Nat), eagg := false, esize := (1 : Nat), kk := Ev.TK.other }),
  (107, { size := (4 : Nat), bytes := (64 : Nat), agg := true, zero := some [Value.slice none (0 : Nat) (0 : Nat), Value.slice none (0 : Nat) (0 : Nat), Value.int IntKind.i64 (0 : Int), Value.int IntKind.i64 (0 : Int)], zval := some (Value.agg { toList := [Value.slice none (0 : Nat) (0 : Nat), Value.slice none (0 : Nat) (0 : Nat), Value.int IntKind.i64 (0 : Int), Value.int IntKind.i64 (0 : Int)] }), kind := Ev.TK.struct, fields := [((0 : Nat), false, (1 : Nat)), ((1 : Nat), false, (1 : Nat)), ((2 : Nat), true, (2 : Nat))], len := (0 : Nat), elem := (0 : Nat), eagg := false, esize := (1 : Nat), kk := Ev.TK.other }),
  (108, { size := (1 : Nat), bytes := (8 : Nat), agg := false, zero := some [Value.nilFunc], zval := some Value.nilFunc, kind := Ev.TK.func, fields := [], len := (0 : Nat), elem := (0 : Nat), eagg := false, esize := (1 : Nat), kk := Ev.TK.other }),
  (111, { size := (1 : Nat), bytes := (24 : Nat), agg := true, zero := some [Value.slice none (0 : Nat) (0 : Nat)], zval := some (Value.agg { toList := [Value.slice none (0 : Nat) (0 : Nat)] }), kind := Ev.TK.struct, fields := [((0 : Nat), false, (1 : Nat))], len := (0 : Nat), elem := (0 : Nat), eagg := false, esize := (1 : Nat), kk := Ev.TK.other }),
  (112, { size := (1 : Nat), bytes := (24 : Nat), agg := true, zero := some [Value.slice none (0 : Nat) (0 : Nat)], zval := some (Value.agg { toList := [Value.slice none (0 : Nat) (0 : Nat)] }), kind := Ev.TK.struct, fields := [((0 : Nat), false, (1 : Nat))], len := (0 : Nat), elem := (0 : Nat), eagg := false, esize := (1 : Nat), kk := Ev.TK.other }),
  (113, { size := (2 : Nat), bytes := (32 : Nat), agg := true, zero := some [Value.slice none (0 : Nat) (0 : Nat), Value.int IntKind.i64 (0 : Int)], zval := some (Value.agg { toList := [Value.slice none (0 : Nat) (0 : Nat), Value.int IntKind.i64 (0 : Int)] }), kind := Ev.TK.struct, fields := [((0 : Nat), true, (1 : Nat)), ((1 : Nat), false, (1 : Nat))], len := (0 : Nat), elem := (0 : Nat), eagg := false, esize := (1 : Nat), kk := Ev.TK.other }),
  (114, { size := (2 : Nat), bytes := (32 : Nat), agg := true, zero := some [Value.slice none (0 : Nat) (0 : Nat), Value.int IntKind.i64 (0 : Int)], zval := some (Value.agg { toList := [Value.slice none (0 : Nat) (0 : Nat), Value.int IntKind.i64 (0 : Int)] }), kind := Ev.TK.struct, fields := [((0 : Nat), true, (1 : Nat)), ((1 : Nat), false, (1 : Nat))], len := (0 : Nat), elem := (0 : Nat), eagg := false, esize := (1 : Nat), kk := Ev.TK.other }),
  (115, { size := (1 : Nat), bytes := (24 : Nat), agg := true, zero := some [Value.slice none (0 : Nat) (0 : Nat)], zval := some (Value.agg { toList := [Value.slice none (0 : Nat) (0 : Nat)] }), kind := Ev.TK.struct, fields := [((0 : Nat), true, (1 : Nat))], len := (0 : Nat), elem := (0 : Nat), eagg := false, esize := (1 : Nat), kk := Ev.TK.other }),
  (116, { size := (1 : Nat), bytes := (24 : Nat), agg := true, zero := some [Value.slice none (0 : Nat) (0 : Nat)], zval := some (Value.agg { toList := [Value.slice none (0 : Nat) (0 : Nat)] }), kind := Ev.TK.struct, fields := [((0 : Nat), true, (1 : Nat))], len := (0 : Nat), elem := (0 : Nat), eagg := false, esize := (1 : Nat), kk := Ev.TK.other }),
  (117, { size := (5 : Nat), bytes := (72 : Nat), agg := true, zero := some [Value.int IntKind.i64 (0 : Int), Value.int IntKind.i64 (0 : Int), Value.slice none (0 : Nat) (0 : Nat), Value.int IntKind.i64 (0 : Int), Value.slice none (0 : Nat) (0 : Nat)], zval := some (Value.agg { toList := [Value.int IntKind.i64 (0 : Int), Value.int IntKind.i64 (0 : Int), Value.slice none (0 : Nat) (0 : Nat), Value.int IntKind.i64 (0 : Int), Value.slice none (0 : Nat) (0 : Nat)] }), kind := Ev.TK.struct, fields := [((0 : Nat), true, (2 : Nat)), ((2 : Nat), true, (2 : Nat)), ((4 : Nat), true, (1 : Nat))], len := (0 : Nat), elem := (0 : Nat), eagg := false, esize := (1 : Nat), kk := Ev.TK.other }),
  (118, { size := (5 : Nat), bytes := (72 : Nat), agg := true, zero := some [Value.int IntKind.i64 (0 : Int), Value.int IntKind.i64 (0 : Int), Value.slice none (0 : Nat) (0 : Nat), Value.int IntKind.i64 (0 : Int), Value.slice none (0 : Nat) (0 : Nat)], zval := some (Value.agg { toList := [Value.int IntKind.i64 (0 : Int), Value.int IntKind.i64 (0 : Int), Value.slice none (0 : Nat) (0 : Nat), Value.int IntKind.i64 (0 : Int), Value.slice none (0 : Nat) (0 : Nat)] }), kind := Ev.TK.struct, fields := [((0 : Nat), true, (2 : Nat)), ((2 : Nat), true, (2 : Nat)), ((4 : Nat), true, (1 : Nat))], len := (0 : Nat), elem := (0 : Nat), eagg := false, esize := (1 : Nat), kk := Ev.TK.other }),
  (133, { size := (1 : Nat), bytes := (8 : Nat), agg := false, zero := some [Value.map none], zval := some (Value.map none), kind := Ev.TK.map, fields := [], len := (0 : Nat), elem := (3 : Nat), eagg := false, esize := (1 : Nat), kk := Ev.TK.int IntKind.i64 }),
  (134, { size := (1 : Nat), bytes := (24 : Nat), agg := false, zero := some [Value.slice none (0 : Nat) (0 : Nat)], zval := some (Value.slice none (0 : Nat) (0 : Nat)), kind := Ev.TK.slice, fields := [], len := (0 : Nat), elem := (4 : Nat), eagg := false, esize := (1 : Nat), kk := Ev.TK.other }),
  (137, { size := (1 : Nat), bytes := (8 : Nat), agg := false, zero := some [Value.map none], zval := some (Value.map none), kind := Ev.TK.map, fields := [], len := (0 : Nat), elem := (108 : Nat), eagg := false, esize := (1 : Nat), kk := Ev.TK.int IntKind.i64 }),
  (141, { size := (1 : Nat), bytes := (8 : Nat), agg := false, zero := some [Value.int IntKind.u64 (0 : Int)], zval := some (Value.int IntKind.u64 (0 : Int)), kind := Ev.TK.int IntKind.u64, fields := [], len := (0 : Nat), elem := (0 : Nat), eagg := false, esize := (1 : Nat), kk := Ev.TK.other }),
  (145, { size := (1 : Nat), bytes := (8 : Nat), agg := false, zero := some [Value.int IntKind.u64 (0 : Int)], zval := some (Value.int IntKind.u64 (0 : Int)), kind := Ev.TK.int IntKind.u64, fields := [], len := (0 : Nat), elem := (0 : Nat), eagg := false, esize := (1 : Nat), kk := Ev.TK.other }),
  (163, { size := (1 : Nat), bytes := (8 : Nat), agg := false, zero := some [Value.pointer none], zval := some (Value.pointer none), kind := Ev.TK.pointer, fields := [], len := (0 : Nat), elem := (3 : Nat), eagg := false, esize := (1 : Nat), kk := Ev.TK.other }),
  (165, { size := (1 : Nat), bytes := (24 : Nat), agg := false, zero := some [Value.slice none (0 : Nat) (0 : Nat)], zval := some (Value.slice none (0 : Nat) (0 : Nat)), kind := Ev.TK.slice, fields := [], len := (0 : Nat), elem := (170 : Nat), eagg := true, esize := (5 : Nat), kk := Ev.TK.other }),
  (167, { size := (1 : Nat), bytes := (8 : Nat), agg := false, zero := some [Value.nilFunc], zval := some Value.nilFunc, kind := Ev.TK.func, fields := [], len := (0 : Nat), elem := (0 : Nat), eagg := false, esize := (1 : Nat), kk := Ev.TK.other }),
  (168, { size := (1 : Nat), bytes := (8 : Nat), agg := false, zero := some [Value.nilFunc], zval := some Value.nilFunc, kind := Ev.TK.func, fields := [], len := (0 : Nat), elem := (0 : Nat), eagg := false, esize := (1 : Nat), kk := Ev.TK.other }),
  (169, { size := (5 : Nat), bytes := (48 : Nat), agg := true, zero := some [Value.string { data := #[] }, Value.int IntKind.i64 (0 : Int), Value.int IntKind.i64 (0 : Int), Value.nilFunc, Value.nilFunc], zval := some (Value.agg { toList := [Value.string { data := #[] }, Value.int IntKind.i64 (0 : Int), Value.int IntKind.i64 (0 : Int), Value.nilFunc, Value.nilFunc] }), kind := Ev.TK.struct, fields := [((0 : Nat), false, (1 : Nat)), ((1 : Nat), false, (1 : Nat)), ((2 : Nat), false, (1 : Nat)), ((3 : Nat), false, (1 : Nat)), ((4 : Nat), false, (1 : Nat))], len := (0 : Nat), elem := (0 : Nat), eagg := false, esize := (1 : Nat), kk := Ev.TK.other }),
  (170, { size := (5 : Nat), bytes := (48 : Nat), agg := true, zero := some [Value.string { data := #[] }, Value.int IntKind.i64 (0 : Int), Value.int IntKind.i64 (0 : Int), Value.nilFunc, Value.nilFunc], zval := some (Value.agg { toList := [Value.string { data := #[] }, Value.int IntKind.i64 (0 : Int), Value.int IntKind.i64 (0 : Int), Value.nilFunc, Value.nilFunc] }), kind := Ev.TK.struct, fields := [((0 : Nat), false, (1 : Nat)), ((1 : Nat), false, (1 : Nat)), ((2 : Nat), false, (1 : Nat)), ((3 : Nat), false, (1 : Nat)), ((4 : Nat), false, (1 : Nat))], len := (0 : Nat), elem := (0 : Nat), eagg := false, esize := (1 : Nat), kk := Ev.TK.other }),
  (171, { size := (1 : Nat), bytes := (8 : Nat), agg := false, zero := some [Value.pointer none], zval := some (Value.pointer none), kind := Ev.TK.pointer, fields := [], len := (0 : Nat), elem := (23 : Nat), eagg := true, esize := (5 : Nat), kk := Ev.TK.other })]
noncomputable def F : List (Nat × Func) := [(3, Try.f3), (4, Try.f4), (5, Try.f5), (6, Try.f6), (7, Try.f7), (8, Try.f8), (9, Try.f9), (10, Try.f10), (11, Try.f11), (12, Try.f12), (13, Try.f13), (14, Try.f14), (15, Try.f15), (16, Try.f16), (17, Try.f17), (18, Try.f18), (19, Try.f19), (20, Try.f20), (21, Try.f21), (22, Try.f22), (23, Try.f23), (24, Try.f24), (25, Try.f25), (26, Try.f26), (27, Try.f27), (28, Try.f28), (29, Try.f29), (30, Try.f30), (31, Try.f31), (32, Try.f32), (33, Try.f33), (34, Try.f34), (35, Try.f35), (36, Try.f36), (37, Try.f37), (38, Try.f38), (39, Try.f39), (40, Try.f40), (41, Try.f41), (42, Try.f42), (43, Try.f43), (44, Try.f44), (45, Try.f45), (46, Try.f46), (47, Try.f47), (48, Try.f48), (49, Try.f49), (50, Try.f50), (51, Try.f51), (52, Try.f52), (53, Try.f53), (54, Try.f54), (55, Try.f55), (56, Try.f56), (57, Try.f57), (58, Try.f58), (59, Try.f59), (60, Try.f60), (61, Try.f61), (62, Try.f62), (63, Try.f63), (64, Try.f64), (65, Try.f65), (66, Try.f66), (67, Try.f67), (68, Try.f68), (69, Try.f69), (70, Try.f70), (71, Try.f71), (72, Try.f72), (73, Try.f73), (74, Try.f74), (75, Try.f75), (76, Try.f76), (77, Try.f77), (78, Try.f78), (79, Try.f79), (80, Try.f80), (81, Try.f81), (82, Try.f82), (83, Try.f83), (84, Try.f84), (85, Try.f85), (86, Try.f86), (87, Try.f87), (88, Try.f88), (89, Try.f89), (90, Try.f90), (91, Try.f91), (92, Try.f92), (93, Try.f93), (94, Try.f94), (95, Try.f95), (96, Try.f96), (97, Try.f97), (98, Try.f98), (99, Try.f99), (100, Try.f100), (101, Try.f101), (102, Try.f102), (103, Try.f103), (104, Try.f104), (105, Try.f105), (106, Try.f106), (107, Try.f107), (108, Try.f108), (109, Try.f109), (110, Try.f110), (111, Try.f111), (112, Try.f112), (113, Try.f113), (114, Try.f114), (115, Try.f115), (116, Try.f116), (117, Try.f117), (118, Try.f118), (119, Try.f119), (120, Try.f120), (121, Try.f121), (122, Try.f122), (123, Try.f123), (124, Try.f124), (125, Try.f125), (126, Try.f126), (127, Try.f127), (128, Try.f128), (129, Try.f129), (130, Try.f130), (131, Try.f131), (132, Try.f132), (133, Try.f133), (134, Try.f134), (135, Try.f135), (136, Try.f136), (137, Try.f137), (138, Try.f138), (139, Try.f139), (140, Try.f140), (141, Try.f141), (142, Try.f142), (143, Try.f143), (144, Try.f144), (145, Try.f145), (146, Try.f146), (147, Try.f147), (148, Try.f148), (149, Try.f149), (150, Try.f150), (151, Try.f151), (152, Try.f152), (153, Try.f153), (154, Try.f154), (155, Try.f155), (156, Try.f156), (157, Try.f157), (158, Try.f158), (159, Try.f159), (160, Try.f160), (161, Try.f161), (162, Try.f162), (163, Try.f163), (164, Try.f164)]
def Q : List (Nat × List IntKind) := [(60, [.i64, .i64]), (50, [.i64, .i64])]
noncomputable abbrev mk (X : List (Nat × Rx.Spec)) : Env := ⟨Try.prog, T, F, Rx.look X, Q, [4]⟩
theorem qs60 : Ev.QOk Try.prog 60 [.i64, .i64] := by
  intro l m hl hm op x y w ho
  obtain ⟨aa0, aa1, rfl⟩ : ∃ aa0 aa1, l = [aa0, aa1] := by
    match l, hl with
    | [aa0, aa1], _ => exact ⟨aa0, aa1, rfl⟩
  obtain ⟨cc0, cc1, rfl⟩ : ∃ cc0 cc1, m = [cc0, cc1] := by
    match m, hm with
    | [cc0, cc1], _ => exact ⟨cc0, cc1, rfl⟩
  have u3 := Try.underlying3
  have a3 := Try.isAgg3
  have z3 := Try.sizeOf3
  have hS : Try.prog.underlying 60 = some (.struct (Try.prog.fieldsOf 60)) := by kernel_rfl
  have hp : Try.prog.stoodInHeld 60 = false := by kernel_rfl
  have hg : Try.prog.eqGuardType Try.prog.depth 60 = false := by kernel_rfl
  simp only [Ev.ints]
  rw [Sem.run_bind, run_eqGuard_agg w op 60 x y _ _ hg]
  rcases ho with rfl | rfl
  · simp only [Result.andThen_ok]
    rw [run_eql_struct, show (10000 : Nat) = 9999 + 1 from rfl, run_equalIn_agg w 9999 60 _ _ hS hp]
    simp only [Program.fieldsOf, Try.underlying60]
    go_simp
    by_cases h0 : aa0 = cc0 <;> by_cases h1 : aa1 = cc1 <;> simp [h0, h1]
  · simp only [Result.andThen_ok]
    rw [run_neq_struct, show (10000 : Nat) = 9999 + 1 from rfl, run_equalIn_agg w 9999 60 _ _ hS hp]
    simp only [Program.fieldsOf, Try.underlying60]
    go_simp
    by_cases h0 : aa0 = cc0 <;> by_cases h1 : aa1 = cc1 <;> simp [h0, h1]
theorem qs50 : Ev.QOk Try.prog 50 [.i64, .i64] := by
  intro l m hl hm op x y w ho
  obtain ⟨aa0, aa1, rfl⟩ : ∃ aa0 aa1, l = [aa0, aa1] := by
    match l, hl with
    | [aa0, aa1], _ => exact ⟨aa0, aa1, rfl⟩
  obtain ⟨cc0, cc1, rfl⟩ : ∃ cc0 cc1, m = [cc0, cc1] := by
    match m, hm with
    | [cc0, cc1], _ => exact ⟨cc0, cc1, rfl⟩
  have u3 := Try.underlying3
  have a3 := Try.isAgg3
  have z3 := Try.sizeOf3
  have hS : Try.prog.underlying 50 = some (.struct (Try.prog.fieldsOf 50)) := by kernel_rfl
  have hp : Try.prog.stoodInHeld 50 = false := by kernel_rfl
  have hg : Try.prog.eqGuardType Try.prog.depth 50 = false := by kernel_rfl
  simp only [Ev.ints]
  rw [Sem.run_bind, run_eqGuard_agg w op 50 x y _ _ hg]
  rcases ho with rfl | rfl
  · simp only [Result.andThen_ok]
    rw [run_eql_struct, show (10000 : Nat) = 9999 + 1 from rfl, run_equalIn_agg w 9999 50 _ _ hS hp]
    simp only [Program.fieldsOf, Try.underlying50]
    go_simp
    by_cases h0 : aa0 = cc0 <;> by_cases h1 : aa1 = cc1 <;> simp [h0, h1]
  · simp only [Result.andThen_ok]
    rw [run_neq_struct, show (10000 : Nat) = 9999 + 1 from rfl, run_equalIn_agg w 9999 50 _ _ hS hp]
    simp only [Program.fieldsOf, Try.underlying50]
    go_simp
    by_cases h0 : aa0 = cc0 <;> by_cases h1 : aa1 = cc1 <;> simp [h0, h1]
theorem mixed : Try.prog.follows .mixedOrders = true := by kernel_rfl
/-- A function's contract may be used. -/
def Told (f : Nat) (sp : Rx.Spec) : Prop := (∃ fn, Try.prog.funcs[f]? = some fn ∧ fn.body.isSome = true ∧ (fn.name == "runtime.NumGoroutine") = false) ∧ SpecOk Try.prog f sp
theorem mkOk {X : List (Nat × Rx.Spec)} (h : ∀ p ∈ X, Told p.1 p.2) : EnvOk (mk X) where
  types := look_all (q := fun ty i => Ev.mkTI Try.prog ty = some i) (by
    intro p hp
    simp only [T, List.mem_cons, List.not_mem_nil, or_false] at hp
    rcases hp with rfl | rfl | rfl | rfl | rfl | rfl | rfl | rfl | rfl | rfl | rfl | rfl | rfl | rfl | rfl | rfl | rfl | rfl | rfl | rfl | rfl | rfl | rfl | rfl | rfl | rfl | rfl | rfl | rfl | rfl | rfl | rfl | rfl | rfl | rfl | rfl | rfl | rfl | rfl | rfl | rfl | rfl | rfl | rfl | rfl | rfl | rfl | rfl | rfl | rfl <;> kernel_rfl)
  funcs := look_all (q := fun f fn => Try.prog.funcs[f]? = some fn ∧ (fn.name == "runtime.NumGoroutine") = false) (by
    intro p hp
    simp only [F, List.mem_cons, List.not_mem_nil, or_false] at hp
    rcases hp with rfl | rfl | rfl | rfl | rfl | rfl | rfl | rfl | rfl | rfl | rfl | rfl | rfl | rfl | rfl | rfl | rfl | rfl | rfl | rfl | rfl | rfl | rfl | rfl | rfl | rfl | rfl | rfl | rfl | rfl | rfl | rfl | rfl | rfl | rfl | rfl | rfl | rfl | rfl | rfl | rfl | rfl | rfl | rfl | rfl | rfl | rfl | rfl | rfl | rfl | rfl | rfl | rfl | rfl | rfl | rfl | rfl | rfl | rfl | rfl | rfl | rfl | rfl | rfl | rfl | rfl | rfl | rfl | rfl | rfl | rfl | rfl | rfl | rfl | rfl | rfl | rfl | rfl | rfl | rfl | rfl | rfl | rfl | rfl | rfl | rfl | rfl | rfl | rfl | rfl | rfl | rfl | rfl | rfl | rfl | rfl | rfl | rfl | rfl | rfl | rfl | rfl | rfl | rfl | rfl | rfl | rfl | rfl | rfl | rfl | rfl | rfl | rfl | rfl | rfl | rfl | rfl | rfl | rfl | rfl | rfl | rfl | rfl | rfl | rfl | rfl | rfl | rfl | rfl | rfl | rfl | rfl | rfl | rfl | rfl | rfl | rfl | rfl | rfl | rfl | rfl | rfl | rfl | rfl | rfl | rfl | rfl | rfl | rfl | rfl | rfl | rfl | rfl | rfl | rfl | rfl | rfl | rfl | rfl | rfl | rfl | rfl <;> exact ⟨by kernel_rfl, by kernel_rfl⟩)
  specs := look_all (q := Told) h
  mixed := mixed
  qs := look_all (q := fun ty ks => Ev.QOk Try.prog ty ks) (by
    intro p hp
    simp only [Q, List.mem_cons, List.not_mem_nil, or_false] at hp
    rcases hp with rfl | rfl
    · exact qs60
    · exact qs50)
  bo := by
    intro ty hty
    simp only [List.mem_cons, List.not_mem_nil, or_false] at hty
    subst hty
    kernel_rfl
/-- From a function's body to its contract. -/
theorem told {X : List (Nat × Rx.Spec)} (hX : ∀ p ∈ X, Told p.1 p.2) {f n : Nat} {fn : Func} (hf : Try.prog.funcs[f]? = some fn) (h1 : fn.body.isSome = true) (h2 : (fn.name == "runtime.NumGoroutine") = false) {c : Con} (hb : BodyOk (mk X) n fn c) : Told f (specOf c) :=
  ⟨⟨fn, hf, h1, h2⟩, specOf_ok (mkOk hX) hf hb⟩
end Go.Proofs.Ytfgeoglegebncaa.Fr
namespace Go.Proofs.Ytfgeoglegebncaa.Fr
set_option maxRecDepth 100000
set_option maxHeartbeats 4000000
open Go.Rx
open Go.RowKit (Below)
set_option linter.unusedVariables false
/-- A narrower contract. -/
theorem Told.mono {f : Nat} {c c' : Con} (h : Told f (specOf c)) (hc : ∀ vs bs K, c' vs bs K → c vs bs K) : Told f (specOf c') :=
  ⟨h.1, fun args s K hk => h.2 args s K (locA_mono (fun us bs => hc us bs _) args 0 hk)⟩
/-- A slice of a row of these kinds, or none; with the room that it has. -/
def parseQ (ks : List IntKind) (j : Nat) (v : Value) (bs : List Blk) (k : Nat → RF → Nat → List Blk → Prop) : Prop :=
  match v with
  | .slice none 0 0 => k 0 zF j bs
  | .slice (some ⟨b, 0, some 0⟩) n c => (b = j ∧ n ≤ 100000 ∧ n ≤ c) ∧ match bs with
    | .row true ks' _ n' c' f :: bs' => (ks' = ks ∧ n' = n ∧ c' = c) ∧ k n f (j + 1) bs'
    | _ => False
  | _ => False
theorem parseQ_inv {ks : List IntKind} {j : Nat} {v : Value} {bs : List Blk} {k : Nat → RF → Nat → List Blk → Prop} (h : parseQ ks j v bs k) : (v = .slice none 0 0 ∧ k 0 zF j bs) ∨ ∃ e n c f bs', v = rsl j 0 n c ∧ n ≤ 100000 ∧ n ≤ c ∧ bs = .row true ks e n c f :: bs' ∧ k n f (j + 1) bs' := by
  unfold parseQ at h
  split at h
  · exact .inl ⟨rfl, h⟩
  · obtain ⟨⟨rfl, hn, hc⟩, h⟩ := h
    split at h
    · obtain ⟨⟨rfl, rfl, rfl⟩, h⟩ := h
      exact .inr ⟨_, _, _, _, _, rfl, hn, hc, rfl, h⟩
    · exact h.elim
  · exact h.elim
def parseRQ (ks : List IntKind) (j : Nat) (v : Value) (bs : List Blk) (k : Nat → RF → Nat → List Blk → Prop) : Prop :=
  match v with
  | .slice (some ⟨b, 0, some 0⟩) n c => (b = j ∧ n ≤ 100000 ∧ n ≤ c) ∧ match bs with
    | .row true ks' _ n' c' f :: bs' => (ks' = ks ∧ n' = n ∧ c' = c) ∧ k n f (j + 1) bs'
    | _ => False
  | _ => False
theorem parseRQ_inv {ks : List IntKind} {j : Nat} {v : Value} {bs : List Blk} {k : Nat → RF → Nat → List Blk → Prop} (h : parseRQ ks j v bs k) : ∃ e n c f bs', v = rsl j 0 n c ∧ n ≤ 100000 ∧ n ≤ c ∧ bs = .row true ks e n c f :: bs' ∧ k n f (j + 1) bs' := by
  unfold parseRQ at h
  split at h
  · obtain ⟨⟨rfl, hn, hc⟩, h⟩ := h
    split at h
    · obtain ⟨⟨rfl, rfl, rfl⟩, h⟩ := h
      exact ⟨_, _, _, _, _, rfl, hn, hc, rfl, h⟩
    · exact h.elim
  · exact h.elim
abbrev KB := Value → List Blk → Prop
theorem fin0i {K : KB} {x y : Int} (e : x = y) (h : K (.int .i64 x) []) : K (.int .i64 y) [] := e ▸ h
theorem fin0p {K : KB} {x y x' y' : Int} (e : x = x') (e' : y = y') (h : K (.tuple ⟨[.int .i64 x, .int .i64 y]⟩) []) : K (.tuple ⟨[.int .i64 x', .int .i64 y']⟩) [] := e ▸ e' ▸ h
theorem fin0u {K : KB} {x y x' y' : Int} (e : x = x') (e' : y = y') (h : K (.tuple ⟨[.int .u64 x, .int .i64 y]⟩) []) : K (.tuple ⟨[.int .u64 x', .int .i64 y']⟩) [] := e ▸ e' ▸ h
theorem fin0s {K : KB} {x y z x' y' z' : Int} (e : x = x') (e' : y = y') (e2 : z = z') (h : K (.tuple ⟨[.agg ⟨[.int .i64 x, .int .i64 y]⟩, .int .i64 z]⟩) []) : K (.tuple ⟨[.agg ⟨[.int .i64 x', .int .i64 y']⟩, .int .i64 z']⟩) [] := e ▸ e' ▸ e2 ▸ h
theorem fin0n {K : KB} {y y' : Int} (e : y = y') (h : K (.tuple ⟨[.slice none 0 0, .int .i64 y]⟩) []) : K (.tuple ⟨[.slice none 0 0, .int .i64 y']⟩) [] := e ▸ h
/-- Words of an arena. -/
structure Ok64 (n : Nat) (f : RF) : Prop where
  h : ∀ i, i < n → 0 ≤ f i 0 ∧ f i 0 ≤ 18446744073709551615
theorem Ok64.nil {f : RF} : Ok64 0 f := ⟨fun i h => absurd h (by omega)⟩
/-- The error of an arena. -/
def arE (n : Nat) (f : RF) : Int := if n < 1 ∨ 1601 < n then 3 else if f (Int.toNat 0) 0 = 0 then 0 else 6
theorem ar_cases (n : Nat) (f : RF) : (arE n f = 3 ∧ (n < 1 ∨ 1601 < n)) ∨ (arE n f = 6 ∧ 1 ≤ n ∧ n ≤ 1601 ∧ ¬ f (Int.toNat 0) 0 = 0) ∨ (arE n f = 0 ∧ 1 ≤ n ∧ n ≤ 1601 ∧ f (Int.toNat 0) 0 = 0) := by
  unfold arE
  repeat' split
  all_goals omega
/-- The error of a shape, its size, its header. -/
def sze (p q : Int) : Int := if p < 0 ∨ q < 0 then 7 else if 64 ≤ p ∨ 64 ≤ q ∨ 64 < 1 + p + q then 11 else 0
theorem sze_cases (p q : Int) : (sze p q = 7 ∧ (p < 0 ∨ q < 0)) ∨ (sze p q = 11 ∧ 0 ≤ p ∧ 0 ≤ q ∧ (64 ≤ p ∨ 64 ≤ q ∨ 64 < 1 + p + q)) ∨ (sze p q = 0 ∧ 0 ≤ p ∧ 0 ≤ q ∧ 1 + p + q ≤ 64) := by
  unfold sze
  repeat' split
  all_goals omega
/-- A word as a header: its error, and the shape. -/
def hsE (v : Int) : Int := if v % 256 = 1 ∧ v / 65536 < 64 ∧ v / 256 % 256 < 64 ∧ 1 + v / 256 % 256 + v / 65536 ≤ 64 then 0 else 6
def hsP (v : Int) : Int := if hsE v = 0 then v / 256 % 256 else 0
def hsR (v : Int) : Int := if hsE v = 0 then v / 65536 else 0
theorem hs_cases (v : Int) : (hsE v = 0 ∧ v % 256 = 1 ∧ v / 65536 < 64 ∧ v / 256 % 256 < 64 ∧ 1 + v / 256 % 256 + v / 65536 ≤ 64 ∧ hsP v = v / 256 % 256 ∧ hsR v = v / 65536) ∨
    (hsE v = 6 ∧ hsP v = 0 ∧ hsR v = 0 ∧ ¬ (v % 256 = 1 ∧ v / 65536 < 64 ∧ v / 256 % 256 < 64 ∧ 1 + v / 256 % 256 + v / 65536 ≤ 64)) := by
  by_cases h : v % 256 = 1 ∧ v / 65536 < 64 ∧ v / 256 % 256 < 64 ∧ 1 + v / 256 % 256 + v / 65536 ≤ 64
  · have e : hsE v = 0 := if_pos h
    have e1 : hsP v = v / 256 % 256 := if_pos e
    have e2 : hsR v = v / 65536 := if_pos e
    exact .inl ⟨e, h.1, h.2.1, h.2.2.1, h.2.2.2, e1, e2⟩
  · have e : hsE v = 6 := if_neg h
    have e1 : hsP v = 0 := if_neg (by omega)
    have e2 : hsR v = 0 := if_neg (by omega)
    exact .inr ⟨e, e1, e2, h⟩
/-- An object: its error, and its shape. -/
def obE (n : Nat) (f : RF) (a : Int) : Int := if arE n f = 0 then (if a < 1 ∨ (n : Int) ≤ a then 7 else if hsE (f a.toNat 0) = 0 ∧ hsP (f a.toNat 0) + hsR (f a.toNat 0) < n - a then 0 else 6) else arE n f
def obP (n : Nat) (f : RF) (a : Int) : Int := if obE n f a = 0 then hsP (f a.toNat 0) else 0
def obR (n : Nat) (f : RF) (a : Int) : Int := if obE n f a = 0 then hsR (f a.toNat 0) else 0
theorem ob_cases {n : Nat} {f : RF} (hU : Ok64 n f) (a : Int) : (¬ arE n f = 0 ∧ obE n f a = arE n f ∧ obP n f a = 0 ∧ obR n f a = 0) ∨
    (arE n f = 0 ∧ obE n f a = 7 ∧ (a < 1 ∨ (n : Int) ≤ a) ∧ obP n f a = 0 ∧ obR n f a = 0) ∨
    (arE n f = 0 ∧ obE n f a = 6 ∧ 1 ≤ a ∧ a < n ∧ (¬ hsE (f a.toNat 0) = 0 ∨ n - a ≤ hsP (f a.toNat 0) + hsR (f a.toNat 0)) ∧ obP n f a = 0 ∧ obR n f a = 0) ∨
    (arE n f = 0 ∧ obE n f a = 0 ∧ 1 ≤ a ∧ a < n ∧ hsE (f a.toNat 0) = 0 ∧ obP n f a = hsP (f a.toNat 0) ∧ obR n f a = hsR (f a.toNat 0) ∧ 0 ≤ hsP (f a.toNat 0) ∧ 0 ≤ hsR (f a.toNat 0) ∧ hsP (f a.toNat 0) + hsR (f a.toNat 0) < n - a ∧ hsP (f a.toNat 0) + hsR (f a.toNat 0) ≤ 63) := by
  have b := hs_cases (f a.toNat 0)
  by_cases h0 : arE n f = 0
  · by_cases h1 : a < 1 ∨ (n : Int) ≤ a
    · have e : obE n f a = 7 := by unfold obE; rw [if_pos h0, if_pos h1]
      have e1 : obP n f a = 0 := if_neg (by omega)
      have e2 : obR n f a = 0 := if_neg (by omega)
      exact .inr (.inl ⟨h0, e, h1, e1, e2⟩)
    · have hv := (hU.h a.toNat (by omega)).1
      by_cases h2 : hsE (f a.toNat 0) = 0 ∧ hsP (f a.toNat 0) + hsR (f a.toNat 0) < n - a
      · have e : obE n f a = 0 := by unfold obE; rw [if_pos h0, if_neg h1, if_pos h2]
        have e1 : obP n f a = hsP (f a.toNat 0) := if_pos e
        have e2 : obR n f a = hsR (f a.toNat 0) := if_pos e
        exact .inr (.inr (.inr ⟨h0, e, by omega, by omega, h2.1, e1, e2, by omega, by omega, h2.2, by omega⟩))
      · have e : obE n f a = 6 := by unfold obE; rw [if_pos h0, if_neg h1, if_neg h2]
        have e1 : obP n f a = 0 := if_neg (by omega)
        have e2 : obR n f a = 0 := if_neg (by omega)
        exact .inr (.inr (.inl ⟨h0, e, by omega, by omega, by omega, e1, e2⟩))
  · have e : obE n f a = arE n f := if_neg h0
    have e1 : obP n f a = 0 := if_neg (by omega)
    have e2 : obR n f a = 0 := if_neg (by omega)
    exact .inl ⟨h0, e, e1, e2⟩
/-- Another word; words that are 0. -/
def setF (f : RF) (a : Nat) (v : Int) : RF := fun i _ => if i = a then v else f i 0
def zroF (f : RF) (a m : Nat) : RF := fun i _ => if a ≤ i ∧ i < a + m then 0 else f i 0
theorem Ok64.set {n : Nat} {f : RF} (h : Ok64 n f) {a : Nat} {v : Int} (hv : 0 ≤ v ∧ v ≤ 18446744073709551615) : Ok64 n (setF f a v) := ⟨fun i hi => by
  unfold setF
  split
  · exact hv
  · exact h.h i hi⟩
@[reducible] def XZ : List (Nat × Rx.Spec) := []
theorem XZ_told : ∀ p ∈ XZ, Told p.1 p.2 := fun p hp => by cases hp
def arC : Con := fun vs bs K => match vs with
  | [vw] => parseQ [.u64] 0 vw bs fun nw fw j0 bs0 => bs0 = [] ∧ (True) ∧ (K (.int .i64 (arE nw fw)) [])
  | _ => False

def arC_nA  : Ann := fun _ _ _ => none
def arC_rA (ew nw cw : Nat) (fw : RF) : Ann := fun _ _ _ => none
def arK : Con := fun vs bs K => match vs with
  | [vw] => parseQ [.u64] 0 vw bs fun nw fw j0 bs0 => bs0 = [] ∧ (True) ∧ (K (.int .i64 (arE nw fw)) [])
  | _ => False

def arK_nA  : Ann := fun _ _ _ => none
def arK_rA (ew nw cw : Nat) (fw : RF) : Ann := fun _ _ _ => none
def hdC : Con := fun vs bs K => match vs with
  | [.agg ⟨[.int .i64 p, .int .i64 q]⟩] => bs = [] ∧ (True) ∧ (K (.int .i64 (sze p q)) [])
  | _ => False

def hdC_zA (p : Int) (q : Int) : Ann := fun _ _ _ => none
def hdK : Con := fun vs bs K => match vs with
  | [.agg ⟨[.int .i64 p, .int .i64 q]⟩] => bs = [] ∧ (True) ∧ (K (.int .i64 (sze p q)) [])
  | _ => False

def hdK_zA (p : Int) (q : Int) : Ann := fun _ _ _ => none
def arC_nV  (K : Value → List Blk → Prop) : Prop := (T0 ∧ (TS ∧ (T0 ∧ (∃ y0 : Value, (∃ y1 : List Blk, ((Go.Rx.Found 0 (vi (3 : Int)) ({ h := [], next := (0 : Nat) }) (y0) (y1)) ∧ (K y0 y1)))))))
theorem arC_nE  (K : Value → List Blk → Prop) : arC_nV  K = bodyX (mk XZ) (callN (mk XZ) 6) (arC_nA ) Try.f24 [.slice none 0 0] (stOf []) (Fd 0 K) := by kernel_rfl
set_option tactic.hygienic false in
theorem arC_nP  (K : Value → List Blk → Prop)  (h : K (.int .i64 (arE 0 zF)) []) : arC_nV  K := by
  unfold arC_nV
  have z0 := ar_cases 0 zF
  repeat' (first | (with_reducible exact rfl) | (with_reducible exact trivial) | (with_reducible refine And.intro ?_ ?_) | (intro) | (with_reducible refine br_d (fun hq => ?_) (fun hq => ?_)) | (with_reducible refine br_nd (fun hq => ?_) (fun hq => ?_)) | (with_reducible refine br_intro (fun hq => ?_) (fun hq => ?_)) | (with_reducible refine if_both (fun hz => ?_) (fun hz => ?_)) | fail)

  all_goals first
    | (with_reducible assumption)
    | (refine (id ?_ : ∃ (v1 : Value) (news : List Blk), _)
       first
        | contradiction
        | exact fin0 (by kernel_rfl) (by kernel_rfl) h
        | exact fin0 (by kernel_rfl) (by kernel_rfl) (fin0i (by omega) h)
        | exact fin0 (by kernel_rfl) (by kernel_rfl) (fin0p (by omega) (by omega) h)
        | exact fin0 (by kernel_rfl) (by kernel_rfl) (fin0u (by omega) (by omega) h)
        | exact fin0 (by kernel_rfl) (by kernel_rfl) (fin0s (by omega) (by omega) (by omega) h)
        | exact fin0 (by kernel_rfl) (by kernel_rfl) (fin0n (by omega) h)
        | (exfalso; simp at hq; omega)
        | (exfalso; omega)
       )
    | omega
    | contradiction
    | exact fin0 (by kernel_rfl) (by kernel_rfl) h
    | exact fin0 (by kernel_rfl) (by kernel_rfl) (fin0i (by omega) h)
    | exact fin0 (by kernel_rfl) (by kernel_rfl) (fin0p (by omega) (by omega) h)
    | exact fin0 (by kernel_rfl) (by kernel_rfl) (fin0u (by omega) (by omega) h)
    | exact fin0 (by kernel_rfl) (by kernel_rfl) (fin0s (by omega) (by omega) (by omega) h)
    | exact fin0 (by kernel_rfl) (by kernel_rfl) (fin0n (by omega) h)
    | (exfalso; simp at hq; omega)
    | (exfalso; omega)
def arC_rV (ew nw cw : Nat) (fw : RF) (K : Value → List Blk → Prop) : Prop := let q0 := TS; let q1 := (∃ y0 : Value, (∃ y1 : List Blk, ((Go.Rx.Found 1 (vi (3 : Int)) ({ h := [((0 : Nat), Blk.row true [IntKind.u64] ew nw cw fw)], next := (1 : Nat) }) (y0) (y1)) ∧ (K y0 y1)))); (T0 ∧ (q0 ∧ (T0 ∧ (if ((↑nw : Int) < (1 : Int)) then q1 else (q0 ∧ (T0 ∧ (if ((1601 : Int) < (↑nw : Int)) then q1 else ((q0 ∧ (@Eq Nat ((1 : Nat)) ((1 : Nat)))) ∧ ((((0 : Int) ≤ (0 : Int)) ∧ ((0 : Int) < (↑nw : Int))) ∧ ((Int.toNat (0 : Int) < nw) ∧ (T0 ∧ (if (@Eq Int (fw (Int.toNat (0 : Int)) (0 : Nat)) ((0 : Int))) then (∃ y0 : Value, (∃ y1 : List Blk, ((Go.Rx.Found 1 (vi (0 : Int)) ({ h := [((0 : Nat), Blk.row true [IntKind.u64] ew nw cw fw)], next := (1 : Nat) }) (y0) (y1)) ∧ (K y0 y1)))) else (∃ y0 : Value, (∃ y1 : List Blk, ((Go.Rx.Found 1 (vi (6 : Int)) ({ h := [((0 : Nat), Blk.row true [IntKind.u64] ew nw cw fw)], next := (1 : Nat) }) (y0) (y1)) ∧ (K y0 y1))))))))))))))))
theorem arC_rE (ew nw cw : Nat) (fw : RF) (K : Value → List Blk → Prop) : arC_rV ew nw cw fw K = bodyX (mk XZ) (callN (mk XZ) 6) (arC_rA ew nw cw fw) Try.f24 [rsl 0 0 nw cw] (stOf [.row true [.u64] ew nw cw fw]) (Fd 1 K) := by kernel_rfl
set_option tactic.hygienic false in
theorem arC_rP (ew nw cw : Nat) (fw : RF) (K : Value → List Blk → Prop)  (hnw : nw ≤ 100000) (hcw : nw ≤ cw) (h : K (.int .i64 (arE nw fw)) []) : arC_rV ew nw cw fw K := by
  unfold arC_rV
  conv => zeta
  have z0 := ar_cases nw fw
  repeat' (first | (with_reducible exact rfl) | (with_reducible exact trivial) | (with_reducible refine And.intro ?_ ?_) | (intro) | (with_reducible refine br_d (fun hq => ?_) (fun hq => ?_)) | (with_reducible refine br_nd (fun hq => ?_) (fun hq => ?_)) | (with_reducible refine br_intro (fun hq => ?_) (fun hq => ?_)) | (with_reducible refine if_both (fun hz => ?_) (fun hz => ?_)) | fail)

  all_goals first
    | (with_reducible assumption)
    | (refine (id ?_ : ∃ (v1 : Value) (news : List Blk), _)
       first
        | contradiction
        | exact fin0 (by kernel_rfl) (by kernel_rfl) h
        | exact fin0 (by kernel_rfl) (by kernel_rfl) (fin0i (by omega) h)
        | exact fin0 (by kernel_rfl) (by kernel_rfl) (fin0p (by omega) (by omega) h)
        | exact fin0 (by kernel_rfl) (by kernel_rfl) (fin0u (by omega) (by omega) h)
        | exact fin0 (by kernel_rfl) (by kernel_rfl) (fin0s (by omega) (by omega) (by omega) h)
        | exact fin0 (by kernel_rfl) (by kernel_rfl) (fin0n (by omega) h)
        | (exfalso; simp at hq; omega)
        | (exfalso; omega)
       )
    | omega
    | contradiction
    | exact fin0 (by kernel_rfl) (by kernel_rfl) h
    | exact fin0 (by kernel_rfl) (by kernel_rfl) (fin0i (by omega) h)
    | exact fin0 (by kernel_rfl) (by kernel_rfl) (fin0p (by omega) (by omega) h)
    | exact fin0 (by kernel_rfl) (by kernel_rfl) (fin0u (by omega) (by omega) h)
    | exact fin0 (by kernel_rfl) (by kernel_rfl) (fin0s (by omega) (by omega) (by omega) h)
    | exact fin0 (by kernel_rfl) (by kernel_rfl) (fin0n (by omega) h)
    | (exfalso; simp at hq; omega)
    | (exfalso; omega)
theorem arC_ok : BodyOk (mk XZ) 6 Try.f24 arC := by
  intro vs bs K hh hro
  clear hro
  unfold arC at hh
  split at hh
  · rename_i vw
    rcases parseQ_inv hh with ⟨rfl, hh0⟩ | ⟨ew, nw, cw, fw, btw, rfl, hnw, hcw, rfl, hh0⟩ <;> clear hh
    · obtain ⟨rfl, -, hc⟩ := hh0
      exact ⟨_, _, cast (arC_nE   K) (arC_nP   K   hc)⟩
    · obtain ⟨rfl, -, hc⟩ := hh0
      exact ⟨_, _, cast (arC_rE ew nw cw fw  K) (arC_rP ew nw cw fw  K hnw hcw  hc)⟩
  · exact hh.elim
theorem arC_told : Told 24 (specOf arC) := told (X := XZ) XZ_told (by kernel_rfl) (by kernel_rfl) (by kernel_rfl) arC_ok
def arK_nV  (K : Value → List Blk → Prop) : Prop := (T0 ∧ (TS ∧ (T0 ∧ (∃ y0 : Value, (∃ y1 : List Blk, ((Go.Rx.Found 0 (vi (3 : Int)) ({ h := [], next := (0 : Nat) }) (y0) (y1)) ∧ (K y0 y1)))))))
theorem arK_nE  (K : Value → List Blk → Prop) : arK_nV  K = bodyX (mk XZ) (callN (mk XZ) 6) (arK_nA ) Try.f25 [.slice none 0 0] (stOf []) (Fd 0 K) := by kernel_rfl
set_option tactic.hygienic false in
theorem arK_nP  (K : Value → List Blk → Prop)  (h : K (.int .i64 (arE 0 zF)) []) : arK_nV  K := by
  unfold arK_nV
  have z0 := ar_cases 0 zF
  repeat' (first | (with_reducible exact rfl) | (with_reducible exact trivial) | (with_reducible refine And.intro ?_ ?_) | (intro) | (with_reducible refine br_d (fun hq => ?_) (fun hq => ?_)) | (with_reducible refine br_nd (fun hq => ?_) (fun hq => ?_)) | (with_reducible refine br_intro (fun hq => ?_) (fun hq => ?_)) | (with_reducible refine if_both (fun hz => ?_) (fun hz => ?_)) | fail)

  all_goals first
    | (with_reducible assumption)
    | (refine (id ?_ : ∃ (v1 : Value) (news : List Blk), _)
       first
        | contradiction
        | exact fin0 (by kernel_rfl) (by kernel_rfl) h
        | exact fin0 (by kernel_rfl) (by kernel_rfl) (fin0i (by omega) h)
        | exact fin0 (by kernel_rfl) (by kernel_rfl) (fin0p (by omega) (by omega) h)
        | exact fin0 (by kernel_rfl) (by kernel_rfl) (fin0u (by omega) (by omega) h)
        | exact fin0 (by kernel_rfl) (by kernel_rfl) (fin0s (by omega) (by omega) (by omega) h)
        | exact fin0 (by kernel_rfl) (by kernel_rfl) (fin0n (by omega) h)
        | (exfalso; simp at hq; omega)
        | (exfalso; omega)
       )
    | omega
    | contradiction
    | exact fin0 (by kernel_rfl) (by kernel_rfl) h
    | exact fin0 (by kernel_rfl) (by kernel_rfl) (fin0i (by omega) h)
    | exact fin0 (by kernel_rfl) (by kernel_rfl) (fin0p (by omega) (by omega) h)
    | exact fin0 (by kernel_rfl) (by kernel_rfl) (fin0u (by omega) (by omega) h)
    | exact fin0 (by kernel_rfl) (by kernel_rfl) (fin0s (by omega) (by omega) (by omega) h)
    | exact fin0 (by kernel_rfl) (by kernel_rfl) (fin0n (by omega) h)
    | (exfalso; simp at hq; omega)
    | (exfalso; omega)
def arK_rV (ew nw cw : Nat) (fw : RF) (K : Value → List Blk → Prop) : Prop := let q0 := TS; let q1 := (∃ y0 : Value, (∃ y1 : List Blk, ((Go.Rx.Found 1 (vi (3 : Int)) ({ h := [((0 : Nat), Blk.row true [IntKind.u64] ew nw cw fw)], next := (1 : Nat) }) (y0) (y1)) ∧ (K y0 y1)))); (T0 ∧ (q0 ∧ (T0 ∧ (if ((↑nw : Int) < (1 : Int)) then q1 else (q0 ∧ (T0 ∧ (if ((1601 : Int) < (↑nw : Int)) then q1 else ((q0 ∧ (@Eq Nat ((1 : Nat)) ((1 : Nat)))) ∧ ((((0 : Int) ≤ (0 : Int)) ∧ ((0 : Int) < (↑nw : Int))) ∧ ((Int.toNat (0 : Int) < nw) ∧ (T0 ∧ (if (@Eq Int (fw (Int.toNat (0 : Int)) (0 : Nat)) ((0 : Int))) then (∃ y0 : Value, (∃ y1 : List Blk, ((Go.Rx.Found 1 (vi (0 : Int)) ({ h := [((0 : Nat), Blk.row true [IntKind.u64] ew nw cw fw)], next := (1 : Nat) }) (y0) (y1)) ∧ (K y0 y1)))) else (∃ y0 : Value, (∃ y1 : List Blk, ((Go.Rx.Found 1 (vi (6 : Int)) ({ h := [((0 : Nat), Blk.row true [IntKind.u64] ew nw cw fw)], next := (1 : Nat) }) (y0) (y1)) ∧ (K y0 y1))))))))))))))))
theorem arK_rE (ew nw cw : Nat) (fw : RF) (K : Value → List Blk → Prop) : arK_rV ew nw cw fw K = bodyX (mk XZ) (callN (mk XZ) 6) (arK_rA ew nw cw fw) Try.f25 [rsl 0 0 nw cw] (stOf [.row true [.u64] ew nw cw fw]) (Fd 1 K) := by kernel_rfl
set_option tactic.hygienic false in
theorem arK_rP (ew nw cw : Nat) (fw : RF) (K : Value → List Blk → Prop)  (hnw : nw ≤ 100000) (hcw : nw ≤ cw) (h : K (.int .i64 (arE nw fw)) []) : arK_rV ew nw cw fw K := by
  unfold arK_rV
  conv => zeta
  have z0 := ar_cases nw fw
  repeat' (first | (with_reducible exact rfl) | (with_reducible exact trivial) | (with_reducible refine And.intro ?_ ?_) | (intro) | (with_reducible refine br_d (fun hq => ?_) (fun hq => ?_)) | (with_reducible refine br_nd (fun hq => ?_) (fun hq => ?_)) | (with_reducible refine br_intro (fun hq => ?_) (fun hq => ?_)) | (with_reducible refine if_both (fun hz => ?_) (fun hz => ?_)) | fail)

  all_goals first
    | (with_reducible assumption)
    | (refine (id ?_ : ∃ (v1 : Value) (news : List Blk), _)
       first
        | contradiction
        | exact fin0 (by kernel_rfl) (by kernel_rfl) h
        | exact fin0 (by kernel_rfl) (by kernel_rfl) (fin0i (by omega) h)
        | exact fin0 (by kernel_rfl) (by kernel_rfl) (fin0p (by omega) (by omega) h)
        | exact fin0 (by kernel_rfl) (by kernel_rfl) (fin0u (by omega) (by omega) h)
        | exact fin0 (by kernel_rfl) (by kernel_rfl) (fin0s (by omega) (by omega) (by omega) h)
        | exact fin0 (by kernel_rfl) (by kernel_rfl) (fin0n (by omega) h)
        | (exfalso; simp at hq; omega)
        | (exfalso; omega)
       )
    | omega
    | contradiction
    | exact fin0 (by kernel_rfl) (by kernel_rfl) h
    | exact fin0 (by kernel_rfl) (by kernel_rfl) (fin0i (by omega) h)
    | exact fin0 (by kernel_rfl) (by kernel_rfl) (fin0p (by omega) (by omega) h)
    | exact fin0 (by kernel_rfl) (by kernel_rfl) (fin0u (by omega) (by omega) h)
    | exact fin0 (by kernel_rfl) (by kernel_rfl) (fin0s (by omega) (by omega) (by omega) h)
    | exact fin0 (by kernel_rfl) (by kernel_rfl) (fin0n (by omega) h)
    | (exfalso; simp at hq; omega)
    | (exfalso; omega)
theorem arK_ok : BodyOk (mk XZ) 6 Try.f25 arK := by
  intro vs bs K hh hro
  clear hro
  unfold arK at hh
  split at hh
  · rename_i vw
    rcases parseQ_inv hh with ⟨rfl, hh0⟩ | ⟨ew, nw, cw, fw, btw, rfl, hnw, hcw, rfl, hh0⟩ <;> clear hh
    · obtain ⟨rfl, -, hc⟩ := hh0
      exact ⟨_, _, cast (arK_nE   K) (arK_nP   K   hc)⟩
    · obtain ⟨rfl, -, hc⟩ := hh0
      exact ⟨_, _, cast (arK_rE ew nw cw fw  K) (arK_rP ew nw cw fw  K hnw hcw  hc)⟩
  · exact hh.elim
theorem arK_told : Told 25 (specOf arK) := told (X := XZ) XZ_told (by kernel_rfl) (by kernel_rfl) (by kernel_rfl) arK_ok
def hdC_zV (p : Int) (q : Int) (K : Value → List Blk → Prop) : Prop := let q0 := (9223372036854775807 : Int); let q1 := (-9223372036854775808 : Int); let q2 := (∃ y0 : Value, (∃ y1 : List Blk, ((Go.Rx.Found 0 (vi (7 : Int)) ({ h := [((0 : Nat), Blk.cells [vi p, vi q] (60 : Nat))], next := (1 : Nat) }) (y0) (y1)) ∧ (K y0 y1)))); let q3 := (∃ y0 : Value, (∃ y1 : List Blk, ((Go.Rx.Found 0 (vi (11 : Int)) ({ h := [((0 : Nat), Blk.cells [vi p, vi q] (60 : Nat))], next := (1 : Nat) }) (y0) (y1)) ∧ (K y0 y1)))); (t3 (if (p < (0 : Int)) then q2 else (t2 (if (q < (0 : Int)) then q2 else (t2 (if ((64 : Int) ≤ p) then q3 else (t2 (if ((64 : Int) ≤ q) then q3 else (t2 (((q1 ≤ (1 : Int) + p) ∧ ((1 : Int) + p ≤ q0)) ∧ (t2 (((q1 ≤ (1 : Int) + p + q) ∧ ((1 : Int) + p + q ≤ q0)) ∧ (T0 ∧ (if ((64 : Int) < (1 : Int) + p + q) then q3 else (∃ y0 : Value, (∃ y1 : List Blk, ((Go.Rx.Found 0 (vi (0 : Int)) ({ h := [((0 : Nat), Blk.cells [vi p, vi q] (60 : Nat))], next := (1 : Nat) }) (y0) (y1)) ∧ (K y0 y1))))))))))))))))))
theorem hdC_zE (p : Int) (q : Int) (K : Value → List Blk → Prop) : hdC_zV p q K = bodyX (mk XZ) (callN (mk XZ) 6) (hdC_zA p q) Try.f118 [.agg ⟨[.int .i64 p, .int .i64 q]⟩] (stOf []) (Fd 0 K) := by kernel_rfl
set_option tactic.hygienic false in
theorem hdC_zP (p : Int) (q : Int) (K : Value → List Blk → Prop)  (h : K (.int .i64 (sze p q)) []) : hdC_zV p q K := by
  unfold hdC_zV
  conv => zeta
  have z0 := sze_cases p q
  repeat' (first | (with_reducible exact rfl) | (with_reducible exact trivial) | (with_reducible refine And.intro ?_ ?_) | (intro) | (with_reducible refine br_d (fun hq => ?_) (fun hq => ?_)) | (with_reducible refine br_nd (fun hq => ?_) (fun hq => ?_)) | (with_reducible refine br_intro (fun hq => ?_) (fun hq => ?_)) | (with_reducible refine if_both (fun hz => ?_) (fun hz => ?_)) | fail)

  all_goals first
    | (with_reducible assumption)
    | (refine (id ?_ : ∃ (v1 : Value) (news : List Blk), _)
       first
        | contradiction
        | exact fin0 (by kernel_rfl) (by kernel_rfl) h
        | exact fin0 (by kernel_rfl) (by kernel_rfl) (fin0i (by omega) h)
        | exact fin0 (by kernel_rfl) (by kernel_rfl) (fin0p (by omega) (by omega) h)
        | exact fin0 (by kernel_rfl) (by kernel_rfl) (fin0u (by omega) (by omega) h)
        | exact fin0 (by kernel_rfl) (by kernel_rfl) (fin0s (by omega) (by omega) (by omega) h)
        | exact fin0 (by kernel_rfl) (by kernel_rfl) (fin0n (by omega) h)
        | (exfalso; simp at hq; omega)
        | (exfalso; omega)
       )
    | omega
    | contradiction
    | exact fin0 (by kernel_rfl) (by kernel_rfl) h
    | exact fin0 (by kernel_rfl) (by kernel_rfl) (fin0i (by omega) h)
    | exact fin0 (by kernel_rfl) (by kernel_rfl) (fin0p (by omega) (by omega) h)
    | exact fin0 (by kernel_rfl) (by kernel_rfl) (fin0u (by omega) (by omega) h)
    | exact fin0 (by kernel_rfl) (by kernel_rfl) (fin0s (by omega) (by omega) (by omega) h)
    | exact fin0 (by kernel_rfl) (by kernel_rfl) (fin0n (by omega) h)
    | (exfalso; simp at hq; omega)
    | (exfalso; omega)
theorem hdC_ok : BodyOk (mk XZ) 6 Try.f118 hdC := by
  intro vs bs K hh hro
  clear hro
  unfold hdC at hh
  split at hh
  · rename_i p q
    obtain ⟨rfl, -, hc⟩ := hh
    exact ⟨_, _, cast (hdC_zE  p q K) (hdC_zP  p q K   hc)⟩
  · exact hh.elim
theorem hdC_told : Told 118 (specOf hdC) := told (X := XZ) XZ_told (by kernel_rfl) (by kernel_rfl) (by kernel_rfl) hdC_ok
def hdK_zV (p : Int) (q : Int) (K : Value → List Blk → Prop) : Prop := let q0 := (9223372036854775807 : Int); let q1 := (-9223372036854775808 : Int); let q2 := (∃ y0 : Value, (∃ y1 : List Blk, ((Go.Rx.Found 0 (vi (7 : Int)) ({ h := [((0 : Nat), Blk.cells [vi p, vi q] (60 : Nat))], next := (1 : Nat) }) (y0) (y1)) ∧ (K y0 y1)))); let q3 := (∃ y0 : Value, (∃ y1 : List Blk, ((Go.Rx.Found 0 (vi (11 : Int)) ({ h := [((0 : Nat), Blk.cells [vi p, vi q] (60 : Nat))], next := (1 : Nat) }) (y0) (y1)) ∧ (K y0 y1)))); (t3 (if (p < (0 : Int)) then q2 else (t2 (if (q < (0 : Int)) then q2 else (t2 (if ((64 : Int) < p) then q3 else (t2 (if ((64 : Int) < q) then q3 else (t2 (((q1 ≤ (1 : Int) + p) ∧ ((1 : Int) + p ≤ q0)) ∧ (t2 (((q1 ≤ (1 : Int) + p + q) ∧ ((1 : Int) + p + q ≤ q0)) ∧ (T0 ∧ (if ((64 : Int) < (1 : Int) + p + q) then q3 else (∃ y0 : Value, (∃ y1 : List Blk, ((Go.Rx.Found 0 (vi (0 : Int)) ({ h := [((0 : Nat), Blk.cells [vi p, vi q] (60 : Nat))], next := (1 : Nat) }) (y0) (y1)) ∧ (K y0 y1))))))))))))))))))
theorem hdK_zE (p : Int) (q : Int) (K : Value → List Blk → Prop) : hdK_zV p q K = bodyX (mk XZ) (callN (mk XZ) 6) (hdK_zA p q) Try.f91 [.agg ⟨[.int .i64 p, .int .i64 q]⟩] (stOf []) (Fd 0 K) := by kernel_rfl
set_option tactic.hygienic false in
theorem hdK_zP (p : Int) (q : Int) (K : Value → List Blk → Prop)  (h : K (.int .i64 (sze p q)) []) : hdK_zV p q K := by
  unfold hdK_zV
  conv => zeta
  have z0 := sze_cases p q
  repeat' (first | (with_reducible exact rfl) | (with_reducible exact trivial) | (with_reducible refine And.intro ?_ ?_) | (intro) | (with_reducible refine br_d (fun hq => ?_) (fun hq => ?_)) | (with_reducible refine br_nd (fun hq => ?_) (fun hq => ?_)) | (with_reducible refine br_intro (fun hq => ?_) (fun hq => ?_)) | (with_reducible refine if_both (fun hz => ?_) (fun hz => ?_)) | fail)

  all_goals first
    | (with_reducible assumption)
    | (refine (id ?_ : ∃ (v1 : Value) (news : List Blk), _)
       first
        | contradiction
        | exact fin0 (by kernel_rfl) (by kernel_rfl) h
        | exact fin0 (by kernel_rfl) (by kernel_rfl) (fin0i (by omega) h)
        | exact fin0 (by kernel_rfl) (by kernel_rfl) (fin0p (by omega) (by omega) h)
        | exact fin0 (by kernel_rfl) (by kernel_rfl) (fin0u (by omega) (by omega) h)
        | exact fin0 (by kernel_rfl) (by kernel_rfl) (fin0s (by omega) (by omega) (by omega) h)
        | exact fin0 (by kernel_rfl) (by kernel_rfl) (fin0n (by omega) h)
        | (exfalso; simp at hq; omega)
        | (exfalso; omega)
       )
    | omega
    | contradiction
    | exact fin0 (by kernel_rfl) (by kernel_rfl) h
    | exact fin0 (by kernel_rfl) (by kernel_rfl) (fin0i (by omega) h)
    | exact fin0 (by kernel_rfl) (by kernel_rfl) (fin0p (by omega) (by omega) h)
    | exact fin0 (by kernel_rfl) (by kernel_rfl) (fin0u (by omega) (by omega) h)
    | exact fin0 (by kernel_rfl) (by kernel_rfl) (fin0s (by omega) (by omega) (by omega) h)
    | exact fin0 (by kernel_rfl) (by kernel_rfl) (fin0n (by omega) h)
    | (exfalso; simp at hq; omega)
    | (exfalso; omega)
theorem hdK_ok : BodyOk (mk XZ) 6 Try.f91 hdK := by
  intro vs bs K hh hro
  clear hro
  unfold hdK at hh
  split at hh
  · rename_i p q
    obtain ⟨rfl, -, hc⟩ := hh
    exact ⟨_, _, cast (hdK_zE  p q K) (hdK_zP  p q K   hc)⟩
  · exact hh.elim
theorem hdK_told : Told 91 (specOf hdK) := told (X := XZ) XZ_told (by kernel_rfl) (by kernel_rfl) (by kernel_rfl) hdK_ok
end Go.Proofs.Ytfgeoglegebncaa.Fr
namespace Go.Proofs.Ytfgeoglegebncaa.Fr
set_option maxRecDepth 100000
set_option maxHeartbeats 4000000
open Go.Rx
open Go.RowKit (Below)
set_option linter.unusedVariables false
@[reducible] def XC : List (Nat × Rx.Spec) := [(118, specOf hdC), (24, specOf arC)]
theorem XC_told : ∀ p ∈ XC, Told p.1 p.2 := by
  intro p hp
  simp only [List.mem_cons, List.not_mem_nil, or_false] at hp
  rcases hp with rfl | rfl
  · exact hdC_told
  · exact arC_told
@[reducible] def XK : List (Nat × Rx.Spec) := [(91, specOf hdK), (25, specOf arK)]
theorem XK_told : ∀ p ∈ XK, Told p.1 p.2 := by
  intro p hp
  simp only [List.mem_cons, List.not_mem_nil, or_false] at hp
  rcases hp with rfl | rfl
  · exact hdK_told
  · exact arK_told
def hdS : Con := fun vs bs K => match vs with
  | [.int .u64 v] => bs = [] ∧ ((0 ≤ v ∧ v ≤ 18446744073709551615)) ∧ (K (.tuple ⟨[.agg ⟨[.int .i64 (hsP v), .int .i64 (hsR v)]⟩, .int .i64 (hsE v)]⟩) [])
  | _ => False

def hdS_zA (v : Int) : Ann := fun _ _ _ => none
def hdS_zV (v : Int) (K : Value → List Blk → Prop) : Prop := let q0 := (9223372036854775807 : Int); let q1 := (-9223372036854775808 : Int); let q2 := (18446744073709551615 : Int); let q3 := (v / (256 : Int) % (256 : Int)); let q4 := (((0 : Int) ≤ (8 : Int)) ∧ ((8 : Int) ≤ (64 : Int))); let q5 := (((0 : Int) ≤ (16 : Int)) ∧ ((16 : Int) ≤ (64 : Int))); let q6 := (((255 : Int) ≤ q2) ∧ T0); let q7 := ((0 : Nat), Blk.cells [vi (0 : Int), vi (0 : Int)] (60 : Nat)); let q8 := ((q1 ≤ v / (65536 : Int)) ∧ (v / (65536 : Int) ≤ q0)); let q9 := (((0 : Int) ≤ v) ∧ ((v ≤ q2) ∧ q6)); let q10 := ((q1 ≤ v / (256 : Int) % (256 : Int)) ∧ (v / (256 : Int) % (256 : Int) ≤ q0)); let q11 := ((1 : Nat), Blk.cells [vi q3, vi (v / (65536 : Int))] (60 : Nat)); let q12 := (((0 : Int) ≤ v / (256 : Int)) ∧ ((v / (256 : Int) ≤ q2) ∧ q6)); let q13 := (t4 (∃ y0 : Value, (∃ y1 : List Blk, ((Go.Rx.Found 0 (Value.tuple { toList := [Value.agg { toList := [vi (0 : Int), vi (0 : Int)] }, vi (6 : Int)] }) ({ h := [q7], next := (1 : Nat) }) (y0) (y1)) ∧ (K y0 y1))))); let q14 := (t4 (∃ y0 : Value, (∃ y1 : List Blk, ((Go.Rx.Found 0 (Value.tuple { toList := [Value.agg { toList := [vi (0 : Int), vi (0 : Int)] }, vi (6 : Int)] }) ({ h := [q11, q7], next := (2 : Nat) }) (y0) (y1)) ∧ (K y0 y1))))); let q15 := (t2 (q9 ∧ (T0 ∧ (if (@Eq Int (v % (256 : Int)) ((2 : Int))) then (T0 ∧ (q4 ∧ (T0 ∧ (if ((1 : Int) ≤ v / (256 : Int)) then (T0 ∧ (q4 ∧ (T0 ∧ (if (v / (256 : Int) ≤ (1600 : Int)) then q13 else q13)))) else q13)))) else q13)))); (t5 (q9 ∧ (T0 ∧ (if (@Eq Int (v % (256 : Int)) ((1 : Int))) then (T0 ∧ (q5 ∧ (T0 ∧ (if (v / (65536 : Int) < (64 : Int)) then (t2 (q4 ∧ (T0 ∧ (q12 ∧ (q10 ∧ (T0 ∧ (q5 ∧ (q8 ∧ (t5 (eB ∧ ((True) ∧ (T0 ∧ (if (@Eq Int (sze q3 (v / (65536 : Int))) ((0 : Int))) then (t3 (q4 ∧ (T0 ∧ (q12 ∧ (q10 ∧ (T0 ∧ (q5 ∧ (q8 ∧ (t6 (∃ y0 : Value, (∃ y1 : List Blk, ((Go.Rx.Found 0 (Value.tuple { toList := [Value.agg { toList := [vi q3, vi (v / (65536 : Int))] }, vi (0 : Int)] }) ({ h := [((2 : Nat), Blk.cells [vi q3, vi (v / (65536 : Int))] (60 : Nat)), q11, ((0 : Nat), Blk.cells [vi q3, vi (v / (65536 : Int))] (60 : Nat))], next := (3 : Nat) }) (y0) (y1)) ∧ (K y0 y1))))))))))))) else (t2 (q9 ∧ (T0 ∧ (if (@Eq Int (v % (256 : Int)) ((2 : Int))) then (T0 ∧ (q4 ∧ (T0 ∧ (if ((1 : Int) ≤ v / (256 : Int)) then (T0 ∧ (q4 ∧ (T0 ∧ (if (v / (256 : Int) ≤ (1600 : Int)) then q14 else q14)))) else q14)))) else q14))))))))))))))))) else q15)))) else q15))))
theorem hdS_zE (v : Int) (K : Value → List Blk → Prop) : hdS_zV v K = bodyX (mk XC) (callN (mk XC) 6) (hdS_zA v) Try.f120 [.int .u64 v] (stOf []) (Fd 0 K) := by kernel_rfl
set_option tactic.hygienic false in
theorem hdS_zP (v : Int) (K : Value → List Blk → Prop)  (hv : 0 ≤ v ∧ v ≤ 18446744073709551615) (h : K (.tuple ⟨[.agg ⟨[.int .i64 (hsP v), .int .i64 (hsR v)]⟩, .int .i64 (hsE v)]⟩) []) : hdS_zV v K := by
  unfold hdS_zV
  conv => zeta
  have z0 := hs_cases v
  have z1 := sze_cases (v / 256 % 256) (v / 65536)
  repeat' (first | (with_reducible exact rfl) | (with_reducible exact trivial) | (with_reducible refine And.intro ?_ ?_) | (intro) | (with_reducible refine br_d (fun hq => ?_) (fun hq => ?_)) | (with_reducible refine br_nd (fun hq => ?_) (fun hq => ?_)) | (with_reducible refine br_intro (fun hq => ?_) (fun hq => ?_)) | (with_reducible refine if_both (fun hz => ?_) (fun hz => ?_)) | fail)

  all_goals first
    | (with_reducible assumption)
    | (refine (id ?_ : ∃ (v1 : Value) (news : List Blk), _)
       first
        | contradiction
        | exact fin0 (by kernel_rfl) (by kernel_rfl) h
        | exact fin0 (by kernel_rfl) (by kernel_rfl) (fin0i (by omega) h)
        | exact fin0 (by kernel_rfl) (by kernel_rfl) (fin0p (by omega) (by omega) h)
        | exact fin0 (by kernel_rfl) (by kernel_rfl) (fin0u (by omega) (by omega) h)
        | exact fin0 (by kernel_rfl) (by kernel_rfl) (fin0s (by omega) (by omega) (by omega) h)
        | exact fin0 (by kernel_rfl) (by kernel_rfl) (fin0n (by omega) h)
        | (exfalso; simp at hq; omega)
        | (exfalso; omega)
       )
    | omega
    | contradiction
    | exact fin0 (by kernel_rfl) (by kernel_rfl) h
    | exact fin0 (by kernel_rfl) (by kernel_rfl) (fin0i (by omega) h)
    | exact fin0 (by kernel_rfl) (by kernel_rfl) (fin0p (by omega) (by omega) h)
    | exact fin0 (by kernel_rfl) (by kernel_rfl) (fin0u (by omega) (by omega) h)
    | exact fin0 (by kernel_rfl) (by kernel_rfl) (fin0s (by omega) (by omega) (by omega) h)
    | exact fin0 (by kernel_rfl) (by kernel_rfl) (fin0n (by omega) h)
    | (exfalso; simp at hq; omega)
    | (exfalso; omega)
theorem hdS_ok : BodyOk (mk XC) 6 Try.f120 hdS := by
  intro vs bs K hh hro
  clear hro
  unfold hdS at hh
  split at hh
  · rename_i v
    obtain ⟨rfl, hv, hc⟩ := hh
    exact ⟨_, _, cast (hdS_zE  v K) (hdS_zP  v K  hv hc)⟩
  · exact hh.elim
theorem hdS_told : Told 120 (specOf hdS) := told (X := XC) XC_told (by kernel_rfl) (by kernel_rfl) (by kernel_rfl) hdS_ok
end Go.Proofs.Ytfgeoglegebncaa.Fr
namespace Go.Proofs.Ytfgeoglegebncaa.Fr
set_option maxRecDepth 100000
set_option maxHeartbeats 4000000
open Go.Rx
open Go.RowKit (Below)
set_option linter.unusedVariables false
theorem toNat_add {a x : Int} (ha : 0 ≤ a) (hx : 0 ≤ x) : a.toNat + x.toNat = (a + x).toNat := by omega
theorem hs_bd {v : Int} (h : 0 ≤ v) : 0 ≤ hsP v ∧ hsP v ≤ 63 ∧ 0 ≤ hsR v ∧ hsR v ≤ 63 ∧ hsP v + hsR v ≤ 63 := by
  have := hs_cases v
  omega
theorem Ok64.at {n : Nat} {f : RF} (h : Ok64 n f) {a : Int} (h1 : 0 ≤ a) (h2 : a < n) : 0 ≤ f (Int.toNat a) 0 ∧ f (Int.toNat a) 0 ≤ 18446744073709551615 := h.h _ (by omega)
/-- A pointer field, a raw field: the error, and the value. -/
def ptE (n : Nat) (f : RF) (a x : Int) : Int := if obE n f a = 0 then (if 0 ≤ x ∧ x < obP n f a then (if f (a + 1 + x).toNat 0 ≤ 1600 then 0 else 6) else 10) else obE n f a
def ptV (n : Nat) (f : RF) (a x : Int) : Int := if ptE n f a x = 0 then f (a + 1 + x).toNat 0 else 0
theorem pt_cases (n : Nat) (f : RF) (a x : Int) : (¬ obE n f a = 0 ∧ ptE n f a x = obE n f a ∧ ptV n f a x = 0) ∨ (obE n f a = 0 ∧ ptE n f a x = 10 ∧ ptV n f a x = 0 ∧ (x < 0 ∨ obP n f a ≤ x)) ∨ (obE n f a = 0 ∧ ptE n f a x = 6 ∧ ptV n f a x = 0 ∧ 0 ≤ x ∧ x < obP n f a ∧ 1600 < f (a + 1 + x).toNat 0) ∨
    (obE n f a = 0 ∧ ptE n f a x = 0 ∧ ptV n f a x = f (a + 1 + x).toNat 0 ∧ 0 ≤ x ∧ x < obP n f a ∧ f (a + 1 + x).toNat 0 ≤ 1600) := by
  by_cases h0 : obE n f a = 0
  · by_cases h1 : 0 ≤ x ∧ x < obP n f a
    · by_cases h2 : f (a + 1 + x).toNat 0 ≤ 1600
      · have e : ptE n f a x = 0 := by unfold ptE; rw [if_pos h0, if_pos h1, if_pos h2]
        exact .inr (.inr (.inr ⟨h0, e, if_pos e, h1.1, h1.2, h2⟩))
      · have e : ptE n f a x = 6 := by unfold ptE; rw [if_pos h0, if_pos h1, if_neg h2]
        exact .inr (.inr (.inl ⟨h0, e, if_neg (by omega), h1.1, h1.2, by omega⟩))
    · have e : ptE n f a x = 10 := by unfold ptE; rw [if_pos h0, if_neg h1]
      exact .inr (.inl ⟨h0, e, if_neg (by omega), by omega⟩)
  · have e : ptE n f a x = obE n f a := if_neg h0
    exact .inl ⟨h0, e, if_neg (by omega)⟩
def rwE (n : Nat) (f : RF) (a x : Int) : Int := if obE n f a = 0 then (if 0 ≤ x ∧ x < obR n f a then 0 else 10) else obE n f a
def rwV (n : Nat) (f : RF) (a x : Int) : Int := if rwE n f a x = 0 then f (a + 1 + obP n f a + x).toNat 0 else 0
theorem rw_cases (n : Nat) (f : RF) (a x : Int) : (¬ obE n f a = 0 ∧ rwE n f a x = obE n f a ∧ rwV n f a x = 0) ∨ (obE n f a = 0 ∧ rwE n f a x = 10 ∧ rwV n f a x = 0 ∧ (x < 0 ∨ obR n f a ≤ x)) ∨ (obE n f a = 0 ∧ rwE n f a x = 0 ∧ rwV n f a x = f (a + 1 + obP n f a + x).toNat 0 ∧ 0 ≤ x ∧ x < obR n f a) := by
  by_cases h0 : obE n f a = 0
  · by_cases h1 : 0 ≤ x ∧ x < obR n f a
    · have e : rwE n f a x = 0 := by unfold rwE; rw [if_pos h0, if_pos h1]
      exact .inr (.inr ⟨h0, e, if_pos e, h1⟩)
    · have e : rwE n f a x = 10 := by unfold rwE; rw [if_pos h0, if_neg h1]
      exact .inr (.inl ⟨h0, e, if_neg (by omega), by omega⟩)
  · have e : rwE n f a x = obE n f a := if_neg h0
    exact .inl ⟨h0, e, if_neg (by omega)⟩
/-- The error of a pointer that is set. -/
def spE (n : Nat) (f : RF) (a x t : Int) : Int := if obE n f a = 0 then (if 0 ≤ x ∧ x < obP n f a then (if 0 ≤ t ∧ t < n then 0 else 7) else 10) else obE n f a
theorem sp_cases (n : Nat) (f : RF) (a x t : Int) : (¬ obE n f a = 0 ∧ spE n f a x t = obE n f a) ∨ (obE n f a = 0 ∧ spE n f a x t = 10 ∧ (x < 0 ∨ obP n f a ≤ x)) ∨ (obE n f a = 0 ∧ spE n f a x t = 7 ∧ 0 ≤ x ∧ x < obP n f a ∧ ¬ (0 ≤ t ∧ t < n)) ∨ (obE n f a = 0 ∧ spE n f a x t = 0 ∧ 0 ≤ x ∧ x < obP n f a ∧ 0 ≤ t ∧ t < n) := by
  unfold spE
  repeat' split
  all_goals omega
@[reducible] def XO : List (Nat × Rx.Spec) := [(24, specOf arC), (120, specOf hdS)]
theorem XO_told : ∀ p ∈ XO, Told p.1 p.2 := by
  intro p hp
  simp only [List.mem_cons, List.not_mem_nil, or_false] at hp
  rcases hp with rfl | rfl
  · exact arC_told
  · exact hdS_told
def obS : Con := fun vs bs K => match vs with
  | [vw, .int .i64 a] => parseQ [.u64] 0 vw bs fun nw fw j0 bs0 => bs0 = [] ∧ ((Ok64 nw fw)) ∧ (K (.tuple ⟨[.agg ⟨[.int .i64 (obP nw fw a), .int .i64 (obR nw fw a)]⟩, .int .i64 (obE nw fw a)]⟩) [])
  | _ => False

def obS_nA (a : Int) : Ann := fun _ _ _ => none
def obS_rA (ew nw cw : Nat) (fw : RF) (a : Int) : Ann := fun _ _ _ => none
def obS_nV (a : Int) (K : Value → List Blk → Prop) : Prop := (t3 (eB ∧ ((True) ∧ (t9 (t2 (∃ y0 : Value, (∃ y1 : List Blk, ((Go.Rx.Found 0 (Value.tuple { toList := [Value.agg { toList := [vi (0 : Int), vi (0 : Int)] }, vi (3 : Int)] }) ({ h := [((2 : Nat), Blk.cells [vi (0 : Int), vi (0 : Int), vn, vi (0 : Int), vn] (118 : Nat)), ((1 : Nat), Blk.cells [vi (0 : Int), vi (0 : Int), vn, vi (0 : Int), vn] (118 : Nat)), ((0 : Nat), Blk.cells [vi (0 : Int), vi (0 : Int)] (60 : Nat))], next := (3 : Nat) }) (y0) (y1)) ∧ (K y0 y1)))))))))
theorem obS_nE (a : Int) (K : Value → List Blk → Prop) : obS_nV a K = bodyX (mk XO) (callN (mk XO) 6) (obS_nA a) Try.f46 [.slice none 0 0, .int .i64 a] (stOf []) (Fd 0 K) := by kernel_rfl
set_option tactic.hygienic false in
theorem obS_nP (a : Int) (K : Value → List Blk → Prop)  (hU : Ok64 0 zF) (h : K (.tuple ⟨[.agg ⟨[.int .i64 (obP 0 zF a), .int .i64 (obR 0 zF a)]⟩, .int .i64 (obE 0 zF a)]⟩) []) : obS_nV a K := by
  unfold obS_nV
  have z0 := ob_cases hU a
  have z1 := fun (h1 : 0 ≤ a) (h2 : a < 0) => hU.at h1 h2
  have z2 := fun (h1 : 0 ≤ a) (h2 : a < 0) => hs_bd (hU.at h1 h2).1
  repeat' (first | (with_reducible exact rfl) | (with_reducible exact trivial) | (with_reducible refine And.intro ?_ ?_) | (intro) | (with_reducible refine br_d (fun hq => ?_) (fun hq => ?_)) | (with_reducible refine br_nd (fun hq => ?_) (fun hq => ?_)) | (with_reducible refine br_intro (fun hq => ?_) (fun hq => ?_)) | (with_reducible refine if_both (fun hz => ?_) (fun hz => ?_)) | fail)

  all_goals first
    | (with_reducible assumption)
    | (refine (id ?_ : ∃ (v1 : Value) (news : List Blk), _)
       first
        | contradiction
        | exact fin0 (by kernel_rfl) (by kernel_rfl) h
        | exact fin0 (by kernel_rfl) (by kernel_rfl) (fin0i (by omega) h)
        | exact fin0 (by kernel_rfl) (by kernel_rfl) (fin0p (by omega) (by omega) h)
        | exact fin0 (by kernel_rfl) (by kernel_rfl) (fin0u (by omega) (by omega) h)
        | exact fin0 (by kernel_rfl) (by kernel_rfl) (fin0s (by omega) (by omega) (by omega) h)
        | exact fin0 (by kernel_rfl) (by kernel_rfl) (fin0n (by omega) h)
        | (exfalso; simp at hq; omega)
        | (exfalso; omega)
       )
    | omega
    | contradiction
    | exact fin0 (by kernel_rfl) (by kernel_rfl) h
    | exact fin0 (by kernel_rfl) (by kernel_rfl) (fin0i (by omega) h)
    | exact fin0 (by kernel_rfl) (by kernel_rfl) (fin0p (by omega) (by omega) h)
    | exact fin0 (by kernel_rfl) (by kernel_rfl) (fin0u (by omega) (by omega) h)
    | exact fin0 (by kernel_rfl) (by kernel_rfl) (fin0s (by omega) (by omega) (by omega) h)
    | exact fin0 (by kernel_rfl) (by kernel_rfl) (fin0n (by omega) h)
    | (exfalso; simp at hq; omega)
    | (exfalso; omega)
def obS_rV (ew nw cw : Nat) (fw : RF) (a : Int) (K : Value → List Blk → Prop) : Prop := let q0 := eB; let q1 := (9223372036854775807 : Int); let q2 := (fw (Int.toNat a) (0 : Nat)); let q3 := (-9223372036854775808 : Int); let q4 := (@Eq Nat ((1 : Nat)) ((1 : Nat))); let q5 := (hsP q2); let q6 := (hsR q2); let q7 := TS; let q8 := (a + (1 : Int) + hsP q2); let q9 := ((0 : Nat), Blk.row true [IntKind.u64] ew nw cw fw); let q10 := (Int.toNat (a + (1 : Int) + hsP q2 - (a + (1 : Int)))); let q11 := (a + (1 : Int) + hsP q2 + hsR q2); let q12 := ((1 : Nat), Blk.cells [vi (0 : Int), vi (0 : Int)] (60 : Nat)); let q13 := ((4 : Nat), Blk.cells [vi q5, vi q6] (60 : Nat)); let q14 := (Int.toNat (a + (1 : Int) + hsP q2 + hsR q2 - q8)); let q15 := ((3 : Nat), Blk.cells [vi (0 : Int), vi (0 : Int), vn, vi (0 : Int), vn] (118 : Nat)); let q16 := ((2 : Nat), Blk.cells [vi (0 : Int), vi (0 : Int), vn, vi (0 : Int), vn] (118 : Nat)); let q17 := (t9 (t4 (∃ y0 : Value, (∃ y1 : List Blk, ((Go.Rx.Found 1 (Value.tuple { toList := [Value.agg { toList := [vi (0 : Int), vi (0 : Int)] }, vi (7 : Int)] }) ({ h := [((4 : Nat), Blk.cells [vi (0 : Int), vi (0 : Int), vn, vi (0 : Int), vn] (118 : Nat)), q15, q16, q12, q9], next := (5 : Nat) }) (y0) (y1)) ∧ (K y0 y1)))))); let q18 := (t9 (t4 (∃ y0 : Value, (∃ y1 : List Blk, ((Go.Rx.Found 1 (Value.tuple { toList := [Value.agg { toList := [vi (0 : Int), vi (0 : Int)] }, vi (6 : Int)] }) ({ h := [((5 : Nat), Blk.cells [vi (0 : Int), vi (0 : Int), vn, vi (0 : Int), vn] (118 : Nat)), q13, q15, q16, q12, q9], next := (6 : Nat) }) (y0) (y1)) ∧ (K y0 y1)))))); (t2 (((0 : Nat) + nw ≤ nw) ∧ (((@Eq Nat ((0 : Nat)) ((0 : Nat))) ∧ ((nw ≤ (100000 : Nat)) ∧ (nw ≤ cw))) ∧ (((@Eq (List IntKind) ([IntKind.u64]) ([IntKind.u64])) ∧ ((@Eq Nat (nw) (nw)) ∧ (@Eq Nat (cw) (cw)))) ∧ (q0 ∧ ((True) ∧ (T0 ∧ (if (@Eq Int (arE nw fw) ((0 : Int))) then (t2 (if (a < (1 : Int)) then q17 else (q7 ∧ (T0 ∧ (if ((↑nw : Int) ≤ a) then q17 else ((q7 ∧ q4) ∧ ((((0 : Int) ≤ a) ∧ (a < (↑nw : Int))) ∧ ((Int.toNat a < nw) ∧ (T0 ∧ (q0 ∧ ((((0 : Int) ≤ fw (Int.toNat a) (0 : Nat)) ∧ (fw (Int.toNat a) (0 : Nat) ≤ (18446744073709551615 : Int))) ∧ (t3 (if (@Eq Int (hsE q2) ((0 : Int))) then (t3 (((q3 ≤ hsP q2 + hsR q2) ∧ (hsP q2 + hsR q2 ≤ q1)) ∧ (q7 ∧ (T0 ∧ (((q3 ≤ (↑nw : Int) - a) ∧ ((↑nw : Int) - a ≤ q1)) ∧ (T0 ∧ (if ((↑nw : Int) - a ≤ hsP q2 + hsR q2) then q18 else (T0 ∧ (((q3 ≤ a + (1 : Int)) ∧ (a + (1 : Int) ≤ q1)) ∧ (t2 (((q3 ≤ a + (1 : Int) + hsP q2) ∧ (a + (1 : Int) + hsP q2 ≤ q1)) ∧ (t2 (((q3 ≤ a + (1 : Int) + hsP q2 + hsR q2) ∧ (a + (1 : Int) + hsP q2 + hsR q2 ≤ q1)) ∧ (t8 (q7 ∧ (t4 (q4 ∧ ((((0 : Int) ≤ a + (1 : Int)) ∧ ((a + (1 : Int) ≤ a + (1 : Int) + hsP q2) ∧ ((a + (1 : Int) + hsP q2 ≤ a + (1 : Int) + hsP q2) ∧ (a + (1 : Int) + hsP q2 ≤ (↑cw : Int))))) ∧ ((@Eq Int q8 q8) ∧ (t8 (q7 ∧ (t4 (q4 ∧ ((((0 : Int) ≤ a + (1 : Int) + hsP q2) ∧ ((a + (1 : Int) + hsP q2 ≤ a + (1 : Int) + hsP q2 + hsR q2) ∧ ((a + (1 : Int) + hsP q2 + hsR q2 ≤ a + (1 : Int) + hsP q2 + hsR q2) ∧ (a + (1 : Int) + hsP q2 + hsR q2 ≤ (↑cw : Int))))) ∧ ((@Eq Int q11 q11) ∧ (t9 (t7 (∃ y0 : Value, (∃ y1 : List Blk, ((Go.Rx.Found 1 (Value.tuple { toList := [Value.agg { toList := [vi q5, vi q6] }, vi (0 : Int)] }) ({ h := [((5 : Nat), Blk.cells [vi q5, vi q6, Value.slice (some { block := (0 : Nat), off := (0 : Nat), spot := some (Nat.succ (Nat.succ (Int.toNat (a + (1 : Int))))) }) q10 q10, vi (a + (1 : Int)), Value.slice (some { block := (0 : Nat), off := (0 : Nat), spot := some (Nat.succ (Nat.succ (Int.toNat q8))) }) q14 q14] (118 : Nat)), q13, ((3 : Nat), Blk.cells [vi q5, vi q6, Value.slice (some { block := (0 : Nat), off := (0 : Nat), spot := some (Nat.succ (Nat.succ (Int.toNat (a + (1 : Int))))) }) q10 q10, vi (a + (1 : Int)), Value.slice (some { block := (0 : Nat), off := (0 : Nat), spot := some (Nat.succ (Nat.succ (Int.toNat q8))) }) q14 q14] (118 : Nat)), ((2 : Nat), Blk.cells [vi q5, vi q6, Value.slice (some { block := (0 : Nat), off := (0 : Nat), spot := some (Nat.succ (Nat.succ (Int.toNat (a + (1 : Int))))) }) q10 q10, vi (a + (1 : Int)), Value.slice (some { block := (0 : Nat), off := (0 : Nat), spot := some (Nat.succ (Nat.succ (Int.toNat q8))) }) q14 q14] (118 : Nat)), ((1 : Nat), Blk.cells [vi q5, vi q6] (60 : Nat)), q9], next := (6 : Nat) }) (y0) (y1)) ∧ (K y0 y1))))))))))))))))))))))))))))))) else q18))))))))))))) else (t9 (T0 ∧ (∃ y0 : Value, (∃ y1 : List Blk, ((Go.Rx.Found 1 (Value.tuple { toList := [Value.agg { toList := [vi (0 : Int), vi (0 : Int)] }, vi (arE nw fw)] }) ({ h := [q15, q16, q12, q9], next := (4 : Nat) }) (y0) (y1)) ∧ (K y0 y1))))))))))))))
theorem obS_rE (ew nw cw : Nat) (fw : RF) (a : Int) (K : Value → List Blk → Prop) : obS_rV ew nw cw fw a K = bodyX (mk XO) (callN (mk XO) 6) (obS_rA ew nw cw fw a) Try.f46 [rsl 0 0 nw cw, .int .i64 a] (stOf [.row true [.u64] ew nw cw fw]) (Fd 1 K) := by kernel_rfl
set_option tactic.hygienic false in
theorem obS_rP (ew nw cw : Nat) (fw : RF) (a : Int) (K : Value → List Blk → Prop)  (hnw : nw ≤ 100000) (hcw : nw ≤ cw) (hU : Ok64 nw fw) (h : K (.tuple ⟨[.agg ⟨[.int .i64 (obP nw fw a), .int .i64 (obR nw fw a)]⟩, .int .i64 (obE nw fw a)]⟩) []) : obS_rV ew nw cw fw a K := by
  unfold obS_rV
  conv => zeta
  have z0 := ob_cases hU a
  have z1 := fun (h1 : 0 ≤ a) (h2 : a < nw) => hU.at h1 h2
  have z2 := fun (h1 : 0 ≤ a) (h2 : a < nw) => hs_bd (hU.at h1 h2).1
  repeat' (first | (with_reducible exact rfl) | (with_reducible exact trivial) | (with_reducible refine And.intro ?_ ?_) | (intro) | (with_reducible refine br_d (fun hq => ?_) (fun hq => ?_)) | (with_reducible refine br_nd (fun hq => ?_) (fun hq => ?_)) | (with_reducible refine br_intro (fun hq => ?_) (fun hq => ?_)) | (with_reducible refine if_both (fun hz => ?_) (fun hz => ?_)) | fail)

  all_goals first
    | (with_reducible assumption)
    | (refine (id ?_ : ∃ (v1 : Value) (news : List Blk), _)
       first
        | contradiction
        | exact fin0 (by kernel_rfl) (by kernel_rfl) h
        | exact fin0 (by kernel_rfl) (by kernel_rfl) (fin0i (by omega) h)
        | exact fin0 (by kernel_rfl) (by kernel_rfl) (fin0p (by omega) (by omega) h)
        | exact fin0 (by kernel_rfl) (by kernel_rfl) (fin0u (by omega) (by omega) h)
        | exact fin0 (by kernel_rfl) (by kernel_rfl) (fin0s (by omega) (by omega) (by omega) h)
        | exact fin0 (by kernel_rfl) (by kernel_rfl) (fin0n (by omega) h)
        | (exfalso; simp at hq; omega)
        | (exfalso; omega)
       )
    | omega
    | contradiction
    | exact fin0 (by kernel_rfl) (by kernel_rfl) h
    | exact fin0 (by kernel_rfl) (by kernel_rfl) (fin0i (by omega) h)
    | exact fin0 (by kernel_rfl) (by kernel_rfl) (fin0p (by omega) (by omega) h)
    | exact fin0 (by kernel_rfl) (by kernel_rfl) (fin0u (by omega) (by omega) h)
    | exact fin0 (by kernel_rfl) (by kernel_rfl) (fin0s (by omega) (by omega) (by omega) h)
    | exact fin0 (by kernel_rfl) (by kernel_rfl) (fin0n (by omega) h)
    | (exfalso; simp at hq; omega)
    | (exfalso; omega)
theorem obS_ok : BodyOk (mk XO) 6 Try.f46 obS := by
  intro vs bs K hh hro
  clear hro
  unfold obS at hh
  split at hh
  · rename_i vw a
    rcases parseQ_inv hh with ⟨rfl, hh0⟩ | ⟨ew, nw, cw, fw, btw, rfl, hnw, hcw, rfl, hh0⟩ <;> clear hh
    · obtain ⟨rfl, hU, hc⟩ := hh0
      exact ⟨_, _, cast (obS_nE  a K) (obS_nP  a K  hU hc)⟩
    · obtain ⟨rfl, hU, hc⟩ := hh0
      exact ⟨_, _, cast (obS_rE ew nw cw fw a K) (obS_rP ew nw cw fw a K hnw hcw hU hc)⟩
  · exact hh.elim
theorem obS_told : Told 46 (specOf obS) := told (X := XO) XO_told (by kernel_rfl) (by kernel_rfl) (by kernel_rfl) obS_ok
end Go.Proofs.Ytfgeoglegebncaa.Fr
namespace Go.Proofs.Ytfgeoglegebncaa.Fr
set_option maxRecDepth 100000
set_option maxHeartbeats 4000000
open Go.Rx
open Go.RowKit (Below)
set_option linter.unusedVariables false
theorem app_nil {f : RF} : appF (fun _ _ => 0) 0 f 0 = f := by
  funext i j
  simp [appF]
/-- An object that is made. -/
def mkF (f : RF) (a m : Nat) (v : Int) : RF := fun i _ => if i = a then v else if a < i ∧ i < a + m then 0 else f i 0
end Go.Proofs.Ytfgeoglegebncaa.Fr
namespace Go.Proofs.Ytfgeoglegebncaa.Fr
set_option maxRecDepth 100000
set_option maxHeartbeats 4000000
open Go.Rx
open Go.RowKit (Below)
set_option linter.unusedVariables false
def idR (b n : Nat) : List (Nat × Nat) := (List.range' b (n - b)).map fun i => (i, i)
end Go.Proofs.Ytfgeoglegebncaa.Fr
namespace Go.Proofs.Ytfgeoglegebncaa.Fr
set_option maxRecDepth 100000
set_option maxHeartbeats 4000000
open Go.Rx
open Go.RowKit (Below)
set_option linter.unusedVariables false
def spOB : Con := fun vs bs K => match vs with
  | [vw, .int .i64 a, .int .i64 x, .int .i64 t] => parseQ [.u64] 0 vw bs fun nw fw j0 bs0 => bs0 = [] ∧ ((Ok64 nw fw) ∧ (¬ spE nw fw a x t = 0)) ∧ (K (.tuple ⟨[.slice none 0 0, .int .i64 (spE nw fw a x t)]⟩) [])
  | _ => False

def spOB_nA (a : Int) (x : Int) (t : Int) : Ann := fun _ _ _ => none
def spOB_rA (ew nw cw : Nat) (fw : RF) (a : Int) (x : Int) (t : Int) : Ann := fun _ _ _ => none
def spOG : Con := fun vs bs K => match vs with
  | [vw, .int .i64 a, .int .i64 x, .int .i64 t] => parseRQ [.u64] 0 vw bs fun nw fw j0 bs0 => bs0 = [] ∧ ((Ok64 nw fw) ∧ (spE nw fw a x t = 0)) ∧ (∀ cp, nw ≤ cp → K (.tuple ⟨[rsl j0 0 (nw) cp, .int .i64 (0)]⟩) [.row false [.u64] 25 (nw) cp (setF fw (Int.toNat (a + 1 + x)) t)])
  | _ => False

def spOG_rA (ew nw cw : Nat) (fw : RF) (a : Int) (x : Int) (t : Int) : Ann := fun _ _ _ => none
def spOB_nV (a : Int) (x : Int) (t : Int) (K : Value → List Blk → Prop) : Prop := (t3 (eB ∧ ((True) ∧ (t7 (∃ y0 : Value, (∃ y1 : List Blk, ((Go.Rx.Found 0 (Value.tuple { toList := [vn, vi (3 : Int)] }) ({ h := [((1 : Nat), Blk.cells [vi (0 : Int), vi (0 : Int), vn, vi (0 : Int), vn] (118 : Nat)), ((0 : Nat), Blk.cells [vi (0 : Int), vi (0 : Int), vn, vi (0 : Int), vn] (118 : Nat))], next := (2 : Nat) }) (y0) (y1)) ∧ (K y0 y1))))))))
theorem spOB_nE (a : Int) (x : Int) (t : Int) (K : Value → List Blk → Prop) : spOB_nV a x t K = bodyX (mk XO) (callN (mk XO) 9) (spOB_nA a x t) Try.f60 [.slice none 0 0, .int .i64 a, .int .i64 x, .int .i64 t] (stOf []) (Fd 0 K) := by kernel_rfl
set_option tactic.hygienic false in
theorem spOB_nP (a : Int) (x : Int) (t : Int) (K : Value → List Blk → Prop)  (hU : Ok64 0 zF) (h1 : ¬ spE 0 zF a x t = 0) (h : K (.tuple ⟨[.slice none 0 0, .int .i64 (spE 0 zF a x t)]⟩) []) : spOB_nV a x t K := by
  unfold spOB_nV
  have z0 := ar_cases 0 zF
  have z1 := ob_cases hU a
  have z2 := fun (h1 : 0 ≤ a) (h2 : a < 0) => hU.at h1 h2
  have z3 := fun (h1 : 0 ≤ a) (h2 : a < 0) => hs_bd (hU.at h1 h2).1
  have z4 := sp_cases 0 zF a x t
  repeat' (first | (with_reducible exact rfl) | (with_reducible exact trivial) | (with_reducible refine And.intro ?_ ?_) | (intro) | (with_reducible refine br_d (fun hq => ?_) (fun hq => ?_)) | (with_reducible refine br_nd (fun hq => ?_) (fun hq => ?_)) | (with_reducible refine br_intro (fun hq => ?_) (fun hq => ?_)) | (with_reducible refine if_both (fun hz => ?_) (fun hz => ?_)) | fail)

  all_goals first
    | (with_reducible assumption)
    | (refine (id ?_ : ∃ (v1 : Value) (news : List Blk), _)
       first
        | contradiction
        | exact fin0 (by kernel_rfl) (by kernel_rfl) h
        | exact fin0 (by kernel_rfl) (by kernel_rfl) (fin0i (by omega) h)
        | exact fin0 (by kernel_rfl) (by kernel_rfl) (fin0p (by omega) (by omega) h)
        | exact fin0 (by kernel_rfl) (by kernel_rfl) (fin0u (by omega) (by omega) h)
        | exact fin0 (by kernel_rfl) (by kernel_rfl) (fin0s (by omega) (by omega) (by omega) h)
        | exact fin0 (by kernel_rfl) (by kernel_rfl) (fin0n (by omega) h)
        | (exfalso; simp at hq; omega)
        | (exfalso; omega)
       )
    | omega
    | contradiction
    | exact fin0 (by kernel_rfl) (by kernel_rfl) h
    | exact fin0 (by kernel_rfl) (by kernel_rfl) (fin0i (by omega) h)
    | exact fin0 (by kernel_rfl) (by kernel_rfl) (fin0p (by omega) (by omega) h)
    | exact fin0 (by kernel_rfl) (by kernel_rfl) (fin0u (by omega) (by omega) h)
    | exact fin0 (by kernel_rfl) (by kernel_rfl) (fin0s (by omega) (by omega) (by omega) h)
    | exact fin0 (by kernel_rfl) (by kernel_rfl) (fin0n (by omega) h)
    | (exfalso; simp at hq; omega)
    | (exfalso; omega)
def spOB_rV (ew nw cw : Nat) (fw : RF) (a : Int) (x : Int) (t : Int) (K : Value → List Blk → Prop) : Prop := let q0 := ((0 : Nat) + nw ≤ nw); let q1 := (nw ≤ (100000 : Nat)); let q2 := (decide ((0 : Nat) < nw)); let q3 := eB; let q4 := (List.length [IntKind.u64]); let q5 := ((0 : Int) ≤ a + (1 : Int)); let q6 := (9223372036854775807 : Int); let q7 := (18446744073709551615 : Int); let q8 := (-9223372036854775808 : Int); let q9 := (fw (Int.toNat a) (0 : Nat)); let q10 := (@Eq Nat ((0 : Nat)) ((0 : Nat))); let q11 := (@Eq Nat ((1 : Nat)) ((1 : Nat))); let q12 := (hsP q9); let q13 := (hsR q9); let q14 := (((0 : Int) ≤ a) ∧ (a < (↑nw : Int))); let q15 := (litF q4 []); let q16 := TS; let q17 := (Int.toNat (a + (1 : Int)) + Int.toNat x < nw); let q18 := (Nat.succ (Nat.succ (Int.toNat (a + (1 : Int))))); let q19 := (a + (1 : Int) + hsP q9); let q20 := ((0 : Nat), Blk.row true [IntKind.u64] ew nw cw fw); let q21 := ((3 : Nat), Blk.cells [vn] (112 : Nat)); let q22 := (appF (fun x x_1 ↦ (0 : Int)) (0 : Nat) fw (0 : Nat) (Int.toNat a) (0 : Nat)); let q23 := (q16 ∧ q11); let q24 := (Int.toNat (a + (1 : Int) + hsP q9 - (a + (1 : Int)))); let q25 := (hsP q22); let q26 := (hsR q22); let q27 := (a + (1 : Int) + hsP q9 + hsR q9); let q28 := ((q8 ≤ a + (1 : Int)) ∧ (a + (1 : Int) ≤ q6)); let q29 := (a + (1 : Int) + hsP q22); let q30 := ((q8 ≤ (↑nw : Int) - a) ∧ ((↑nw : Int) - a ≤ q6)); let q31 := ((0 : Int) ≤ a + (1 : Int) + hsP q22); let q32 := (a + (1 : Int) ≤ a + (1 : Int) + hsP q22); let q33 := (Int.toNat (a + (1 : Int) + hsP q22 - (a + (1 : Int)))); let q34 := (Nat.succ (Nat.succ (Int.toNat q29))); let q35 := (putF (appF (fun x x_1 ↦ (0 : Int)) (0 : Nat) fw (0 : Nat)) (Int.toNat (a + (1 : Int)) + Int.toNat x) (0 : Nat) (t % (18446744073709551616 : Int))); let q36 := ((3 : Nat), Blk.cells [vi q12, vi q13] (60 : Nat)); let q37 := (Int.toNat (a + (1 : Int) + hsP q9 + hsR q9 - q19)); let q38 := (((0 : Int) ≤ x) ∧ (x < (↑q33 : Int))); let q39 := (a + (1 : Int) + hsP q22 + hsR q22); let q40 := (t9 (T0 ∧ (False))); let q41 := (a + (1 : Int) + hsP q22 ≤ a + (1 : Int) + hsP q22); let q42 := (((0 : Int) ≤ appF (fun x x_1 ↦ (0 : Int)) (0 : Nat) fw (0 : Nat) (Int.toNat a) (0 : Nat)) ∧ (appF (fun x x_1 ↦ (0 : Int)) (0 : Nat) fw (0 : Nat) (Int.toNat a) (0 : Nat) ≤ q7)); let q43 := (@Eq Int q29 q29); let q44 := ((2 : Nat), Blk.cells [vi (0 : Int), vi (0 : Int), vn, vi (0 : Int), vn] (118 : Nat)); let q45 := ((1 : Nat), Blk.cells [vi (0 : Int), vi (0 : Int), vn, vi (0 : Int), vn] (118 : Nat)); let q46 := ((q8 ≤ a + (1 : Int) + hsP q22) ∧ (a + (1 : Int) + hsP q22 ≤ q6)); let q47 := (a + (1 : Int) + hsP q22 ≤ a + (1 : Int) + hsP q22 + hsR q22); let q48 := (Int.toNat (a + (1 : Int) + hsP q22 + hsR q22 - q29)); let q49 := ((5 : Nat), Blk.cells [Value.slice (some { block := (0 : Nat), off := (0 : Nat), spot := some q18 }) q24 q24] (112 : Nat)); let q50 := (a + (1 : Int) + hsP q22 + hsR q22 ≤ a + (1 : Int) + hsP q22 + hsR q22); let q51 := (@Eq Int q39 q39); let q52 := ((q8 ≤ hsP q22 + hsR q22) ∧ (hsP q22 + hsR q22 ≤ q6)); let q53 := ((q8 ≤ a + (1 : Int) + hsP q22 + hsR q22) ∧ (a + (1 : Int) + hsP q22 + hsR q22 ≤ q6)); let q54 := (∃ y0 : Value, (∃ y1 : List Blk, ((Go.Rx.Found 1 (Value.tuple { toList := [vn, vi (7 : Int)] }) ({ h := [q21, q44, q45, q20], next := (4 : Nat) }) (y0) (y1)) ∧ (K y0 y1)))); let q55 := (∃ y0 : Value, (∃ y1 : List Blk, ((Go.Rx.Found 1 (Value.tuple { toList := [vn, vi (10 : Int)] }) ({ h := [q21, q44, q45, q20], next := (4 : Nat) }) (y0) (y1)) ∧ (K y0 y1)))); let q56 := ((4 : Nat), Blk.cells [vi q12, vi q13, Value.slice (some { block := (0 : Nat), off := (0 : Nat), spot := some q18 }) q24 q24, vi (a + (1 : Int)), Value.slice (some { block := (0 : Nat), off := (0 : Nat), spot := some (Nat.succ (Nat.succ (Int.toNat q19))) }) q37 q37] (118 : Nat)); let q57 := ((2 : Nat), Blk.cells [vi q12, vi q13, Value.slice (some { block := (0 : Nat), off := (0 : Nat), spot := some q18 }) q24 q24, vi (a + (1 : Int)), Value.slice (some { block := (0 : Nat), off := (0 : Nat), spot := some (Nat.succ (Nat.succ (Int.toNat q19))) }) q37 q37] (118 : Nat)); let q58 := ((1 : Nat), Blk.cells [vi q12, vi q13, Value.slice (some { block := (0 : Nat), off := (0 : Nat), spot := some q18 }) q24 q24, vi (a + (1 : Int)), Value.slice (some { block := (0 : Nat), off := (0 : Nat), spot := some (Nat.succ (Nat.succ (Int.toNat q19))) }) q37 q37] (118 : Nat)); let q59 := (t9 (∃ y0 : Value, (∃ y1 : List Blk, ((Go.Rx.Found 1 (Value.tuple { toList := [vn, vi (7 : Int)] }) ({ h := [((3 : Nat), Blk.cells [vi (0 : Int), vi (0 : Int), vn, vi (0 : Int), vn] (118 : Nat)), q44, q45, q20], next := (4 : Nat) }) (y0) (y1)) ∧ (K y0 y1))))); let q60 := (t2 (if (a < (1 : Int)) then q40 else (q16 ∧ (T0 ∧ (if ((↑(0 : Nat) : Int) ≤ a) then q40 else (q23 ∧ ((((0 : Int) ≤ a) ∧ (a < (↑(0 : Nat) : Int))) ∧ ((Int.toNat a < (0 : Nat)) ∧ (T0 ∧ (q3 ∧ ((((0 : Int) ≤ litF q4 [] (Int.toNat a) (0 : Nat)) ∧ (litF q4 [] (Int.toNat a) (0 : Nat) ≤ q7)) ∧ (t3 q40)))))))))))); let q61 := (t9 (∃ y0 : Value, (∃ y1 : List Blk, ((Go.Rx.Found 1 (Value.tuple { toList := [vn, vi (6 : Int)] }) ({ h := [((4 : Nat), Blk.cells [vi (0 : Int), vi (0 : Int), vn, vi (0 : Int), vn] (118 : Nat)), q36, q44, q45, q20], next := (5 : Nat) }) (y0) (y1)) ∧ (K y0 y1))))); let q62 := (∃ y0 : Value, (∃ y1 : List Blk, ((Go.Rx.Found 1 (Value.tuple { toList := [vn, vi (7 : Int)] }) ({ h := [q49, q56, q36, q57, q58, q20], next := (6 : Nat) }) (y0) (y1)) ∧ (K y0 y1)))); let q63 := (∃ y0 : Value, (∃ y1 : List Blk, ((Go.Rx.Found 1 (Value.tuple { toList := [vn, vi (10 : Int)] }) ({ h := [q49, q56, q36, q57, q58, q20], next := (6 : Nat) }) (y0) (y1)) ∧ (K y0 y1)))); (t2 (q0 ∧ ((q10 ∧ (q1 ∧ (nw ≤ cw))) ∧ (((@Eq (List IntKind) ([IntKind.u64]) ([IntKind.u64])) ∧ ((@Eq Nat (nw) (nw)) ∧ (@Eq Nat (cw) (cw)))) ∧ (q3 ∧ ((True) ∧ (T0 ∧ (if (@Eq Int (arE nw fw) ((0 : Int))) then (t2 (if (a < (1 : Int)) then q59 else (q16 ∧ (T0 ∧ (if ((↑nw : Int) ≤ a) then q59 else (q23 ∧ (q14 ∧ ((Int.toNat a < nw) ∧ (T0 ∧ (q3 ∧ ((((0 : Int) ≤ fw (Int.toNat a) (0 : Nat)) ∧ (fw (Int.toNat a) (0 : Nat) ≤ q7)) ∧ (t3 (if (@Eq Int (hsE q9) ((0 : Int))) then (t3 (((q8 ≤ hsP q9 + hsR q9) ∧ (hsP q9 + hsR q9 ≤ q6)) ∧ (q16 ∧ (T0 ∧ (q30 ∧ (T0 ∧ (if ((↑nw : Int) - a ≤ hsP q9 + hsR q9) then q61 else (T0 ∧ (q28 ∧ (t2 (((q8 ≤ a + (1 : Int) + hsP q9) ∧ (a + (1 : Int) + hsP q9 ≤ q6)) ∧ (t2 (((q8 ≤ a + (1 : Int) + hsP q9 + hsR q9) ∧ (a + (1 : Int) + hsP q9 + hsR q9 ≤ q6)) ∧ (t8 (q16 ∧ (t4 (q11 ∧ ((q5 ∧ ((a + (1 : Int) ≤ a + (1 : Int) + hsP q9) ∧ ((a + (1 : Int) + hsP q9 ≤ a + (1 : Int) + hsP q9) ∧ (a + (1 : Int) + hsP q9 ≤ (↑cw : Int))))) ∧ ((@Eq Int q19 q19) ∧ (t8 (q16 ∧ (t4 (q11 ∧ ((((0 : Int) ≤ a + (1 : Int) + hsP q9) ∧ ((a + (1 : Int) + hsP q9 ≤ a + (1 : Int) + hsP q9 + hsR q9) ∧ ((a + (1 : Int) + hsP q9 + hsR q9 ≤ a + (1 : Int) + hsP q9 + hsR q9) ∧ (a + (1 : Int) + hsP q9 + hsR q9 ≤ (↑cw : Int))))) ∧ ((@Eq Int q27 q27) ∧ (t9 (t8 (if ((0 : Int) ≤ x) then (T0 ∧ (q16 ∧ (T0 ∧ (if (x < (↑q24 : Int)) then (T0 ∧ (if (t < (0 : Int)) then q62 else (q16 ∧ (T0 ∧ (if ((↑nw : Int) ≤ t) then q62 else (T0 ∧ (q16 ∧ (q16 ∧ (t4 (q16 ∧ (q16 ∧ (t4 (q0 ∧ (q1 ∧ (T0 ∧ (q10 ∧ (Go.Rx.br q2 (∀ y0 : Nat, let q66 := (y0 - (1 : Nat) + (1 : Nat)); let q67 := (↑q66 : Int); ((nw ≤ y0) → (t2 (if (a < (1 : Int)) then q40 else (q16 ∧ (T0 ∧ (if ((↑nw : Int) ≤ a) then q40 else (q23 ∧ (q14 ∧ ((Int.toNat a < nw) ∧ (T0 ∧ (q3 ∧ (q42 ∧ (t3 (if (@Eq Int (hsE q22) ((0 : Int))) then (t3 (q52 ∧ (q16 ∧ (T0 ∧ (q30 ∧ (T0 ∧ (if ((↑nw : Int) - a ≤ hsP q22 + hsR q22) then q40 else (T0 ∧ (q28 ∧ (t2 (q46 ∧ (t2 (q53 ∧ (t8 (q16 ∧ (t4 (q11 ∧ ((q5 ∧ (q32 ∧ (q41 ∧ (a + (1 : Int) + hsP q22 ≤ q67)))) ∧ (q43 ∧ (t8 (q16 ∧ (t4 (q11 ∧ ((q31 ∧ (q47 ∧ (q50 ∧ (a + (1 : Int) + hsP q22 + hsR q22 ≤ q67)))) ∧ (q51 ∧ (t9 (t4 (q23 ∧ (q38 ∧ ((false = false) ∧ (q17 ∧ (t2 (∃ y1 : Value, (∃ y2 : List Blk, ((Go.Rx.Found 1 (Value.tuple { toList := [rsl (7 : Nat) (0 : Nat) nw q66, vi (0 : Int)] }) ({ h := [((11 : Nat), Blk.cells [Value.slice (some { block := (7 : Nat), off := (0 : Nat), spot := some q18 }) q33 q33] (112 : Nat)), ((10 : Nat), Blk.cells [vi q25, vi q26, Value.slice (some { block := (7 : Nat), off := (0 : Nat), spot := some q18 }) q33 q33, vi (a + (1 : Int)), Value.slice (some { block := (7 : Nat), off := (0 : Nat), spot := some q34 }) q48 q48] (118 : Nat)), ((9 : Nat), Blk.cells [vi q25, vi q26] (60 : Nat)), ((8 : Nat), Blk.cells [vi q25, vi q26, Value.slice (some { block := (7 : Nat), off := (0 : Nat), spot := some q18 }) q33 q33, vi (a + (1 : Int)), Value.slice (some { block := (7 : Nat), off := (0 : Nat), spot := some q34 }) q48 q48] (118 : Nat)), ((7 : Nat), Blk.row false [IntKind.u64] (25 : Nat) nw q66 q35), ((6 : Nat), Blk.row false [IntKind.u64] (25 : Nat) (0 : Nat) (0 : Nat) q15), q49, q56, q36, q57, q58, q20], next := (12 : Nat) }) (y1) (y2)) ∧ (K y1 y2)))))))))))))))))))))))))))))))))))) else q40))))))))))))))) q60))))))))))))))))) else q63)))) else q63)))))))))))))))))))))))))))) else q61))))))))))))) else (t6 (if (@Eq Int (arE nw fw) ((0 : Int))) then (t5 (if ((0 : Int) ≤ x) then (T0 ∧ (q16 ∧ (T0 ∧ (if (x < (↑(0 : Nat) : Int)) then (T0 ∧ (if (t < (0 : Int)) then q54 else (q16 ∧ (T0 ∧ (if ((↑nw : Int) ≤ t) then q54 else (T0 ∧ (q16 ∧ (q16 ∧ (t4 (q16 ∧ (q16 ∧ (t4 (q0 ∧ (q1 ∧ (T0 ∧ (q10 ∧ (Go.Rx.br q2 (∀ y0 : Nat, let q64 := (y0 - (1 : Nat) + (1 : Nat)); let q65 := (↑q64 : Int); ((nw ≤ y0) → (t2 (if (a < (1 : Int)) then q40 else (q16 ∧ (T0 ∧ (if ((↑nw : Int) ≤ a) then q40 else (q23 ∧ (q14 ∧ ((Int.toNat a < nw) ∧ (T0 ∧ (q3 ∧ (q42 ∧ (t3 (if (@Eq Int (hsE q22) ((0 : Int))) then (t3 (q52 ∧ (q16 ∧ (T0 ∧ (q30 ∧ (T0 ∧ (if ((↑nw : Int) - a ≤ hsP q22 + hsR q22) then q40 else (T0 ∧ (q28 ∧ (t2 (q46 ∧ (t2 (q53 ∧ (t8 (q16 ∧ (t4 (q11 ∧ ((q5 ∧ (q32 ∧ (q41 ∧ (a + (1 : Int) + hsP q22 ≤ q65)))) ∧ (q43 ∧ (t8 (q16 ∧ (t4 (q11 ∧ ((q31 ∧ (q47 ∧ (q50 ∧ (a + (1 : Int) + hsP q22 + hsR q22 ≤ q65)))) ∧ (q51 ∧ (t9 (t4 (q23 ∧ (q38 ∧ ((false = false) ∧ (q17 ∧ (t2 (∃ y1 : Value, (∃ y2 : List Blk, ((Go.Rx.Found 1 (Value.tuple { toList := [rsl (5 : Nat) (0 : Nat) nw q64, vi (0 : Int)] }) ({ h := [((9 : Nat), Blk.cells [Value.slice (some { block := (5 : Nat), off := (0 : Nat), spot := some q18 }) q33 q33] (112 : Nat)), ((8 : Nat), Blk.cells [vi q25, vi q26, Value.slice (some { block := (5 : Nat), off := (0 : Nat), spot := some q18 }) q33 q33, vi (a + (1 : Int)), Value.slice (some { block := (5 : Nat), off := (0 : Nat), spot := some q34 }) q48 q48] (118 : Nat)), ((7 : Nat), Blk.cells [vi q25, vi q26] (60 : Nat)), ((6 : Nat), Blk.cells [vi q25, vi q26, Value.slice (some { block := (5 : Nat), off := (0 : Nat), spot := some q18 }) q33 q33, vi (a + (1 : Int)), Value.slice (some { block := (5 : Nat), off := (0 : Nat), spot := some q34 }) q48 q48] (118 : Nat)), ((5 : Nat), Blk.row false [IntKind.u64] (25 : Nat) nw q64 q35), ((4 : Nat), Blk.row false [IntKind.u64] (25 : Nat) (0 : Nat) (0 : Nat) q15), q21, q44, q45, q20], next := (10 : Nat) }) (y1) (y2)) ∧ (K y1 y2)))))))))))))))))))))))))))))))))))) else q40))))))))))))))) q60))))))))))))))))) else q55)))) else q55)) else (∃ y0 : Value, (∃ y1 : List Blk, ((Go.Rx.Found 1 (Value.tuple { toList := [vn, vi (arE nw fw)] }) ({ h := [q44, q45, q20], next := (3 : Nat) }) (y0) (y1)) ∧ (K y0 y1))))))))))))))
theorem spOB_rE (ew nw cw : Nat) (fw : RF) (a : Int) (x : Int) (t : Int) (K : Value → List Blk → Prop) : spOB_rV ew nw cw fw a x t K = bodyX (mk XO) (callN (mk XO) 9) (spOB_rA ew nw cw fw a x t) Try.f60 [rsl 0 0 nw cw, .int .i64 a, .int .i64 x, .int .i64 t] (stOf [.row true [.u64] ew nw cw fw]) (Fd 1 K) := by kernel_rfl
set_option tactic.hygienic false in
theorem spOB_rP (ew nw cw : Nat) (fw : RF) (a : Int) (x : Int) (t : Int) (K : Value → List Blk → Prop)  (hnw : nw ≤ 100000) (hcw : nw ≤ cw) (hU : Ok64 nw fw) (h1 : ¬ spE nw fw a x t = 0) (h : K (.tuple ⟨[.slice none 0 0, .int .i64 (spE nw fw a x t)]⟩) []) : spOB_rV ew nw cw fw a x t K := by
  unfold spOB_rV
  conv => zeta
  have z0 := ar_cases nw fw
  have z1 := ob_cases hU a
  have z2 := fun (h1 : 0 ≤ a) (h2 : a < nw) => hU.at h1 h2
  have z3 := fun (h1 : 0 ≤ a) (h2 : a < nw) => hs_bd (hU.at h1 h2).1
  have z4 := sp_cases nw fw a x t
  repeat' (first | (with_reducible exact rfl) | (with_reducible exact trivial) | (with_reducible refine And.intro ?_ ?_) | (intro) | (with_reducible refine br_d (fun hq => ?_) (fun hq => ?_)) | (with_reducible refine br_nd (fun hq => ?_) (fun hq => ?_)) | (with_reducible refine br_intro (fun hq => ?_) (fun hq => ?_)) | (with_reducible refine if_both (fun hz => ?_) (fun hz => ?_)) | fail)

  all_goals first
    | (with_reducible assumption)
    | (refine (id ?_ : ∃ (v1 : Value) (news : List Blk), _)
       first
        | contradiction
        | exact fin0 (by kernel_rfl) (by kernel_rfl) h
        | exact fin0 (by kernel_rfl) (by kernel_rfl) (fin0i (by omega) h)
        | exact fin0 (by kernel_rfl) (by kernel_rfl) (fin0p (by omega) (by omega) h)
        | exact fin0 (by kernel_rfl) (by kernel_rfl) (fin0u (by omega) (by omega) h)
        | exact fin0 (by kernel_rfl) (by kernel_rfl) (fin0s (by omega) (by omega) (by omega) h)
        | exact fin0 (by kernel_rfl) (by kernel_rfl) (fin0n (by omega) h)
        | (exfalso; simp at hq; omega)
        | (exfalso; omega)
       )
    | omega
    | contradiction
    | exact fin0 (by kernel_rfl) (by kernel_rfl) h
    | exact fin0 (by kernel_rfl) (by kernel_rfl) (fin0i (by omega) h)
    | exact fin0 (by kernel_rfl) (by kernel_rfl) (fin0p (by omega) (by omega) h)
    | exact fin0 (by kernel_rfl) (by kernel_rfl) (fin0u (by omega) (by omega) h)
    | exact fin0 (by kernel_rfl) (by kernel_rfl) (fin0s (by omega) (by omega) (by omega) h)
    | exact fin0 (by kernel_rfl) (by kernel_rfl) (fin0n (by omega) h)
    | (exfalso; simp at hq; omega)
    | (exfalso; omega)
theorem spOB_ok : BodyOk (mk XO) 9 Try.f60 spOB := by
  intro vs bs K hh hro
  clear hro
  unfold spOB at hh
  split at hh
  · rename_i vw a x t
    rcases parseQ_inv hh with ⟨rfl, hh0⟩ | ⟨ew, nw, cw, fw, btw, rfl, hnw, hcw, rfl, hh0⟩ <;> clear hh
    · obtain ⟨rfl, ⟨hU, h1⟩, hc⟩ := hh0
      exact ⟨_, _, cast (spOB_nE  a x t K) (spOB_nP  a x t K  hU h1 hc)⟩
    · obtain ⟨rfl, ⟨hU, h1⟩, hc⟩ := hh0
      exact ⟨_, _, cast (spOB_rE ew nw cw fw a x t K) (spOB_rP ew nw cw fw a x t K hnw hcw hU h1 hc)⟩
  · exact hh.elim
theorem spOB_told : Told 60 (specOf spOB) := told (X := XO) XO_told (by kernel_rfl) (by kernel_rfl) (by kernel_rfl) spOB_ok
def spOG_rV (ew nw cw : Nat) (fw : RF) (a : Int) (x : Int) (t : Int) (K : Value → List Blk → Prop) : Prop := let q0 := ((0 : Nat) + nw ≤ nw); let q1 := (nw ≤ (100000 : Nat)); let q2 := (decide ((0 : Nat) < nw)); let q3 := eB; let q4 := (List.length [IntKind.u64]); let q5 := ((0 : Int) ≤ a + (1 : Int)); let q6 := (9223372036854775807 : Int); let q7 := (18446744073709551615 : Int); let q8 := (-9223372036854775808 : Int); let q9 := (fw (Int.toNat a) (0 : Nat)); let q10 := (@Eq Nat ((0 : Nat)) ((0 : Nat))); let q11 := (@Eq Nat ((1 : Nat)) ((1 : Nat))); let q12 := (hsP q9); let q13 := (hsR q9); let q14 := (((0 : Int) ≤ a) ∧ (a < (↑nw : Int))); let q15 := (litF q4 []); let q16 := TS; let q17 := (Int.toNat (a + (1 : Int)) + Int.toNat x < nw); let q18 := (Nat.succ (Nat.succ (Int.toNat (a + (1 : Int))))); let q19 := (a + (1 : Int) + hsP q9); let q20 := ((0 : Nat), Blk.row true [IntKind.u64] ew nw cw fw); let q21 := ((3 : Nat), Blk.cells [vn] (112 : Nat)); let q22 := (appF (fun x x_1 ↦ (0 : Int)) (0 : Nat) fw (0 : Nat) (Int.toNat a) (0 : Nat)); let q23 := (q16 ∧ q11); let q24 := (Int.toNat (a + (1 : Int) + hsP q9 - (a + (1 : Int)))); let q25 := (hsP q22); let q26 := (hsR q22); let q27 := (a + (1 : Int) + hsP q9 + hsR q9); let q28 := ((q8 ≤ a + (1 : Int)) ∧ (a + (1 : Int) ≤ q6)); let q29 := (a + (1 : Int) + hsP q22); let q30 := ((q8 ≤ (↑nw : Int) - a) ∧ ((↑nw : Int) - a ≤ q6)); let q31 := ((0 : Int) ≤ a + (1 : Int) + hsP q22); let q32 := (a + (1 : Int) ≤ a + (1 : Int) + hsP q22); let q33 := (Int.toNat (a + (1 : Int) + hsP q22 - (a + (1 : Int)))); let q34 := (Nat.succ (Nat.succ (Int.toNat q29))); let q35 := (putF (appF (fun x x_1 ↦ (0 : Int)) (0 : Nat) fw (0 : Nat)) (Int.toNat (a + (1 : Int)) + Int.toNat x) (0 : Nat) (t % (18446744073709551616 : Int))); let q36 := ((3 : Nat), Blk.cells [vi q12, vi q13] (60 : Nat)); let q37 := (Int.toNat (a + (1 : Int) + hsP q9 + hsR q9 - q19)); let q38 := (((0 : Int) ≤ x) ∧ (x < (↑q33 : Int))); let q39 := (a + (1 : Int) + hsP q22 + hsR q22); let q40 := (t9 (T0 ∧ (False))); let q41 := (a + (1 : Int) + hsP q22 ≤ a + (1 : Int) + hsP q22); let q42 := (((0 : Int) ≤ appF (fun x x_1 ↦ (0 : Int)) (0 : Nat) fw (0 : Nat) (Int.toNat a) (0 : Nat)) ∧ (appF (fun x x_1 ↦ (0 : Int)) (0 : Nat) fw (0 : Nat) (Int.toNat a) (0 : Nat) ≤ q7)); let q43 := (@Eq Int q29 q29); let q44 := ((2 : Nat), Blk.cells [vi (0 : Int), vi (0 : Int), vn, vi (0 : Int), vn] (118 : Nat)); let q45 := ((1 : Nat), Blk.cells [vi (0 : Int), vi (0 : Int), vn, vi (0 : Int), vn] (118 : Nat)); let q46 := ((q8 ≤ a + (1 : Int) + hsP q22) ∧ (a + (1 : Int) + hsP q22 ≤ q6)); let q47 := (a + (1 : Int) + hsP q22 ≤ a + (1 : Int) + hsP q22 + hsR q22); let q48 := (Int.toNat (a + (1 : Int) + hsP q22 + hsR q22 - q29)); let q49 := ((5 : Nat), Blk.cells [Value.slice (some { block := (0 : Nat), off := (0 : Nat), spot := some q18 }) q24 q24] (112 : Nat)); let q50 := (a + (1 : Int) + hsP q22 + hsR q22 ≤ a + (1 : Int) + hsP q22 + hsR q22); let q51 := (@Eq Int q39 q39); let q52 := ((q8 ≤ hsP q22 + hsR q22) ∧ (hsP q22 + hsR q22 ≤ q6)); let q53 := ((q8 ≤ a + (1 : Int) + hsP q22 + hsR q22) ∧ (a + (1 : Int) + hsP q22 + hsR q22 ≤ q6)); let q54 := (∃ y0 : Value, (∃ y1 : List Blk, ((Go.Rx.Found 1 (Value.tuple { toList := [vn, vi (7 : Int)] }) ({ h := [q21, q44, q45, q20], next := (4 : Nat) }) (y0) (y1)) ∧ (K y0 y1)))); let q55 := (∃ y0 : Value, (∃ y1 : List Blk, ((Go.Rx.Found 1 (Value.tuple { toList := [vn, vi (10 : Int)] }) ({ h := [q21, q44, q45, q20], next := (4 : Nat) }) (y0) (y1)) ∧ (K y0 y1)))); let q56 := ((4 : Nat), Blk.cells [vi q12, vi q13, Value.slice (some { block := (0 : Nat), off := (0 : Nat), spot := some q18 }) q24 q24, vi (a + (1 : Int)), Value.slice (some { block := (0 : Nat), off := (0 : Nat), spot := some (Nat.succ (Nat.succ (Int.toNat q19))) }) q37 q37] (118 : Nat)); let q57 := ((2 : Nat), Blk.cells [vi q12, vi q13, Value.slice (some { block := (0 : Nat), off := (0 : Nat), spot := some q18 }) q24 q24, vi (a + (1 : Int)), Value.slice (some { block := (0 : Nat), off := (0 : Nat), spot := some (Nat.succ (Nat.succ (Int.toNat q19))) }) q37 q37] (118 : Nat)); let q58 := ((1 : Nat), Blk.cells [vi q12, vi q13, Value.slice (some { block := (0 : Nat), off := (0 : Nat), spot := some q18 }) q24 q24, vi (a + (1 : Int)), Value.slice (some { block := (0 : Nat), off := (0 : Nat), spot := some (Nat.succ (Nat.succ (Int.toNat q19))) }) q37 q37] (118 : Nat)); let q59 := (t9 (∃ y0 : Value, (∃ y1 : List Blk, ((Go.Rx.Found 1 (Value.tuple { toList := [vn, vi (7 : Int)] }) ({ h := [((3 : Nat), Blk.cells [vi (0 : Int), vi (0 : Int), vn, vi (0 : Int), vn] (118 : Nat)), q44, q45, q20], next := (4 : Nat) }) (y0) (y1)) ∧ (K y0 y1))))); let q60 := (t2 (if (a < (1 : Int)) then q40 else (q16 ∧ (T0 ∧ (if ((↑(0 : Nat) : Int) ≤ a) then q40 else (q23 ∧ ((((0 : Int) ≤ a) ∧ (a < (↑(0 : Nat) : Int))) ∧ ((Int.toNat a < (0 : Nat)) ∧ (T0 ∧ (q3 ∧ ((((0 : Int) ≤ litF q4 [] (Int.toNat a) (0 : Nat)) ∧ (litF q4 [] (Int.toNat a) (0 : Nat) ≤ q7)) ∧ (t3 q40)))))))))))); let q61 := (t9 (∃ y0 : Value, (∃ y1 : List Blk, ((Go.Rx.Found 1 (Value.tuple { toList := [vn, vi (6 : Int)] }) ({ h := [((4 : Nat), Blk.cells [vi (0 : Int), vi (0 : Int), vn, vi (0 : Int), vn] (118 : Nat)), q36, q44, q45, q20], next := (5 : Nat) }) (y0) (y1)) ∧ (K y0 y1))))); let q62 := (∃ y0 : Value, (∃ y1 : List Blk, ((Go.Rx.Found 1 (Value.tuple { toList := [vn, vi (7 : Int)] }) ({ h := [q49, q56, q36, q57, q58, q20], next := (6 : Nat) }) (y0) (y1)) ∧ (K y0 y1)))); let q63 := (∃ y0 : Value, (∃ y1 : List Blk, ((Go.Rx.Found 1 (Value.tuple { toList := [vn, vi (10 : Int)] }) ({ h := [q49, q56, q36, q57, q58, q20], next := (6 : Nat) }) (y0) (y1)) ∧ (K y0 y1)))); (t2 (q0 ∧ ((q10 ∧ (q1 ∧ (nw ≤ cw))) ∧ (((@Eq (List IntKind) ([IntKind.u64]) ([IntKind.u64])) ∧ ((@Eq Nat (nw) (nw)) ∧ (@Eq Nat (cw) (cw)))) ∧ (q3 ∧ ((True) ∧ (T0 ∧ (if (@Eq Int (arE nw fw) ((0 : Int))) then (t2 (if (a < (1 : Int)) then q59 else (q16 ∧ (T0 ∧ (if ((↑nw : Int) ≤ a) then q59 else (q23 ∧ (q14 ∧ ((Int.toNat a < nw) ∧ (T0 ∧ (q3 ∧ ((((0 : Int) ≤ fw (Int.toNat a) (0 : Nat)) ∧ (fw (Int.toNat a) (0 : Nat) ≤ q7)) ∧ (t3 (if (@Eq Int (hsE q9) ((0 : Int))) then (t3 (((q8 ≤ hsP q9 + hsR q9) ∧ (hsP q9 + hsR q9 ≤ q6)) ∧ (q16 ∧ (T0 ∧ (q30 ∧ (T0 ∧ (if ((↑nw : Int) - a ≤ hsP q9 + hsR q9) then q61 else (T0 ∧ (q28 ∧ (t2 (((q8 ≤ a + (1 : Int) + hsP q9) ∧ (a + (1 : Int) + hsP q9 ≤ q6)) ∧ (t2 (((q8 ≤ a + (1 : Int) + hsP q9 + hsR q9) ∧ (a + (1 : Int) + hsP q9 + hsR q9 ≤ q6)) ∧ (t8 (q16 ∧ (t4 (q11 ∧ ((q5 ∧ ((a + (1 : Int) ≤ a + (1 : Int) + hsP q9) ∧ ((a + (1 : Int) + hsP q9 ≤ a + (1 : Int) + hsP q9) ∧ (a + (1 : Int) + hsP q9 ≤ (↑cw : Int))))) ∧ ((@Eq Int q19 q19) ∧ (t8 (q16 ∧ (t4 (q11 ∧ ((((0 : Int) ≤ a + (1 : Int) + hsP q9) ∧ ((a + (1 : Int) + hsP q9 ≤ a + (1 : Int) + hsP q9 + hsR q9) ∧ ((a + (1 : Int) + hsP q9 + hsR q9 ≤ a + (1 : Int) + hsP q9 + hsR q9) ∧ (a + (1 : Int) + hsP q9 + hsR q9 ≤ (↑cw : Int))))) ∧ ((@Eq Int q27 q27) ∧ (t9 (t8 (if ((0 : Int) ≤ x) then (T0 ∧ (q16 ∧ (T0 ∧ (if (x < (↑q24 : Int)) then (T0 ∧ (if (t < (0 : Int)) then q62 else (q16 ∧ (T0 ∧ (if ((↑nw : Int) ≤ t) then q62 else (T0 ∧ (q16 ∧ (q16 ∧ (t4 (q16 ∧ (q16 ∧ (t4 (q0 ∧ (q1 ∧ (T0 ∧ (q10 ∧ (Go.Rx.br q2 (∀ y0 : Nat, let q66 := (y0 - (1 : Nat) + (1 : Nat)); let q67 := (↑q66 : Int); ((nw ≤ y0) → (t2 (if (a < (1 : Int)) then q40 else (q16 ∧ (T0 ∧ (if ((↑nw : Int) ≤ a) then q40 else (q23 ∧ (q14 ∧ ((Int.toNat a < nw) ∧ (T0 ∧ (q3 ∧ (q42 ∧ (t3 (if (@Eq Int (hsE q22) ((0 : Int))) then (t3 (q52 ∧ (q16 ∧ (T0 ∧ (q30 ∧ (T0 ∧ (if ((↑nw : Int) - a ≤ hsP q22 + hsR q22) then q40 else (T0 ∧ (q28 ∧ (t2 (q46 ∧ (t2 (q53 ∧ (t8 (q16 ∧ (t4 (q11 ∧ ((q5 ∧ (q32 ∧ (q41 ∧ (a + (1 : Int) + hsP q22 ≤ q67)))) ∧ (q43 ∧ (t8 (q16 ∧ (t4 (q11 ∧ ((q31 ∧ (q47 ∧ (q50 ∧ (a + (1 : Int) + hsP q22 + hsR q22 ≤ q67)))) ∧ (q51 ∧ (t9 (t4 (q23 ∧ (q38 ∧ ((false = false) ∧ (q17 ∧ (t2 (∃ y1 : Value, (∃ y2 : List Blk, ((Go.Rx.Found 1 (Value.tuple { toList := [rsl (7 : Nat) (0 : Nat) nw q66, vi (0 : Int)] }) ({ h := [((11 : Nat), Blk.cells [Value.slice (some { block := (7 : Nat), off := (0 : Nat), spot := some q18 }) q33 q33] (112 : Nat)), ((10 : Nat), Blk.cells [vi q25, vi q26, Value.slice (some { block := (7 : Nat), off := (0 : Nat), spot := some q18 }) q33 q33, vi (a + (1 : Int)), Value.slice (some { block := (7 : Nat), off := (0 : Nat), spot := some q34 }) q48 q48] (118 : Nat)), ((9 : Nat), Blk.cells [vi q25, vi q26] (60 : Nat)), ((8 : Nat), Blk.cells [vi q25, vi q26, Value.slice (some { block := (7 : Nat), off := (0 : Nat), spot := some q18 }) q33 q33, vi (a + (1 : Int)), Value.slice (some { block := (7 : Nat), off := (0 : Nat), spot := some q34 }) q48 q48] (118 : Nat)), ((7 : Nat), Blk.row false [IntKind.u64] (25 : Nat) nw q66 q35), ((6 : Nat), Blk.row false [IntKind.u64] (25 : Nat) (0 : Nat) (0 : Nat) q15), q49, q56, q36, q57, q58, q20], next := (12 : Nat) }) (y1) (y2)) ∧ (K y1 y2)))))))))))))))))))))))))))))))))))) else q40))))))))))))))) q60))))))))))))))))) else q63)))) else q63)))))))))))))))))))))))))))) else q61))))))))))))) else (t6 (if (@Eq Int (arE nw fw) ((0 : Int))) then (t5 (if ((0 : Int) ≤ x) then (T0 ∧ (q16 ∧ (T0 ∧ (if (x < (↑(0 : Nat) : Int)) then (T0 ∧ (if (t < (0 : Int)) then q54 else (q16 ∧ (T0 ∧ (if ((↑nw : Int) ≤ t) then q54 else (T0 ∧ (q16 ∧ (q16 ∧ (t4 (q16 ∧ (q16 ∧ (t4 (q0 ∧ (q1 ∧ (T0 ∧ (q10 ∧ (Go.Rx.br q2 (∀ y0 : Nat, let q64 := (y0 - (1 : Nat) + (1 : Nat)); let q65 := (↑q64 : Int); ((nw ≤ y0) → (t2 (if (a < (1 : Int)) then q40 else (q16 ∧ (T0 ∧ (if ((↑nw : Int) ≤ a) then q40 else (q23 ∧ (q14 ∧ ((Int.toNat a < nw) ∧ (T0 ∧ (q3 ∧ (q42 ∧ (t3 (if (@Eq Int (hsE q22) ((0 : Int))) then (t3 (q52 ∧ (q16 ∧ (T0 ∧ (q30 ∧ (T0 ∧ (if ((↑nw : Int) - a ≤ hsP q22 + hsR q22) then q40 else (T0 ∧ (q28 ∧ (t2 (q46 ∧ (t2 (q53 ∧ (t8 (q16 ∧ (t4 (q11 ∧ ((q5 ∧ (q32 ∧ (q41 ∧ (a + (1 : Int) + hsP q22 ≤ q65)))) ∧ (q43 ∧ (t8 (q16 ∧ (t4 (q11 ∧ ((q31 ∧ (q47 ∧ (q50 ∧ (a + (1 : Int) + hsP q22 + hsR q22 ≤ q65)))) ∧ (q51 ∧ (t9 (t4 (q23 ∧ (q38 ∧ ((false = false) ∧ (q17 ∧ (t2 (∃ y1 : Value, (∃ y2 : List Blk, ((Go.Rx.Found 1 (Value.tuple { toList := [rsl (5 : Nat) (0 : Nat) nw q64, vi (0 : Int)] }) ({ h := [((9 : Nat), Blk.cells [Value.slice (some { block := (5 : Nat), off := (0 : Nat), spot := some q18 }) q33 q33] (112 : Nat)), ((8 : Nat), Blk.cells [vi q25, vi q26, Value.slice (some { block := (5 : Nat), off := (0 : Nat), spot := some q18 }) q33 q33, vi (a + (1 : Int)), Value.slice (some { block := (5 : Nat), off := (0 : Nat), spot := some q34 }) q48 q48] (118 : Nat)), ((7 : Nat), Blk.cells [vi q25, vi q26] (60 : Nat)), ((6 : Nat), Blk.cells [vi q25, vi q26, Value.slice (some { block := (5 : Nat), off := (0 : Nat), spot := some q18 }) q33 q33, vi (a + (1 : Int)), Value.slice (some { block := (5 : Nat), off := (0 : Nat), spot := some q34 }) q48 q48] (118 : Nat)), ((5 : Nat), Blk.row false [IntKind.u64] (25 : Nat) nw q64 q35), ((4 : Nat), Blk.row false [IntKind.u64] (25 : Nat) (0 : Nat) (0 : Nat) q15), q21, q44, q45, q20], next := (10 : Nat) }) (y1) (y2)) ∧ (K y1 y2)))))))))))))))))))))))))))))))))))) else q40))))))))))))))) q60))))))))))))))))) else q55)))) else q55)) else (∃ y0 : Value, (∃ y1 : List Blk, ((Go.Rx.Found 1 (Value.tuple { toList := [vn, vi (arE nw fw)] }) ({ h := [q44, q45, q20], next := (3 : Nat) }) (y0) (y1)) ∧ (K y0 y1))))))))))))))
theorem spOG_rE (ew nw cw : Nat) (fw : RF) (a : Int) (x : Int) (t : Int) (K : Value → List Blk → Prop) : spOG_rV ew nw cw fw a x t K = bodyX (mk XO) (callN (mk XO) 9) (spOG_rA ew nw cw fw a x t) Try.f60 [rsl 0 0 nw cw, .int .i64 a, .int .i64 x, .int .i64 t] (stOf [.row true [.u64] ew nw cw fw]) (Fd 1 K) := by kernel_rfl
set_option tactic.hygienic false in
theorem spOG_rP (ew nw cw : Nat) (fw : RF) (a : Int) (x : Int) (t : Int) (K : Value → List Blk → Prop)  (hnw : nw ≤ 100000) (hcw : nw ≤ cw) (hU : Ok64 nw fw) (h1 : spE nw fw a x t = 0) (h : ∀ cp, nw ≤ cp → K (.tuple ⟨[rsl 1 0 (nw) cp, .int .i64 (0)]⟩) [.row false [.u64] 25 (nw) cp (setF fw (Int.toNat (a + 1 + x)) t)]) : spOG_rV ew nw cw fw a x t K := by
  unfold spOG_rV
  conv => zeta
  have z0 := ar_cases nw fw
  have z1 := ob_cases hU a
  have z2 := fun (h1 : 0 ≤ a) (h2 : a < nw) => hU.at h1 h2
  have z3 := fun (h1 : 0 ≤ a) (h2 : a < nw) => hs_bd (hU.at h1 h2).1
  have z4 := sp_cases nw fw a x t
  repeat' (first | (with_reducible exact rfl) | (with_reducible exact trivial) | (with_reducible refine And.intro ?_ ?_) | (intro) | (with_reducible refine br_d (fun hq => ?_) (fun hq => ?_)) | (with_reducible refine br_nd (fun hq => ?_) (fun hq => ?_)) | (with_reducible refine br_intro (fun hq => ?_) (fun hq => ?_)) | (with_reducible refine if_both (fun hz => ?_) (fun hz => ?_)) | fail)
  all_goals try simp only [app_nil] at *
  all_goals first
    | (with_reducible assumption)
    | (refine (id ?_ : ∃ (v1 : Value) (news : List Blk), _)
       first
        | contradiction
        | (refine fin1t rfl ?_ (by kernel_rfl) (by kernel_rfl) (h _ (by omega)); (intro i j hi hj; obtain rfl : j = 0 := (by simp at hj; omega); (try unfold setF); (try unfold zroF); (try unfold mkF); (try unfold putF); (try unfold appF); (try unfold clrF); (try unfold setF); (try unfold zroF); (repeat' split) <;> first | rfl | omega | (exfalso; omega) | (simp_all; done) | (simp_all; omega)))
        | (exfalso; omega)
        | (exfalso; simp at hq; omega)
       )
    | omega
    | contradiction
    | (refine fin1t rfl ?_ (by kernel_rfl) (by kernel_rfl) (h _ (by omega)); (intro i j hi hj; obtain rfl : j = 0 := (by simp at hj; omega); (try unfold setF); (try unfold zroF); (try unfold mkF); (try unfold putF); (try unfold appF); (try unfold clrF); (try unfold setF); (try unfold zroF); (repeat' split) <;> first | rfl | omega | (exfalso; omega) | (simp_all; done) | (simp_all; omega)))
    | (exfalso; omega)
    | (exfalso; simp at hq; omega)
theorem spOG_ok : BodyOk (mk XO) 9 Try.f60 spOG := by
  intro vs bs K hh hro
  clear hro
  unfold spOG at hh
  split at hh
  · rename_i vw a x t
    obtain ⟨ew, nw, cw, fw, btw, rfl, hnw, hcw, rfl, hh0⟩ := parseRQ_inv hh
    obtain ⟨rfl, ⟨hU, h1⟩, hc⟩ := hh0
    exact ⟨_, _, cast (spOG_rE ew nw cw fw a x t K) (spOG_rP ew nw cw fw a x t K hnw hcw hU h1 hc)⟩
  · exact hh.elim
theorem spOG_told : Told 60 (specOf spOG) := told (X := XO) XO_told (by kernel_rfl) (by kernel_rfl) (by kernel_rfl) spOG_ok
end Go.Proofs.Ytfgeoglegebncaa.Fr
namespace Go.Proofs.Ytfgeoglegebncaa.Fr
set_option maxRecDepth 100000
set_option maxHeartbeats 4000000
open Go.Rx
open Go.RowKit (Below)
set_option linter.unusedVariables false
def srOB : Con := fun vs bs K => match vs with
  | [vw, .int .i64 a, .int .i64 x, .int .u64 v] => parseQ [.u64] 0 vw bs fun nw fw j0 bs0 => bs0 = [] ∧ ((Ok64 nw fw) ∧ (¬ rwE nw fw a x = 0)) ∧ (K (.tuple ⟨[.slice none 0 0, .int .i64 (rwE nw fw a x)]⟩) [])
  | _ => False

def srOB_nA (a : Int) (x : Int) (v : Int) : Ann := fun _ _ _ => none
def srOB_rA (ew nw cw : Nat) (fw : RF) (a : Int) (x : Int) (v : Int) : Ann := fun _ _ _ => none
def srOG : Con := fun vs bs K => match vs with
  | [vw, .int .i64 a, .int .i64 x, .int .u64 v] => parseRQ [.u64] 0 vw bs fun nw fw j0 bs0 => bs0 = [] ∧ ((Ok64 nw fw) ∧ (rwE nw fw a x = 0)) ∧ (∀ cp, nw ≤ cp → K (.tuple ⟨[rsl j0 0 (nw) cp, .int .i64 (0)]⟩) [.row false [.u64] 25 (nw) cp (setF fw (Int.toNat (a + 1 + obP nw fw a + x)) v)])
  | _ => False

def srOG_rA (ew nw cw : Nat) (fw : RF) (a : Int) (x : Int) (v : Int) : Ann := fun _ _ _ => none
def srOB_nV (a : Int) (x : Int) (v : Int) (K : Value → List Blk → Prop) : Prop := (t3 (eB ∧ ((True) ∧ (t7 (∃ y0 : Value, (∃ y1 : List Blk, ((Go.Rx.Found 0 (Value.tuple { toList := [vn, vi (3 : Int)] }) ({ h := [((1 : Nat), Blk.cells [vi (0 : Int), vi (0 : Int), vn, vi (0 : Int), vn] (118 : Nat)), ((0 : Nat), Blk.cells [vi (0 : Int), vi (0 : Int), vn, vi (0 : Int), vn] (118 : Nat))], next := (2 : Nat) }) (y0) (y1)) ∧ (K y0 y1))))))))
theorem srOB_nE (a : Int) (x : Int) (v : Int) (K : Value → List Blk → Prop) : srOB_nV a x v K = bodyX (mk XO) (callN (mk XO) 9) (srOB_nA a x v) Try.f62 [.slice none 0 0, .int .i64 a, .int .i64 x, .int .u64 v] (stOf []) (Fd 0 K) := by kernel_rfl
set_option tactic.hygienic false in
theorem srOB_nP (a : Int) (x : Int) (v : Int) (K : Value → List Blk → Prop)  (hU : Ok64 0 zF) (h1 : ¬ rwE 0 zF a x = 0) (h : K (.tuple ⟨[.slice none 0 0, .int .i64 (rwE 0 zF a x)]⟩) []) : srOB_nV a x v K := by
  unfold srOB_nV
  have z0 := ar_cases 0 zF
  have z1 := ob_cases hU a
  have z2 := fun (h1 : 0 ≤ a) (h2 : a < 0) => hU.at h1 h2
  have z3 := fun (h1 : 0 ≤ a) (h2 : a < 0) => hs_bd (hU.at h1 h2).1
  have z4 := rw_cases 0 zF a x
  repeat' (first | (with_reducible exact rfl) | (with_reducible exact trivial) | (with_reducible refine And.intro ?_ ?_) | (intro) | (with_reducible refine br_d (fun hq => ?_) (fun hq => ?_)) | (with_reducible refine br_nd (fun hq => ?_) (fun hq => ?_)) | (with_reducible refine br_intro (fun hq => ?_) (fun hq => ?_)) | (with_reducible refine if_both (fun hz => ?_) (fun hz => ?_)) | fail)

  all_goals first
    | (with_reducible assumption)
    | (refine (id ?_ : ∃ (v1 : Value) (news : List Blk), _)
       first
        | contradiction
        | exact fin0 (by kernel_rfl) (by kernel_rfl) h
        | exact fin0 (by kernel_rfl) (by kernel_rfl) (fin0i (by omega) h)
        | exact fin0 (by kernel_rfl) (by kernel_rfl) (fin0p (by omega) (by omega) h)
        | exact fin0 (by kernel_rfl) (by kernel_rfl) (fin0u (by omega) (by omega) h)
        | exact fin0 (by kernel_rfl) (by kernel_rfl) (fin0s (by omega) (by omega) (by omega) h)
        | exact fin0 (by kernel_rfl) (by kernel_rfl) (fin0n (by omega) h)
        | (exfalso; simp at hq; omega)
        | (exfalso; omega)
       )
    | omega
    | contradiction
    | exact fin0 (by kernel_rfl) (by kernel_rfl) h
    | exact fin0 (by kernel_rfl) (by kernel_rfl) (fin0i (by omega) h)
    | exact fin0 (by kernel_rfl) (by kernel_rfl) (fin0p (by omega) (by omega) h)
    | exact fin0 (by kernel_rfl) (by kernel_rfl) (fin0u (by omega) (by omega) h)
    | exact fin0 (by kernel_rfl) (by kernel_rfl) (fin0s (by omega) (by omega) (by omega) h)
    | exact fin0 (by kernel_rfl) (by kernel_rfl) (fin0n (by omega) h)
    | (exfalso; simp at hq; omega)
    | (exfalso; omega)
def srOB_rV (ew nw cw : Nat) (fw : RF) (a : Int) (x : Int) (v : Int) (K : Value → List Blk → Prop) : Prop := let q0 := ((0 : Nat) + nw ≤ nw); let q1 := (nw ≤ (100000 : Nat)); let q2 := (decide ((0 : Nat) < nw)); let q3 := eB; let q4 := (List.length [IntKind.u64]); let q5 := ((0 : Int) ≤ a + (1 : Int)); let q6 := (9223372036854775807 : Int); let q7 := (18446744073709551615 : Int); let q8 := (-9223372036854775808 : Int); let q9 := (fw (Int.toNat a) (0 : Nat)); let q10 := (@Eq Nat ((0 : Nat)) ((0 : Nat))); let q11 := (@Eq Nat ((1 : Nat)) ((1 : Nat))); let q12 := (hsP q9); let q13 := (hsR q9); let q14 := (((0 : Int) ≤ a) ∧ (a < (↑nw : Int))); let q15 := (litF q4 []); let q16 := TS; let q17 := (Nat.succ (Nat.succ (Int.toNat (a + (1 : Int))))); let q18 := (a + (1 : Int) + hsP q9); let q19 := ((0 : Nat), Blk.row true [IntKind.u64] ew nw cw fw); let q20 := ((3 : Nat), Blk.cells [vn] (112 : Nat)); let q21 := (appF (fun x x_1 ↦ (0 : Int)) (0 : Nat) fw (0 : Nat) (Int.toNat a) (0 : Nat)); let q22 := (q16 ∧ q11); let q23 := (Int.toNat (a + (1 : Int) + hsP q9 - (a + (1 : Int)))); let q24 := (hsP q21); let q25 := (hsR q21); let q26 := (a + (1 : Int) + hsP q9 + hsR q9); let q27 := ((q8 ≤ a + (1 : Int)) ∧ (a + (1 : Int) ≤ q6)); let q28 := (a + (1 : Int) + hsP q21); let q29 := ((q8 ≤ (↑nw : Int) - a) ∧ ((↑nw : Int) - a ≤ q6)); let q30 := ((0 : Int) ≤ a + (1 : Int) + hsP q21); let q31 := (a + (1 : Int) ≤ a + (1 : Int) + hsP q21); let q32 := (Int.toNat (a + (1 : Int) + hsP q21 - (a + (1 : Int)))); let q33 := (Int.toNat q28 + Int.toNat x < nw); let q34 := (Nat.succ (Nat.succ (Int.toNat q28))); let q35 := ((3 : Nat), Blk.cells [vi q12, vi q13] (60 : Nat)); let q36 := (Int.toNat (a + (1 : Int) + hsP q9 + hsR q9 - q18)); let q37 := (a + (1 : Int) + hsP q21 + hsR q21); let q38 := (t9 (T0 ∧ (False))); let q39 := (putF (appF (fun x x_1 ↦ (0 : Int)) (0 : Nat) fw (0 : Nat)) (Int.toNat q28 + Int.toNat x) (0 : Nat) v); let q40 := (a + (1 : Int) + hsP q21 ≤ a + (1 : Int) + hsP q21); let q41 := (((0 : Int) ≤ appF (fun x x_1 ↦ (0 : Int)) (0 : Nat) fw (0 : Nat) (Int.toNat a) (0 : Nat)) ∧ (appF (fun x x_1 ↦ (0 : Int)) (0 : Nat) fw (0 : Nat) (Int.toNat a) (0 : Nat) ≤ q7)); let q42 := (@Eq Int q28 q28); let q43 := ((2 : Nat), Blk.cells [vi (0 : Int), vi (0 : Int), vn, vi (0 : Int), vn] (118 : Nat)); let q44 := ((1 : Nat), Blk.cells [vi (0 : Int), vi (0 : Int), vn, vi (0 : Int), vn] (118 : Nat)); let q45 := ((q8 ≤ a + (1 : Int) + hsP q21) ∧ (a + (1 : Int) + hsP q21 ≤ q6)); let q46 := (a + (1 : Int) + hsP q21 ≤ a + (1 : Int) + hsP q21 + hsR q21); let q47 := (Int.toNat (a + (1 : Int) + hsP q21 + hsR q21 - q28)); let q48 := (((0 : Int) ≤ x) ∧ (x < (↑q47 : Int))); let q49 := (a + (1 : Int) + hsP q21 + hsR q21 ≤ a + (1 : Int) + hsP q21 + hsR q21); let q50 := (@Eq Int q37 q37); let q51 := ((q8 ≤ hsP q21 + hsR q21) ∧ (hsP q21 + hsR q21 ≤ q6)); let q52 := ((q8 ≤ a + (1 : Int) + hsP q21 + hsR q21) ∧ (a + (1 : Int) + hsP q21 + hsR q21 ≤ q6)); let q53 := ((5 : Nat), Blk.cells [Value.slice (some { block := (0 : Nat), off := (0 : Nat), spot := some (Nat.succ (Nat.succ (Int.toNat q18))) }) q36 q36] (112 : Nat)); let q54 := (∃ y0 : Value, (∃ y1 : List Blk, ((Go.Rx.Found 1 (Value.tuple { toList := [vn, vi (10 : Int)] }) ({ h := [q20, q43, q44, q19], next := (4 : Nat) }) (y0) (y1)) ∧ (K y0 y1)))); let q55 := ((4 : Nat), Blk.cells [vi q12, vi q13, Value.slice (some { block := (0 : Nat), off := (0 : Nat), spot := some q17 }) q23 q23, vi (a + (1 : Int)), Value.slice (some { block := (0 : Nat), off := (0 : Nat), spot := some (Nat.succ (Nat.succ (Int.toNat q18))) }) q36 q36] (118 : Nat)); let q56 := ((2 : Nat), Blk.cells [vi q12, vi q13, Value.slice (some { block := (0 : Nat), off := (0 : Nat), spot := some q17 }) q23 q23, vi (a + (1 : Int)), Value.slice (some { block := (0 : Nat), off := (0 : Nat), spot := some (Nat.succ (Nat.succ (Int.toNat q18))) }) q36 q36] (118 : Nat)); let q57 := ((1 : Nat), Blk.cells [vi q12, vi q13, Value.slice (some { block := (0 : Nat), off := (0 : Nat), spot := some q17 }) q23 q23, vi (a + (1 : Int)), Value.slice (some { block := (0 : Nat), off := (0 : Nat), spot := some (Nat.succ (Nat.succ (Int.toNat q18))) }) q36 q36] (118 : Nat)); let q58 := (t9 (∃ y0 : Value, (∃ y1 : List Blk, ((Go.Rx.Found 1 (Value.tuple { toList := [vn, vi (7 : Int)] }) ({ h := [((3 : Nat), Blk.cells [vi (0 : Int), vi (0 : Int), vn, vi (0 : Int), vn] (118 : Nat)), q43, q44, q19], next := (4 : Nat) }) (y0) (y1)) ∧ (K y0 y1))))); let q59 := (t2 (if (a < (1 : Int)) then q38 else (q16 ∧ (T0 ∧ (if ((↑(0 : Nat) : Int) ≤ a) then q38 else (q22 ∧ ((((0 : Int) ≤ a) ∧ (a < (↑(0 : Nat) : Int))) ∧ ((Int.toNat a < (0 : Nat)) ∧ (T0 ∧ (q3 ∧ ((((0 : Int) ≤ litF q4 [] (Int.toNat a) (0 : Nat)) ∧ (litF q4 [] (Int.toNat a) (0 : Nat) ≤ q7)) ∧ (t3 q38)))))))))))); let q60 := (t9 (∃ y0 : Value, (∃ y1 : List Blk, ((Go.Rx.Found 1 (Value.tuple { toList := [vn, vi (6 : Int)] }) ({ h := [((4 : Nat), Blk.cells [vi (0 : Int), vi (0 : Int), vn, vi (0 : Int), vn] (118 : Nat)), q35, q43, q44, q19], next := (5 : Nat) }) (y0) (y1)) ∧ (K y0 y1))))); let q61 := (∃ y0 : Value, (∃ y1 : List Blk, ((Go.Rx.Found 1 (Value.tuple { toList := [vn, vi (10 : Int)] }) ({ h := [q53, q55, q35, q56, q57, q19], next := (6 : Nat) }) (y0) (y1)) ∧ (K y0 y1)))); (t2 (q0 ∧ ((q10 ∧ (q1 ∧ (nw ≤ cw))) ∧ (((@Eq (List IntKind) ([IntKind.u64]) ([IntKind.u64])) ∧ ((@Eq Nat (nw) (nw)) ∧ (@Eq Nat (cw) (cw)))) ∧ (q3 ∧ ((True) ∧ (T0 ∧ (if (@Eq Int (arE nw fw) ((0 : Int))) then (t2 (if (a < (1 : Int)) then q58 else (q16 ∧ (T0 ∧ (if ((↑nw : Int) ≤ a) then q58 else (q22 ∧ (q14 ∧ ((Int.toNat a < nw) ∧ (T0 ∧ (q3 ∧ ((((0 : Int) ≤ fw (Int.toNat a) (0 : Nat)) ∧ (fw (Int.toNat a) (0 : Nat) ≤ q7)) ∧ (t3 (if (@Eq Int (hsE q9) ((0 : Int))) then (t3 (((q8 ≤ hsP q9 + hsR q9) ∧ (hsP q9 + hsR q9 ≤ q6)) ∧ (q16 ∧ (T0 ∧ (q29 ∧ (T0 ∧ (if ((↑nw : Int) - a ≤ hsP q9 + hsR q9) then q60 else (T0 ∧ (q27 ∧ (t2 (((q8 ≤ a + (1 : Int) + hsP q9) ∧ (a + (1 : Int) + hsP q9 ≤ q6)) ∧ (t2 (((q8 ≤ a + (1 : Int) + hsP q9 + hsR q9) ∧ (a + (1 : Int) + hsP q9 + hsR q9 ≤ q6)) ∧ (t8 (q16 ∧ (t4 (q11 ∧ ((q5 ∧ ((a + (1 : Int) ≤ a + (1 : Int) + hsP q9) ∧ ((a + (1 : Int) + hsP q9 ≤ a + (1 : Int) + hsP q9) ∧ (a + (1 : Int) + hsP q9 ≤ (↑cw : Int))))) ∧ ((@Eq Int q18 q18) ∧ (t8 (q16 ∧ (t4 (q11 ∧ ((((0 : Int) ≤ a + (1 : Int) + hsP q9) ∧ ((a + (1 : Int) + hsP q9 ≤ a + (1 : Int) + hsP q9 + hsR q9) ∧ ((a + (1 : Int) + hsP q9 + hsR q9 ≤ a + (1 : Int) + hsP q9 + hsR q9) ∧ (a + (1 : Int) + hsP q9 + hsR q9 ≤ (↑cw : Int))))) ∧ ((@Eq Int q26 q26) ∧ (t9 (t8 (if ((0 : Int) ≤ x) then (T0 ∧ (q16 ∧ (T0 ∧ (if (x < (↑q36 : Int)) then (T0 ∧ (q16 ∧ (q16 ∧ (t4 (q16 ∧ (q16 ∧ (t4 (q0 ∧ (q1 ∧ (T0 ∧ (q10 ∧ (Go.Rx.br q2 (∀ y0 : Nat, let q64 := (y0 - (1 : Nat) + (1 : Nat)); let q65 := (↑q64 : Int); ((nw ≤ y0) → (t2 (if (a < (1 : Int)) then q38 else (q16 ∧ (T0 ∧ (if ((↑nw : Int) ≤ a) then q38 else (q22 ∧ (q14 ∧ ((Int.toNat a < nw) ∧ (T0 ∧ (q3 ∧ (q41 ∧ (t3 (if (@Eq Int (hsE q21) ((0 : Int))) then (t3 (q51 ∧ (q16 ∧ (T0 ∧ (q29 ∧ (T0 ∧ (if ((↑nw : Int) - a ≤ hsP q21 + hsR q21) then q38 else (T0 ∧ (q27 ∧ (t2 (q45 ∧ (t2 (q52 ∧ (t8 (q16 ∧ (t4 (q11 ∧ ((q5 ∧ (q31 ∧ (q40 ∧ (a + (1 : Int) + hsP q21 ≤ q65)))) ∧ (q42 ∧ (t8 (q16 ∧ (t4 (q11 ∧ ((q30 ∧ (q46 ∧ (q49 ∧ (a + (1 : Int) + hsP q21 + hsR q21 ≤ q65)))) ∧ (q50 ∧ (t9 (t4 (q22 ∧ (q48 ∧ ((false = false) ∧ (q33 ∧ (t2 (∃ y1 : Value, (∃ y2 : List Blk, ((Go.Rx.Found 1 (Value.tuple { toList := [rsl (7 : Nat) (0 : Nat) nw q64, vi (0 : Int)] }) ({ h := [((11 : Nat), Blk.cells [Value.slice (some { block := (7 : Nat), off := (0 : Nat), spot := some q34 }) q47 q47] (112 : Nat)), ((10 : Nat), Blk.cells [vi q24, vi q25, Value.slice (some { block := (7 : Nat), off := (0 : Nat), spot := some q17 }) q32 q32, vi (a + (1 : Int)), Value.slice (some { block := (7 : Nat), off := (0 : Nat), spot := some q34 }) q47 q47] (118 : Nat)), ((9 : Nat), Blk.cells [vi q24, vi q25] (60 : Nat)), ((8 : Nat), Blk.cells [vi q24, vi q25, Value.slice (some { block := (7 : Nat), off := (0 : Nat), spot := some q17 }) q32 q32, vi (a + (1 : Int)), Value.slice (some { block := (7 : Nat), off := (0 : Nat), spot := some q34 }) q47 q47] (118 : Nat)), ((7 : Nat), Blk.row false [IntKind.u64] (25 : Nat) nw q64 q39), ((6 : Nat), Blk.row false [IntKind.u64] (25 : Nat) (0 : Nat) (0 : Nat) q15), q53, q55, q35, q56, q57, q19], next := (12 : Nat) }) (y1) (y2)) ∧ (K y1 y2)))))))))))))))))))))))))))))))))))) else q38))))))))))))))) q59)))))))))))) else q61)))) else q61)))))))))))))))))))))))))))) else q60))))))))))))) else (t6 (if (@Eq Int (arE nw fw) ((0 : Int))) then (t5 (if ((0 : Int) ≤ x) then (T0 ∧ (q16 ∧ (T0 ∧ (if (x < (↑(0 : Nat) : Int)) then (T0 ∧ (q16 ∧ (q16 ∧ (t4 (q16 ∧ (q16 ∧ (t4 (q0 ∧ (q1 ∧ (T0 ∧ (q10 ∧ (Go.Rx.br q2 (∀ y0 : Nat, let q62 := (y0 - (1 : Nat) + (1 : Nat)); let q63 := (↑q62 : Int); ((nw ≤ y0) → (t2 (if (a < (1 : Int)) then q38 else (q16 ∧ (T0 ∧ (if ((↑nw : Int) ≤ a) then q38 else (q22 ∧ (q14 ∧ ((Int.toNat a < nw) ∧ (T0 ∧ (q3 ∧ (q41 ∧ (t3 (if (@Eq Int (hsE q21) ((0 : Int))) then (t3 (q51 ∧ (q16 ∧ (T0 ∧ (q29 ∧ (T0 ∧ (if ((↑nw : Int) - a ≤ hsP q21 + hsR q21) then q38 else (T0 ∧ (q27 ∧ (t2 (q45 ∧ (t2 (q52 ∧ (t8 (q16 ∧ (t4 (q11 ∧ ((q5 ∧ (q31 ∧ (q40 ∧ (a + (1 : Int) + hsP q21 ≤ q63)))) ∧ (q42 ∧ (t8 (q16 ∧ (t4 (q11 ∧ ((q30 ∧ (q46 ∧ (q49 ∧ (a + (1 : Int) + hsP q21 + hsR q21 ≤ q63)))) ∧ (q50 ∧ (t9 (t4 (q22 ∧ (q48 ∧ ((false = false) ∧ (q33 ∧ (t2 (∃ y1 : Value, (∃ y2 : List Blk, ((Go.Rx.Found 1 (Value.tuple { toList := [rsl (5 : Nat) (0 : Nat) nw q62, vi (0 : Int)] }) ({ h := [((9 : Nat), Blk.cells [Value.slice (some { block := (5 : Nat), off := (0 : Nat), spot := some q34 }) q47 q47] (112 : Nat)), ((8 : Nat), Blk.cells [vi q24, vi q25, Value.slice (some { block := (5 : Nat), off := (0 : Nat), spot := some q17 }) q32 q32, vi (a + (1 : Int)), Value.slice (some { block := (5 : Nat), off := (0 : Nat), spot := some q34 }) q47 q47] (118 : Nat)), ((7 : Nat), Blk.cells [vi q24, vi q25] (60 : Nat)), ((6 : Nat), Blk.cells [vi q24, vi q25, Value.slice (some { block := (5 : Nat), off := (0 : Nat), spot := some q17 }) q32 q32, vi (a + (1 : Int)), Value.slice (some { block := (5 : Nat), off := (0 : Nat), spot := some q34 }) q47 q47] (118 : Nat)), ((5 : Nat), Blk.row false [IntKind.u64] (25 : Nat) nw q62 q39), ((4 : Nat), Blk.row false [IntKind.u64] (25 : Nat) (0 : Nat) (0 : Nat) q15), q20, q43, q44, q19], next := (10 : Nat) }) (y1) (y2)) ∧ (K y1 y2)))))))))))))))))))))))))))))))))))) else q38))))))))))))))) q59)))))))))))) else q54)))) else q54)) else (∃ y0 : Value, (∃ y1 : List Blk, ((Go.Rx.Found 1 (Value.tuple { toList := [vn, vi (arE nw fw)] }) ({ h := [q43, q44, q19], next := (3 : Nat) }) (y0) (y1)) ∧ (K y0 y1))))))))))))))
theorem srOB_rE (ew nw cw : Nat) (fw : RF) (a : Int) (x : Int) (v : Int) (K : Value → List Blk → Prop) : srOB_rV ew nw cw fw a x v K = bodyX (mk XO) (callN (mk XO) 9) (srOB_rA ew nw cw fw a x v) Try.f62 [rsl 0 0 nw cw, .int .i64 a, .int .i64 x, .int .u64 v] (stOf [.row true [.u64] ew nw cw fw]) (Fd 1 K) := by kernel_rfl
set_option tactic.hygienic false in
theorem srOB_rP (ew nw cw : Nat) (fw : RF) (a : Int) (x : Int) (v : Int) (K : Value → List Blk → Prop)  (hnw : nw ≤ 100000) (hcw : nw ≤ cw) (hU : Ok64 nw fw) (h1 : ¬ rwE nw fw a x = 0) (h : K (.tuple ⟨[.slice none 0 0, .int .i64 (rwE nw fw a x)]⟩) []) : srOB_rV ew nw cw fw a x v K := by
  unfold srOB_rV
  conv => zeta
  have z0 := ar_cases nw fw
  have z1 := ob_cases hU a
  have z2 := fun (h1 : 0 ≤ a) (h2 : a < nw) => hU.at h1 h2
  have z3 := fun (h1 : 0 ≤ a) (h2 : a < nw) => hs_bd (hU.at h1 h2).1
  have z4 := rw_cases nw fw a x
  repeat' (first | (with_reducible exact rfl) | (with_reducible exact trivial) | (with_reducible refine And.intro ?_ ?_) | (intro) | (with_reducible refine br_d (fun hq => ?_) (fun hq => ?_)) | (with_reducible refine br_nd (fun hq => ?_) (fun hq => ?_)) | (with_reducible refine br_intro (fun hq => ?_) (fun hq => ?_)) | (with_reducible refine if_both (fun hz => ?_) (fun hz => ?_)) | fail)

  all_goals first
    | (with_reducible assumption)
    | (refine (id ?_ : ∃ (v1 : Value) (news : List Blk), _)
       first
        | contradiction
        | exact fin0 (by kernel_rfl) (by kernel_rfl) h
        | exact fin0 (by kernel_rfl) (by kernel_rfl) (fin0i (by omega) h)
        | exact fin0 (by kernel_rfl) (by kernel_rfl) (fin0p (by omega) (by omega) h)
        | exact fin0 (by kernel_rfl) (by kernel_rfl) (fin0u (by omega) (by omega) h)
        | exact fin0 (by kernel_rfl) (by kernel_rfl) (fin0s (by omega) (by omega) (by omega) h)
        | exact fin0 (by kernel_rfl) (by kernel_rfl) (fin0n (by omega) h)
        | (exfalso; simp at hq; omega)
        | (exfalso; omega)
       )
    | omega
    | contradiction
    | exact fin0 (by kernel_rfl) (by kernel_rfl) h
    | exact fin0 (by kernel_rfl) (by kernel_rfl) (fin0i (by omega) h)
    | exact fin0 (by kernel_rfl) (by kernel_rfl) (fin0p (by omega) (by omega) h)
    | exact fin0 (by kernel_rfl) (by kernel_rfl) (fin0u (by omega) (by omega) h)
    | exact fin0 (by kernel_rfl) (by kernel_rfl) (fin0s (by omega) (by omega) (by omega) h)
    | exact fin0 (by kernel_rfl) (by kernel_rfl) (fin0n (by omega) h)
    | (exfalso; simp at hq; omega)
    | (exfalso; omega)
theorem srOB_ok : BodyOk (mk XO) 9 Try.f62 srOB := by
  intro vs bs K hh hro
  clear hro
  unfold srOB at hh
  split at hh
  · rename_i vw a x v
    rcases parseQ_inv hh with ⟨rfl, hh0⟩ | ⟨ew, nw, cw, fw, btw, rfl, hnw, hcw, rfl, hh0⟩ <;> clear hh
    · obtain ⟨rfl, ⟨hU, h1⟩, hc⟩ := hh0
      exact ⟨_, _, cast (srOB_nE  a x v K) (srOB_nP  a x v K  hU h1 hc)⟩
    · obtain ⟨rfl, ⟨hU, h1⟩, hc⟩ := hh0
      exact ⟨_, _, cast (srOB_rE ew nw cw fw a x v K) (srOB_rP ew nw cw fw a x v K hnw hcw hU h1 hc)⟩
  · exact hh.elim
theorem srOB_told : Told 62 (specOf srOB) := told (X := XO) XO_told (by kernel_rfl) (by kernel_rfl) (by kernel_rfl) srOB_ok
def srOG_rV (ew nw cw : Nat) (fw : RF) (a : Int) (x : Int) (v : Int) (K : Value → List Blk → Prop) : Prop := let q0 := ((0 : Nat) + nw ≤ nw); let q1 := (nw ≤ (100000 : Nat)); let q2 := (decide ((0 : Nat) < nw)); let q3 := eB; let q4 := (List.length [IntKind.u64]); let q5 := ((0 : Int) ≤ a + (1 : Int)); let q6 := (9223372036854775807 : Int); let q7 := (18446744073709551615 : Int); let q8 := (-9223372036854775808 : Int); let q9 := (fw (Int.toNat a) (0 : Nat)); let q10 := (@Eq Nat ((0 : Nat)) ((0 : Nat))); let q11 := (@Eq Nat ((1 : Nat)) ((1 : Nat))); let q12 := (hsP q9); let q13 := (hsR q9); let q14 := (((0 : Int) ≤ a) ∧ (a < (↑nw : Int))); let q15 := (litF q4 []); let q16 := TS; let q17 := (Nat.succ (Nat.succ (Int.toNat (a + (1 : Int))))); let q18 := (a + (1 : Int) + hsP q9); let q19 := ((0 : Nat), Blk.row true [IntKind.u64] ew nw cw fw); let q20 := ((3 : Nat), Blk.cells [vn] (112 : Nat)); let q21 := (appF (fun x x_1 ↦ (0 : Int)) (0 : Nat) fw (0 : Nat) (Int.toNat a) (0 : Nat)); let q22 := (q16 ∧ q11); let q23 := (Int.toNat (a + (1 : Int) + hsP q9 - (a + (1 : Int)))); let q24 := (hsP q21); let q25 := (hsR q21); let q26 := (a + (1 : Int) + hsP q9 + hsR q9); let q27 := ((q8 ≤ a + (1 : Int)) ∧ (a + (1 : Int) ≤ q6)); let q28 := (a + (1 : Int) + hsP q21); let q29 := ((q8 ≤ (↑nw : Int) - a) ∧ ((↑nw : Int) - a ≤ q6)); let q30 := ((0 : Int) ≤ a + (1 : Int) + hsP q21); let q31 := (a + (1 : Int) ≤ a + (1 : Int) + hsP q21); let q32 := (Int.toNat (a + (1 : Int) + hsP q21 - (a + (1 : Int)))); let q33 := (Int.toNat q28 + Int.toNat x < nw); let q34 := (Nat.succ (Nat.succ (Int.toNat q28))); let q35 := ((3 : Nat), Blk.cells [vi q12, vi q13] (60 : Nat)); let q36 := (Int.toNat (a + (1 : Int) + hsP q9 + hsR q9 - q18)); let q37 := (a + (1 : Int) + hsP q21 + hsR q21); let q38 := (t9 (T0 ∧ (False))); let q39 := (putF (appF (fun x x_1 ↦ (0 : Int)) (0 : Nat) fw (0 : Nat)) (Int.toNat q28 + Int.toNat x) (0 : Nat) v); let q40 := (a + (1 : Int) + hsP q21 ≤ a + (1 : Int) + hsP q21); let q41 := (((0 : Int) ≤ appF (fun x x_1 ↦ (0 : Int)) (0 : Nat) fw (0 : Nat) (Int.toNat a) (0 : Nat)) ∧ (appF (fun x x_1 ↦ (0 : Int)) (0 : Nat) fw (0 : Nat) (Int.toNat a) (0 : Nat) ≤ q7)); let q42 := (@Eq Int q28 q28); let q43 := ((2 : Nat), Blk.cells [vi (0 : Int), vi (0 : Int), vn, vi (0 : Int), vn] (118 : Nat)); let q44 := ((1 : Nat), Blk.cells [vi (0 : Int), vi (0 : Int), vn, vi (0 : Int), vn] (118 : Nat)); let q45 := ((q8 ≤ a + (1 : Int) + hsP q21) ∧ (a + (1 : Int) + hsP q21 ≤ q6)); let q46 := (a + (1 : Int) + hsP q21 ≤ a + (1 : Int) + hsP q21 + hsR q21); let q47 := (Int.toNat (a + (1 : Int) + hsP q21 + hsR q21 - q28)); let q48 := (((0 : Int) ≤ x) ∧ (x < (↑q47 : Int))); let q49 := (a + (1 : Int) + hsP q21 + hsR q21 ≤ a + (1 : Int) + hsP q21 + hsR q21); let q50 := (@Eq Int q37 q37); let q51 := ((q8 ≤ hsP q21 + hsR q21) ∧ (hsP q21 + hsR q21 ≤ q6)); let q52 := ((q8 ≤ a + (1 : Int) + hsP q21 + hsR q21) ∧ (a + (1 : Int) + hsP q21 + hsR q21 ≤ q6)); let q53 := ((5 : Nat), Blk.cells [Value.slice (some { block := (0 : Nat), off := (0 : Nat), spot := some (Nat.succ (Nat.succ (Int.toNat q18))) }) q36 q36] (112 : Nat)); let q54 := (∃ y0 : Value, (∃ y1 : List Blk, ((Go.Rx.Found 1 (Value.tuple { toList := [vn, vi (10 : Int)] }) ({ h := [q20, q43, q44, q19], next := (4 : Nat) }) (y0) (y1)) ∧ (K y0 y1)))); let q55 := ((4 : Nat), Blk.cells [vi q12, vi q13, Value.slice (some { block := (0 : Nat), off := (0 : Nat), spot := some q17 }) q23 q23, vi (a + (1 : Int)), Value.slice (some { block := (0 : Nat), off := (0 : Nat), spot := some (Nat.succ (Nat.succ (Int.toNat q18))) }) q36 q36] (118 : Nat)); let q56 := ((2 : Nat), Blk.cells [vi q12, vi q13, Value.slice (some { block := (0 : Nat), off := (0 : Nat), spot := some q17 }) q23 q23, vi (a + (1 : Int)), Value.slice (some { block := (0 : Nat), off := (0 : Nat), spot := some (Nat.succ (Nat.succ (Int.toNat q18))) }) q36 q36] (118 : Nat)); let q57 := ((1 : Nat), Blk.cells [vi q12, vi q13, Value.slice (some { block := (0 : Nat), off := (0 : Nat), spot := some q17 }) q23 q23, vi (a + (1 : Int)), Value.slice (some { block := (0 : Nat), off := (0 : Nat), spot := some (Nat.succ (Nat.succ (Int.toNat q18))) }) q36 q36] (118 : Nat)); let q58 := (t9 (∃ y0 : Value, (∃ y1 : List Blk, ((Go.Rx.Found 1 (Value.tuple { toList := [vn, vi (7 : Int)] }) ({ h := [((3 : Nat), Blk.cells [vi (0 : Int), vi (0 : Int), vn, vi (0 : Int), vn] (118 : Nat)), q43, q44, q19], next := (4 : Nat) }) (y0) (y1)) ∧ (K y0 y1))))); let q59 := (t2 (if (a < (1 : Int)) then q38 else (q16 ∧ (T0 ∧ (if ((↑(0 : Nat) : Int) ≤ a) then q38 else (q22 ∧ ((((0 : Int) ≤ a) ∧ (a < (↑(0 : Nat) : Int))) ∧ ((Int.toNat a < (0 : Nat)) ∧ (T0 ∧ (q3 ∧ ((((0 : Int) ≤ litF q4 [] (Int.toNat a) (0 : Nat)) ∧ (litF q4 [] (Int.toNat a) (0 : Nat) ≤ q7)) ∧ (t3 q38)))))))))))); let q60 := (t9 (∃ y0 : Value, (∃ y1 : List Blk, ((Go.Rx.Found 1 (Value.tuple { toList := [vn, vi (6 : Int)] }) ({ h := [((4 : Nat), Blk.cells [vi (0 : Int), vi (0 : Int), vn, vi (0 : Int), vn] (118 : Nat)), q35, q43, q44, q19], next := (5 : Nat) }) (y0) (y1)) ∧ (K y0 y1))))); let q61 := (∃ y0 : Value, (∃ y1 : List Blk, ((Go.Rx.Found 1 (Value.tuple { toList := [vn, vi (10 : Int)] }) ({ h := [q53, q55, q35, q56, q57, q19], next := (6 : Nat) }) (y0) (y1)) ∧ (K y0 y1)))); (t2 (q0 ∧ ((q10 ∧ (q1 ∧ (nw ≤ cw))) ∧ (((@Eq (List IntKind) ([IntKind.u64]) ([IntKind.u64])) ∧ ((@Eq Nat (nw) (nw)) ∧ (@Eq Nat (cw) (cw)))) ∧ (q3 ∧ ((True) ∧ (T0 ∧ (if (@Eq Int (arE nw fw) ((0 : Int))) then (t2 (if (a < (1 : Int)) then q58 else (q16 ∧ (T0 ∧ (if ((↑nw : Int) ≤ a) then q58 else (q22 ∧ (q14 ∧ ((Int.toNat a < nw) ∧ (T0 ∧ (q3 ∧ ((((0 : Int) ≤ fw (Int.toNat a) (0 : Nat)) ∧ (fw (Int.toNat a) (0 : Nat) ≤ q7)) ∧ (t3 (if (@Eq Int (hsE q9) ((0 : Int))) then (t3 (((q8 ≤ hsP q9 + hsR q9) ∧ (hsP q9 + hsR q9 ≤ q6)) ∧ (q16 ∧ (T0 ∧ (q29 ∧ (T0 ∧ (if ((↑nw : Int) - a ≤ hsP q9 + hsR q9) then q60 else (T0 ∧ (q27 ∧ (t2 (((q8 ≤ a + (1 : Int) + hsP q9) ∧ (a + (1 : Int) + hsP q9 ≤ q6)) ∧ (t2 (((q8 ≤ a + (1 : Int) + hsP q9 + hsR q9) ∧ (a + (1 : Int) + hsP q9 + hsR q9 ≤ q6)) ∧ (t8 (q16 ∧ (t4 (q11 ∧ ((q5 ∧ ((a + (1 : Int) ≤ a + (1 : Int) + hsP q9) ∧ ((a + (1 : Int) + hsP q9 ≤ a + (1 : Int) + hsP q9) ∧ (a + (1 : Int) + hsP q9 ≤ (↑cw : Int))))) ∧ ((@Eq Int q18 q18) ∧ (t8 (q16 ∧ (t4 (q11 ∧ ((((0 : Int) ≤ a + (1 : Int) + hsP q9) ∧ ((a + (1 : Int) + hsP q9 ≤ a + (1 : Int) + hsP q9 + hsR q9) ∧ ((a + (1 : Int) + hsP q9 + hsR q9 ≤ a + (1 : Int) + hsP q9 + hsR q9) ∧ (a + (1 : Int) + hsP q9 + hsR q9 ≤ (↑cw : Int))))) ∧ ((@Eq Int q26 q26) ∧ (t9 (t8 (if ((0 : Int) ≤ x) then (T0 ∧ (q16 ∧ (T0 ∧ (if (x < (↑q36 : Int)) then (T0 ∧ (q16 ∧ (q16 ∧ (t4 (q16 ∧ (q16 ∧ (t4 (q0 ∧ (q1 ∧ (T0 ∧ (q10 ∧ (Go.Rx.br q2 (∀ y0 : Nat, let q64 := (y0 - (1 : Nat) + (1 : Nat)); let q65 := (↑q64 : Int); ((nw ≤ y0) → (t2 (if (a < (1 : Int)) then q38 else (q16 ∧ (T0 ∧ (if ((↑nw : Int) ≤ a) then q38 else (q22 ∧ (q14 ∧ ((Int.toNat a < nw) ∧ (T0 ∧ (q3 ∧ (q41 ∧ (t3 (if (@Eq Int (hsE q21) ((0 : Int))) then (t3 (q51 ∧ (q16 ∧ (T0 ∧ (q29 ∧ (T0 ∧ (if ((↑nw : Int) - a ≤ hsP q21 + hsR q21) then q38 else (T0 ∧ (q27 ∧ (t2 (q45 ∧ (t2 (q52 ∧ (t8 (q16 ∧ (t4 (q11 ∧ ((q5 ∧ (q31 ∧ (q40 ∧ (a + (1 : Int) + hsP q21 ≤ q65)))) ∧ (q42 ∧ (t8 (q16 ∧ (t4 (q11 ∧ ((q30 ∧ (q46 ∧ (q49 ∧ (a + (1 : Int) + hsP q21 + hsR q21 ≤ q65)))) ∧ (q50 ∧ (t9 (t4 (q22 ∧ (q48 ∧ ((false = false) ∧ (q33 ∧ (t2 (∃ y1 : Value, (∃ y2 : List Blk, ((Go.Rx.Found 1 (Value.tuple { toList := [rsl (7 : Nat) (0 : Nat) nw q64, vi (0 : Int)] }) ({ h := [((11 : Nat), Blk.cells [Value.slice (some { block := (7 : Nat), off := (0 : Nat), spot := some q34 }) q47 q47] (112 : Nat)), ((10 : Nat), Blk.cells [vi q24, vi q25, Value.slice (some { block := (7 : Nat), off := (0 : Nat), spot := some q17 }) q32 q32, vi (a + (1 : Int)), Value.slice (some { block := (7 : Nat), off := (0 : Nat), spot := some q34 }) q47 q47] (118 : Nat)), ((9 : Nat), Blk.cells [vi q24, vi q25] (60 : Nat)), ((8 : Nat), Blk.cells [vi q24, vi q25, Value.slice (some { block := (7 : Nat), off := (0 : Nat), spot := some q17 }) q32 q32, vi (a + (1 : Int)), Value.slice (some { block := (7 : Nat), off := (0 : Nat), spot := some q34 }) q47 q47] (118 : Nat)), ((7 : Nat), Blk.row false [IntKind.u64] (25 : Nat) nw q64 q39), ((6 : Nat), Blk.row false [IntKind.u64] (25 : Nat) (0 : Nat) (0 : Nat) q15), q53, q55, q35, q56, q57, q19], next := (12 : Nat) }) (y1) (y2)) ∧ (K y1 y2)))))))))))))))))))))))))))))))))))) else q38))))))))))))))) q59)))))))))))) else q61)))) else q61)))))))))))))))))))))))))))) else q60))))))))))))) else (t6 (if (@Eq Int (arE nw fw) ((0 : Int))) then (t5 (if ((0 : Int) ≤ x) then (T0 ∧ (q16 ∧ (T0 ∧ (if (x < (↑(0 : Nat) : Int)) then (T0 ∧ (q16 ∧ (q16 ∧ (t4 (q16 ∧ (q16 ∧ (t4 (q0 ∧ (q1 ∧ (T0 ∧ (q10 ∧ (Go.Rx.br q2 (∀ y0 : Nat, let q62 := (y0 - (1 : Nat) + (1 : Nat)); let q63 := (↑q62 : Int); ((nw ≤ y0) → (t2 (if (a < (1 : Int)) then q38 else (q16 ∧ (T0 ∧ (if ((↑nw : Int) ≤ a) then q38 else (q22 ∧ (q14 ∧ ((Int.toNat a < nw) ∧ (T0 ∧ (q3 ∧ (q41 ∧ (t3 (if (@Eq Int (hsE q21) ((0 : Int))) then (t3 (q51 ∧ (q16 ∧ (T0 ∧ (q29 ∧ (T0 ∧ (if ((↑nw : Int) - a ≤ hsP q21 + hsR q21) then q38 else (T0 ∧ (q27 ∧ (t2 (q45 ∧ (t2 (q52 ∧ (t8 (q16 ∧ (t4 (q11 ∧ ((q5 ∧ (q31 ∧ (q40 ∧ (a + (1 : Int) + hsP q21 ≤ q63)))) ∧ (q42 ∧ (t8 (q16 ∧ (t4 (q11 ∧ ((q30 ∧ (q46 ∧ (q49 ∧ (a + (1 : Int) + hsP q21 + hsR q21 ≤ q63)))) ∧ (q50 ∧ (t9 (t4 (q22 ∧ (q48 ∧ ((false = false) ∧ (q33 ∧ (t2 (∃ y1 : Value, (∃ y2 : List Blk, ((Go.Rx.Found 1 (Value.tuple { toList := [rsl (5 : Nat) (0 : Nat) nw q62, vi (0 : Int)] }) ({ h := [((9 : Nat), Blk.cells [Value.slice (some { block := (5 : Nat), off := (0 : Nat), spot := some q34 }) q47 q47] (112 : Nat)), ((8 : Nat), Blk.cells [vi q24, vi q25, Value.slice (some { block := (5 : Nat), off := (0 : Nat), spot := some q17 }) q32 q32, vi (a + (1 : Int)), Value.slice (some { block := (5 : Nat), off := (0 : Nat), spot := some q34 }) q47 q47] (118 : Nat)), ((7 : Nat), Blk.cells [vi q24, vi q25] (60 : Nat)), ((6 : Nat), Blk.cells [vi q24, vi q25, Value.slice (some { block := (5 : Nat), off := (0 : Nat), spot := some q17 }) q32 q32, vi (a + (1 : Int)), Value.slice (some { block := (5 : Nat), off := (0 : Nat), spot := some q34 }) q47 q47] (118 : Nat)), ((5 : Nat), Blk.row false [IntKind.u64] (25 : Nat) nw q62 q39), ((4 : Nat), Blk.row false [IntKind.u64] (25 : Nat) (0 : Nat) (0 : Nat) q15), q20, q43, q44, q19], next := (10 : Nat) }) (y1) (y2)) ∧ (K y1 y2)))))))))))))))))))))))))))))))))))) else q38))))))))))))))) q59)))))))))))) else q54)))) else q54)) else (∃ y0 : Value, (∃ y1 : List Blk, ((Go.Rx.Found 1 (Value.tuple { toList := [vn, vi (arE nw fw)] }) ({ h := [q43, q44, q19], next := (3 : Nat) }) (y0) (y1)) ∧ (K y0 y1))))))))))))))
theorem srOG_rE (ew nw cw : Nat) (fw : RF) (a : Int) (x : Int) (v : Int) (K : Value → List Blk → Prop) : srOG_rV ew nw cw fw a x v K = bodyX (mk XO) (callN (mk XO) 9) (srOG_rA ew nw cw fw a x v) Try.f62 [rsl 0 0 nw cw, .int .i64 a, .int .i64 x, .int .u64 v] (stOf [.row true [.u64] ew nw cw fw]) (Fd 1 K) := by kernel_rfl
set_option tactic.hygienic false in
theorem srOG_rP (ew nw cw : Nat) (fw : RF) (a : Int) (x : Int) (v : Int) (K : Value → List Blk → Prop)  (hnw : nw ≤ 100000) (hcw : nw ≤ cw) (hU : Ok64 nw fw) (h1 : rwE nw fw a x = 0) (h : ∀ cp, nw ≤ cp → K (.tuple ⟨[rsl 1 0 (nw) cp, .int .i64 (0)]⟩) [.row false [.u64] 25 (nw) cp (setF fw (Int.toNat (a + 1 + obP nw fw a + x)) v)]) : srOG_rV ew nw cw fw a x v K := by
  unfold srOG_rV
  conv => zeta
  have z0 := ar_cases nw fw
  have z1 := ob_cases hU a
  have z2 := fun (h1 : 0 ≤ a) (h2 : a < nw) => hU.at h1 h2
  have z3 := fun (h1 : 0 ≤ a) (h2 : a < nw) => hs_bd (hU.at h1 h2).1
  have z4 := rw_cases nw fw a x
  repeat' (first | (with_reducible exact rfl) | (with_reducible exact trivial) | (with_reducible refine And.intro ?_ ?_) | (intro) | (with_reducible refine br_d (fun hq => ?_) (fun hq => ?_)) | (with_reducible refine br_nd (fun hq => ?_) (fun hq => ?_)) | (with_reducible refine br_intro (fun hq => ?_) (fun hq => ?_)) | (with_reducible refine if_both (fun hz => ?_) (fun hz => ?_)) | fail)
  all_goals try simp only [app_nil] at *
  all_goals first
    | (with_reducible assumption)
    | (refine (id ?_ : ∃ (v1 : Value) (news : List Blk), _)
       first
        | contradiction
        | (refine fin1t rfl ?_ (by kernel_rfl) (by kernel_rfl) (h _ (by omega)); (intro i j hi hj; obtain rfl : j = 0 := (by simp at hj; omega); (try unfold setF); (try unfold zroF); (try unfold mkF); (try unfold putF); (try unfold appF); (try unfold clrF); (try unfold setF); (try unfold zroF); (repeat' split) <;> first | rfl | omega | (exfalso; omega) | (simp_all; done) | (simp_all; omega)))
        | (exfalso; omega)
        | (exfalso; simp at hq; omega)
       )
    | omega
    | contradiction
    | (refine fin1t rfl ?_ (by kernel_rfl) (by kernel_rfl) (h _ (by omega)); (intro i j hi hj; obtain rfl : j = 0 := (by simp at hj; omega); (try unfold setF); (try unfold zroF); (try unfold mkF); (try unfold putF); (try unfold appF); (try unfold clrF); (try unfold setF); (try unfold zroF); (repeat' split) <;> first | rfl | omega | (exfalso; omega) | (simp_all; done) | (simp_all; omega)))
    | (exfalso; omega)
    | (exfalso; simp at hq; omega)
theorem srOG_ok : BodyOk (mk XO) 9 Try.f62 srOG := by
  intro vs bs K hh hro
  clear hro
  unfold srOG at hh
  split at hh
  · rename_i vw a x v
    obtain ⟨ew, nw, cw, fw, btw, rfl, hnw, hcw, rfl, hh0⟩ := parseRQ_inv hh
    obtain ⟨rfl, ⟨hU, h1⟩, hc⟩ := hh0
    exact ⟨_, _, cast (srOG_rE ew nw cw fw a x v K) (srOG_rP ew nw cw fw a x v K hnw hcw hU h1 hc)⟩
  · exact hh.elim
theorem srOG_told : Told 62 (specOf srOG) := told (X := XO) XO_told (by kernel_rfl) (by kernel_rfl) (by kernel_rfl) srOG_ok
end Go.Proofs.Ytfgeoglegebncaa.Fr
namespace Go.Proofs.Ytfgeoglegebncaa.Fr
set_option maxRecDepth 100000
set_option maxHeartbeats 4000000
open Go.Rx
open Go.RowKit (Below)
set_option linter.unusedVariables false
/-- A field that is set: a raw one where the value is odd. -/
def seE (n : Nat) (f : RF) (a x t v : Int) : Int := if v % 2 = 1 then rwE n f a x else spE n f a x t
def seA (n : Nat) (f : RF) (a x v : Int) : Int := if v % 2 = 1 then a + 1 + obP n f a + x else a + 1 + x
def seV (t v : Int) : Int := if v % 2 = 1 then v else t
theorem se_cases (n : Nat) (f : RF) (a x t v : Int) : (v % 2 = 1 ∧ seE n f a x t v = rwE n f a x ∧ seA n f a x v = a + 1 + obP n f a + x ∧ seV t v = v) ∨ (¬ v % 2 = 1 ∧ seE n f a x t v = spE n f a x t ∧ seA n f a x v = a + 1 + x ∧ seV t v = t) := by
  by_cases h : v % 2 = 1
  · exact .inl ⟨h, if_pos h, if_pos h, if_pos h⟩
  · exact .inr ⟨h, if_neg h, if_neg h, if_neg h⟩
/-- What Differ finds. -/
structure DifL (n : Nat) (f g : RF) (m : Nat) (l : RF) : Prop where
  pos : 1 ≤ m
  mem : ∀ i, i < m → 0 ≤ l i 0 ∧ l i 0 < n ∧ ¬ f (l i 0).toNat 0 = g (l i 0).toNat 0
  asc : ∀ i j, i < j → j < m → l i 0 < l j 0
def eqF (n : Nat) (f g : RF) : Prop := ∀ i, i < n → f i 0 = g i 0
/-- Indexes below k where two rows differ. -/
structure DifK (k n : Nat) (f g : RF) (m : Nat) (l : RF) : Prop where
  pos : 1 ≤ m
  mem : ∀ i, i < m → 0 ≤ l i 0 ∧ l i 0 < k ∧ ¬ f (l i 0).toNat 0 = g (l i 0).toNat 0
  asc : ∀ i j, i < j → j < m → l i 0 < l j 0
theorem DifK.one {k n : Nat} {f g : RF} {v : Int} (hv : v = (k : Int)) (h : ¬ f k 0 = g k 0) : DifK (k + 1) n f g 1 (appF (fun _ _ => 0) 0 (litF 1 [v]) 0) := by
  have e : appF (fun _ _ => 0) 0 (litF 1 [v]) 0 0 0 = (k : Int) := by rw [← hv]; rfl
  refine ⟨Nat.le_refl 1, fun i hi => ?_, fun i j h1 h2 => absurd h2 (by omega)⟩
  obtain rfl : i = 0 := by omega
  rw [e]
  exact ⟨by omega, by omega, h⟩
theorem DifK.more {k n m : Nat} {f g l : RF} {v : Int} (H : DifK k n f g m l) (hv : v = (k : Int)) (h : ¬ f k 0 = g k 0) : DifK (k + 1) n f g (m + 1) (appF l m (litF 1 [v]) 0) := by
  have e : appF l m (litF 1 [v]) 0 m 0 = (k : Int) := by
    rw [← hv]
    simp [appF, litF]
  have e2 : ∀ i, i < m → appF l m (litF 1 [v]) 0 i 0 = l i 0 := fun i hi => if_pos hi
  refine ⟨by omega, fun i hi => ?_, fun i j h1 h2 => ?_⟩
  · rcases Nat.lt_or_ge i m with q | q
    · rw [e2 i q]
      have := H.mem i q
      exact ⟨this.1, by omega, this.2.2⟩
    · obtain rfl : i = m := by omega
      rw [e]
      exact ⟨by omega, by omega, h⟩
  · rcases Nat.lt_or_ge j m with q | q
    · rw [e2 i (by omega), e2 j q]
      exact H.asc i j h1 q
    · obtain rfl : j = m := by omega
      rw [e, e2 i h1]
      have := H.mem i h1
      omega
theorem DifK.next {k n m : Nat} {f g l : RF} (H : DifK k n f g m l) : DifK (k + 1) n f g m l := ⟨H.pos, fun i hi => by
  have := H.mem i hi
  exact ⟨this.1, by omega, this.2.2⟩, H.asc⟩
@[reducible] def XSEB : List (Nat × Rx.Spec) := [(60, specOf spOB), (62, specOf srOB)]
theorem XSEB_told : ∀ p ∈ XSEB, Told p.1 p.2 := by
  intro p hp
  simp only [List.mem_cons, List.not_mem_nil, or_false] at hp
  rcases hp with rfl | rfl
  · exact spOB_told
  · exact srOB_told
@[reducible] def XSEG : List (Nat × Rx.Spec) := [(60, specOf spOG), (62, specOf srOG)]
theorem XSEG_told : ∀ p ∈ XSEG, Told p.1 p.2 := by
  intro p hp
  simp only [List.mem_cons, List.not_mem_nil, or_false] at hp
  rcases hp with rfl | rfl
  · exact spOG_told
  · exact srOG_told
theorem eq_next {k : Nat} {f g : RF} (h : eqF k f g) (h' : f k 0 = g k 0) : eqF (k + 1) f g := fun i hi => by
  rcases Nat.lt_or_ge i k with q | q
  · exact h i q
  · obtain rfl : i = k := by omega
    exact h'
end Go.Proofs.Ytfgeoglegebncaa.Fr
namespace Go.Proofs.Ytfgeoglegebncaa.Fr
set_option maxRecDepth 100000
set_option maxHeartbeats 4000000
open Go.Rx
open Go.RowKit (Below)
set_option linter.unusedVariables false
def seB : Con := fun vs bs K => match vs with
  | [vw, .agg ⟨[.int .i64 a, .int .i64 x, .int .i64 t, .int .u64 v]⟩] => parseQ [.u64] 0 vw bs fun nw fw j0 bs0 => bs0 = [] ∧ ((Ok64 nw fw) ∧ (0 ≤ v ∧ v ≤ 18446744073709551615) ∧ (¬ seE nw fw a x t v = 0)) ∧ (K (.tuple ⟨[.slice none 0 0, .int .i64 (seE nw fw a x t v)]⟩) [])
  | _ => False

def seB_nA (a : Int) (x : Int) (t : Int) (v : Int) : Ann := fun _ _ _ => none
def seB_rA (ew nw cw : Nat) (fw : RF) (a : Int) (x : Int) (t : Int) (v : Int) : Ann := fun _ _ _ => none
def seG : Con := fun vs bs K => match vs with
  | [vw, .agg ⟨[.int .i64 a, .int .i64 x, .int .i64 t, .int .u64 v]⟩] => parseRQ [.u64] 0 vw bs fun nw fw j0 bs0 => bs0 = [] ∧ ((Ok64 nw fw) ∧ (0 ≤ v ∧ v ≤ 18446744073709551615) ∧ (seE nw fw a x t v = 0)) ∧ (∀ cp, nw ≤ cp → K (.tuple ⟨[rsl j0 0 (nw) cp, .int .i64 (0)]⟩) [.row false [.u64] 25 (nw) cp (setF fw (Int.toNat (seA nw fw a x v)) (seV t v))])
  | _ => False

def seG_rA (ew nw cw : Nat) (fw : RF) (a : Int) (x : Int) (t : Int) (v : Int) : Ann := fun _ _ _ => none
def seB_nV (a : Int) (x : Int) (t : Int) (v : Int) (K : Value → List Blk → Prop) : Prop := let q0 := eB; (t3 ((((0 : Int) ≤ v) ∧ ((0 : Int) < (2 : Int))) ∧ (T0 ∧ (if (@Eq Int (v % (2 : Int)) ((1 : Int))) then (t7 (q0 ∧ (((Ok64 (0 : Nat) zF) ∧ (¬rwE (0 : Nat) zF a x = (0 : Int))) ∧ (∃ y0 : Value, (∃ y1 : List Blk, ((Go.Rx.Found 0 (Value.tuple { toList := [vn, vi (rwE (0 : Nat) zF a x)] }) ({ h := [((0 : Nat), Blk.cells [vi a, vi x, vi t, Value.int IntKind.u64 v] (74 : Nat))], next := (1 : Nat) }) (y0) (y1)) ∧ (K y0 y1))))))) else (t7 (q0 ∧ (((Ok64 (0 : Nat) zF) ∧ (¬spE (0 : Nat) zF a x t = (0 : Int))) ∧ (∃ y0 : Value, (∃ y1 : List Blk, ((Go.Rx.Found 0 (Value.tuple { toList := [vn, vi (spE (0 : Nat) zF a x t)] }) ({ h := [((0 : Nat), Blk.cells [vi a, vi x, vi t, Value.int IntKind.u64 v] (74 : Nat))], next := (1 : Nat) }) (y0) (y1)) ∧ (K y0 y1)))))))))))
theorem seB_nE (a : Int) (x : Int) (t : Int) (v : Int) (K : Value → List Blk → Prop) : seB_nV a x t v K = bodyX (mk XSEB) (callN (mk XSEB) 6) (seB_nA a x t v) Try.f64 [.slice none 0 0, .agg ⟨[.int .i64 a, .int .i64 x, .int .i64 t, .int .u64 v]⟩] (stOf []) (Fd 0 K) := by kernel_rfl
set_option tactic.hygienic false in
theorem seB_nP (a : Int) (x : Int) (t : Int) (v : Int) (K : Value → List Blk → Prop)  (hU : Ok64 0 zF) (hv : 0 ≤ v ∧ v ≤ 18446744073709551615) (h1 : ¬ seE 0 zF a x t v = 0) (h : K (.tuple ⟨[.slice none 0 0, .int .i64 (seE 0 zF a x t v)]⟩) []) : seB_nV a x t v K := by
  unfold seB_nV
  conv => zeta
  have z0 := se_cases 0 zF a x t v
  repeat' (first | (with_reducible exact rfl) | (with_reducible exact trivial) | (with_reducible refine And.intro ?_ ?_) | (intro) | (with_reducible refine br_d (fun hq => ?_) (fun hq => ?_)) | (with_reducible refine br_nd (fun hq => ?_) (fun hq => ?_)) | (with_reducible refine br_intro (fun hq => ?_) (fun hq => ?_)) | (with_reducible refine if_both (fun hz => ?_) (fun hz => ?_)) | fail)

  all_goals first
    | (with_reducible assumption)
    | (refine (id ?_ : ∃ (v1 : Value) (news : List Blk), _)
       first
        | contradiction
        | exact fin0 (by kernel_rfl) (by kernel_rfl) h
        | exact fin0 (by kernel_rfl) (by kernel_rfl) (fin0i (by omega) h)
        | exact fin0 (by kernel_rfl) (by kernel_rfl) (fin0p (by omega) (by omega) h)
        | exact fin0 (by kernel_rfl) (by kernel_rfl) (fin0u (by omega) (by omega) h)
        | exact fin0 (by kernel_rfl) (by kernel_rfl) (fin0s (by omega) (by omega) (by omega) h)
        | exact fin0 (by kernel_rfl) (by kernel_rfl) (fin0n (by omega) h)
        | (exfalso; simp at hq; omega)
        | (exfalso; omega)
       )
    | omega
    | contradiction
    | exact fin0 (by kernel_rfl) (by kernel_rfl) h
    | exact fin0 (by kernel_rfl) (by kernel_rfl) (fin0i (by omega) h)
    | exact fin0 (by kernel_rfl) (by kernel_rfl) (fin0p (by omega) (by omega) h)
    | exact fin0 (by kernel_rfl) (by kernel_rfl) (fin0u (by omega) (by omega) h)
    | exact fin0 (by kernel_rfl) (by kernel_rfl) (fin0s (by omega) (by omega) (by omega) h)
    | exact fin0 (by kernel_rfl) (by kernel_rfl) (fin0n (by omega) h)
    | (exfalso; simp at hq; omega)
    | (exfalso; omega)
def seB_rV (ew nw cw : Nat) (fw : RF) (a : Int) (x : Int) (t : Int) (v : Int) (K : Value → List Blk → Prop) : Prop := let q0 := ((0 : Nat) + nw ≤ nw); let q1 := eB; let q2 := ((@Eq Nat ((0 : Nat)) ((0 : Nat))) ∧ ((nw ≤ (100000 : Nat)) ∧ (nw ≤ cw))); let q3 := ((@Eq (List IntKind) ([IntKind.u64]) ([IntKind.u64])) ∧ ((@Eq Nat (nw) (nw)) ∧ (@Eq Nat (cw) (cw)))); (t3 ((((0 : Int) ≤ v) ∧ ((0 : Int) < (2 : Int))) ∧ (T0 ∧ (if (@Eq Int (v % (2 : Int)) ((1 : Int))) then (t3 (q0 ∧ (t3 (q2 ∧ (q3 ∧ (q1 ∧ (((Ok64 nw fw) ∧ (¬rwE nw fw a x = (0 : Int))) ∧ (∃ y0 : Value, (∃ y1 : List Blk, ((Go.Rx.Found 1 (Value.tuple { toList := [vn, vi (rwE nw fw a x)] }) ({ h := [((1 : Nat), Blk.cells [vi a, vi x, vi t, Value.int IntKind.u64 v] (74 : Nat)), ((0 : Nat), Blk.row true [IntKind.u64] ew nw cw fw)], next := (2 : Nat) }) (y0) (y1)) ∧ (K y0 y1))))))))))) else (t3 (q0 ∧ (t3 (q2 ∧ (q3 ∧ (q1 ∧ (((Ok64 nw fw) ∧ (¬spE nw fw a x t = (0 : Int))) ∧ (∃ y0 : Value, (∃ y1 : List Blk, ((Go.Rx.Found 1 (Value.tuple { toList := [vn, vi (spE nw fw a x t)] }) ({ h := [((1 : Nat), Blk.cells [vi a, vi x, vi t, Value.int IntKind.u64 v] (74 : Nat)), ((0 : Nat), Blk.row true [IntKind.u64] ew nw cw fw)], next := (2 : Nat) }) (y0) (y1)) ∧ (K y0 y1)))))))))))))))
theorem seB_rE (ew nw cw : Nat) (fw : RF) (a : Int) (x : Int) (t : Int) (v : Int) (K : Value → List Blk → Prop) : seB_rV ew nw cw fw a x t v K = bodyX (mk XSEB) (callN (mk XSEB) 6) (seB_rA ew nw cw fw a x t v) Try.f64 [rsl 0 0 nw cw, .agg ⟨[.int .i64 a, .int .i64 x, .int .i64 t, .int .u64 v]⟩] (stOf [.row true [.u64] ew nw cw fw]) (Fd 1 K) := by kernel_rfl
set_option tactic.hygienic false in
theorem seB_rP (ew nw cw : Nat) (fw : RF) (a : Int) (x : Int) (t : Int) (v : Int) (K : Value → List Blk → Prop)  (hnw : nw ≤ 100000) (hcw : nw ≤ cw) (hU : Ok64 nw fw) (hv : 0 ≤ v ∧ v ≤ 18446744073709551615) (h1 : ¬ seE nw fw a x t v = 0) (h : K (.tuple ⟨[.slice none 0 0, .int .i64 (seE nw fw a x t v)]⟩) []) : seB_rV ew nw cw fw a x t v K := by
  unfold seB_rV
  conv => zeta
  have z0 := se_cases nw fw a x t v
  repeat' (first | (with_reducible exact rfl) | (with_reducible exact trivial) | (with_reducible refine And.intro ?_ ?_) | (intro) | (with_reducible refine br_d (fun hq => ?_) (fun hq => ?_)) | (with_reducible refine br_nd (fun hq => ?_) (fun hq => ?_)) | (with_reducible refine br_intro (fun hq => ?_) (fun hq => ?_)) | (with_reducible refine if_both (fun hz => ?_) (fun hz => ?_)) | fail)

  all_goals first
    | (with_reducible assumption)
    | (refine (id ?_ : ∃ (v1 : Value) (news : List Blk), _)
       first
        | contradiction
        | exact fin0 (by kernel_rfl) (by kernel_rfl) h
        | exact fin0 (by kernel_rfl) (by kernel_rfl) (fin0i (by omega) h)
        | exact fin0 (by kernel_rfl) (by kernel_rfl) (fin0p (by omega) (by omega) h)
        | exact fin0 (by kernel_rfl) (by kernel_rfl) (fin0u (by omega) (by omega) h)
        | exact fin0 (by kernel_rfl) (by kernel_rfl) (fin0s (by omega) (by omega) (by omega) h)
        | exact fin0 (by kernel_rfl) (by kernel_rfl) (fin0n (by omega) h)
        | (exfalso; simp at hq; omega)
        | (exfalso; omega)
       )
    | omega
    | contradiction
    | exact fin0 (by kernel_rfl) (by kernel_rfl) h
    | exact fin0 (by kernel_rfl) (by kernel_rfl) (fin0i (by omega) h)
    | exact fin0 (by kernel_rfl) (by kernel_rfl) (fin0p (by omega) (by omega) h)
    | exact fin0 (by kernel_rfl) (by kernel_rfl) (fin0u (by omega) (by omega) h)
    | exact fin0 (by kernel_rfl) (by kernel_rfl) (fin0s (by omega) (by omega) (by omega) h)
    | exact fin0 (by kernel_rfl) (by kernel_rfl) (fin0n (by omega) h)
    | (exfalso; simp at hq; omega)
    | (exfalso; omega)
theorem seB_ok : BodyOk (mk XSEB) 6 Try.f64 seB := by
  intro vs bs K hh hro
  clear hro
  unfold seB at hh
  split at hh
  · rename_i vw a x t v
    rcases parseQ_inv hh with ⟨rfl, hh0⟩ | ⟨ew, nw, cw, fw, btw, rfl, hnw, hcw, rfl, hh0⟩ <;> clear hh
    · obtain ⟨rfl, ⟨hU, hv, h1⟩, hc⟩ := hh0
      exact ⟨_, _, cast (seB_nE  a x t v K) (seB_nP  a x t v K  hU hv h1 hc)⟩
    · obtain ⟨rfl, ⟨hU, hv, h1⟩, hc⟩ := hh0
      exact ⟨_, _, cast (seB_rE ew nw cw fw a x t v K) (seB_rP ew nw cw fw a x t v K hnw hcw hU hv h1 hc)⟩
  · exact hh.elim
theorem seB_told : Told 64 (specOf seB) := told (X := XSEB) XSEB_told (by kernel_rfl) (by kernel_rfl) (by kernel_rfl) seB_ok
def seG_rV (ew nw cw : Nat) (fw : RF) (a : Int) (x : Int) (t : Int) (v : Int) (K : Value → List Blk → Prop) : Prop := let q0 := ((0 : Nat) + nw ≤ nw); let q1 := eB; let q2 := ((0 : Nat), Blk.row true [IntKind.u64] ew nw cw fw); let q3 := ((@Eq Nat ((0 : Nat)) ((0 : Nat))) ∧ ((nw ≤ (100000 : Nat)) ∧ (nw ≤ cw))); let q4 := ((@Eq (List IntKind) ([IntKind.u64]) ([IntKind.u64])) ∧ ((@Eq Nat (nw) (nw)) ∧ (@Eq Nat (cw) (cw)))); let q5 := ((1 : Nat), Blk.cells [vi a, vi x, vi t, Value.int IntKind.u64 v] (74 : Nat)); (t3 ((((0 : Int) ≤ v) ∧ ((0 : Int) < (2 : Int))) ∧ (T0 ∧ (if (@Eq Int (v % (2 : Int)) ((1 : Int))) then (t3 (q0 ∧ (t3 (q3 ∧ (q4 ∧ (q1 ∧ (((Ok64 nw fw) ∧ (@Eq Int (rwE nw fw a x) ((0 : Int)))) ∧ (∀ y0 : Nat, ((nw ≤ y0) → (∃ y1 : Value, (∃ y2 : List Blk, ((Go.Rx.Found 1 (Value.tuple { toList := [rsl (2 : Nat) (0 : Nat) nw y0, vi (0 : Int)] }) ({ h := [((2 : Nat), Blk.row false [IntKind.u64] (25 : Nat) nw y0 (setF fw (Int.toNat (a + (1 : Int) + obP nw fw a + x)) v)), q5, q2], next := (3 : Nat) }) (y1) (y2)) ∧ (K y1 y2))))))))))))) else (t3 (q0 ∧ (t3 (q3 ∧ (q4 ∧ (q1 ∧ (((Ok64 nw fw) ∧ (@Eq Int (spE nw fw a x t) ((0 : Int)))) ∧ (∀ y0 : Nat, ((nw ≤ y0) → (∃ y1 : Value, (∃ y2 : List Blk, ((Go.Rx.Found 1 (Value.tuple { toList := [rsl (2 : Nat) (0 : Nat) nw y0, vi (0 : Int)] }) ({ h := [((2 : Nat), Blk.row false [IntKind.u64] (25 : Nat) nw y0 (setF fw (Int.toNat (a + (1 : Int) + x)) t)), q5, q2], next := (3 : Nat) }) (y1) (y2)) ∧ (K y1 y2)))))))))))))))))
theorem seG_rE (ew nw cw : Nat) (fw : RF) (a : Int) (x : Int) (t : Int) (v : Int) (K : Value → List Blk → Prop) : seG_rV ew nw cw fw a x t v K = bodyX (mk XSEG) (callN (mk XSEG) 6) (seG_rA ew nw cw fw a x t v) Try.f64 [rsl 0 0 nw cw, .agg ⟨[.int .i64 a, .int .i64 x, .int .i64 t, .int .u64 v]⟩] (stOf [.row true [.u64] ew nw cw fw]) (Fd 1 K) := by kernel_rfl
set_option tactic.hygienic false in
theorem seG_rP (ew nw cw : Nat) (fw : RF) (a : Int) (x : Int) (t : Int) (v : Int) (K : Value → List Blk → Prop)  (hnw : nw ≤ 100000) (hcw : nw ≤ cw) (hU : Ok64 nw fw) (hv : 0 ≤ v ∧ v ≤ 18446744073709551615) (h1 : seE nw fw a x t v = 0) (h : ∀ cp, nw ≤ cp → K (.tuple ⟨[rsl 1 0 (nw) cp, .int .i64 (0)]⟩) [.row false [.u64] 25 (nw) cp (setF fw (Int.toNat (seA nw fw a x v)) (seV t v))]) : seG_rV ew nw cw fw a x t v K := by
  unfold seG_rV
  conv => zeta
  have z0 := se_cases nw fw a x t v
  have z1 := rw_cases nw fw a x
  have z2 := sp_cases nw fw a x t
  repeat' (first | (with_reducible exact rfl) | (with_reducible exact trivial) | (with_reducible refine And.intro ?_ ?_) | (intro) | (with_reducible refine br_d (fun hq => ?_) (fun hq => ?_)) | (with_reducible refine br_nd (fun hq => ?_) (fun hq => ?_)) | (with_reducible refine br_intro (fun hq => ?_) (fun hq => ?_)) | (with_reducible refine if_both (fun hz => ?_) (fun hz => ?_)) | fail)

  all_goals first
    | (with_reducible assumption)
    | (refine (id ?_ : ∃ (v1 : Value) (news : List Blk), _)
       first
        | contradiction
        | (have e1 : seA nw fw a x v = a + 1 + x := (by omega)
           have e2 : seV t v = t := (by omega)
           rw [e1, e2] at h
           refine fin1t rfl ?_ (by kernel_rfl) (by kernel_rfl) (h _ (by omega)); (intro i j hi hj; obtain rfl : j = 0 := (by simp at hj; omega); (try unfold setF); (try unfold zroF); (try unfold mkF); (try unfold putF); (try unfold appF); (try unfold clrF); (try unfold setF); (try unfold zroF); (repeat' split) <;> first | rfl | omega | (exfalso; omega) | (simp_all; done) | (simp_all; omega)))
        | (have e1 : seA nw fw a x v = a + 1 + obP nw fw a + x := (by omega)
           have e2 : seV t v = v := (by omega)
           rw [e1, e2] at h
           refine fin1t rfl ?_ (by kernel_rfl) (by kernel_rfl) (h _ (by omega)); (intro i j hi hj; obtain rfl : j = 0 := (by simp at hj; omega); (try unfold setF); (try unfold zroF); (try unfold mkF); (try unfold putF); (try unfold appF); (try unfold clrF); (try unfold setF); (try unfold zroF); (repeat' split) <;> first | rfl | omega | (exfalso; omega) | (simp_all; done) | (simp_all; omega)))
        | (exfalso; omega)
       )
    | omega
    | contradiction
    | (have e1 : seA nw fw a x v = a + 1 + x := (by omega)
       have e2 : seV t v = t := (by omega)
       rw [e1, e2] at h
       refine fin1t rfl ?_ (by kernel_rfl) (by kernel_rfl) (h _ (by omega)); (intro i j hi hj; obtain rfl : j = 0 := (by simp at hj; omega); (try unfold setF); (try unfold zroF); (try unfold mkF); (try unfold putF); (try unfold appF); (try unfold clrF); (try unfold setF); (try unfold zroF); (repeat' split) <;> first | rfl | omega | (exfalso; omega) | (simp_all; done) | (simp_all; omega)))
    | (have e1 : seA nw fw a x v = a + 1 + obP nw fw a + x := (by omega)
       have e2 : seV t v = v := (by omega)
       rw [e1, e2] at h
       refine fin1t rfl ?_ (by kernel_rfl) (by kernel_rfl) (h _ (by omega)); (intro i j hi hj; obtain rfl : j = 0 := (by simp at hj; omega); (try unfold setF); (try unfold zroF); (try unfold mkF); (try unfold putF); (try unfold appF); (try unfold clrF); (try unfold setF); (try unfold zroF); (repeat' split) <;> first | rfl | omega | (exfalso; omega) | (simp_all; done) | (simp_all; omega)))
    | (exfalso; omega)
theorem seG_ok : BodyOk (mk XSEG) 6 Try.f64 seG := by
  intro vs bs K hh hro
  clear hro
  unfold seG at hh
  split at hh
  · rename_i vw a x t v
    obtain ⟨ew, nw, cw, fw, btw, rfl, hnw, hcw, rfl, hh0⟩ := parseRQ_inv hh
    obtain ⟨rfl, ⟨hU, hv, h1⟩, hc⟩ := hh0
    exact ⟨_, _, cast (seG_rE ew nw cw fw a x t v K) (seG_rP ew nw cw fw a x t v K hnw hcw hU hv h1 hc)⟩
  · exact hh.elim
theorem seG_told : Told 64 (specOf seG) := told (X := XSEG) XSEG_told (by kernel_rfl) (by kernel_rfl) (by kernel_rfl) seG_ok
end Go.Proofs.Ytfgeoglegebncaa.Fr
