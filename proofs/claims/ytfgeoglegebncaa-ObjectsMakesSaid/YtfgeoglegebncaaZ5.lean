/-
  The program's tables, as the calculus takes them. No project text.
-/
import Derived.Test.YtfgeoglegebncaaZ4
import Derived.Test.YtfgeoglegebncaaChecked
namespace Go.Proofs.Ytfgeoglegebncaa.Fr
set_option maxRecDepth 100000
set_option maxHeartbeats 4000000
open Go.Rx
abbrev T0 : Prop := true = true
abbrev t2 (p : Prop) : Prop := T0 ∧ T0 ∧ p
abbrev t3 (p : Prop) : Prop := T0 ∧ T0 ∧ T0 ∧ p
abbrev t4 (p : Prop) : Prop := T0 ∧ T0 ∧ T0 ∧ T0 ∧ p
abbrev t5 (p : Prop) : Prop := T0 ∧ T0 ∧ T0 ∧ T0 ∧ T0 ∧ p
abbrev t6 (p : Prop) : Prop := T0 ∧ T0 ∧ T0 ∧ T0 ∧ T0 ∧ T0 ∧ p
abbrev t7 (p : Prop) : Prop := T0 ∧ T0 ∧ T0 ∧ T0 ∧ T0 ∧ T0 ∧ T0 ∧ p
abbrev t8 (p : Prop) : Prop := T0 ∧ T0 ∧ T0 ∧ T0 ∧ T0 ∧ T0 ∧ T0 ∧ T0 ∧ p
abbrev t9 (p : Prop) : Prop := T0 ∧ T0 ∧ T0 ∧ T0 ∧ T0 ∧ T0 ∧ T0 ∧ T0 ∧ T0 ∧ p
abbrev TS : Prop := @Eq Ev.TK Ev.TK.slice Ev.TK.slice
abbrev vi (z : Int) : Value := .int .i64 z
abbrev vn : Value := .slice none 0 0
abbrev eN (n : Nat) : Prop := n = n
abbrev k2 : List IntKind := [.i64, .i64]
abbrev eK : Prop := k2 = k2
abbrev eB : Prop := @Eq (List Blk) [] []
abbrev rF (e n c : Nat) (f : Nat → Nat → Int) : Blk := .row false [.i64, .i64] e n c f
abbrev rT (e n c : Nat) (f : Nat → Nat → Int) : Blk := .row true [.i64, .i64] e n c f
abbrev Fd (m : Nat) (K : Value → List Blk → Prop) : KV := fun v s' => ∃ v1 news, Rx.Found m v s' v1 news ∧ K v1 news
open Go.Rx
open Go.RowKit (Below)
set_option linter.unusedVariables false
def T : List (Nat × Ev.TI) := [
  (3, { size := (1 : Nat), bytes := (8 : Nat), agg := false, zero := some [Value.int IntKind.i64 (0 : Int)], zval := some (Value.int IntKind.i64 (0 : Int)), kind := Ev.TK.int IntKind.i64, fields := [], len := (0 : Nat), elem := (0 : Nat), eagg := false, esize := (1 : Nat), kk := Ev.TK.other }),
  (4, { size := (1 : Nat), bytes := (1 : Nat), agg := false, zero := some [Value.bool false], zval := some (Value.bool false), kind := Ev.TK.other, fields := [], len := (0 : Nat), elem := (0 : Nat), eagg := false, esize := (1 : Nat), kk := Ev.TK.other }),
  (5, { size := (1 : Nat), bytes := (1 : Nat), agg := false, zero := some [Value.int IntKind.u8 (0 : Int)], zval := some (Value.int IntKind.u8 (0 : Int)), kind := Ev.TK.int IntKind.u8, fields := [], len := (0 : Nat), elem := (0 : Nat), eagg := false, esize := (1 : Nat), kk := Ev.TK.other }),
  (22, { size := (5 : Nat), bytes := (40 : Nat), agg := true, zero := some [Value.int IntKind.i64 (0 : Int), Value.int IntKind.i64 (0 : Int), Value.int IntKind.i64 (0 : Int), Value.int IntKind.i64 (0 : Int), Value.int IntKind.i64 (0 : Int)], zval := some (Value.agg { toList := [Value.int IntKind.i64 (0 : Int), Value.int IntKind.i64 (0 : Int), Value.int IntKind.i64 (0 : Int), Value.int IntKind.i64 (0 : Int), Value.int IntKind.i64 (0 : Int)] }), kind := Ev.TK.struct, fields := [((0 : Nat), false, (1 : Nat)), ((1 : Nat), false, (1 : Nat)), ((2 : Nat), false, (1 : Nat)), ((3 : Nat), false, (1 : Nat)), ((4 : Nat), false, (1 : Nat))], len := (0 : Nat), elem := (0 : Nat), eagg := false, esize := (1 : Nat), kk := Ev.TK.other }),
  (23, { size := (5 : Nat), bytes := (40 : Nat), agg := true, zero := some [Value.int IntKind.i64 (0 : Int), Value.int IntKind.i64 (0 : Int), Value.int IntKind.i64 (0 : Int), Value.int IntKind.i64 (0 : Int), Value.int IntKind.i64 (0 : Int)], zval := some (Value.agg { toList := [Value.int IntKind.i64 (0 : Int), Value.int IntKind.i64 (0 : Int), Value.int IntKind.i64 (0 : Int), Value.int IntKind.i64 (0 : Int), Value.int IntKind.i64 (0 : Int)] }), kind := Ev.TK.struct, fields := [((0 : Nat), false, (1 : Nat)), ((1 : Nat), false, (1 : Nat)), ((2 : Nat), false, (1 : Nat)), ((3 : Nat), false, (1 : Nat)), ((4 : Nat), false, (1 : Nat))], len := (0 : Nat), elem := (0 : Nat), eagg := false, esize := (1 : Nat), kk := Ev.TK.other }),
  (24, { size := (1 : Nat), bytes := (24 : Nat), agg := false, zero := some [Value.slice none (0 : Nat) (0 : Nat)], zval := some (Value.slice none (0 : Nat) (0 : Nat)), kind := Ev.TK.slice, fields := [], len := (0 : Nat), elem := (25 : Nat), eagg := false, esize := (1 : Nat), kk := Ev.TK.other }),
  (25, { size := (1 : Nat), bytes := (8 : Nat), agg := false, zero := some [Value.int IntKind.u64 (0 : Int)], zval := some (Value.int IntKind.u64 (0 : Int)), kind := Ev.TK.int IntKind.u64, fields := [], len := (0 : Nat), elem := (0 : Nat), eagg := false, esize := (1 : Nat), kk := Ev.TK.other }),
  (26, { size := (2 : Nat), bytes := (16 : Nat), agg := true, zero := some [Value.int IntKind.i64 (0 : Int), Value.int IntKind.u64 (0 : Int)], zval := some (Value.agg { toList := [Value.int IntKind.i64 (0 : Int), Value.int IntKind.u64 (0 : Int)] }), kind := Ev.TK.struct, fields := [((0 : Nat), false, (1 : Nat)), ((1 : Nat), false, (1 : Nat))], len := (0 : Nat), elem := (0 : Nat), eagg := false, esize := (1 : Nat), kk := Ev.TK.other }),
  (27, { size := (2 : Nat), bytes := (16 : Nat), agg := true, zero := some [Value.int IntKind.i64 (0 : Int), Value.int IntKind.u64 (0 : Int)], zval := some (Value.agg { toList := [Value.int IntKind.i64 (0 : Int), Value.int IntKind.u64 (0 : Int)] }), kind := Ev.TK.struct, fields := [((0 : Nat), false, (1 : Nat)), ((1 : Nat), false, (1 : Nat))], len := (0 : Nat), elem := (0 : Nat), eagg := false, esize := (1 : Nat), kk := Ev.TK.other }),
  (29, { size := (1 : Nat), bytes := (8 : Nat), agg := false, zero := some [Value.int IntKind.i64 (0 : Int)], zval := some (Value.int IntKind.i64 (0 : Int)), kind := Ev.TK.int IntKind.i64, fields := [], len := (0 : Nat), elem := (0 : Nat), eagg := false, esize := (1 : Nat), kk := Ev.TK.other }),
  (38, { size := (3 : Nat), bytes := (24 : Nat), agg := true, zero := some [Value.int IntKind.i64 (0 : Int), Value.int IntKind.i64 (0 : Int), Value.int IntKind.i64 (0 : Int)], zval := some (Value.agg { toList := [Value.int IntKind.i64 (0 : Int), Value.int IntKind.i64 (0 : Int), Value.int IntKind.i64 (0 : Int)] }), kind := Ev.TK.array, fields := [], len := (3 : Nat), elem := (3 : Nat), eagg := false, esize := (1 : Nat), kk := Ev.TK.other }),
  (43, { size := (1 : Nat), bytes := (24 : Nat), agg := false, zero := some [Value.slice none (0 : Nat) (0 : Nat)], zval := some (Value.slice none (0 : Nat) (0 : Nat)), kind := Ev.TK.slice, fields := [], len := (0 : Nat), elem := (3 : Nat), eagg := false, esize := (1 : Nat), kk := Ev.TK.other }),
  (48, { size := (1 : Nat), bytes := (24 : Nat), agg := false, zero := some [Value.slice none (0 : Nat) (0 : Nat)], zval := some (Value.slice none (0 : Nat) (0 : Nat)), kind := Ev.TK.slice, fields := [], len := (0 : Nat), elem := (56 : Nat), eagg := true, esize := (5 : Nat), kk := Ev.TK.other }),
  (49, { size := (2 : Nat), bytes := (16 : Nat), agg := true, zero := some [Value.int IntKind.i64 (0 : Int), Value.int IntKind.i64 (0 : Int)], zval := some (Value.agg { toList := [Value.int IntKind.i64 (0 : Int), Value.int IntKind.i64 (0 : Int)] }), kind := Ev.TK.struct, fields := [((0 : Nat), false, (1 : Nat)), ((1 : Nat), false, (1 : Nat))], len := (0 : Nat), elem := (0 : Nat), eagg := false, esize := (1 : Nat), kk := Ev.TK.other }),
  (50, { size := (2 : Nat), bytes := (16 : Nat), agg := true, zero := some [Value.int IntKind.i64 (0 : Int), Value.int IntKind.i64 (0 : Int)], zval := some (Value.agg { toList := [Value.int IntKind.i64 (0 : Int), Value.int IntKind.i64 (0 : Int)] }), kind := Ev.TK.struct, fields := [((0 : Nat), false, (1 : Nat)), ((1 : Nat), false, (1 : Nat))], len := (0 : Nat), elem := (0 : Nat), eagg := false, esize := (1 : Nat), kk := Ev.TK.other }),
  (55, { size := (5 : Nat), bytes := (40 : Nat), agg := true, zero := some [Value.int IntKind.i64 (0 : Int), Value.int IntKind.i64 (0 : Int), Value.int IntKind.i64 (0 : Int), Value.int IntKind.i64 (0 : Int), Value.int IntKind.u64 (0 : Int)], zval := some (Value.agg { toList := [Value.int IntKind.i64 (0 : Int), Value.int IntKind.i64 (0 : Int), Value.int IntKind.i64 (0 : Int), Value.int IntKind.i64 (0 : Int), Value.int IntKind.u64 (0 : Int)] }), kind := Ev.TK.struct, fields := [((0 : Nat), false, (1 : Nat)), ((1 : Nat), false, (1 : Nat)), ((2 : Nat), false, (1 : Nat)), ((3 : Nat), false, (1 : Nat)), ((4 : Nat), false, (1 : Nat))], len := (0 : Nat), elem := (0 : Nat), eagg := false, esize := (1 : Nat), kk := Ev.TK.other }),
  (56, { size := (5 : Nat), bytes := (40 : Nat), agg := true, zero := some [Value.int IntKind.i64 (0 : Int), Value.int IntKind.i64 (0 : Int), Value.int IntKind.i64 (0 : Int), Value.int IntKind.i64 (0 : Int), Value.int IntKind.u64 (0 : Int)], zval := some (Value.agg { toList := [Value.int IntKind.i64 (0 : Int), Value.int IntKind.i64 (0 : Int), Value.int IntKind.i64 (0 : Int), Value.int IntKind.i64 (0 : Int), Value.int IntKind.u64 (0 : Int)] }), kind := Ev.TK.struct, fields := [((0 : Nat), false, (1 : Nat)), ((1 : Nat), false, (1 : Nat)), ((2 : Nat), false, (1 : Nat)), ((3 : Nat), false, (1 : Nat)), ((4 : Nat), false, (1 : Nat))], len := (0 : Nat), elem := (0 : Nat), eagg := false, esize := (1 : Nat), kk := Ev.TK.other }),
  (59, { size := (2 : Nat), bytes := (16 : Nat), agg := true, zero := some [Value.int IntKind.i64 (0 : Int), Value.int IntKind.i64 (0 : Int)], zval := some (Value.agg { toList := [Value.int IntKind.i64 (0 : Int), Value.int IntKind.i64 (0 : Int)] }), kind := Ev.TK.struct, fields := [((0 : Nat), false, (1 : Nat)), ((1 : Nat), false, (1 : Nat))], len := (0 : Nat), elem := (0 : Nat), eagg := false, esize := (1 : Nat), kk := Ev.TK.other }),
  (60, { size := (2 : Nat), bytes := (16 : Nat), agg := true, zero := some [Value.int IntKind.i64 (0 : Int), Value.int IntKind.i64 (0 : Int)], zval := some (Value.agg { toList := [Value.int IntKind.i64 (0 : Int), Value.int IntKind.i64 (0 : Int)] }), kind := Ev.TK.struct, fields := [((0 : Nat), false, (1 : Nat)), ((1 : Nat), false, (1 : Nat))], len := (0 : Nat), elem := (0 : Nat), eagg := false, esize := (1 : Nat), kk := Ev.TK.other }),
  (69, { size := (2 : Nat), bytes := (16 : Nat), agg := true, zero := some [Value.int IntKind.i64 (0 : Int), Value.int IntKind.i64 (0 : Int)], zval := some (Value.agg { toList := [Value.int IntKind.i64 (0 : Int), Value.int IntKind.i64 (0 : Int)] }), kind := Ev.TK.array, fields := [], len := (2 : Nat), elem := (3 : Nat), eagg := false, esize := (1 : Nat), kk := Ev.TK.other }),
  (73, { size := (4 : Nat), bytes := (32 : Nat), agg := true, zero := some [Value.int IntKind.i64 (0 : Int), Value.int IntKind.i64 (0 : Int), Value.int IntKind.i64 (0 : Int), Value.int IntKind.u64 (0 : Int)], zval := some (Value.agg { toList := [Value.int IntKind.i64 (0 : Int), Value.int IntKind.i64 (0 : Int), Value.int IntKind.i64 (0 : Int), Value.int IntKind.u64 (0 : Int)] }), kind := Ev.TK.struct, fields := [((0 : Nat), false, (1 : Nat)), ((1 : Nat), false, (1 : Nat)), ((2 : Nat), false, (1 : Nat)), ((3 : Nat), false, (1 : Nat))], len := (0 : Nat), elem := (0 : Nat), eagg := false, esize := (1 : Nat), kk := Ev.TK.other }),
  (74, { size := (4 : Nat), bytes := (32 : Nat), agg := true, zero := some [Value.int IntKind.i64 (0 : Int), Value.int IntKind.i64 (0 : Int), Value.int IntKind.i64 (0 : Int), Value.int IntKind.u64 (0 : Int)], zval := some (Value.agg { toList := [Value.int IntKind.i64 (0 : Int), Value.int IntKind.i64 (0 : Int), Value.int IntKind.i64 (0 : Int), Value.int IntKind.u64 (0 : Int)] }), kind := Ev.TK.struct, fields := [((0 : Nat), false, (1 : Nat)), ((1 : Nat), false, (1 : Nat)), ((2 : Nat), false, (1 : Nat)), ((3 : Nat), false, (1 : Nat))], len := (0 : Nat), elem := (0 : Nat), eagg := false, esize := (1 : Nat), kk := Ev.TK.other }),
  (86, { size := (1 : Nat), bytes := (24 : Nat), agg := false, zero := some [Value.slice none (0 : Nat) (0 : Nat)], zval := some (Value.slice none (0 : Nat) (0 : Nat)), kind := Ev.TK.slice, fields := [], len := (0 : Nat), elem := (91 : Nat), eagg := true, esize := (2 : Nat), kk := Ev.TK.other }),
  (90, { size := (2 : Nat), bytes := (16 : Nat), agg := true, zero := some [Value.int IntKind.i64 (0 : Int), Value.int IntKind.i64 (0 : Int)], zval := some (Value.agg { toList := [Value.int IntKind.i64 (0 : Int), Value.int IntKind.i64 (0 : Int)] }), kind := Ev.TK.struct, fields := [((0 : Nat), false, (1 : Nat)), ((1 : Nat), false, (1 : Nat))], len := (0 : Nat), elem := (0 : Nat), eagg := false, esize := (1 : Nat), kk := Ev.TK.other }),
  (91, { size := (2 : Nat), bytes := (16 : Nat), agg := true, zero := some [Value.int IntKind.i64 (0 : Int), Value.int IntKind.i64 (0 : Int)], zval := some (Value.agg { toList := [Value.int IntKind.i64 (0 : Int), Value.int IntKind.i64 (0 : Int)] }), kind := Ev.TK.struct, fields := [((0 : Nat), false, (1 : Nat)), ((1 : Nat), false, (1 : Nat))], len := (0 : Nat), elem := (0 : Nat), eagg := false, esize := (1 : Nat), kk := Ev.TK.other }),
  (103, { size := (1 : Nat), bytes := (24 : Nat), agg := false, zero := some [Value.slice none (0 : Nat) (0 : Nat)], zval := some (Value.slice none (0 : Nat) (0 : Nat)), kind := Ev.TK.slice, fields := [], len := (0 : Nat), elem := (24 : Nat), eagg := false, esize := (1 : Nat), kk := Ev.TK.other }),
  (104, { size := (1 : Nat), bytes := (8 : Nat), agg := false, zero := some [Value.pointer none], zval := some (Value.pointer none), kind := Ev.TK.pointer, fields := [], len := (0 : Nat), elem := (107 : Nat), eagg := true, esize := (4 : Nat), kk := Ev.TK.other }),
  (106, { size := (4 : Nat), bytes := (64 : Nat), agg := true, zero := some [Value.slice none (0 : Nat) (0 : Nat), Value.slice none (0 : Nat) (0 : Nat), Value.int IntKind.i64 (0 : Int), Value.int IntKind.i64 (0 : Int)], zval := some (Value.agg { toList := [Value.slice none (0 : Nat) (0 : Nat), Value.slice none (0 : Nat) (0 : Nat), Value.int IntKind.i64 (0 : Int), Value.int IntKind.i64 (0 : Int)] }), kind := Ev.TK.struct, fields := [((0 : Nat), false, (1 : Nat)), ((1 : Nat), false, (1 : Nat)), ((2 : Nat), true, (2 : Nat))], len := (0 : Nat), elem := (0 : Nat), eagg := false, esize := (1 : Nat), kk := Ev.TK.other }),
  (107, { size := (4 : Nat), bytes := (64 : Nat), agg := true, zero := some [Value.slice none (0 : Nat) (0 : Nat), Value.slice none (0 : Nat) (0 : Nat), Value.int IntKind.i64 (0 : Int), Value.int IntKind.i64 (0 : Int)], zval := some (Value.agg { toList := [Value.slice none (0 : Nat) (0 : Nat), Value.slice none (0 : Nat) (0 : Nat), Value.int IntKind.i64 (0 : Int), Value.int IntKind.i64 (0 : Int)] }), kind := Ev.TK.struct, fields := [((0 : Nat), false, (1 : Nat)), ((1 : Nat), false, (1 : Nat)), ((2 : Nat), true, (2 : Nat))], len := (0 : Nat), elem := (0 : Nat), eagg := false, esize := (1 : Nat), kk := Ev.TK.other }),
  (108, { size := (1 : Nat), bytes := (8 : Nat), agg := false, zero := some [Value.nilFunc], zval := some Value.nilFunc, kind := Ev.TK.func, fields := [], len := (0 : Nat), elem := (0 : Nat), eagg := false, esize := (1 : Nat), kk := Ev.TK.other }),
  (111, { size := (1 : Nat), bytes := (24 : Nat), agg := true, zero := some [Value.slice none (0 : Nat) (0 : Nat)], zval := some (Value.agg { toList := [Value.slice none (0 : Nat) (0 : Nat)] }), kind := Ev.TK.struct, fields := [((0 : Nat), false, (1 : Nat))], len := (0 : Nat), elem := (0 : Nat), eagg := false, esize := (1 : Nat), kk := Ev.TK.other }),
  (112, { size := (1 : Nat), bytes := (24 : Nat), agg := true, zero := some [Value.slice none (0 : Nat) (0 : Nat)], zval := some (Value.agg { toList := [Value.slice none (0 : Nat) (0 : Nat)] }), kind := Ev.TK.struct, fields := [((0 : Nat), false, (1 : Nat))], len := (0 : Nat), elem := (0 : Nat), eagg := false, esize := (1 : Nat), kk := Ev.TK.other }),
  (113, { size := (2 : Nat), bytes := (32 : Nat), agg := true, zero := some [Value.slice none (0 : Nat) (0 : Nat), Value.int IntKind.i64 (0 : Int)], zval := some (Value.agg { toList := [Value.slice none (0 : Nat) (0 : Nat), Value.int IntKind.i64 (0 : Int)] }), kind := Ev.TK.struct, fields := [((0 : Nat), true, (1 : Nat)), ((1 : Nat), false, (1 : Nat))], len := (0 : Nat), elem := (0 : Nat), eagg := false, esize := (1 : Nat), kk := Ev.TK.other }),
  (114, { size := (2 : Nat), bytes := (32 : Nat), agg := true, zero := some [Value.slice none (0 : Nat) (0 : Nat), Value.int IntKind.i64 (0 : Int)], zval := some (Value.agg { toList := [Value.slice none (0 : Nat) (0 : Nat), Value.int IntKind.i64 (0 : Int)] }), kind := Ev.TK.struct, fields := [((0 : Nat), true, (1 : Nat)), ((1 : Nat), false, (1 : Nat))], len := (0 : Nat), elem := (0 : Nat), eagg := false, esize := (1 : Nat), kk := Ev.TK.other }),
  (115, { size := (1 : Nat), bytes := (24 : Nat), agg := true, zero := some [Value.slice none (0 : Nat) (0 : Nat)], zval := some (Value.agg { toList := [Value.slice none (0 : Nat) (0 : Nat)] }), kind := Ev.TK.struct, fields := [((0 : Nat), true, (1 : Nat))], len := (0 : Nat), elem := (0 : Nat), eagg := false, esize := (1 : Nat), kk := Ev.TK.other }),
  (116, { size := (1 : Nat), bytes := (24 : Nat), agg := true, zero := some [Value.slice none (0 : Nat) (0 : Nat)], zval := some (Value.agg { toList := [Value.slice none (0 : Nat) (0 : Nat)] }), kind := Ev.TK.struct, fields := [((0 : Nat), true, (1 : Nat))], len := (0 : Nat), elem := (0 : Nat), eagg := false, esize := (1 : Nat), kk := Ev.TK.other }),
  (117, { size := (5 : Nat), bytes := (72 : Nat), agg := true, zero := some [Value.int IntKind.i64 (0 : Int), Value.int IntKind.i64 (0 : Int), Value.slice none (0 : Nat) (0 : Nat), Value.int IntKind.i64 (0 : Int), Value.slice none (0 : Nat) (0 : Nat)], zval := some (Value.agg { toList := [Value.int IntKind.i64 (0 : Int), Value.int IntKind.i64 (0 : Int), Value.slice none (0 : Nat) (0 : Nat), Value.int IntKind.i64 (0 : Int), Value.slice none (0 : Nat) (0 : Nat)] }), kind := Ev.TK.struct, fields := [((0 : Nat), true, (2 : Nat)), ((2 : Nat), true, (2 : Nat)), ((4 : Nat), true, (1 : Nat))], len := (0 : Nat), elem := (0 : Nat), eagg := false, esize := (1 : Nat), kk := Ev.TK.other }),
  (118, { size := (5 : Nat), bytes := (72 : Nat), agg := true, zero := some [Value.int IntKind.i64 (0 : Int), Value.int IntKind.i64 (0 : Int), Value.slice none (0 : Nat) (0 : Nat), Value.int IntKind.i64 (0 : Int), Value.slice none (0 : Nat) (0 : Nat)], zval := some (Value.agg { toList := [Value.int IntKind.i64 (0 : Int), Value.int IntKind.i64 (0 : Int), Value.slice none (0 : Nat) (0 : Nat), Value.int IntKind.i64 (0 : Int), Value.slice none (0 : Nat) (0 : Nat)] }), kind := Ev.TK.struct, fields := [((0 : Nat), true, (2 : Nat)), ((2 : Nat), true, (2 : Nat)), ((4 : Nat), true, (1 : Nat))], len := (0 : Nat), elem := (0 : Nat), eagg := false, esize := (1 : Nat), kk := Ev.TK.other }),
  (133, { size := (1 : Nat), bytes := (8 : Nat), agg := false, zero := some [Value.map none], zval := some (Value.map none), kind := Ev.TK.map, fields := [], len := (0 : Nat), elem := (3 : Nat), eagg := false, esize := (1 : Nat), kk := Ev.TK.int IntKind.i64 }),
  (134, { size := (1 : Nat), bytes := (24 : Nat), agg := false, zero := some [Value.slice none (0 : Nat) (0 : Nat)], zval := some (Value.slice none (0 : Nat) (0 : Nat)), kind := Ev.TK.slice, fields := [], len := (0 : Nat), elem := (4 : Nat), eagg := false, esize := (1 : Nat), kk := Ev.TK.other }),
  (137, { size := (1 : Nat), bytes := (8 : Nat), agg := false, zero := some [Value.map none], zval := some (Value.map none), kind := Ev.TK.map, fields := [], len := (0 : Nat), elem := (108 : Nat), eagg := false, esize := (1 : Nat), kk := Ev.TK.int IntKind.i64 }),
  (141, { size := (1 : Nat), bytes := (8 : Nat), agg := false, zero := some [Value.int IntKind.u64 (0 : Int)], zval := some (Value.int IntKind.u64 (0 : Int)), kind := Ev.TK.int IntKind.u64, fields := [], len := (0 : Nat), elem := (0 : Nat), eagg := false, esize := (1 : Nat), kk := Ev.TK.other }),
  (145, { size := (1 : Nat), bytes := (8 : Nat), agg := false, zero := some [Value.int IntKind.u64 (0 : Int)], zval := some (Value.int IntKind.u64 (0 : Int)), kind := Ev.TK.int IntKind.u64, fields := [], len := (0 : Nat), elem := (0 : Nat), eagg := false, esize := (1 : Nat), kk := Ev.TK.other }),
  (163, { size := (1 : Nat), bytes := (8 : Nat), agg := false, zero := some [Value.pointer none], zval := some (Value.pointer none), kind := Ev.TK.pointer, fields := [], len := (0 : Nat), elem := (3 : Nat), eagg := false, esize := (1 : Nat), kk := Ev.TK.other }),
  (165, { size := (1 : Nat), bytes := (24 : Nat), agg := false, zero := some [Value.slice none (0 : Nat) (0 : Nat)], zval := some (Value.slice none (0 : Nat) (0 : Nat)), kind := Ev.TK.slice, fields := [], len := (0 : Nat), elem := (170 : Nat), eagg := true, esize := (5 : Nat), kk := Ev.TK.other }),
  (167, { size := (1 : Nat), bytes := (8 : Nat), agg := false, zero := some [Value.nilFunc], zval := some Value.nilFunc, kind := Ev.TK.func, fields := [], len := (0 : Nat), elem := (0 : Nat), eagg := false, esize := (1 : Nat), kk := Ev.TK.other }),
  (168, { size := (1 : Nat), bytes := (8 : Nat), agg := false, zero := some [Value.nilFunc], zval := some Value.nilFunc, kind := Ev.TK.func, fields := [], len := (0 : Nat), elem := (0 : Nat), eagg := false, esize := (1 : Nat), kk := Ev.TK.other }),
  (169, { size := (5 : Nat), bytes := (48 : Nat), agg := true, zero := some [Value.string { data := #[] }, Value.int IntKind.i64 (0 : Int), Value.int IntKind.i64 (0 : Int), Value.nilFunc, Value.nilFunc], zval := some (Value.agg { toList := [Value.string { data := #[] }, Value.int IntKind.i64 (0 : Int), Value.int IntKind.i64 (0 : Int), Value.nilFunc, Value.nilFunc] }), kind := Ev.TK.struct, fields := [((0 : Nat), false, (1 : Nat)), ((1 : Nat), false, (1 : Nat)), ((2 : Nat), false, (1 : Nat)), ((3 : Nat), false, (1 : Nat)), ((4 : Nat), false, (1 : Nat))], len := (0 : Nat), elem := (0 : Nat), eagg := false, esize := (1 : Nat), kk := Ev.TK.other }),
  (170, { size := (5 : Nat), bytes := (48 : Nat), agg := true, zero := some [Value.string { data := #[] }, Value.int IntKind.i64 (0 : Int), Value.int IntKind.i64 (0 : Int), Value.nilFunc, Value.nilFunc], zval := some (Value.agg { toList := [Value.string { data := #[] }, Value.int IntKind.i64 (0 : Int), Value.int IntKind.i64 (0 : Int), Value.nilFunc, Value.nilFunc] }), kind := Ev.TK.struct, fields := [((0 : Nat), false, (1 : Nat)), ((1 : Nat), false, (1 : Nat)), ((2 : Nat), false, (1 : Nat)), ((3 : Nat), false, (1 : Nat)), ((4 : Nat), false, (1 : Nat))], len := (0 : Nat), elem := (0 : Nat), eagg := false, esize := (1 : Nat), kk := Ev.TK.other }),
  (171, { size := (1 : Nat), bytes := (8 : Nat), agg := false, zero := some [Value.pointer none], zval := some (Value.pointer none), kind := Ev.TK.pointer, fields := [], len := (0 : Nat), elem := (23 : Nat), eagg := true, esize := (5 : Nat), kk := Ev.TK.other })]
noncomputable def F : List (Nat × Func) := [(3, Try.f3), (4, Try.f4), (5, Try.f5), (6, Try.f6), (7, Try.f7), (8, Try.f8), (9, Try.f9), (10, Try.f10), (11, Try.f11), (12, Try.f12), (13, Try.f13), (14, Try.f14), (15, Try.f15), (16, Try.f16), (17, Try.f17), (18, Try.f18), (19, Try.f19), (20, Try.f20), (21, Try.f21), (22, Try.f22), (23, Try.f23), (24, Try.f24), (25, Try.f25), (26, Try.f26), (27, Try.f27), (28, Try.f28), (29, Try.f29), (30, Try.f30), (31, Try.f31), (32, Try.f32), (33, Try.f33), (34, Try.f34), (35, Try.f35), (36, Try.f36), (37, Try.f37), (38, Try.f38), (39, Try.f39), (40, Try.f40), (41, Try.f41), (42, Try.f42), (43, Try.f43), (44, Try.f44), (45, Try.f45), (46, Try.f46), (47, Try.f47), (48, Try.f48), (49, Try.f49), (50, Try.f50), (51, Try.f51), (52, Try.f52), (53, Try.f53), (54, Try.f54), (55, Try.f55), (56, Try.f56), (57, Try.f57), (58, Try.f58), (59, Try.f59), (60, Try.f60), (61, Try.f61), (62, Try.f62), (63, Try.f63), (64, Try.f64), (65, Try.f65), (66, Try.f66), (67, Try.f67), (68, Try.f68), (69, Try.f69), (70, Try.f70), (71, Try.f71), (72, Try.f72), (73, Try.f73), (74, Try.f74), (75, Try.f75), (76, Try.f76), (77, Try.f77), (78, Try.f78), (79, Try.f79), (80, Try.f80), (81, Try.f81), (82, Try.f82), (83, Try.f83), (84, Try.f84), (85, Try.f85), (86, Try.f86), (87, Try.f87), (88, Try.f88), (89, Try.f89), (90, Try.f90), (91, Try.f91), (92, Try.f92), (93, Try.f93), (94, Try.f94), (95, Try.f95), (96, Try.f96), (97, Try.f97), (98, Try.f98), (99, Try.f99), (100, Try.f100), (101, Try.f101), (102, Try.f102), (103, Try.f103), (104, Try.f104), (105, Try.f105), (106, Try.f106), (107, Try.f107), (108, Try.f108), (109, Try.f109), (110, Try.f110), (111, Try.f111), (112, Try.f112), (113, Try.f113), (114, Try.f114), (115, Try.f115), (116, Try.f116), (117, Try.f117), (118, Try.f118), (119, Try.f119), (120, Try.f120), (121, Try.f121), (122, Try.f122), (123, Try.f123), (124, Try.f124), (125, Try.f125), (126, Try.f126), (127, Try.f127), (128, Try.f128), (129, Try.f129), (130, Try.f130), (131, Try.f131), (132, Try.f132), (133, Try.f133), (134, Try.f134), (135, Try.f135), (136, Try.f136), (137, Try.f137), (138, Try.f138), (139, Try.f139), (140, Try.f140), (141, Try.f141), (142, Try.f142), (143, Try.f143), (144, Try.f144), (145, Try.f145), (146, Try.f146), (147, Try.f147), (148, Try.f148), (149, Try.f149), (150, Try.f150), (151, Try.f151), (152, Try.f152), (153, Try.f153), (154, Try.f154), (155, Try.f155), (156, Try.f156), (157, Try.f157), (158, Try.f158), (159, Try.f159), (160, Try.f160), (161, Try.f161), (162, Try.f162), (163, Try.f163), (164, Try.f164)]
def Q : List (Nat × List IntKind) := [(60, [.i64, .i64]), (50, [.i64, .i64])]
noncomputable abbrev mk (X : List (Nat × Rx.Spec)) : Env := ⟨Try.prog, T, F, Rx.look X, Q, [4]⟩
theorem qs60 : Ev.QOk Try.prog 60 [.i64, .i64] := by
  intro l m hl hm op x y w ho
  obtain ⟨aa0, aa1, rfl⟩ : ∃ aa0 aa1, l = [aa0, aa1] := by
    match l, hl with
    | [aa0, aa1], _ => exact ⟨aa0, aa1, rfl⟩
  obtain ⟨cc0, cc1, rfl⟩ : ∃ cc0 cc1, m = [cc0, cc1] := by
    match m, hm with
    | [cc0, cc1], _ => exact ⟨cc0, cc1, rfl⟩
  have u3 := Try.underlying3
  have a3 := Try.isAgg3
  have z3 := Try.sizeOf3
  have hS : Try.prog.underlying 60 = some (.struct (Try.prog.fieldsOf 60)) := by kernel_rfl
  have hp : Try.prog.stoodInHeld 60 = false := by kernel_rfl
  have hg : Try.prog.eqGuardType Try.prog.depth 60 = false := by kernel_rfl
  simp only [Ev.ints]
  rw [Sem.run_bind, run_eqGuard_agg w op 60 x y _ _ hg]
  rcases ho with rfl | rfl
  · simp only [Result.andThen_ok]
    rw [run_eql_struct, show (10000 : Nat) = 9999 + 1 from rfl, run_equalIn_agg w 9999 60 _ _ hS hp]
    simp only [Program.fieldsOf, Try.underlying60]
    go_simp
    by_cases h0 : aa0 = cc0 <;> by_cases h1 : aa1 = cc1 <;> simp [h0, h1]
  · simp only [Result.andThen_ok]
    rw [run_neq_struct, show (10000 : Nat) = 9999 + 1 from rfl, run_equalIn_agg w 9999 60 _ _ hS hp]
    simp only [Program.fieldsOf, Try.underlying60]
    go_simp
    by_cases h0 : aa0 = cc0 <;> by_cases h1 : aa1 = cc1 <;> simp [h0, h1]
theorem qs50 : Ev.QOk Try.prog 50 [.i64, .i64] := by
  intro l m hl hm op x y w ho
  obtain ⟨aa0, aa1, rfl⟩ : ∃ aa0 aa1, l = [aa0, aa1] := by
    match l, hl with
    | [aa0, aa1], _ => exact ⟨aa0, aa1, rfl⟩
  obtain ⟨cc0, cc1, rfl⟩ : ∃ cc0 cc1, m = [cc0, cc1] := by
    match m, hm with
    | [cc0, cc1], _ => exact ⟨cc0, cc1, rfl⟩
  have u3 := Try.underlying3
  have a3 := Try.isAgg3
  have z3 := Try.sizeOf3
  have hS : Try.prog.underlying 50 = some (.struct (Try.prog.fieldsOf 50)) := by kernel_rfl
  have hp : Try.prog.stoodInHeld 50 = false := by kernel_rfl
  have hg : Try.prog.eqGuardType Try.prog.depth 50 = false := by kernel_rfl
  simp only [Ev.ints]
  rw [Sem.run_bind, run_eqGuard_agg w op 50 x y _ _ hg]
  rcases ho with rfl | rfl
  · simp only [Result.andThen_ok]
    rw [run_eql_struct, show (10000 : Nat) = 9999 + 1 from rfl, run_equalIn_agg w 9999 50 _ _ hS hp]
    simp only [Program.fieldsOf, Try.underlying50]
    go_simp
    by_cases h0 : aa0 = cc0 <;> by_cases h1 : aa1 = cc1 <;> simp [h0, h1]
  · simp only [Result.andThen_ok]
    rw [run_neq_struct, show (10000 : Nat) = 9999 + 1 from rfl, run_equalIn_agg w 9999 50 _ _ hS hp]
    simp only [Program.fieldsOf, Try.underlying50]
    go_simp
    by_cases h0 : aa0 = cc0 <;> by_cases h1 : aa1 = cc1 <;> simp [h0, h1]
theorem mixed : Try.prog.follows .mixedOrders = true := by kernel_rfl
/-- A function's contract may be used. -/
def Told (f : Nat) (sp : Rx.Spec) : Prop := (∃ fn, Try.prog.funcs[f]? = some fn ∧ fn.body.isSome = true ∧ (fn.name == "runtime.NumGoroutine") = false) ∧ SpecOk Try.prog f sp
theorem mkOk {X : List (Nat × Rx.Spec)} (h : ∀ p ∈ X, Told p.1 p.2) : EnvOk (mk X) where
  types := look_all (q := fun ty i => Ev.mkTI Try.prog ty = some i) (by
    intro p hp
    simp only [T, List.mem_cons, List.not_mem_nil, or_false] at hp
    rcases hp with rfl | rfl | rfl | rfl | rfl | rfl | rfl | rfl | rfl | rfl | rfl | rfl | rfl | rfl | rfl | rfl | rfl | rfl | rfl | rfl | rfl | rfl | rfl | rfl | rfl | rfl | rfl | rfl | rfl | rfl | rfl | rfl | rfl | rfl | rfl | rfl | rfl | rfl | rfl | rfl | rfl | rfl | rfl | rfl | rfl | rfl | rfl | rfl | rfl | rfl <;> kernel_rfl)
  funcs := look_all (q := fun f fn => Try.prog.funcs[f]? = some fn ∧ (fn.name == "runtime.NumGoroutine") = false) (by
    intro p hp
    simp only [F, List.mem_cons, List.not_mem_nil, or_false] at hp
    rcases hp with rfl | rfl | rfl | rfl | rfl | rfl | rfl | rfl | rfl | rfl | rfl | rfl | rfl | rfl | rfl | rfl | rfl | rfl | rfl | rfl | rfl | rfl | rfl | rfl | rfl | rfl | rfl | rfl | rfl | rfl | rfl | rfl | rfl | rfl | rfl | rfl | rfl | rfl | rfl | rfl | rfl | rfl | rfl | rfl | rfl | rfl | rfl | rfl | rfl | rfl | rfl | rfl | rfl | rfl | rfl | rfl | rfl | rfl | rfl | rfl | rfl | rfl | rfl | rfl | rfl | rfl | rfl | rfl | rfl | rfl | rfl | rfl | rfl | rfl | rfl | rfl | rfl | rfl | rfl | rfl | rfl | rfl | rfl | rfl | rfl | rfl | rfl | rfl | rfl | rfl | rfl | rfl | rfl | rfl | rfl | rfl | rfl | rfl | rfl | rfl | rfl | rfl | rfl | rfl | rfl | rfl | rfl | rfl | rfl | rfl | rfl | rfl | rfl | rfl | rfl | rfl | rfl | rfl | rfl | rfl | rfl | rfl | rfl | rfl | rfl | rfl | rfl | rfl | rfl | rfl | rfl | rfl | rfl | rfl | rfl | rfl | rfl | rfl | rfl | rfl | rfl | rfl | rfl | rfl | rfl | rfl | rfl | rfl | rfl | rfl | rfl | rfl | rfl | rfl | rfl | rfl | rfl | rfl | rfl | rfl | rfl | rfl <;> exact ⟨by kernel_rfl, by kernel_rfl⟩)
  specs := look_all (q := Told) h
  mixed := mixed
  qs := look_all (q := fun ty ks => Ev.QOk Try.prog ty ks) (by
    intro p hp
    simp only [Q, List.mem_cons, List.not_mem_nil, or_false] at hp
    rcases hp with rfl | rfl
    · exact qs60
    · exact qs50)
  bo := by
    intro ty hty
    simp only [List.mem_cons, List.not_mem_nil, or_false] at hty
    subst hty
    kernel_rfl
/-- From a function's body to its contract. -/
theorem told {X : List (Nat × Rx.Spec)} (hX : ∀ p ∈ X, Told p.1 p.2) {f n : Nat} {fn : Func} (hf : Try.prog.funcs[f]? = some fn) (h1 : fn.body.isSome = true) (h2 : (fn.name == "runtime.NumGoroutine") = false) {c : Con} (hb : BodyOk (mk X) n fn c) : Told f (specOf c) :=
  ⟨⟨fn, hf, h1, h2⟩, specOf_ok (mkOk hX) hf hb⟩
end Go.Proofs.Ytfgeoglegebncaa.Fr
namespace Go.Proofs.Ytfgeoglegebncaa.Fr
set_option maxRecDepth 100000
set_option maxHeartbeats 4000000
open Go.Rx
open Go.RowKit (Below)
set_option linter.unusedVariables false
/-- A narrower contract. -/
theorem Told.mono {f : Nat} {c c' : Con} (h : Told f (specOf c)) (hc : ∀ vs bs K, c' vs bs K → c vs bs K) : Told f (specOf c') :=
  ⟨h.1, fun args s K hk => h.2 args s K (locA_mono (fun us bs => hc us bs _) args 0 hk)⟩
/-- A slice of a row of these kinds, or none; with the room that it has. -/
def parseQ (ks : List IntKind) (j : Nat) (v : Value) (bs : List Blk) (k : Nat → RF → Nat → List Blk → Prop) : Prop :=
  match v with
  | .slice none 0 0 => k 0 zF j bs
  | .slice (some ⟨b, 0, some 0⟩) n c => (b = j ∧ n ≤ 100000 ∧ n ≤ c) ∧ match bs with
    | .row true ks' _ n' c' f :: bs' => (ks' = ks ∧ n' = n ∧ c' = c) ∧ k n f (j + 1) bs'
    | _ => False
  | _ => False
theorem parseQ_inv {ks : List IntKind} {j : Nat} {v : Value} {bs : List Blk} {k : Nat → RF → Nat → List Blk → Prop} (h : parseQ ks j v bs k) : (v = .slice none 0 0 ∧ k 0 zF j bs) ∨ ∃ e n c f bs', v = rsl j 0 n c ∧ n ≤ 100000 ∧ n ≤ c ∧ bs = .row true ks e n c f :: bs' ∧ k n f (j + 1) bs' := by
  unfold parseQ at h
  split at h
  · exact .inl ⟨rfl, h⟩
  · obtain ⟨⟨rfl, hn, hc⟩, h⟩ := h
    split at h
    · obtain ⟨⟨rfl, rfl, rfl⟩, h⟩ := h
      exact .inr ⟨_, _, _, _, _, rfl, hn, hc, rfl, h⟩
    · exact h.elim
  · exact h.elim
def parseRQ (ks : List IntKind) (j : Nat) (v : Value) (bs : List Blk) (k : Nat → RF → Nat → List Blk → Prop) : Prop :=
  match v with
  | .slice (some ⟨b, 0, some 0⟩) n c => (b = j ∧ n ≤ 100000 ∧ n ≤ c) ∧ match bs with
    | .row true ks' _ n' c' f :: bs' => (ks' = ks ∧ n' = n ∧ c' = c) ∧ k n f (j + 1) bs'
    | _ => False
  | _ => False
theorem parseRQ_inv {ks : List IntKind} {j : Nat} {v : Value} {bs : List Blk} {k : Nat → RF → Nat → List Blk → Prop} (h : parseRQ ks j v bs k) : ∃ e n c f bs', v = rsl j 0 n c ∧ n ≤ 100000 ∧ n ≤ c ∧ bs = .row true ks e n c f :: bs' ∧ k n f (j + 1) bs' := by
  unfold parseRQ at h
  split at h
  · obtain ⟨⟨rfl, hn, hc⟩, h⟩ := h
    split at h
    · obtain ⟨⟨rfl, rfl, rfl⟩, h⟩ := h
      exact ⟨_, _, _, _, _, rfl, hn, hc, rfl, h⟩
    · exact h.elim
  · exact h.elim
abbrev KB := Value → List Blk → Prop
theorem fin0i {K : KB} {x y : Int} (e : x = y) (h : K (.int .i64 x) []) : K (.int .i64 y) [] := e ▸ h
theorem fin0p {K : KB} {x y x' y' : Int} (e : x = x') (e' : y = y') (h : K (.tuple ⟨[.int .i64 x, .int .i64 y]⟩) []) : K (.tuple ⟨[.int .i64 x', .int .i64 y']⟩) [] := e ▸ e' ▸ h
theorem fin0u {K : KB} {x y x' y' : Int} (e : x = x') (e' : y = y') (h : K (.tuple ⟨[.int .u64 x, .int .i64 y]⟩) []) : K (.tuple ⟨[.int .u64 x', .int .i64 y']⟩) [] := e ▸ e' ▸ h
theorem fin0s {K : KB} {x y z x' y' z' : Int} (e : x = x') (e' : y = y') (e2 : z = z') (h : K (.tuple ⟨[.agg ⟨[.int .i64 x, .int .i64 y]⟩, .int .i64 z]⟩) []) : K (.tuple ⟨[.agg ⟨[.int .i64 x', .int .i64 y']⟩, .int .i64 z']⟩) [] := e ▸ e' ▸ e2 ▸ h
theorem fin0n {K : KB} {y y' : Int} (e : y = y') (h : K (.tuple ⟨[.slice none 0 0, .int .i64 y]⟩) []) : K (.tuple ⟨[.slice none 0 0, .int .i64 y']⟩) [] := e ▸ h
/-- Words of an arena. -/
structure Ok64 (n : Nat) (f : RF) : Prop where
  h : ∀ i, i < n → 0 ≤ f i 0 ∧ f i 0 ≤ 18446744073709551615
theorem Ok64.nil {f : RF} : Ok64 0 f := ⟨fun i h => absurd h (by omega)⟩
/-- The error of an arena. -/
def arE (n : Nat) (f : RF) : Int := if n < 1 ∨ 1601 < n then 3 else if f (Int.toNat 0) 0 = 0 then 0 else 6
theorem ar_cases (n : Nat) (f : RF) : (arE n f = 3 ∧ (n < 1 ∨ 1601 < n)) ∨ (arE n f = 6 ∧ 1 ≤ n ∧ n ≤ 1601 ∧ ¬ f (Int.toNat 0) 0 = 0) ∨ (arE n f = 0 ∧ 1 ≤ n ∧ n ≤ 1601 ∧ f (Int.toNat 0) 0 = 0) := by
  unfold arE
  repeat' split
  all_goals omega
/-- The error of a shape, its size, its header. -/
def sze (p q : Int) : Int := if p < 0 ∨ q < 0 then 7 else if 64 ≤ p ∨ 64 ≤ q ∨ 64 < 1 + p + q then 11 else 0
def szn (p q : Int) : Int := if sze p q = 0 then 1 + p + q else 0
def pkv (p q : Int) : Int := if sze p q = 0 then 1 + 256 * p + 65536 * q else 0
theorem sze_cases (p q : Int) : (sze p q = 7 ∧ (p < 0 ∨ q < 0)) ∨ (sze p q = 11 ∧ 0 ≤ p ∧ 0 ≤ q ∧ (64 ≤ p ∨ 64 ≤ q ∨ 64 < 1 + p + q)) ∨ (sze p q = 0 ∧ 0 ≤ p ∧ 0 ≤ q ∧ 1 + p + q ≤ 64) := by
  unfold sze
  repeat' split
  all_goals omega
theorem szn_cases (p q : Int) : (sze p q = 0 ∧ szn p q = 1 + p + q) ∨ (¬ sze p q = 0 ∧ szn p q = 0) := by
  unfold szn
  split
  · exact .inl ⟨by assumption, rfl⟩
  · exact .inr ⟨by assumption, rfl⟩
theorem pkv_cases (p q : Int) : (sze p q = 0 ∧ pkv p q = 1 + 256 * p + 65536 * q) ∨ (¬ sze p q = 0 ∧ pkv p q = 0) := by
  unfold pkv
  split
  · exact .inl ⟨by assumption, rfl⟩
  · exact .inr ⟨by assumption, rfl⟩
/-- A word as a header: its error, and the shape. -/
def hsE (v : Int) : Int := if v % 256 = 1 ∧ v / 65536 < 64 ∧ v / 256 % 256 < 64 ∧ 1 + v / 256 % 256 + v / 65536 ≤ 64 then 0 else 6
def hsP (v : Int) : Int := if hsE v = 0 then v / 256 % 256 else 0
def hsR (v : Int) : Int := if hsE v = 0 then v / 65536 else 0
theorem hs_cases (v : Int) : (hsE v = 0 ∧ v % 256 = 1 ∧ v / 65536 < 64 ∧ v / 256 % 256 < 64 ∧ 1 + v / 256 % 256 + v / 65536 ≤ 64 ∧ hsP v = v / 256 % 256 ∧ hsR v = v / 65536) ∨
    (hsE v = 6 ∧ hsP v = 0 ∧ hsR v = 0 ∧ ¬ (v % 256 = 1 ∧ v / 65536 < 64 ∧ v / 256 % 256 < 64 ∧ 1 + v / 256 % 256 + v / 65536 ≤ 64)) := by
  by_cases h : v % 256 = 1 ∧ v / 65536 < 64 ∧ v / 256 % 256 < 64 ∧ 1 + v / 256 % 256 + v / 65536 ≤ 64
  · have e : hsE v = 0 := if_pos h
    have e1 : hsP v = v / 256 % 256 := if_pos e
    have e2 : hsR v = v / 65536 := if_pos e
    exact .inl ⟨e, h.1, h.2.1, h.2.2.1, h.2.2.2, e1, e2⟩
  · have e : hsE v = 6 := if_neg h
    have e1 : hsP v = 0 := if_neg (by omega)
    have e2 : hsR v = 0 := if_neg (by omega)
    exact .inr ⟨e, e1, e2, h⟩
/-- An object: its error, and its shape. -/
def obE (n : Nat) (f : RF) (a : Int) : Int := if arE n f = 0 then (if a < 1 ∨ (n : Int) ≤ a then 7 else if hsE (f a.toNat 0) = 0 ∧ hsP (f a.toNat 0) + hsR (f a.toNat 0) < n - a then 0 else 6) else arE n f
def obP (n : Nat) (f : RF) (a : Int) : Int := if obE n f a = 0 then hsP (f a.toNat 0) else 0
def obR (n : Nat) (f : RF) (a : Int) : Int := if obE n f a = 0 then hsR (f a.toNat 0) else 0
theorem ob_cases {n : Nat} {f : RF} (hU : Ok64 n f) (a : Int) : (¬ arE n f = 0 ∧ obE n f a = arE n f ∧ obP n f a = 0 ∧ obR n f a = 0) ∨
    (arE n f = 0 ∧ obE n f a = 7 ∧ (a < 1 ∨ (n : Int) ≤ a) ∧ obP n f a = 0 ∧ obR n f a = 0) ∨
    (arE n f = 0 ∧ obE n f a = 6 ∧ 1 ≤ a ∧ a < n ∧ (¬ hsE (f a.toNat 0) = 0 ∨ n - a ≤ hsP (f a.toNat 0) + hsR (f a.toNat 0)) ∧ obP n f a = 0 ∧ obR n f a = 0) ∨
    (arE n f = 0 ∧ obE n f a = 0 ∧ 1 ≤ a ∧ a < n ∧ hsE (f a.toNat 0) = 0 ∧ obP n f a = hsP (f a.toNat 0) ∧ obR n f a = hsR (f a.toNat 0) ∧ 0 ≤ hsP (f a.toNat 0) ∧ 0 ≤ hsR (f a.toNat 0) ∧ hsP (f a.toNat 0) + hsR (f a.toNat 0) < n - a ∧ hsP (f a.toNat 0) + hsR (f a.toNat 0) ≤ 63) := by
  have b := hs_cases (f a.toNat 0)
  by_cases h0 : arE n f = 0
  · by_cases h1 : a < 1 ∨ (n : Int) ≤ a
    · have e : obE n f a = 7 := by unfold obE; rw [if_pos h0, if_pos h1]
      have e1 : obP n f a = 0 := if_neg (by omega)
      have e2 : obR n f a = 0 := if_neg (by omega)
      exact .inr (.inl ⟨h0, e, h1, e1, e2⟩)
    · have hv := (hU.h a.toNat (by omega)).1
      by_cases h2 : hsE (f a.toNat 0) = 0 ∧ hsP (f a.toNat 0) + hsR (f a.toNat 0) < n - a
      · have e : obE n f a = 0 := by unfold obE; rw [if_pos h0, if_neg h1, if_pos h2]
        have e1 : obP n f a = hsP (f a.toNat 0) := if_pos e
        have e2 : obR n f a = hsR (f a.toNat 0) := if_pos e
        exact .inr (.inr (.inr ⟨h0, e, by omega, by omega, h2.1, e1, e2, by omega, by omega, h2.2, by omega⟩))
      · have e : obE n f a = 6 := by unfold obE; rw [if_pos h0, if_neg h1, if_neg h2]
        have e1 : obP n f a = 0 := if_neg (by omega)
        have e2 : obR n f a = 0 := if_neg (by omega)
        exact .inr (.inr (.inl ⟨h0, e, by omega, by omega, by omega, e1, e2⟩))
  · have e : obE n f a = arE n f := if_neg h0
    have e1 : obP n f a = 0 := if_neg (by omega)
    have e2 : obR n f a = 0 := if_neg (by omega)
    exact .inl ⟨h0, e, e1, e2⟩
def obN (n : Nat) (f : RF) (a : Int) : Int := if obE n f a = 0 then 1 + obP n f a + obR n f a else 0
theorem obN_cases (n : Nat) (f : RF) (a : Int) : (obE n f a = 0 ∧ obN n f a = 1 + obP n f a + obR n f a) ∨ (¬ obE n f a = 0 ∧ obN n f a = 0) := by
  unfold obN
  split
  · exact .inl ⟨by assumption, rfl⟩
  · exact .inr ⟨by assumption, rfl⟩
/-- A word that is read. -/
def gtE (n : Nat) (f : RF) (a : Int) : Int := if arE n f = 0 then (if 1 ≤ a ∧ a < n then 0 else 7) else arE n f
def gtV (n : Nat) (f : RF) (a : Int) : Int := if gtE n f a = 0 then f a.toNat 0 else 0
theorem gt_cases (n : Nat) (f : RF) (a : Int) : (¬ arE n f = 0 ∧ gtE n f a = arE n f ∧ gtV n f a = 0) ∨ (arE n f = 0 ∧ gtE n f a = 7 ∧ gtV n f a = 0 ∧ (a < 1 ∨ (n : Int) ≤ a)) ∨ (arE n f = 0 ∧ gtE n f a = 0 ∧ gtV n f a = f a.toNat 0 ∧ 1 ≤ a ∧ a < n) := by
  by_cases h0 : arE n f = 0
  · by_cases h1 : 1 ≤ a ∧ a < n
    · have e : gtE n f a = 0 := by unfold gtE; rw [if_pos h0, if_pos h1]
      exact .inr (.inr ⟨h0, e, if_pos e, h1⟩)
    · have e : gtE n f a = 7 := by unfold gtE; rw [if_pos h0, if_neg h1]
      exact .inr (.inl ⟨h0, e, if_neg (by omega), by omega⟩)
  · have e : gtE n f a = arE n f := if_neg h0
    exact .inl ⟨h0, e, if_neg (by omega)⟩
/-- A part that is cleared. -/
def clE (n : Nat) (f : RF) (a m : Int) : Int := if arE n f = 0 then (if 1 ≤ a ∧ a ≤ n ∧ 0 ≤ m ∧ m ≤ n - a then 0 else 7) else arE n f
theorem cl_cases (n : Nat) (f : RF) (a m : Int) : (¬ arE n f = 0 ∧ clE n f a m = arE n f) ∨ (arE n f = 0 ∧ clE n f a m = 7 ∧ ¬ (1 ≤ a ∧ a ≤ n ∧ 0 ≤ m ∧ m ≤ n - a)) ∨ (arE n f = 0 ∧ clE n f a m = 0 ∧ 1 ≤ a ∧ a ≤ n ∧ 0 ≤ m ∧ m ≤ n - a) := by
  unfold clE
  repeat' split
  all_goals omega
/-- Another word; words that are 0. -/
def setF (f : RF) (a : Nat) (v : Int) : RF := fun i _ => if i = a then v else f i 0
def zroF (f : RF) (a m : Nat) : RF := fun i _ => if a ≤ i ∧ i < a + m then 0 else f i 0
theorem Ok64.zro {n : Nat} {f : RF} (h : Ok64 n f) {a m : Nat} : Ok64 n (zroF f a m) := ⟨fun i hi => by
  unfold zroF
  split
  · omega
  · exact h.h i hi⟩
@[reducible] def XZ : List (Nat × Rx.Spec) := []
theorem XZ_told : ∀ p ∈ XZ, Told p.1 p.2 := fun p hp => by cases hp
def arC : Con := fun vs bs K => match vs with
  | [vw] => parseQ [.u64] 0 vw bs fun nw fw j0 bs0 => bs0 = [] ∧ (True) ∧ (K (.int .i64 (arE nw fw)) [])
  | _ => False

def arC_nA  : Ann := fun _ _ _ => none
def arC_rA (ew nw cw : Nat) (fw : RF) : Ann := fun _ _ _ => none
def arK : Con := fun vs bs K => match vs with
  | [vw] => parseQ [.u64] 0 vw bs fun nw fw j0 bs0 => bs0 = [] ∧ (True) ∧ (K (.int .i64 (arE nw fw)) [])
  | _ => False

def arK_nA  : Ann := fun _ _ _ => none
def arK_rA (ew nw cw : Nat) (fw : RF) : Ann := fun _ _ _ => none
def hdC : Con := fun vs bs K => match vs with
  | [.agg ⟨[.int .i64 p, .int .i64 q]⟩] => bs = [] ∧ (True) ∧ (K (.int .i64 (sze p q)) [])
  | _ => False

def hdC_zA (p : Int) (q : Int) : Ann := fun _ _ _ => none
def hdK : Con := fun vs bs K => match vs with
  | [.agg ⟨[.int .i64 p, .int .i64 q]⟩] => bs = [] ∧ (True) ∧ (K (.int .i64 (sze p q)) [])
  | _ => False

def hdK_zA (p : Int) (q : Int) : Ann := fun _ _ _ => none
def arC_nV  (K : Value → List Blk → Prop) : Prop := (T0 ∧ (TS ∧ (T0 ∧ (∃ y0 : Value, (∃ y1 : List Blk, ((Go.Rx.Found 0 (vi (3 : Int)) ({ h := [], next := (0 : Nat) }) (y0) (y1)) ∧ (K y0 y1)))))))
theorem arC_nE  (K : Value → List Blk → Prop) : arC_nV  K = bodyX (mk XZ) (callN (mk XZ) 6) (arC_nA ) Try.f24 [.slice none 0 0] (stOf []) (Fd 0 K) := by kernel_rfl
set_option tactic.hygienic false in
theorem arC_nP  (K : Value → List Blk → Prop)  (h : K (.int .i64 (arE 0 zF)) []) : arC_nV  K := by
  unfold arC_nV
  have z0 := ar_cases 0 zF
  repeat' (first | (with_reducible exact rfl) | (with_reducible exact trivial) | (with_reducible refine And.intro ?_ ?_) | (intro) | (with_reducible refine br_d (fun hq => ?_) (fun hq => ?_)) | (with_reducible refine br_nd (fun hq => ?_) (fun hq => ?_)) | (with_reducible refine br_intro (fun hq => ?_) (fun hq => ?_)) | (with_reducible refine if_both (fun hz => ?_) (fun hz => ?_)) | fail)

  all_goals first
    | (with_reducible assumption)
    | (refine (id ?_ : ∃ (v1 : Value) (news : List Blk), _)
       first
        | contradiction
        | exact fin0 (by kernel_rfl) (by kernel_rfl) h
        | exact fin0 (by kernel_rfl) (by kernel_rfl) (fin0i (by omega) h)
        | exact fin0 (by kernel_rfl) (by kernel_rfl) (fin0p (by omega) (by omega) h)
        | exact fin0 (by kernel_rfl) (by kernel_rfl) (fin0u (by omega) (by omega) h)
        | exact fin0 (by kernel_rfl) (by kernel_rfl) (fin0s (by omega) (by omega) (by omega) h)
        | exact fin0 (by kernel_rfl) (by kernel_rfl) (fin0n (by omega) h)
        | (exfalso; simp at hq; omega)
        | (exfalso; omega)
       )
    | omega
    | contradiction
    | exact fin0 (by kernel_rfl) (by kernel_rfl) h
    | exact fin0 (by kernel_rfl) (by kernel_rfl) (fin0i (by omega) h)
    | exact fin0 (by kernel_rfl) (by kernel_rfl) (fin0p (by omega) (by omega) h)
    | exact fin0 (by kernel_rfl) (by kernel_rfl) (fin0u (by omega) (by omega) h)
    | exact fin0 (by kernel_rfl) (by kernel_rfl) (fin0s (by omega) (by omega) (by omega) h)
    | exact fin0 (by kernel_rfl) (by kernel_rfl) (fin0n (by omega) h)
    | (exfalso; simp at hq; omega)
    | (exfalso; omega)
def arC_rV (ew nw cw : Nat) (fw : RF) (K : Value → List Blk → Prop) : Prop := let q0 := TS; let q1 := (∃ y0 : Value, (∃ y1 : List Blk, ((Go.Rx.Found 1 (vi (3 : Int)) ({ h := [((0 : Nat), Blk.row true [IntKind.u64] ew nw cw fw)], next := (1 : Nat) }) (y0) (y1)) ∧ (K y0 y1)))); (T0 ∧ (q0 ∧ (T0 ∧ (if ((↑nw : Int) < (1 : Int)) then q1 else (q0 ∧ (T0 ∧ (if ((1601 : Int) < (↑nw : Int)) then q1 else ((q0 ∧ (@Eq Nat ((1 : Nat)) ((1 : Nat)))) ∧ ((((0 : Int) ≤ (0 : Int)) ∧ ((0 : Int) < (↑nw : Int))) ∧ ((Int.toNat (0 : Int) < nw) ∧ (T0 ∧ (if (@Eq Int (fw (Int.toNat (0 : Int)) (0 : Nat)) ((0 : Int))) then (∃ y0 : Value, (∃ y1 : List Blk, ((Go.Rx.Found 1 (vi (0 : Int)) ({ h := [((0 : Nat), Blk.row true [IntKind.u64] ew nw cw fw)], next := (1 : Nat) }) (y0) (y1)) ∧ (K y0 y1)))) else (∃ y0 : Value, (∃ y1 : List Blk, ((Go.Rx.Found 1 (vi (6 : Int)) ({ h := [((0 : Nat), Blk.row true [IntKind.u64] ew nw cw fw)], next := (1 : Nat) }) (y0) (y1)) ∧ (K y0 y1))))))))))))))))
theorem arC_rE (ew nw cw : Nat) (fw : RF) (K : Value → List Blk → Prop) : arC_rV ew nw cw fw K = bodyX (mk XZ) (callN (mk XZ) 6) (arC_rA ew nw cw fw) Try.f24 [rsl 0 0 nw cw] (stOf [.row true [.u64] ew nw cw fw]) (Fd 1 K) := by kernel_rfl
set_option tactic.hygienic false in
theorem arC_rP (ew nw cw : Nat) (fw : RF) (K : Value → List Blk → Prop)  (hnw : nw ≤ 100000) (hcw : nw ≤ cw) (h : K (.int .i64 (arE nw fw)) []) : arC_rV ew nw cw fw K := by
  unfold arC_rV
  conv => zeta
  have z0 := ar_cases nw fw
  repeat' (first | (with_reducible exact rfl) | (with_reducible exact trivial) | (with_reducible refine And.intro ?_ ?_) | (intro) | (with_reducible refine br_d (fun hq => ?_) (fun hq => ?_)) | (with_reducible refine br_nd (fun hq => ?_) (fun hq => ?_)) | (with_reducible refine br_intro (fun hq => ?_) (fun hq => ?_)) | (with_reducible refine if_both (fun hz => ?_) (fun hz => ?_)) | fail)

  all_goals first
    | (with_reducible assumption)
    | (refine (id ?_ : ∃ (v1 : Value) (news : List Blk), _)
       first
        | contradiction
        | exact fin0 (by kernel_rfl) (by kernel_rfl) h
        | exact fin0 (by kernel_rfl) (by kernel_rfl) (fin0i (by omega) h)
        | exact fin0 (by kernel_rfl) (by kernel_rfl) (fin0p (by omega) (by omega) h)
        | exact fin0 (by kernel_rfl) (by kernel_rfl) (fin0u (by omega) (by omega) h)
        | exact fin0 (by kernel_rfl) (by kernel_rfl) (fin0s (by omega) (by omega) (by omega) h)
        | exact fin0 (by kernel_rfl) (by kernel_rfl) (fin0n (by omega) h)
        | (exfalso; simp at hq; omega)
        | (exfalso; omega)
       )
    | omega
    | contradiction
    | exact fin0 (by kernel_rfl) (by kernel_rfl) h
    | exact fin0 (by kernel_rfl) (by kernel_rfl) (fin0i (by omega) h)
    | exact fin0 (by kernel_rfl) (by kernel_rfl) (fin0p (by omega) (by omega) h)
    | exact fin0 (by kernel_rfl) (by kernel_rfl) (fin0u (by omega) (by omega) h)
    | exact fin0 (by kernel_rfl) (by kernel_rfl) (fin0s (by omega) (by omega) (by omega) h)
    | exact fin0 (by kernel_rfl) (by kernel_rfl) (fin0n (by omega) h)
    | (exfalso; simp at hq; omega)
    | (exfalso; omega)
theorem arC_ok : BodyOk (mk XZ) 6 Try.f24 arC := by
  intro vs bs K hh hro
  clear hro
  unfold arC at hh
  split at hh
  · rename_i vw
    rcases parseQ_inv hh with ⟨rfl, hh0⟩ | ⟨ew, nw, cw, fw, btw, rfl, hnw, hcw, rfl, hh0⟩ <;> clear hh
    · obtain ⟨rfl, -, hc⟩ := hh0
      exact ⟨_, _, cast (arC_nE   K) (arC_nP   K   hc)⟩
    · obtain ⟨rfl, -, hc⟩ := hh0
      exact ⟨_, _, cast (arC_rE ew nw cw fw  K) (arC_rP ew nw cw fw  K hnw hcw  hc)⟩
  · exact hh.elim
theorem arC_told : Told 24 (specOf arC) := told (X := XZ) XZ_told (by kernel_rfl) (by kernel_rfl) (by kernel_rfl) arC_ok
def arK_nV  (K : Value → List Blk → Prop) : Prop := (T0 ∧ (TS ∧ (T0 ∧ (∃ y0 : Value, (∃ y1 : List Blk, ((Go.Rx.Found 0 (vi (3 : Int)) ({ h := [], next := (0 : Nat) }) (y0) (y1)) ∧ (K y0 y1)))))))
theorem arK_nE  (K : Value → List Blk → Prop) : arK_nV  K = bodyX (mk XZ) (callN (mk XZ) 6) (arK_nA ) Try.f25 [.slice none 0 0] (stOf []) (Fd 0 K) := by kernel_rfl
set_option tactic.hygienic false in
theorem arK_nP  (K : Value → List Blk → Prop)  (h : K (.int .i64 (arE 0 zF)) []) : arK_nV  K := by
  unfold arK_nV
  have z0 := ar_cases 0 zF
  repeat' (first | (with_reducible exact rfl) | (with_reducible exact trivial) | (with_reducible refine And.intro ?_ ?_) | (intro) | (with_reducible refine br_d (fun hq => ?_) (fun hq => ?_)) | (with_reducible refine br_nd (fun hq => ?_) (fun hq => ?_)) | (with_reducible refine br_intro (fun hq => ?_) (fun hq => ?_)) | (with_reducible refine if_both (fun hz => ?_) (fun hz => ?_)) | fail)

  all_goals first
    | (with_reducible assumption)
    | (refine (id ?_ : ∃ (v1 : Value) (news : List Blk), _)
       first
        | contradiction
        | exact fin0 (by kernel_rfl) (by kernel_rfl) h
        | exact fin0 (by kernel_rfl) (by kernel_rfl) (fin0i (by omega) h)
        | exact fin0 (by kernel_rfl) (by kernel_rfl) (fin0p (by omega) (by omega) h)
        | exact fin0 (by kernel_rfl) (by kernel_rfl) (fin0u (by omega) (by omega) h)
        | exact fin0 (by kernel_rfl) (by kernel_rfl) (fin0s (by omega) (by omega) (by omega) h)
        | exact fin0 (by kernel_rfl) (by kernel_rfl) (fin0n (by omega) h)
        | (exfalso; simp at hq; omega)
        | (exfalso; omega)
       )
    | omega
    | contradiction
    | exact fin0 (by kernel_rfl) (by kernel_rfl) h
    | exact fin0 (by kernel_rfl) (by kernel_rfl) (fin0i (by omega) h)
    | exact fin0 (by kernel_rfl) (by kernel_rfl) (fin0p (by omega) (by omega) h)
    | exact fin0 (by kernel_rfl) (by kernel_rfl) (fin0u (by omega) (by omega) h)
    | exact fin0 (by kernel_rfl) (by kernel_rfl) (fin0s (by omega) (by omega) (by omega) h)
    | exact fin0 (by kernel_rfl) (by kernel_rfl) (fin0n (by omega) h)
    | (exfalso; simp at hq; omega)
    | (exfalso; omega)
def arK_rV (ew nw cw : Nat) (fw : RF) (K : Value → List Blk → Prop) : Prop := let q0 := TS; let q1 := (∃ y0 : Value, (∃ y1 : List Blk, ((Go.Rx.Found 1 (vi (3 : Int)) ({ h := [((0 : Nat), Blk.row true [IntKind.u64] ew nw cw fw)], next := (1 : Nat) }) (y0) (y1)) ∧ (K y0 y1)))); (T0 ∧ (q0 ∧ (T0 ∧ (if ((↑nw : Int) < (1 : Int)) then q1 else (q0 ∧ (T0 ∧ (if ((1601 : Int) < (↑nw : Int)) then q1 else ((q0 ∧ (@Eq Nat ((1 : Nat)) ((1 : Nat)))) ∧ ((((0 : Int) ≤ (0 : Int)) ∧ ((0 : Int) < (↑nw : Int))) ∧ ((Int.toNat (0 : Int) < nw) ∧ (T0 ∧ (if (@Eq Int (fw (Int.toNat (0 : Int)) (0 : Nat)) ((0 : Int))) then (∃ y0 : Value, (∃ y1 : List Blk, ((Go.Rx.Found 1 (vi (0 : Int)) ({ h := [((0 : Nat), Blk.row true [IntKind.u64] ew nw cw fw)], next := (1 : Nat) }) (y0) (y1)) ∧ (K y0 y1)))) else (∃ y0 : Value, (∃ y1 : List Blk, ((Go.Rx.Found 1 (vi (6 : Int)) ({ h := [((0 : Nat), Blk.row true [IntKind.u64] ew nw cw fw)], next := (1 : Nat) }) (y0) (y1)) ∧ (K y0 y1))))))))))))))))
theorem arK_rE (ew nw cw : Nat) (fw : RF) (K : Value → List Blk → Prop) : arK_rV ew nw cw fw K = bodyX (mk XZ) (callN (mk XZ) 6) (arK_rA ew nw cw fw) Try.f25 [rsl 0 0 nw cw] (stOf [.row true [.u64] ew nw cw fw]) (Fd 1 K) := by kernel_rfl
set_option tactic.hygienic false in
theorem arK_rP (ew nw cw : Nat) (fw : RF) (K : Value → List Blk → Prop)  (hnw : nw ≤ 100000) (hcw : nw ≤ cw) (h : K (.int .i64 (arE nw fw)) []) : arK_rV ew nw cw fw K := by
  unfold arK_rV
  conv => zeta
  have z0 := ar_cases nw fw
  repeat' (first | (with_reducible exact rfl) | (with_reducible exact trivial) | (with_reducible refine And.intro ?_ ?_) | (intro) | (with_reducible refine br_d (fun hq => ?_) (fun hq => ?_)) | (with_reducible refine br_nd (fun hq => ?_) (fun hq => ?_)) | (with_reducible refine br_intro (fun hq => ?_) (fun hq => ?_)) | (with_reducible refine if_both (fun hz => ?_) (fun hz => ?_)) | fail)

  all_goals first
    | (with_reducible assumption)
    | (refine (id ?_ : ∃ (v1 : Value) (news : List Blk), _)
       first
        | contradiction
        | exact fin0 (by kernel_rfl) (by kernel_rfl) h
        | exact fin0 (by kernel_rfl) (by kernel_rfl) (fin0i (by omega) h)
        | exact fin0 (by kernel_rfl) (by kernel_rfl) (fin0p (by omega) (by omega) h)
        | exact fin0 (by kernel_rfl) (by kernel_rfl) (fin0u (by omega) (by omega) h)
        | exact fin0 (by kernel_rfl) (by kernel_rfl) (fin0s (by omega) (by omega) (by omega) h)
        | exact fin0 (by kernel_rfl) (by kernel_rfl) (fin0n (by omega) h)
        | (exfalso; simp at hq; omega)
        | (exfalso; omega)
       )
    | omega
    | contradiction
    | exact fin0 (by kernel_rfl) (by kernel_rfl) h
    | exact fin0 (by kernel_rfl) (by kernel_rfl) (fin0i (by omega) h)
    | exact fin0 (by kernel_rfl) (by kernel_rfl) (fin0p (by omega) (by omega) h)
    | exact fin0 (by kernel_rfl) (by kernel_rfl) (fin0u (by omega) (by omega) h)
    | exact fin0 (by kernel_rfl) (by kernel_rfl) (fin0s (by omega) (by omega) (by omega) h)
    | exact fin0 (by kernel_rfl) (by kernel_rfl) (fin0n (by omega) h)
    | (exfalso; simp at hq; omega)
    | (exfalso; omega)
theorem arK_ok : BodyOk (mk XZ) 6 Try.f25 arK := by
  intro vs bs K hh hro
  clear hro
  unfold arK at hh
  split at hh
  · rename_i vw
    rcases parseQ_inv hh with ⟨rfl, hh0⟩ | ⟨ew, nw, cw, fw, btw, rfl, hnw, hcw, rfl, hh0⟩ <;> clear hh
    · obtain ⟨rfl, -, hc⟩ := hh0
      exact ⟨_, _, cast (arK_nE   K) (arK_nP   K   hc)⟩
    · obtain ⟨rfl, -, hc⟩ := hh0
      exact ⟨_, _, cast (arK_rE ew nw cw fw  K) (arK_rP ew nw cw fw  K hnw hcw  hc)⟩
  · exact hh.elim
theorem arK_told : Told 25 (specOf arK) := told (X := XZ) XZ_told (by kernel_rfl) (by kernel_rfl) (by kernel_rfl) arK_ok
def hdC_zV (p : Int) (q : Int) (K : Value → List Blk → Prop) : Prop := let q0 := (9223372036854775807 : Int); let q1 := (-9223372036854775808 : Int); let q2 := (∃ y0 : Value, (∃ y1 : List Blk, ((Go.Rx.Found 0 (vi (7 : Int)) ({ h := [((0 : Nat), Blk.cells [vi p, vi q] (60 : Nat))], next := (1 : Nat) }) (y0) (y1)) ∧ (K y0 y1)))); let q3 := (∃ y0 : Value, (∃ y1 : List Blk, ((Go.Rx.Found 0 (vi (11 : Int)) ({ h := [((0 : Nat), Blk.cells [vi p, vi q] (60 : Nat))], next := (1 : Nat) }) (y0) (y1)) ∧ (K y0 y1)))); (t3 (if (p < (0 : Int)) then q2 else (t2 (if (q < (0 : Int)) then q2 else (t2 (if ((64 : Int) ≤ p) then q3 else (t2 (if ((64 : Int) ≤ q) then q3 else (t2 (((q1 ≤ (1 : Int) + p) ∧ ((1 : Int) + p ≤ q0)) ∧ (t2 (((q1 ≤ (1 : Int) + p + q) ∧ ((1 : Int) + p + q ≤ q0)) ∧ (T0 ∧ (if ((64 : Int) < (1 : Int) + p + q) then q3 else (∃ y0 : Value, (∃ y1 : List Blk, ((Go.Rx.Found 0 (vi (0 : Int)) ({ h := [((0 : Nat), Blk.cells [vi p, vi q] (60 : Nat))], next := (1 : Nat) }) (y0) (y1)) ∧ (K y0 y1))))))))))))))))))
theorem hdC_zE (p : Int) (q : Int) (K : Value → List Blk → Prop) : hdC_zV p q K = bodyX (mk XZ) (callN (mk XZ) 6) (hdC_zA p q) Try.f118 [.agg ⟨[.int .i64 p, .int .i64 q]⟩] (stOf []) (Fd 0 K) := by kernel_rfl
set_option tactic.hygienic false in
theorem hdC_zP (p : Int) (q : Int) (K : Value → List Blk → Prop)  (h : K (.int .i64 (sze p q)) []) : hdC_zV p q K := by
  unfold hdC_zV
  conv => zeta
  have z0 := sze_cases p q
  repeat' (first | (with_reducible exact rfl) | (with_reducible exact trivial) | (with_reducible refine And.intro ?_ ?_) | (intro) | (with_reducible refine br_d (fun hq => ?_) (fun hq => ?_)) | (with_reducible refine br_nd (fun hq => ?_) (fun hq => ?_)) | (with_reducible refine br_intro (fun hq => ?_) (fun hq => ?_)) | (with_reducible refine if_both (fun hz => ?_) (fun hz => ?_)) | fail)

  all_goals first
    | (with_reducible assumption)
    | (refine (id ?_ : ∃ (v1 : Value) (news : List Blk), _)
       first
        | contradiction
        | exact fin0 (by kernel_rfl) (by kernel_rfl) h
        | exact fin0 (by kernel_rfl) (by kernel_rfl) (fin0i (by omega) h)
        | exact fin0 (by kernel_rfl) (by kernel_rfl) (fin0p (by omega) (by omega) h)
        | exact fin0 (by kernel_rfl) (by kernel_rfl) (fin0u (by omega) (by omega) h)
        | exact fin0 (by kernel_rfl) (by kernel_rfl) (fin0s (by omega) (by omega) (by omega) h)
        | exact fin0 (by kernel_rfl) (by kernel_rfl) (fin0n (by omega) h)
        | (exfalso; simp at hq; omega)
        | (exfalso; omega)
       )
    | omega
    | contradiction
    | exact fin0 (by kernel_rfl) (by kernel_rfl) h
    | exact fin0 (by kernel_rfl) (by kernel_rfl) (fin0i (by omega) h)
    | exact fin0 (by kernel_rfl) (by kernel_rfl) (fin0p (by omega) (by omega) h)
    | exact fin0 (by kernel_rfl) (by kernel_rfl) (fin0u (by omega) (by omega) h)
    | exact fin0 (by kernel_rfl) (by kernel_rfl) (fin0s (by omega) (by omega) (by omega) h)
    | exact fin0 (by kernel_rfl) (by kernel_rfl) (fin0n (by omega) h)
    | (exfalso; simp at hq; omega)
    | (exfalso; omega)
theorem hdC_ok : BodyOk (mk XZ) 6 Try.f118 hdC := by
  intro vs bs K hh hro
  clear hro
  unfold hdC at hh
  split at hh
  · rename_i p q
    obtain ⟨rfl, -, hc⟩ := hh
    exact ⟨_, _, cast (hdC_zE  p q K) (hdC_zP  p q K   hc)⟩
  · exact hh.elim
theorem hdC_told : Told 118 (specOf hdC) := told (X := XZ) XZ_told (by kernel_rfl) (by kernel_rfl) (by kernel_rfl) hdC_ok
def hdK_zV (p : Int) (q : Int) (K : Value → List Blk → Prop) : Prop := let q0 := (9223372036854775807 : Int); let q1 := (-9223372036854775808 : Int); let q2 := (∃ y0 : Value, (∃ y1 : List Blk, ((Go.Rx.Found 0 (vi (7 : Int)) ({ h := [((0 : Nat), Blk.cells [vi p, vi q] (60 : Nat))], next := (1 : Nat) }) (y0) (y1)) ∧ (K y0 y1)))); let q3 := (∃ y0 : Value, (∃ y1 : List Blk, ((Go.Rx.Found 0 (vi (11 : Int)) ({ h := [((0 : Nat), Blk.cells [vi p, vi q] (60 : Nat))], next := (1 : Nat) }) (y0) (y1)) ∧ (K y0 y1)))); (t3 (if (p < (0 : Int)) then q2 else (t2 (if (q < (0 : Int)) then q2 else (t2 (if ((64 : Int) < p) then q3 else (t2 (if ((64 : Int) < q) then q3 else (t2 (((q1 ≤ (1 : Int) + p) ∧ ((1 : Int) + p ≤ q0)) ∧ (t2 (((q1 ≤ (1 : Int) + p + q) ∧ ((1 : Int) + p + q ≤ q0)) ∧ (T0 ∧ (if ((64 : Int) < (1 : Int) + p + q) then q3 else (∃ y0 : Value, (∃ y1 : List Blk, ((Go.Rx.Found 0 (vi (0 : Int)) ({ h := [((0 : Nat), Blk.cells [vi p, vi q] (60 : Nat))], next := (1 : Nat) }) (y0) (y1)) ∧ (K y0 y1))))))))))))))))))
theorem hdK_zE (p : Int) (q : Int) (K : Value → List Blk → Prop) : hdK_zV p q K = bodyX (mk XZ) (callN (mk XZ) 6) (hdK_zA p q) Try.f91 [.agg ⟨[.int .i64 p, .int .i64 q]⟩] (stOf []) (Fd 0 K) := by kernel_rfl
set_option tactic.hygienic false in
theorem hdK_zP (p : Int) (q : Int) (K : Value → List Blk → Prop)  (h : K (.int .i64 (sze p q)) []) : hdK_zV p q K := by
  unfold hdK_zV
  conv => zeta
  have z0 := sze_cases p q
  repeat' (first | (with_reducible exact rfl) | (with_reducible exact trivial) | (with_reducible refine And.intro ?_ ?_) | (intro) | (with_reducible refine br_d (fun hq => ?_) (fun hq => ?_)) | (with_reducible refine br_nd (fun hq => ?_) (fun hq => ?_)) | (with_reducible refine br_intro (fun hq => ?_) (fun hq => ?_)) | (with_reducible refine if_both (fun hz => ?_) (fun hz => ?_)) | fail)

  all_goals first
    | (with_reducible assumption)
    | (refine (id ?_ : ∃ (v1 : Value) (news : List Blk), _)
       first
        | contradiction
        | exact fin0 (by kernel_rfl) (by kernel_rfl) h
        | exact fin0 (by kernel_rfl) (by kernel_rfl) (fin0i (by omega) h)
        | exact fin0 (by kernel_rfl) (by kernel_rfl) (fin0p (by omega) (by omega) h)
        | exact fin0 (by kernel_rfl) (by kernel_rfl) (fin0u (by omega) (by omega) h)
        | exact fin0 (by kernel_rfl) (by kernel_rfl) (fin0s (by omega) (by omega) (by omega) h)
        | exact fin0 (by kernel_rfl) (by kernel_rfl) (fin0n (by omega) h)
        | (exfalso; simp at hq; omega)
        | (exfalso; omega)
       )
    | omega
    | contradiction
    | exact fin0 (by kernel_rfl) (by kernel_rfl) h
    | exact fin0 (by kernel_rfl) (by kernel_rfl) (fin0i (by omega) h)
    | exact fin0 (by kernel_rfl) (by kernel_rfl) (fin0p (by omega) (by omega) h)
    | exact fin0 (by kernel_rfl) (by kernel_rfl) (fin0u (by omega) (by omega) h)
    | exact fin0 (by kernel_rfl) (by kernel_rfl) (fin0s (by omega) (by omega) (by omega) h)
    | exact fin0 (by kernel_rfl) (by kernel_rfl) (fin0n (by omega) h)
    | (exfalso; simp at hq; omega)
    | (exfalso; omega)
theorem hdK_ok : BodyOk (mk XZ) 6 Try.f91 hdK := by
  intro vs bs K hh hro
  clear hro
  unfold hdK at hh
  split at hh
  · rename_i p q
    obtain ⟨rfl, -, hc⟩ := hh
    exact ⟨_, _, cast (hdK_zE  p q K) (hdK_zP  p q K   hc)⟩
  · exact hh.elim
theorem hdK_told : Told 91 (specOf hdK) := told (X := XZ) XZ_told (by kernel_rfl) (by kernel_rfl) (by kernel_rfl) hdK_ok
end Go.Proofs.Ytfgeoglegebncaa.Fr
namespace Go.Proofs.Ytfgeoglegebncaa.Fr
set_option maxRecDepth 100000
set_option maxHeartbeats 4000000
open Go.Rx
open Go.RowKit (Below)
set_option linter.unusedVariables false
@[reducible] def XC : List (Nat × Rx.Spec) := [(118, specOf hdC), (24, specOf arC)]
theorem XC_told : ∀ p ∈ XC, Told p.1 p.2 := by
  intro p hp
  simp only [List.mem_cons, List.not_mem_nil, or_false] at hp
  rcases hp with rfl | rfl
  · exact hdC_told
  · exact arC_told
@[reducible] def XK : List (Nat × Rx.Spec) := [(91, specOf hdK), (25, specOf arK)]
theorem XK_told : ∀ p ∈ XK, Told p.1 p.2 := by
  intro p hp
  simp only [List.mem_cons, List.not_mem_nil, or_false] at hp
  rcases hp with rfl | rfl
  · exact hdK_told
  · exact arK_told
def hdP : Con := fun vs bs K => match vs with
  | [.agg ⟨[.int .i64 p, .int .i64 q]⟩] => bs = [] ∧ (True) ∧ (K (.tuple ⟨[.int .u64 (pkv p q), .int .i64 (sze p q)]⟩) [])
  | _ => False

def hdP_zA (p : Int) (q : Int) : Ann := fun _ _ _ => none
def hkN : Con := fun vs bs K => match vs with
  | [.agg ⟨[.int .i64 p, .int .i64 q]⟩] => bs = [] ∧ (True) ∧ (K (.tuple ⟨[.int .i64 (szn p q), .int .i64 (sze p q)]⟩) [])
  | _ => False

def hkN_zA (p : Int) (q : Int) : Ann := fun _ _ _ => none
def hkP : Con := fun vs bs K => match vs with
  | [.agg ⟨[.int .i64 p, .int .i64 q]⟩] => bs = [] ∧ (True) ∧ (K (.tuple ⟨[.int .u64 (pkv p q), .int .i64 (sze p q)]⟩) [])
  | _ => False

def hkP_zA (p : Int) (q : Int) : Ann := fun _ _ _ => none
def hdS : Con := fun vs bs K => match vs with
  | [.int .u64 v] => bs = [] ∧ ((0 ≤ v ∧ v ≤ 18446744073709551615)) ∧ (K (.tuple ⟨[.agg ⟨[.int .i64 (hsP v), .int .i64 (hsR v)]⟩, .int .i64 (hsE v)]⟩) [])
  | _ => False

def hdS_zA (v : Int) : Ann := fun _ _ _ => none
def hdP_zV (p : Int) (q : Int) (K : Value → List Blk → Prop) : Prop := let q0 := (18446744073709551616 : Int); (t4 (eB ∧ ((True) ∧ (T0 ∧ (if (@Eq Int (sze p q) ((0 : Int))) then (t4 ((((0 : Int) ≤ (16 : Int)) ∧ ((16 : Int) ≤ (64 : Int))) ∧ (t2 ((((0 : Int) ≤ (8 : Int)) ∧ ((8 : Int) ≤ (64 : Int))) ∧ (t2 (∃ y0 : Value, (∃ y1 : List Blk, ((Go.Rx.Found 0 (Value.tuple { toList := [Value.int IntKind.u64 ((((0 : Int) + (q % q0 * (65536 : Int) % q0 + (1 : Int)) % q0) % q0 + p % q0 * (256 : Int) % q0) % q0), vi (0 : Int)] }) ({ h := [((0 : Nat), Blk.cells [vi p, vi q] (60 : Nat))], next := (1 : Nat) }) (y0) (y1)) ∧ (K y0 y1))))))))) else (∃ y0 : Value, (∃ y1 : List Blk, ((Go.Rx.Found 0 (Value.tuple { toList := [Value.int IntKind.u64 (0 : Int), vi (sze p q)] }) ({ h := [((0 : Nat), Blk.cells [vi p, vi q] (60 : Nat))], next := (1 : Nat) }) (y0) (y1)) ∧ (K y0 y1)))))))))
theorem hdP_zE (p : Int) (q : Int) (K : Value → List Blk → Prop) : hdP_zV p q K = bodyX (mk XC) (callN (mk XC) 6) (hdP_zA p q) Try.f89 [.agg ⟨[.int .i64 p, .int .i64 q]⟩] (stOf []) (Fd 0 K) := by kernel_rfl
set_option tactic.hygienic false in
theorem hdP_zP (p : Int) (q : Int) (K : Value → List Blk → Prop)  (h : K (.tuple ⟨[.int .u64 (pkv p q), .int .i64 (sze p q)]⟩) []) : hdP_zV p q K := by
  unfold hdP_zV
  conv => zeta
  have z0 := sze_cases p q
  have z1 := pkv_cases p q
  repeat' (first | (with_reducible exact rfl) | (with_reducible exact trivial) | (with_reducible refine And.intro ?_ ?_) | (intro) | (with_reducible refine br_d (fun hq => ?_) (fun hq => ?_)) | (with_reducible refine br_nd (fun hq => ?_) (fun hq => ?_)) | (with_reducible refine br_intro (fun hq => ?_) (fun hq => ?_)) | (with_reducible refine if_both (fun hz => ?_) (fun hz => ?_)) | fail)

  all_goals first
    | (with_reducible assumption)
    | (refine (id ?_ : ∃ (v1 : Value) (news : List Blk), _)
       first
        | contradiction
        | exact fin0 (by kernel_rfl) (by kernel_rfl) h
        | exact fin0 (by kernel_rfl) (by kernel_rfl) (fin0i (by omega) h)
        | exact fin0 (by kernel_rfl) (by kernel_rfl) (fin0p (by omega) (by omega) h)
        | exact fin0 (by kernel_rfl) (by kernel_rfl) (fin0u (by omega) (by omega) h)
        | exact fin0 (by kernel_rfl) (by kernel_rfl) (fin0s (by omega) (by omega) (by omega) h)
        | exact fin0 (by kernel_rfl) (by kernel_rfl) (fin0n (by omega) h)
        | (exfalso; simp at hq; omega)
        | (exfalso; omega)
       )
    | omega
    | contradiction
    | exact fin0 (by kernel_rfl) (by kernel_rfl) h
    | exact fin0 (by kernel_rfl) (by kernel_rfl) (fin0i (by omega) h)
    | exact fin0 (by kernel_rfl) (by kernel_rfl) (fin0p (by omega) (by omega) h)
    | exact fin0 (by kernel_rfl) (by kernel_rfl) (fin0u (by omega) (by omega) h)
    | exact fin0 (by kernel_rfl) (by kernel_rfl) (fin0s (by omega) (by omega) (by omega) h)
    | exact fin0 (by kernel_rfl) (by kernel_rfl) (fin0n (by omega) h)
    | (exfalso; simp at hq; omega)
    | (exfalso; omega)
theorem hdP_ok : BodyOk (mk XC) 6 Try.f89 hdP := by
  intro vs bs K hh hro
  clear hro
  unfold hdP at hh
  split at hh
  · rename_i p q
    obtain ⟨rfl, -, hc⟩ := hh
    exact ⟨_, _, cast (hdP_zE  p q K) (hdP_zP  p q K   hc)⟩
  · exact hh.elim
theorem hdP_told : Told 89 (specOf hdP) := told (X := XC) XC_told (by kernel_rfl) (by kernel_rfl) (by kernel_rfl) hdP_ok
def hkN_zV (p : Int) (q : Int) (K : Value → List Blk → Prop) : Prop := let q0 := (9223372036854775807 : Int); let q1 := (-9223372036854775808 : Int); (t4 (eB ∧ ((True) ∧ (T0 ∧ (if (@Eq Int (sze p q) ((0 : Int))) then (t2 (((q1 ≤ (1 : Int) + p) ∧ ((1 : Int) + p ≤ q0)) ∧ (t2 (((q1 ≤ (1 : Int) + p + q) ∧ ((1 : Int) + p + q ≤ q0)) ∧ (∃ y0 : Value, (∃ y1 : List Blk, ((Go.Rx.Found 0 (Value.tuple { toList := [vi ((1 : Int) + p + q), vi (0 : Int)] }) ({ h := [((0 : Nat), Blk.cells [vi p, vi q] (60 : Nat))], next := (1 : Nat) }) (y0) (y1)) ∧ (K y0 y1)))))))) else (∃ y0 : Value, (∃ y1 : List Blk, ((Go.Rx.Found 0 (Value.tuple { toList := [vi (0 : Int), vi (sze p q)] }) ({ h := [((0 : Nat), Blk.cells [vi p, vi q] (60 : Nat))], next := (1 : Nat) }) (y0) (y1)) ∧ (K y0 y1)))))))))
theorem hkN_zE (p : Int) (q : Int) (K : Value → List Blk → Prop) : hkN_zV p q K = bodyX (mk XK) (callN (mk XK) 6) (hkN_zA p q) Try.f65 [.agg ⟨[.int .i64 p, .int .i64 q]⟩] (stOf []) (Fd 0 K) := by kernel_rfl
set_option tactic.hygienic false in
theorem hkN_zP (p : Int) (q : Int) (K : Value → List Blk → Prop)  (h : K (.tuple ⟨[.int .i64 (szn p q), .int .i64 (sze p q)]⟩) []) : hkN_zV p q K := by
  unfold hkN_zV
  conv => zeta
  have z0 := sze_cases p q
  have z1 := szn_cases p q
  repeat' (first | (with_reducible exact rfl) | (with_reducible exact trivial) | (with_reducible refine And.intro ?_ ?_) | (intro) | (with_reducible refine br_d (fun hq => ?_) (fun hq => ?_)) | (with_reducible refine br_nd (fun hq => ?_) (fun hq => ?_)) | (with_reducible refine br_intro (fun hq => ?_) (fun hq => ?_)) | (with_reducible refine if_both (fun hz => ?_) (fun hz => ?_)) | fail)

  all_goals first
    | (with_reducible assumption)
    | (refine (id ?_ : ∃ (v1 : Value) (news : List Blk), _)
       first
        | contradiction
        | exact fin0 (by kernel_rfl) (by kernel_rfl) h
        | exact fin0 (by kernel_rfl) (by kernel_rfl) (fin0i (by omega) h)
        | exact fin0 (by kernel_rfl) (by kernel_rfl) (fin0p (by omega) (by omega) h)
        | exact fin0 (by kernel_rfl) (by kernel_rfl) (fin0u (by omega) (by omega) h)
        | exact fin0 (by kernel_rfl) (by kernel_rfl) (fin0s (by omega) (by omega) (by omega) h)
        | exact fin0 (by kernel_rfl) (by kernel_rfl) (fin0n (by omega) h)
        | (exfalso; simp at hq; omega)
        | (exfalso; omega)
       )
    | omega
    | contradiction
    | exact fin0 (by kernel_rfl) (by kernel_rfl) h
    | exact fin0 (by kernel_rfl) (by kernel_rfl) (fin0i (by omega) h)
    | exact fin0 (by kernel_rfl) (by kernel_rfl) (fin0p (by omega) (by omega) h)
    | exact fin0 (by kernel_rfl) (by kernel_rfl) (fin0u (by omega) (by omega) h)
    | exact fin0 (by kernel_rfl) (by kernel_rfl) (fin0s (by omega) (by omega) (by omega) h)
    | exact fin0 (by kernel_rfl) (by kernel_rfl) (fin0n (by omega) h)
    | (exfalso; simp at hq; omega)
    | (exfalso; omega)
theorem hkN_ok : BodyOk (mk XK) 6 Try.f65 hkN := by
  intro vs bs K hh hro
  clear hro
  unfold hkN at hh
  split at hh
  · rename_i p q
    obtain ⟨rfl, -, hc⟩ := hh
    exact ⟨_, _, cast (hkN_zE  p q K) (hkN_zP  p q K   hc)⟩
  · exact hh.elim
theorem hkN_told : Told 65 (specOf hkN) := told (X := XK) XK_told (by kernel_rfl) (by kernel_rfl) (by kernel_rfl) hkN_ok
def hkP_zV (p : Int) (q : Int) (K : Value → List Blk → Prop) : Prop := let q0 := (18446744073709551616 : Int); (t4 (eB ∧ ((True) ∧ (T0 ∧ (if (@Eq Int (sze p q) ((0 : Int))) then (t6 (∃ y0 : Value, (∃ y1 : List Blk, ((Go.Rx.Found 0 (Value.tuple { toList := [Value.int IntKind.u64 ((((1 : Int) + (256 : Int) * (p % q0) % q0) % q0 + (65536 : Int) * (q % q0) % q0) % q0), vi (0 : Int)] }) ({ h := [((0 : Nat), Blk.cells [vi p, vi q] (60 : Nat))], next := (1 : Nat) }) (y0) (y1)) ∧ (K y0 y1))))) else (∃ y0 : Value, (∃ y1 : List Blk, ((Go.Rx.Found 0 (Value.tuple { toList := [Value.int IntKind.u64 (0 : Int), vi (sze p q)] }) ({ h := [((0 : Nat), Blk.cells [vi p, vi q] (60 : Nat))], next := (1 : Nat) }) (y0) (y1)) ∧ (K y0 y1)))))))))
theorem hkP_zE (p : Int) (q : Int) (K : Value → List Blk → Prop) : hkP_zV p q K = bodyX (mk XK) (callN (mk XK) 6) (hkP_zA p q) Try.f92 [.agg ⟨[.int .i64 p, .int .i64 q]⟩] (stOf []) (Fd 0 K) := by kernel_rfl
set_option tactic.hygienic false in
theorem hkP_zP (p : Int) (q : Int) (K : Value → List Blk → Prop)  (h : K (.tuple ⟨[.int .u64 (pkv p q), .int .i64 (sze p q)]⟩) []) : hkP_zV p q K := by
  unfold hkP_zV
  conv => zeta
  have z0 := sze_cases p q
  have z1 := pkv_cases p q
  repeat' (first | (with_reducible exact rfl) | (with_reducible exact trivial) | (with_reducible refine And.intro ?_ ?_) | (intro) | (with_reducible refine br_d (fun hq => ?_) (fun hq => ?_)) | (with_reducible refine br_nd (fun hq => ?_) (fun hq => ?_)) | (with_reducible refine br_intro (fun hq => ?_) (fun hq => ?_)) | (with_reducible refine if_both (fun hz => ?_) (fun hz => ?_)) | fail)

  all_goals first
    | (with_reducible assumption)
    | (refine (id ?_ : ∃ (v1 : Value) (news : List Blk), _)
       first
        | contradiction
        | exact fin0 (by kernel_rfl) (by kernel_rfl) h
        | exact fin0 (by kernel_rfl) (by kernel_rfl) (fin0i (by omega) h)
        | exact fin0 (by kernel_rfl) (by kernel_rfl) (fin0p (by omega) (by omega) h)
        | exact fin0 (by kernel_rfl) (by kernel_rfl) (fin0u (by omega) (by omega) h)
        | exact fin0 (by kernel_rfl) (by kernel_rfl) (fin0s (by omega) (by omega) (by omega) h)
        | exact fin0 (by kernel_rfl) (by kernel_rfl) (fin0n (by omega) h)
        | (exfalso; simp at hq; omega)
        | (exfalso; omega)
       )
    | omega
    | contradiction
    | exact fin0 (by kernel_rfl) (by kernel_rfl) h
    | exact fin0 (by kernel_rfl) (by kernel_rfl) (fin0i (by omega) h)
    | exact fin0 (by kernel_rfl) (by kernel_rfl) (fin0p (by omega) (by omega) h)
    | exact fin0 (by kernel_rfl) (by kernel_rfl) (fin0u (by omega) (by omega) h)
    | exact fin0 (by kernel_rfl) (by kernel_rfl) (fin0s (by omega) (by omega) (by omega) h)
    | exact fin0 (by kernel_rfl) (by kernel_rfl) (fin0n (by omega) h)
    | (exfalso; simp at hq; omega)
    | (exfalso; omega)
theorem hkP_ok : BodyOk (mk XK) 6 Try.f92 hkP := by
  intro vs bs K hh hro
  clear hro
  unfold hkP at hh
  split at hh
  · rename_i p q
    obtain ⟨rfl, -, hc⟩ := hh
    exact ⟨_, _, cast (hkP_zE  p q K) (hkP_zP  p q K   hc)⟩
  · exact hh.elim
theorem hkP_told : Told 92 (specOf hkP) := told (X := XK) XK_told (by kernel_rfl) (by kernel_rfl) (by kernel_rfl) hkP_ok
def hdS_zV (v : Int) (K : Value → List Blk → Prop) : Prop := let q0 := (9223372036854775807 : Int); let q1 := (-9223372036854775808 : Int); let q2 := (18446744073709551615 : Int); let q3 := (v / (256 : Int) % (256 : Int)); let q4 := (((0 : Int) ≤ (8 : Int)) ∧ ((8 : Int) ≤ (64 : Int))); let q5 := (((0 : Int) ≤ (16 : Int)) ∧ ((16 : Int) ≤ (64 : Int))); let q6 := (((255 : Int) ≤ q2) ∧ T0); let q7 := ((0 : Nat), Blk.cells [vi (0 : Int), vi (0 : Int)] (60 : Nat)); let q8 := ((q1 ≤ v / (65536 : Int)) ∧ (v / (65536 : Int) ≤ q0)); let q9 := (((0 : Int) ≤ v) ∧ ((v ≤ q2) ∧ q6)); let q10 := ((q1 ≤ v / (256 : Int) % (256 : Int)) ∧ (v / (256 : Int) % (256 : Int) ≤ q0)); let q11 := ((1 : Nat), Blk.cells [vi q3, vi (v / (65536 : Int))] (60 : Nat)); let q12 := (((0 : Int) ≤ v / (256 : Int)) ∧ ((v / (256 : Int) ≤ q2) ∧ q6)); let q13 := (t4 (∃ y0 : Value, (∃ y1 : List Blk, ((Go.Rx.Found 0 (Value.tuple { toList := [Value.agg { toList := [vi (0 : Int), vi (0 : Int)] }, vi (6 : Int)] }) ({ h := [q7], next := (1 : Nat) }) (y0) (y1)) ∧ (K y0 y1))))); let q14 := (t4 (∃ y0 : Value, (∃ y1 : List Blk, ((Go.Rx.Found 0 (Value.tuple { toList := [Value.agg { toList := [vi (0 : Int), vi (0 : Int)] }, vi (6 : Int)] }) ({ h := [q11, q7], next := (2 : Nat) }) (y0) (y1)) ∧ (K y0 y1))))); let q15 := (t2 (q9 ∧ (T0 ∧ (if (@Eq Int (v % (256 : Int)) ((2 : Int))) then (T0 ∧ (q4 ∧ (T0 ∧ (if ((1 : Int) ≤ v / (256 : Int)) then (T0 ∧ (q4 ∧ (T0 ∧ (if (v / (256 : Int) ≤ (1600 : Int)) then q13 else q13)))) else q13)))) else q13)))); (t5 (q9 ∧ (T0 ∧ (if (@Eq Int (v % (256 : Int)) ((1 : Int))) then (T0 ∧ (q5 ∧ (T0 ∧ (if (v / (65536 : Int) < (64 : Int)) then (t2 (q4 ∧ (T0 ∧ (q12 ∧ (q10 ∧ (T0 ∧ (q5 ∧ (q8 ∧ (t5 (eB ∧ ((True) ∧ (T0 ∧ (if (@Eq Int (sze q3 (v / (65536 : Int))) ((0 : Int))) then (t3 (q4 ∧ (T0 ∧ (q12 ∧ (q10 ∧ (T0 ∧ (q5 ∧ (q8 ∧ (t6 (∃ y0 : Value, (∃ y1 : List Blk, ((Go.Rx.Found 0 (Value.tuple { toList := [Value.agg { toList := [vi q3, vi (v / (65536 : Int))] }, vi (0 : Int)] }) ({ h := [((2 : Nat), Blk.cells [vi q3, vi (v / (65536 : Int))] (60 : Nat)), q11, ((0 : Nat), Blk.cells [vi q3, vi (v / (65536 : Int))] (60 : Nat))], next := (3 : Nat) }) (y0) (y1)) ∧ (K y0 y1))))))))))))) else (t2 (q9 ∧ (T0 ∧ (if (@Eq Int (v % (256 : Int)) ((2 : Int))) then (T0 ∧ (q4 ∧ (T0 ∧ (if ((1 : Int) ≤ v / (256 : Int)) then (T0 ∧ (q4 ∧ (T0 ∧ (if (v / (256 : Int) ≤ (1600 : Int)) then q14 else q14)))) else q14)))) else q14))))))))))))))))) else q15)))) else q15))))
theorem hdS_zE (v : Int) (K : Value → List Blk → Prop) : hdS_zV v K = bodyX (mk XC) (callN (mk XC) 6) (hdS_zA v) Try.f120 [.int .u64 v] (stOf []) (Fd 0 K) := by kernel_rfl
set_option tactic.hygienic false in
theorem hdS_zP (v : Int) (K : Value → List Blk → Prop)  (hv : 0 ≤ v ∧ v ≤ 18446744073709551615) (h : K (.tuple ⟨[.agg ⟨[.int .i64 (hsP v), .int .i64 (hsR v)]⟩, .int .i64 (hsE v)]⟩) []) : hdS_zV v K := by
  unfold hdS_zV
  conv => zeta
  have z0 := hs_cases v
  have z1 := sze_cases (v / 256 % 256) (v / 65536)
  repeat' (first | (with_reducible exact rfl) | (with_reducible exact trivial) | (with_reducible refine And.intro ?_ ?_) | (intro) | (with_reducible refine br_d (fun hq => ?_) (fun hq => ?_)) | (with_reducible refine br_nd (fun hq => ?_) (fun hq => ?_)) | (with_reducible refine br_intro (fun hq => ?_) (fun hq => ?_)) | (with_reducible refine if_both (fun hz => ?_) (fun hz => ?_)) | fail)

  all_goals first
    | (with_reducible assumption)
    | (refine (id ?_ : ∃ (v1 : Value) (news : List Blk), _)
       first
        | contradiction
        | exact fin0 (by kernel_rfl) (by kernel_rfl) h
        | exact fin0 (by kernel_rfl) (by kernel_rfl) (fin0i (by omega) h)
        | exact fin0 (by kernel_rfl) (by kernel_rfl) (fin0p (by omega) (by omega) h)
        | exact fin0 (by kernel_rfl) (by kernel_rfl) (fin0u (by omega) (by omega) h)
        | exact fin0 (by kernel_rfl) (by kernel_rfl) (fin0s (by omega) (by omega) (by omega) h)
        | exact fin0 (by kernel_rfl) (by kernel_rfl) (fin0n (by omega) h)
        | (exfalso; simp at hq; omega)
        | (exfalso; omega)
       )
    | omega
    | contradiction
    | exact fin0 (by kernel_rfl) (by kernel_rfl) h
    | exact fin0 (by kernel_rfl) (by kernel_rfl) (fin0i (by omega) h)
    | exact fin0 (by kernel_rfl) (by kernel_rfl) (fin0p (by omega) (by omega) h)
    | exact fin0 (by kernel_rfl) (by kernel_rfl) (fin0u (by omega) (by omega) h)
    | exact fin0 (by kernel_rfl) (by kernel_rfl) (fin0s (by omega) (by omega) (by omega) h)
    | exact fin0 (by kernel_rfl) (by kernel_rfl) (fin0n (by omega) h)
    | (exfalso; simp at hq; omega)
    | (exfalso; omega)
theorem hdS_ok : BodyOk (mk XC) 6 Try.f120 hdS := by
  intro vs bs K hh hro
  clear hro
  unfold hdS at hh
  split at hh
  · rename_i v
    obtain ⟨rfl, hv, hc⟩ := hh
    exact ⟨_, _, cast (hdS_zE  v K) (hdS_zP  v K  hv hc)⟩
  · exact hh.elim
theorem hdS_told : Told 120 (specOf hdS) := told (X := XC) XC_told (by kernel_rfl) (by kernel_rfl) (by kernel_rfl) hdS_ok
end Go.Proofs.Ytfgeoglegebncaa.Fr
namespace Go.Proofs.Ytfgeoglegebncaa.Fr
set_option maxRecDepth 100000
set_option maxHeartbeats 4000000
open Go.Rx
open Go.RowKit (Below)
set_option linter.unusedVariables false
@[reducible] def XK2 : List (Nat × Rx.Spec) := [(92, specOf hkP)]
theorem XK2_told : ∀ p ∈ XK2, Told p.1 p.2 := by
  intro p hp
  simp only [List.mem_cons, List.not_mem_nil, or_false] at hp
  rcases hp with rfl
  · exact hkP_told
def hkS : Con := fun vs bs K => match vs with
  | [.int .u64 v] => bs = [] ∧ ((0 ≤ v ∧ v ≤ 18446744073709551615)) ∧ (K (.tuple ⟨[.agg ⟨[.int .i64 (hsP v), .int .i64 (hsR v)]⟩, .int .i64 (hsE v)]⟩) [])
  | _ => False

def hkS_zA (v : Int) : Ann := fun _ _ _ => none
def hkS_zV (v : Int) (K : Value → List Blk → Prop) : Prop := let q0 := ((0 : Int) < (256 : Int)); let q1 := (9223372036854775807 : Int); let q2 := (-9223372036854775808 : Int); let q3 := (v / (256 : Int) % (256 : Int)); let q4 := (v / (65536 : Int) % (256 : Int)); let q5 := (v ≤ (18446744073709551615 : Int)); let q6 := ((1 : Nat), Blk.cells [vi q3, vi q4] (60 : Nat)); let q7 := (t3 (∃ y0 : Value, (∃ y1 : List Blk, ((Go.Rx.Found 0 (Value.tuple { toList := [Value.agg { toList := [vi (0 : Int), vi (0 : Int)] }, vi (6 : Int)] }) ({ h := [q6, ((0 : Nat), Blk.cells [vi (0 : Int), vi (0 : Int)] (60 : Nat))], next := (2 : Nat) }) (y0) (y1)) ∧ (K y0 y1))))); (t2 ((((0 : Int) ≤ v) ∧ (q5 ∧ q0)) ∧ (T0 ∧ ((((0 : Int) ≤ v / (256 : Int)) ∧ q0) ∧ (((q2 ≤ v / (256 : Int) % (256 : Int)) ∧ (v / (256 : Int) % (256 : Int) ≤ q1)) ∧ (T0 ∧ ((((0 : Int) ≤ v) ∧ (q5 ∧ ((0 : Int) < (65536 : Int)))) ∧ (T0 ∧ ((((0 : Int) ≤ v / (65536 : Int)) ∧ q0) ∧ (((q2 ≤ v / (65536 : Int) % (256 : Int)) ∧ (v / (65536 : Int) % (256 : Int) ≤ q1)) ∧ (t5 (eB ∧ ((True) ∧ (T0 ∧ (if (@Eq Int (sze q3 q4) ((0 : Int))) then (T0 ∧ (if (@Eq Int (pkv q3 q4) (v)) then (t4 (∃ y0 : Value, (∃ y1 : List Blk, ((Go.Rx.Found 0 (Value.tuple { toList := [Value.agg { toList := [vi q3, vi q4] }, vi (0 : Int)] }) ({ h := [q6, ((0 : Nat), Blk.cells [vi q3, vi q4] (60 : Nat))], next := (2 : Nat) }) (y0) (y1)) ∧ (K y0 y1))))) else q7)) else q7)))))))))))))))
theorem hkS_zE (v : Int) (K : Value → List Blk → Prop) : hkS_zV v K = bodyX (mk XK2) (callN (mk XK2) 6) (hkS_zA v) Try.f94 [.int .u64 v] (stOf []) (Fd 0 K) := by kernel_rfl
set_option tactic.hygienic false in
theorem hkS_zP (v : Int) (K : Value → List Blk → Prop)  (hv : 0 ≤ v ∧ v ≤ 18446744073709551615) (h : K (.tuple ⟨[.agg ⟨[.int .i64 (hsP v), .int .i64 (hsR v)]⟩, .int .i64 (hsE v)]⟩) []) : hkS_zV v K := by
  unfold hkS_zV
  conv => zeta
  have z0 := hs_cases v
  have z1 := sze_cases (v / 256 % 256) (v / 65536 % 256)
  have z2 := pkv_cases (v / 256 % 256) (v / 65536 % 256)
  repeat' (first | (with_reducible exact rfl) | (with_reducible exact trivial) | (with_reducible refine And.intro ?_ ?_) | (intro) | (with_reducible refine br_d (fun hq => ?_) (fun hq => ?_)) | (with_reducible refine br_nd (fun hq => ?_) (fun hq => ?_)) | (with_reducible refine br_intro (fun hq => ?_) (fun hq => ?_)) | (with_reducible refine if_both (fun hz => ?_) (fun hz => ?_)) | fail)

  all_goals first
    | (with_reducible assumption)
    | (refine (id ?_ : ∃ (v1 : Value) (news : List Blk), _)
       first
        | contradiction
        | exact fin0 (by kernel_rfl) (by kernel_rfl) h
        | exact fin0 (by kernel_rfl) (by kernel_rfl) (fin0i (by omega) h)
        | exact fin0 (by kernel_rfl) (by kernel_rfl) (fin0p (by omega) (by omega) h)
        | exact fin0 (by kernel_rfl) (by kernel_rfl) (fin0u (by omega) (by omega) h)
        | exact fin0 (by kernel_rfl) (by kernel_rfl) (fin0s (by omega) (by omega) (by omega) h)
        | exact fin0 (by kernel_rfl) (by kernel_rfl) (fin0n (by omega) h)
        | (exfalso; simp at hq; omega)
        | (exfalso; omega)
       )
    | omega
    | contradiction
    | exact fin0 (by kernel_rfl) (by kernel_rfl) h
    | exact fin0 (by kernel_rfl) (by kernel_rfl) (fin0i (by omega) h)
    | exact fin0 (by kernel_rfl) (by kernel_rfl) (fin0p (by omega) (by omega) h)
    | exact fin0 (by kernel_rfl) (by kernel_rfl) (fin0u (by omega) (by omega) h)
    | exact fin0 (by kernel_rfl) (by kernel_rfl) (fin0s (by omega) (by omega) (by omega) h)
    | exact fin0 (by kernel_rfl) (by kernel_rfl) (fin0n (by omega) h)
    | (exfalso; simp at hq; omega)
    | (exfalso; omega)
theorem hkS_ok : BodyOk (mk XK2) 6 Try.f94 hkS := by
  intro vs bs K hh hro
  clear hro
  unfold hkS at hh
  split at hh
  · rename_i v
    obtain ⟨rfl, hv, hc⟩ := hh
    exact ⟨_, _, cast (hkS_zE  v K) (hkS_zP  v K  hv hc)⟩
  · exact hh.elim
theorem hkS_told : Told 94 (specOf hkS) := told (X := XK2) XK2_told (by kernel_rfl) (by kernel_rfl) (by kernel_rfl) hkS_ok
end Go.Proofs.Ytfgeoglegebncaa.Fr
namespace Go.Proofs.Ytfgeoglegebncaa.Fr
set_option maxRecDepth 100000
set_option maxHeartbeats 4000000
open Go.Rx
open Go.RowKit (Below)
set_option linter.unusedVariables false
theorem hs_bd {v : Int} (h : 0 ≤ v) : 0 ≤ hsP v ∧ hsP v ≤ 63 ∧ 0 ≤ hsR v ∧ hsR v ≤ 63 ∧ hsP v + hsR v ≤ 63 := by
  have := hs_cases v
  omega
theorem Ok64.at {n : Nat} {f : RF} (h : Ok64 n f) {a : Int} (h1 : 0 ≤ a) (h2 : a < n) : 0 ≤ f (Int.toNat a) 0 ∧ f (Int.toNat a) 0 ≤ 18446744073709551615 := h.h _ (by omega)
/-- The error of an object that is made. -/
def mkE (n : Nat) (f : RF) (a p q : Int) : Int := if arE n f = 0 then (if sze p q = 0 then (if 1 ≤ a ∧ p + q < n - a then 0 else 7) else sze p q) else arE n f
theorem mk_cases (n : Nat) (f : RF) (a p q : Int) : (¬ arE n f = 0 ∧ mkE n f a p q = arE n f) ∨ (arE n f = 0 ∧ ¬ sze p q = 0 ∧ mkE n f a p q = sze p q) ∨ (arE n f = 0 ∧ sze p q = 0 ∧ mkE n f a p q = 7 ∧ ¬ (1 ≤ a ∧ p + q < n - a)) ∨ (arE n f = 0 ∧ sze p q = 0 ∧ mkE n f a p q = 0 ∧ 1 ≤ a ∧ p + q < n - a) := by
  unfold mkE
  repeat' split
  all_goals omega
@[reducible] def XO : List (Nat × Rx.Spec) := [(24, specOf arC), (120, specOf hdS)]
theorem XO_told : ∀ p ∈ XO, Told p.1 p.2 := by
  intro p hp
  simp only [List.mem_cons, List.not_mem_nil, or_false] at hp
  rcases hp with rfl | rfl
  · exact arC_told
  · exact hdS_told
def obS : Con := fun vs bs K => match vs with
  | [vw, .int .i64 a] => parseQ [.u64] 0 vw bs fun nw fw j0 bs0 => bs0 = [] ∧ ((Ok64 nw fw)) ∧ (K (.tuple ⟨[.agg ⟨[.int .i64 (obP nw fw a), .int .i64 (obR nw fw a)]⟩, .int .i64 (obE nw fw a)]⟩) [])
  | _ => False

def obS_nA (a : Int) : Ann := fun _ _ _ => none
def obS_rA (ew nw cw : Nat) (fw : RF) (a : Int) : Ann := fun _ _ _ => none
def obZ : Con := fun vs bs K => match vs with
  | [vw, .int .i64 a] => parseQ [.u64] 0 vw bs fun nw fw j0 bs0 => bs0 = [] ∧ ((Ok64 nw fw)) ∧ (K (.tuple ⟨[.int .i64 (obN nw fw a), .int .i64 (obE nw fw a)]⟩) [])
  | _ => False

def obZ_nA (a : Int) : Ann := fun _ _ _ => none
def obZ_rA (ew nw cw : Nat) (fw : RF) (a : Int) : Ann := fun _ _ _ => none
def obS_nV (a : Int) (K : Value → List Blk → Prop) : Prop := (t3 (eB ∧ ((True) ∧ (t9 (t2 (∃ y0 : Value, (∃ y1 : List Blk, ((Go.Rx.Found 0 (Value.tuple { toList := [Value.agg { toList := [vi (0 : Int), vi (0 : Int)] }, vi (3 : Int)] }) ({ h := [((2 : Nat), Blk.cells [vi (0 : Int), vi (0 : Int), vn, vi (0 : Int), vn] (118 : Nat)), ((1 : Nat), Blk.cells [vi (0 : Int), vi (0 : Int), vn, vi (0 : Int), vn] (118 : Nat)), ((0 : Nat), Blk.cells [vi (0 : Int), vi (0 : Int)] (60 : Nat))], next := (3 : Nat) }) (y0) (y1)) ∧ (K y0 y1)))))))))
theorem obS_nE (a : Int) (K : Value → List Blk → Prop) : obS_nV a K = bodyX (mk XO) (callN (mk XO) 6) (obS_nA a) Try.f46 [.slice none 0 0, .int .i64 a] (stOf []) (Fd 0 K) := by kernel_rfl
set_option tactic.hygienic false in
theorem obS_nP (a : Int) (K : Value → List Blk → Prop)  (hU : Ok64 0 zF) (h : K (.tuple ⟨[.agg ⟨[.int .i64 (obP 0 zF a), .int .i64 (obR 0 zF a)]⟩, .int .i64 (obE 0 zF a)]⟩) []) : obS_nV a K := by
  unfold obS_nV
  have z0 := ob_cases hU a
  have z1 := fun (h1 : 0 ≤ a) (h2 : a < 0) => hU.at h1 h2
  have z2 := fun (h1 : 0 ≤ a) (h2 : a < 0) => hs_bd (hU.at h1 h2).1
  repeat' (first | (with_reducible exact rfl) | (with_reducible exact trivial) | (with_reducible refine And.intro ?_ ?_) | (intro) | (with_reducible refine br_d (fun hq => ?_) (fun hq => ?_)) | (with_reducible refine br_nd (fun hq => ?_) (fun hq => ?_)) | (with_reducible refine br_intro (fun hq => ?_) (fun hq => ?_)) | (with_reducible refine if_both (fun hz => ?_) (fun hz => ?_)) | fail)

  all_goals first
    | (with_reducible assumption)
    | (refine (id ?_ : ∃ (v1 : Value) (news : List Blk), _)
       first
        | contradiction
        | exact fin0 (by kernel_rfl) (by kernel_rfl) h
        | exact fin0 (by kernel_rfl) (by kernel_rfl) (fin0i (by omega) h)
        | exact fin0 (by kernel_rfl) (by kernel_rfl) (fin0p (by omega) (by omega) h)
        | exact fin0 (by kernel_rfl) (by kernel_rfl) (fin0u (by omega) (by omega) h)
        | exact fin0 (by kernel_rfl) (by kernel_rfl) (fin0s (by omega) (by omega) (by omega) h)
        | exact fin0 (by kernel_rfl) (by kernel_rfl) (fin0n (by omega) h)
        | (exfalso; simp at hq; omega)
        | (exfalso; omega)
       )
    | omega
    | contradiction
    | exact fin0 (by kernel_rfl) (by kernel_rfl) h
    | exact fin0 (by kernel_rfl) (by kernel_rfl) (fin0i (by omega) h)
    | exact fin0 (by kernel_rfl) (by kernel_rfl) (fin0p (by omega) (by omega) h)
    | exact fin0 (by kernel_rfl) (by kernel_rfl) (fin0u (by omega) (by omega) h)
    | exact fin0 (by kernel_rfl) (by kernel_rfl) (fin0s (by omega) (by omega) (by omega) h)
    | exact fin0 (by kernel_rfl) (by kernel_rfl) (fin0n (by omega) h)
    | (exfalso; simp at hq; omega)
    | (exfalso; omega)
def obS_rV (ew nw cw : Nat) (fw : RF) (a : Int) (K : Value → List Blk → Prop) : Prop := let q0 := eB; let q1 := (9223372036854775807 : Int); let q2 := (fw (Int.toNat a) (0 : Nat)); let q3 := (-9223372036854775808 : Int); let q4 := (@Eq Nat ((1 : Nat)) ((1 : Nat))); let q5 := (hsP q2); let q6 := (hsR q2); let q7 := TS; let q8 := (a + (1 : Int) + hsP q2); let q9 := ((0 : Nat), Blk.row true [IntKind.u64] ew nw cw fw); let q10 := (Int.toNat (a + (1 : Int) + hsP q2 - (a + (1 : Int)))); let q11 := (a + (1 : Int) + hsP q2 + hsR q2); let q12 := ((1 : Nat), Blk.cells [vi (0 : Int), vi (0 : Int)] (60 : Nat)); let q13 := ((4 : Nat), Blk.cells [vi q5, vi q6] (60 : Nat)); let q14 := (Int.toNat (a + (1 : Int) + hsP q2 + hsR q2 - q8)); let q15 := ((3 : Nat), Blk.cells [vi (0 : Int), vi (0 : Int), vn, vi (0 : Int), vn] (118 : Nat)); let q16 := ((2 : Nat), Blk.cells [vi (0 : Int), vi (0 : Int), vn, vi (0 : Int), vn] (118 : Nat)); let q17 := (t9 (t4 (∃ y0 : Value, (∃ y1 : List Blk, ((Go.Rx.Found 1 (Value.tuple { toList := [Value.agg { toList := [vi (0 : Int), vi (0 : Int)] }, vi (7 : Int)] }) ({ h := [((4 : Nat), Blk.cells [vi (0 : Int), vi (0 : Int), vn, vi (0 : Int), vn] (118 : Nat)), q15, q16, q12, q9], next := (5 : Nat) }) (y0) (y1)) ∧ (K y0 y1)))))); let q18 := (t9 (t4 (∃ y0 : Value, (∃ y1 : List Blk, ((Go.Rx.Found 1 (Value.tuple { toList := [Value.agg { toList := [vi (0 : Int), vi (0 : Int)] }, vi (6 : Int)] }) ({ h := [((5 : Nat), Blk.cells [vi (0 : Int), vi (0 : Int), vn, vi (0 : Int), vn] (118 : Nat)), q13, q15, q16, q12, q9], next := (6 : Nat) }) (y0) (y1)) ∧ (K y0 y1)))))); (t2 (((0 : Nat) + nw ≤ nw) ∧ (((@Eq Nat ((0 : Nat)) ((0 : Nat))) ∧ ((nw ≤ (100000 : Nat)) ∧ (nw ≤ cw))) ∧ (((@Eq (List IntKind) ([IntKind.u64]) ([IntKind.u64])) ∧ ((@Eq Nat (nw) (nw)) ∧ (@Eq Nat (cw) (cw)))) ∧ (q0 ∧ ((True) ∧ (T0 ∧ (if (@Eq Int (arE nw fw) ((0 : Int))) then (t2 (if (a < (1 : Int)) then q17 else (q7 ∧ (T0 ∧ (if ((↑nw : Int) ≤ a) then q17 else ((q7 ∧ q4) ∧ ((((0 : Int) ≤ a) ∧ (a < (↑nw : Int))) ∧ ((Int.toNat a < nw) ∧ (T0 ∧ (q0 ∧ ((((0 : Int) ≤ fw (Int.toNat a) (0 : Nat)) ∧ (fw (Int.toNat a) (0 : Nat) ≤ (18446744073709551615 : Int))) ∧ (t3 (if (@Eq Int (hsE q2) ((0 : Int))) then (t3 (((q3 ≤ hsP q2 + hsR q2) ∧ (hsP q2 + hsR q2 ≤ q1)) ∧ (q7 ∧ (T0 ∧ (((q3 ≤ (↑nw : Int) - a) ∧ ((↑nw : Int) - a ≤ q1)) ∧ (T0 ∧ (if ((↑nw : Int) - a ≤ hsP q2 + hsR q2) then q18 else (T0 ∧ (((q3 ≤ a + (1 : Int)) ∧ (a + (1 : Int) ≤ q1)) ∧ (t2 (((q3 ≤ a + (1 : Int) + hsP q2) ∧ (a + (1 : Int) + hsP q2 ≤ q1)) ∧ (t2 (((q3 ≤ a + (1 : Int) + hsP q2 + hsR q2) ∧ (a + (1 : Int) + hsP q2 + hsR q2 ≤ q1)) ∧ (t8 (q7 ∧ (t4 (q4 ∧ ((((0 : Int) ≤ a + (1 : Int)) ∧ ((a + (1 : Int) ≤ a + (1 : Int) + hsP q2) ∧ ((a + (1 : Int) + hsP q2 ≤ a + (1 : Int) + hsP q2) ∧ (a + (1 : Int) + hsP q2 ≤ (↑cw : Int))))) ∧ ((@Eq Int q8 q8) ∧ (t8 (q7 ∧ (t4 (q4 ∧ ((((0 : Int) ≤ a + (1 : Int) + hsP q2) ∧ ((a + (1 : Int) + hsP q2 ≤ a + (1 : Int) + hsP q2 + hsR q2) ∧ ((a + (1 : Int) + hsP q2 + hsR q2 ≤ a + (1 : Int) + hsP q2 + hsR q2) ∧ (a + (1 : Int) + hsP q2 + hsR q2 ≤ (↑cw : Int))))) ∧ ((@Eq Int q11 q11) ∧ (t9 (t7 (∃ y0 : Value, (∃ y1 : List Blk, ((Go.Rx.Found 1 (Value.tuple { toList := [Value.agg { toList := [vi q5, vi q6] }, vi (0 : Int)] }) ({ h := [((5 : Nat), Blk.cells [vi q5, vi q6, Value.slice (some { block := (0 : Nat), off := (0 : Nat), spot := some (Nat.succ (Nat.succ (Int.toNat (a + (1 : Int))))) }) q10 q10, vi (a + (1 : Int)), Value.slice (some { block := (0 : Nat), off := (0 : Nat), spot := some (Nat.succ (Nat.succ (Int.toNat q8))) }) q14 q14] (118 : Nat)), q13, ((3 : Nat), Blk.cells [vi q5, vi q6, Value.slice (some { block := (0 : Nat), off := (0 : Nat), spot := some (Nat.succ (Nat.succ (Int.toNat (a + (1 : Int))))) }) q10 q10, vi (a + (1 : Int)), Value.slice (some { block := (0 : Nat), off := (0 : Nat), spot := some (Nat.succ (Nat.succ (Int.toNat q8))) }) q14 q14] (118 : Nat)), ((2 : Nat), Blk.cells [vi q5, vi q6, Value.slice (some { block := (0 : Nat), off := (0 : Nat), spot := some (Nat.succ (Nat.succ (Int.toNat (a + (1 : Int))))) }) q10 q10, vi (a + (1 : Int)), Value.slice (some { block := (0 : Nat), off := (0 : Nat), spot := some (Nat.succ (Nat.succ (Int.toNat q8))) }) q14 q14] (118 : Nat)), ((1 : Nat), Blk.cells [vi q5, vi q6] (60 : Nat)), q9], next := (6 : Nat) }) (y0) (y1)) ∧ (K y0 y1))))))))))))))))))))))))))))))) else q18))))))))))))) else (t9 (T0 ∧ (∃ y0 : Value, (∃ y1 : List Blk, ((Go.Rx.Found 1 (Value.tuple { toList := [Value.agg { toList := [vi (0 : Int), vi (0 : Int)] }, vi (arE nw fw)] }) ({ h := [q15, q16, q12, q9], next := (4 : Nat) }) (y0) (y1)) ∧ (K y0 y1))))))))))))))
theorem obS_rE (ew nw cw : Nat) (fw : RF) (a : Int) (K : Value → List Blk → Prop) : obS_rV ew nw cw fw a K = bodyX (mk XO) (callN (mk XO) 6) (obS_rA ew nw cw fw a) Try.f46 [rsl 0 0 nw cw, .int .i64 a] (stOf [.row true [.u64] ew nw cw fw]) (Fd 1 K) := by kernel_rfl
set_option tactic.hygienic false in
theorem obS_rP (ew nw cw : Nat) (fw : RF) (a : Int) (K : Value → List Blk → Prop)  (hnw : nw ≤ 100000) (hcw : nw ≤ cw) (hU : Ok64 nw fw) (h : K (.tuple ⟨[.agg ⟨[.int .i64 (obP nw fw a), .int .i64 (obR nw fw a)]⟩, .int .i64 (obE nw fw a)]⟩) []) : obS_rV ew nw cw fw a K := by
  unfold obS_rV
  conv => zeta
  have z0 := ob_cases hU a
  have z1 := fun (h1 : 0 ≤ a) (h2 : a < nw) => hU.at h1 h2
  have z2 := fun (h1 : 0 ≤ a) (h2 : a < nw) => hs_bd (hU.at h1 h2).1
  repeat' (first | (with_reducible exact rfl) | (with_reducible exact trivial) | (with_reducible refine And.intro ?_ ?_) | (intro) | (with_reducible refine br_d (fun hq => ?_) (fun hq => ?_)) | (with_reducible refine br_nd (fun hq => ?_) (fun hq => ?_)) | (with_reducible refine br_intro (fun hq => ?_) (fun hq => ?_)) | (with_reducible refine if_both (fun hz => ?_) (fun hz => ?_)) | fail)

  all_goals first
    | (with_reducible assumption)
    | (refine (id ?_ : ∃ (v1 : Value) (news : List Blk), _)
       first
        | contradiction
        | exact fin0 (by kernel_rfl) (by kernel_rfl) h
        | exact fin0 (by kernel_rfl) (by kernel_rfl) (fin0i (by omega) h)
        | exact fin0 (by kernel_rfl) (by kernel_rfl) (fin0p (by omega) (by omega) h)
        | exact fin0 (by kernel_rfl) (by kernel_rfl) (fin0u (by omega) (by omega) h)
        | exact fin0 (by kernel_rfl) (by kernel_rfl) (fin0s (by omega) (by omega) (by omega) h)
        | exact fin0 (by kernel_rfl) (by kernel_rfl) (fin0n (by omega) h)
        | (exfalso; simp at hq; omega)
        | (exfalso; omega)
       )
    | omega
    | contradiction
    | exact fin0 (by kernel_rfl) (by kernel_rfl) h
    | exact fin0 (by kernel_rfl) (by kernel_rfl) (fin0i (by omega) h)
    | exact fin0 (by kernel_rfl) (by kernel_rfl) (fin0p (by omega) (by omega) h)
    | exact fin0 (by kernel_rfl) (by kernel_rfl) (fin0u (by omega) (by omega) h)
    | exact fin0 (by kernel_rfl) (by kernel_rfl) (fin0s (by omega) (by omega) (by omega) h)
    | exact fin0 (by kernel_rfl) (by kernel_rfl) (fin0n (by omega) h)
    | (exfalso; simp at hq; omega)
    | (exfalso; omega)
theorem obS_ok : BodyOk (mk XO) 6 Try.f46 obS := by
  intro vs bs K hh hro
  clear hro
  unfold obS at hh
  split at hh
  · rename_i vw a
    rcases parseQ_inv hh with ⟨rfl, hh0⟩ | ⟨ew, nw, cw, fw, btw, rfl, hnw, hcw, rfl, hh0⟩ <;> clear hh
    · obtain ⟨rfl, hU, hc⟩ := hh0
      exact ⟨_, _, cast (obS_nE  a K) (obS_nP  a K  hU hc)⟩
    · obtain ⟨rfl, hU, hc⟩ := hh0
      exact ⟨_, _, cast (obS_rE ew nw cw fw a K) (obS_rP ew nw cw fw a K hnw hcw hU hc)⟩
  · exact hh.elim
theorem obS_told : Told 46 (specOf obS) := told (X := XO) XO_told (by kernel_rfl) (by kernel_rfl) (by kernel_rfl) obS_ok
def obZ_nV (a : Int) (K : Value → List Blk → Prop) : Prop := (t3 (eB ∧ ((True) ∧ (t7 (∃ y0 : Value, (∃ y1 : List Blk, ((Go.Rx.Found 0 (Value.tuple { toList := [vi (0 : Int), vi (3 : Int)] }) ({ h := [((1 : Nat), Blk.cells [vi (0 : Int), vi (0 : Int), vn, vi (0 : Int), vn] (118 : Nat)), ((0 : Nat), Blk.cells [vi (0 : Int), vi (0 : Int), vn, vi (0 : Int), vn] (118 : Nat))], next := (2 : Nat) }) (y0) (y1)) ∧ (K y0 y1))))))))
theorem obZ_nE (a : Int) (K : Value → List Blk → Prop) : obZ_nV a K = bodyX (mk XO) (callN (mk XO) 6) (obZ_nA a) Try.f48 [.slice none 0 0, .int .i64 a] (stOf []) (Fd 0 K) := by kernel_rfl
set_option tactic.hygienic false in
theorem obZ_nP (a : Int) (K : Value → List Blk → Prop)  (hU : Ok64 0 zF) (h : K (.tuple ⟨[.int .i64 (obN 0 zF a), .int .i64 (obE 0 zF a)]⟩) []) : obZ_nV a K := by
  unfold obZ_nV
  have z0 := ob_cases hU a
  have z1 := fun (h1 : 0 ≤ a) (h2 : a < 0) => hU.at h1 h2
  have z2 := fun (h1 : 0 ≤ a) (h2 : a < 0) => hs_bd (hU.at h1 h2).1
  have z3 := obN_cases 0 zF a
  repeat' (first | (with_reducible exact rfl) | (with_reducible exact trivial) | (with_reducible refine And.intro ?_ ?_) | (intro) | (with_reducible refine br_d (fun hq => ?_) (fun hq => ?_)) | (with_reducible refine br_nd (fun hq => ?_) (fun hq => ?_)) | (with_reducible refine br_intro (fun hq => ?_) (fun hq => ?_)) | (with_reducible refine if_both (fun hz => ?_) (fun hz => ?_)) | fail)

  all_goals first
    | (with_reducible assumption)
    | (refine (id ?_ : ∃ (v1 : Value) (news : List Blk), _)
       first
        | contradiction
        | exact fin0 (by kernel_rfl) (by kernel_rfl) h
        | exact fin0 (by kernel_rfl) (by kernel_rfl) (fin0i (by omega) h)
        | exact fin0 (by kernel_rfl) (by kernel_rfl) (fin0p (by omega) (by omega) h)
        | exact fin0 (by kernel_rfl) (by kernel_rfl) (fin0u (by omega) (by omega) h)
        | exact fin0 (by kernel_rfl) (by kernel_rfl) (fin0s (by omega) (by omega) (by omega) h)
        | exact fin0 (by kernel_rfl) (by kernel_rfl) (fin0n (by omega) h)
        | (exfalso; simp at hq; omega)
        | (exfalso; omega)
       )
    | omega
    | contradiction
    | exact fin0 (by kernel_rfl) (by kernel_rfl) h
    | exact fin0 (by kernel_rfl) (by kernel_rfl) (fin0i (by omega) h)
    | exact fin0 (by kernel_rfl) (by kernel_rfl) (fin0p (by omega) (by omega) h)
    | exact fin0 (by kernel_rfl) (by kernel_rfl) (fin0u (by omega) (by omega) h)
    | exact fin0 (by kernel_rfl) (by kernel_rfl) (fin0s (by omega) (by omega) (by omega) h)
    | exact fin0 (by kernel_rfl) (by kernel_rfl) (fin0n (by omega) h)
    | (exfalso; simp at hq; omega)
    | (exfalso; omega)
def obZ_rV (ew nw cw : Nat) (fw : RF) (a : Int) (K : Value → List Blk → Prop) : Prop := let q0 := eB; let q1 := (9223372036854775807 : Int); let q2 := (-9223372036854775808 : Int); let q3 := (fw (Int.toNat a) (0 : Nat)); let q4 := (@Eq Nat ((1 : Nat)) ((1 : Nat))); let q5 := (hsP q3); let q6 := (hsR q3); let q7 := TS; let q8 := (a + (1 : Int) + hsP q3); let q9 := ((0 : Nat), Blk.row true [IntKind.u64] ew nw cw fw); let q10 := (Int.toNat (a + (1 : Int) + hsP q3 - (a + (1 : Int)))); let q11 := (a + (1 : Int) + hsP q3 + hsR q3); let q12 := ((3 : Nat), Blk.cells [vi q5, vi q6] (60 : Nat)); let q13 := (Int.toNat (a + (1 : Int) + hsP q3 + hsR q3 - q8)); let q14 := ((2 : Nat), Blk.cells [vi (0 : Int), vi (0 : Int), vn, vi (0 : Int), vn] (118 : Nat)); let q15 := ((1 : Nat), Blk.cells [vi (0 : Int), vi (0 : Int), vn, vi (0 : Int), vn] (118 : Nat)); let q16 := (t9 (∃ y0 : Value, (∃ y1 : List Blk, ((Go.Rx.Found 1 (Value.tuple { toList := [vi (0 : Int), vi (7 : Int)] }) ({ h := [((3 : Nat), Blk.cells [vi (0 : Int), vi (0 : Int), vn, vi (0 : Int), vn] (118 : Nat)), q14, q15, q9], next := (4 : Nat) }) (y0) (y1)) ∧ (K y0 y1))))); let q17 := (t9 (∃ y0 : Value, (∃ y1 : List Blk, ((Go.Rx.Found 1 (Value.tuple { toList := [vi (0 : Int), vi (6 : Int)] }) ({ h := [((4 : Nat), Blk.cells [vi (0 : Int), vi (0 : Int), vn, vi (0 : Int), vn] (118 : Nat)), q12, q14, q15, q9], next := (5 : Nat) }) (y0) (y1)) ∧ (K y0 y1))))); (t2 (((0 : Nat) + nw ≤ nw) ∧ (((@Eq Nat ((0 : Nat)) ((0 : Nat))) ∧ ((nw ≤ (100000 : Nat)) ∧ (nw ≤ cw))) ∧ (((@Eq (List IntKind) ([IntKind.u64]) ([IntKind.u64])) ∧ ((@Eq Nat (nw) (nw)) ∧ (@Eq Nat (cw) (cw)))) ∧ (q0 ∧ ((True) ∧ (T0 ∧ (if (@Eq Int (arE nw fw) ((0 : Int))) then (t2 (if (a < (1 : Int)) then q16 else (q7 ∧ (T0 ∧ (if ((↑nw : Int) ≤ a) then q16 else ((q7 ∧ q4) ∧ ((((0 : Int) ≤ a) ∧ (a < (↑nw : Int))) ∧ ((Int.toNat a < nw) ∧ (T0 ∧ (q0 ∧ ((((0 : Int) ≤ fw (Int.toNat a) (0 : Nat)) ∧ (fw (Int.toNat a) (0 : Nat) ≤ (18446744073709551615 : Int))) ∧ (t3 (if (@Eq Int (hsE q3) ((0 : Int))) then (t3 (((q2 ≤ hsP q3 + hsR q3) ∧ (hsP q3 + hsR q3 ≤ q1)) ∧ (q7 ∧ (T0 ∧ (((q2 ≤ (↑nw : Int) - a) ∧ ((↑nw : Int) - a ≤ q1)) ∧ (T0 ∧ (if ((↑nw : Int) - a ≤ hsP q3 + hsR q3) then q17 else (T0 ∧ (((q2 ≤ a + (1 : Int)) ∧ (a + (1 : Int) ≤ q1)) ∧ (t2 (((q2 ≤ a + (1 : Int) + hsP q3) ∧ (a + (1 : Int) + hsP q3 ≤ q1)) ∧ (t2 (((q2 ≤ a + (1 : Int) + hsP q3 + hsR q3) ∧ (a + (1 : Int) + hsP q3 + hsR q3 ≤ q1)) ∧ (t8 (q7 ∧ (t4 (q4 ∧ ((((0 : Int) ≤ a + (1 : Int)) ∧ ((a + (1 : Int) ≤ a + (1 : Int) + hsP q3) ∧ ((a + (1 : Int) + hsP q3 ≤ a + (1 : Int) + hsP q3) ∧ (a + (1 : Int) + hsP q3 ≤ (↑cw : Int))))) ∧ ((@Eq Int q8 q8) ∧ (t8 (q7 ∧ (t4 (q4 ∧ ((((0 : Int) ≤ a + (1 : Int) + hsP q3) ∧ ((a + (1 : Int) + hsP q3 ≤ a + (1 : Int) + hsP q3 + hsR q3) ∧ ((a + (1 : Int) + hsP q3 + hsR q3 ≤ a + (1 : Int) + hsP q3 + hsR q3) ∧ (a + (1 : Int) + hsP q3 + hsR q3 ≤ (↑cw : Int))))) ∧ ((@Eq Int q11 q11) ∧ (t9 (t8 (((q2 ≤ (1 : Int) + hsP q3) ∧ ((1 : Int) + hsP q3 ≤ q1)) ∧ (t3 (((q2 ≤ (1 : Int) + hsP q3 + hsR q3) ∧ ((1 : Int) + hsP q3 + hsR q3 ≤ q1)) ∧ (∃ y0 : Value, (∃ y1 : List Blk, ((Go.Rx.Found 1 (Value.tuple { toList := [vi ((1 : Int) + hsP q3 + hsR q3), vi (0 : Int)] }) ({ h := [((5 : Nat), Blk.cells [vi q5, vi q6, Value.slice (some { block := (0 : Nat), off := (0 : Nat), spot := some (Nat.succ (Nat.succ (Int.toNat (a + (1 : Int))))) }) q10 q10, vi (a + (1 : Int)), Value.slice (some { block := (0 : Nat), off := (0 : Nat), spot := some (Nat.succ (Nat.succ (Int.toNat q8))) }) q13 q13] (118 : Nat)), ((4 : Nat), Blk.cells [vi q5, vi q6, Value.slice (some { block := (0 : Nat), off := (0 : Nat), spot := some (Nat.succ (Nat.succ (Int.toNat (a + (1 : Int))))) }) q10 q10, vi (a + (1 : Int)), Value.slice (some { block := (0 : Nat), off := (0 : Nat), spot := some (Nat.succ (Nat.succ (Int.toNat q8))) }) q13 q13] (118 : Nat)), q12, ((2 : Nat), Blk.cells [vi q5, vi q6, Value.slice (some { block := (0 : Nat), off := (0 : Nat), spot := some (Nat.succ (Nat.succ (Int.toNat (a + (1 : Int))))) }) q10 q10, vi (a + (1 : Int)), Value.slice (some { block := (0 : Nat), off := (0 : Nat), spot := some (Nat.succ (Nat.succ (Int.toNat q8))) }) q13 q13] (118 : Nat)), ((1 : Nat), Blk.cells [vi q5, vi q6, Value.slice (some { block := (0 : Nat), off := (0 : Nat), spot := some (Nat.succ (Nat.succ (Int.toNat (a + (1 : Int))))) }) q10 q10, vi (a + (1 : Int)), Value.slice (some { block := (0 : Nat), off := (0 : Nat), spot := some (Nat.succ (Nat.succ (Int.toNat q8))) }) q13 q13] (118 : Nat)), q9], next := (6 : Nat) }) (y0) (y1)) ∧ (K y0 y1)))))))))))))))))))))))))))))))))) else q17))))))))))))) else (t6 (if (@Eq Int (arE nw fw) ((0 : Int))) then (t5 (((q2 ≤ (1 : Int) + (0 : Int)) ∧ ((1 : Int) + (0 : Int) ≤ q1)) ∧ (t3 (((q2 ≤ (1 : Int) + (0 : Int) + (0 : Int)) ∧ ((1 : Int) + (0 : Int) + (0 : Int) ≤ q1)) ∧ (∃ y0 : Value, (∃ y1 : List Blk, ((Go.Rx.Found 1 (Value.tuple { toList := [vi (1 : Int), vi (0 : Int)] }) ({ h := [((3 : Nat), Blk.cells [vi (0 : Int), vi (0 : Int), vn, vi (0 : Int), vn] (118 : Nat)), q14, q15, q9], next := (4 : Nat) }) (y0) (y1)) ∧ (K y0 y1)))))))) else (∃ y0 : Value, (∃ y1 : List Blk, ((Go.Rx.Found 1 (Value.tuple { toList := [vi (0 : Int), vi (arE nw fw)] }) ({ h := [q14, q15, q9], next := (3 : Nat) }) (y0) (y1)) ∧ (K y0 y1))))))))))))))
theorem obZ_rE (ew nw cw : Nat) (fw : RF) (a : Int) (K : Value → List Blk → Prop) : obZ_rV ew nw cw fw a K = bodyX (mk XO) (callN (mk XO) 6) (obZ_rA ew nw cw fw a) Try.f48 [rsl 0 0 nw cw, .int .i64 a] (stOf [.row true [.u64] ew nw cw fw]) (Fd 1 K) := by kernel_rfl
set_option tactic.hygienic false in
theorem obZ_rP (ew nw cw : Nat) (fw : RF) (a : Int) (K : Value → List Blk → Prop)  (hnw : nw ≤ 100000) (hcw : nw ≤ cw) (hU : Ok64 nw fw) (h : K (.tuple ⟨[.int .i64 (obN nw fw a), .int .i64 (obE nw fw a)]⟩) []) : obZ_rV ew nw cw fw a K := by
  unfold obZ_rV
  conv => zeta
  have z0 := ob_cases hU a
  have z1 := fun (h1 : 0 ≤ a) (h2 : a < nw) => hU.at h1 h2
  have z2 := fun (h1 : 0 ≤ a) (h2 : a < nw) => hs_bd (hU.at h1 h2).1
  have z3 := obN_cases nw fw a
  repeat' (first | (with_reducible exact rfl) | (with_reducible exact trivial) | (with_reducible refine And.intro ?_ ?_) | (intro) | (with_reducible refine br_d (fun hq => ?_) (fun hq => ?_)) | (with_reducible refine br_nd (fun hq => ?_) (fun hq => ?_)) | (with_reducible refine br_intro (fun hq => ?_) (fun hq => ?_)) | (with_reducible refine if_both (fun hz => ?_) (fun hz => ?_)) | fail)

  all_goals first
    | (with_reducible assumption)
    | (refine (id ?_ : ∃ (v1 : Value) (news : List Blk), _)
       first
        | contradiction
        | exact fin0 (by kernel_rfl) (by kernel_rfl) h
        | exact fin0 (by kernel_rfl) (by kernel_rfl) (fin0i (by omega) h)
        | exact fin0 (by kernel_rfl) (by kernel_rfl) (fin0p (by omega) (by omega) h)
        | exact fin0 (by kernel_rfl) (by kernel_rfl) (fin0u (by omega) (by omega) h)
        | exact fin0 (by kernel_rfl) (by kernel_rfl) (fin0s (by omega) (by omega) (by omega) h)
        | exact fin0 (by kernel_rfl) (by kernel_rfl) (fin0n (by omega) h)
        | (exfalso; simp at hq; omega)
        | (exfalso; omega)
       )
    | omega
    | contradiction
    | exact fin0 (by kernel_rfl) (by kernel_rfl) h
    | exact fin0 (by kernel_rfl) (by kernel_rfl) (fin0i (by omega) h)
    | exact fin0 (by kernel_rfl) (by kernel_rfl) (fin0p (by omega) (by omega) h)
    | exact fin0 (by kernel_rfl) (by kernel_rfl) (fin0u (by omega) (by omega) h)
    | exact fin0 (by kernel_rfl) (by kernel_rfl) (fin0s (by omega) (by omega) (by omega) h)
    | exact fin0 (by kernel_rfl) (by kernel_rfl) (fin0n (by omega) h)
    | (exfalso; simp at hq; omega)
    | (exfalso; omega)
theorem obZ_ok : BodyOk (mk XO) 6 Try.f48 obZ := by
  intro vs bs K hh hro
  clear hro
  unfold obZ at hh
  split at hh
  · rename_i vw a
    rcases parseQ_inv hh with ⟨rfl, hh0⟩ | ⟨ew, nw, cw, fw, btw, rfl, hnw, hcw, rfl, hh0⟩ <;> clear hh
    · obtain ⟨rfl, hU, hc⟩ := hh0
      exact ⟨_, _, cast (obZ_nE  a K) (obZ_nP  a K  hU hc)⟩
    · obtain ⟨rfl, hU, hc⟩ := hh0
      exact ⟨_, _, cast (obZ_rE ew nw cw fw a K) (obZ_rP ew nw cw fw a K hnw hcw hU hc)⟩
  · exact hh.elim
theorem obZ_told : Told 48 (specOf obZ) := told (X := XO) XO_told (by kernel_rfl) (by kernel_rfl) (by kernel_rfl) obZ_ok
end Go.Proofs.Ytfgeoglegebncaa.Fr
namespace Go.Proofs.Ytfgeoglegebncaa.Fr
set_option maxRecDepth 100000
set_option maxHeartbeats 4000000
open Go.Rx
open Go.RowKit (Below)
set_option linter.unusedVariables false
/-- An object that is made. -/
def mkF (f : RF) (a m : Nat) (v : Int) : RF := fun i _ => if i = a then v else if a < i ∧ i < a + m then 0 else f i 0
theorem gt_zro {n : Nat} {f : RF} {a : Int} {m : Nat} (h0 : arE n f = 0) (h1 : 1 ≤ a) (h2 : a < n) : gtE n (zroF f a.toNat m) a = 0 := by
  have z := ar_cases n f
  have z2 := ar_cases n (zroF f a.toNat m)
  have z3 := gt_cases n (zroF f a.toNat m) a
  have e : zroF f a.toNat m (Int.toNat 0) 0 = f (Int.toNat 0) 0 := by
    unfold zroF
    rw [if_neg (by simp; omega)]
  omega
theorem zro0 {f : RF} {a : Nat} (i : Nat) : zroF f a 0 i 0 = f i 0 := by
  unfold zroF
  rw [if_neg (by omega)]
theorem zroS {f g : RF} {n a k : Nat} {q : Nat} (h : ∀ i, i < n → g i 0 = zroF f a k i 0) (hq : q = a + k) (i : Nat) (hi : i < n) : putF g q 0 0 i 0 = zroF f a (k + 1) i 0 := by
  have e := h i hi
  subst hq
  simp only [putF, zroF, and_true] at e ⊢
  split
  · rw [if_pos (by omega)]
  · rw [e]
    repeat' split
    all_goals first | rfl | omega
def stKG : Con := fun vs bs K => match vs with
  | [vw, .int .i64 a, .int .u64 v] => parseRQ [.u64] 0 vw bs fun nw fw j0 bs0 => bs0 = [] ∧ ((Ok64 nw fw) ∧ (gtE nw fw a = 0)) ∧ (∀ cp, nw ≤ cp → K (.tuple ⟨[rsl j0 0 (nw) cp, .int .i64 (0)]⟩) [.row false [.u64] 25 (nw) cp (setF fw (Int.toNat a) v)])
  | _ => False

def stKG_rA (ew nw cw : Nat) (fw : RF) (a : Int) (v : Int) : Ann := fun _ _ _ => none
def stKG_rV (ew nw cw : Nat) (fw : RF) (a : Int) (v : Int) (K : Value → List Blk → Prop) : Prop := let q0 := ((0 : Nat) + nw ≤ nw); let q1 := (nw ≤ (100000 : Nat)); let q2 := (@Eq Nat ((0 : Nat)) ((0 : Nat))); let q3 := (litF (List.length [IntKind.u64]) []); let q4 := TS; let q5 := ((0 : Nat), Blk.row true [IntKind.u64] ew nw cw fw); let q6 := (q4 ∧ (@Eq Nat ((1 : Nat)) ((1 : Nat)))); let q7 := (T0 ∧ (∃ y0 : Value, (∃ y1 : List Blk, ((Go.Rx.Found 1 (Value.tuple { toList := [vn, vi (7 : Int)] }) ({ h := [q5], next := (1 : Nat) }) (y0) (y1)) ∧ (K y0 y1))))); let q8 := (T0 ∧ (if (@Eq Int (arE nw fw) ((0 : Int))) then (q4 ∧ (t4 (q4 ∧ (q4 ∧ (t4 (q0 ∧ (q1 ∧ (T0 ∧ (q2 ∧ (Go.Rx.br (decide ((0 : Nat) < nw)) (∀ y0 : Nat, let q9 := (y0 - (1 : Nat) + (1 : Nat)); ((nw ≤ y0) → (q6 ∧ ((((0 : Int) ≤ a) ∧ (a < (↑nw : Int))) ∧ ((false = false) ∧ ((Int.toNat a < nw) ∧ (t2 (∃ y1 : Value, (∃ y2 : List Blk, ((Go.Rx.Found 1 (Value.tuple { toList := [rsl (2 : Nat) (0 : Nat) nw q9, vi (0 : Int)] }) ({ h := [((2 : Nat), Blk.row false [IntKind.u64] (25 : Nat) nw q9 (putF (appF (fun x x_1 ↦ (0 : Int)) (0 : Nat) fw (0 : Nat)) (Int.toNat a) (0 : Nat) v)), ((1 : Nat), Blk.row false [IntKind.u64] (25 : Nat) (0 : Nat) (0 : Nat) q3), q5], next := (3 : Nat) }) (y1) (y2)) ∧ (K y1 y2))))))))))) (q6 ∧ ((((0 : Int) ≤ a) ∧ (a < (↑(0 : Nat) : Int))) ∧ ((false = false) ∧ ((Int.toNat a < (0 : Nat)) ∧ (t2 (∃ y0 : Value, (∃ y1 : List Blk, ((Go.Rx.Found 1 (Value.tuple { toList := [rsl (1 : Nat) (0 : Nat) (0 : Nat) (0 : Nat), vi (0 : Int)] }) ({ h := [((1 : Nat), Blk.row false [IntKind.u64] (25 : Nat) (0 : Nat) (0 : Nat) (putF q3 (Int.toNat a) (0 : Nat) v)), q5], next := (2 : Nat) }) (y0) (y1)) ∧ (K y0 y1))))))))))))))))))) else (∃ y0 : Value, (∃ y1 : List Blk, ((Go.Rx.Found 1 (Value.tuple { toList := [vn, vi (arE nw fw)] }) ({ h := [q5], next := (1 : Nat) }) (y0) (y1)) ∧ (K y0 y1)))))); (T0 ∧ (q0 ∧ ((q2 ∧ (q1 ∧ (nw ≤ cw))) ∧ (((@Eq (List IntKind) ([IntKind.u64]) ([IntKind.u64])) ∧ ((@Eq Nat (nw) (nw)) ∧ (@Eq Nat (cw) (cw)))) ∧ (eB ∧ ((True) ∧ (T0 ∧ (if (@Eq Int (arE nw fw) ((0 : Int))) then (t2 (if ((1 : Int) ≤ a) then (q4 ∧ (T0 ∧ (if (a ≤ (↑nw : Int)) then (T0 ∧ (q4 ∧ (T0 ∧ ((((-9223372036854775808 : Int) ≤ (↑nw : Int) - a) ∧ ((↑nw : Int) - a ≤ (9223372036854775807 : Int))) ∧ (T0 ∧ (if ((1 : Int) ≤ (↑nw : Int) - a) then q8 else q7)))))) else q7))) else q7)) else q8))))))))
theorem stKG_rE (ew nw cw : Nat) (fw : RF) (a : Int) (v : Int) (K : Value → List Blk → Prop) : stKG_rV ew nw cw fw a v K = bodyX (mk XK) (callN (mk XK) 6) (stKG_rA ew nw cw fw a v) Try.f29 [rsl 0 0 nw cw, .int .i64 a, .int .u64 v] (stOf [.row true [.u64] ew nw cw fw]) (Fd 1 K) := by kernel_rfl
set_option tactic.hygienic false in
theorem stKG_rP (ew nw cw : Nat) (fw : RF) (a : Int) (v : Int) (K : Value → List Blk → Prop)  (hnw : nw ≤ 100000) (hcw : nw ≤ cw) (hU : Ok64 nw fw) (h1 : gtE nw fw a = 0) (h : ∀ cp, nw ≤ cp → K (.tuple ⟨[rsl 1 0 (nw) cp, .int .i64 (0)]⟩) [.row false [.u64] 25 (nw) cp (setF fw (Int.toNat a) v)]) : stKG_rV ew nw cw fw a v K := by
  unfold stKG_rV
  conv => zeta
  have z0 := ar_cases nw fw
  have z1 := gt_cases nw fw a
  repeat' (first | (with_reducible exact rfl) | (with_reducible exact trivial) | (with_reducible refine And.intro ?_ ?_) | (intro) | (with_reducible refine br_d (fun hq => ?_) (fun hq => ?_)) | (with_reducible refine br_nd (fun hq => ?_) (fun hq => ?_)) | (with_reducible refine br_intro (fun hq => ?_) (fun hq => ?_)) | (with_reducible refine if_both (fun hz => ?_) (fun hz => ?_)) | fail)

  all_goals first
    | (with_reducible assumption)
    | (refine (id ?_ : ∃ (v1 : Value) (news : List Blk), _)
       first
        | contradiction
        | (refine fin1t rfl ?_ (by kernel_rfl) (by kernel_rfl) (h _ (by omega)); (intro i j hi hj; obtain rfl : j = 0 := (by simp at hj; omega); (try unfold setF); (try unfold zroF); (try unfold mkF); (try unfold putF); (try unfold appF); (try unfold clrF); (try unfold setF); (try unfold zroF); (repeat' split) <;> first | rfl | omega | (exfalso; omega) | (simp_all; done) | (simp_all; omega)))
        | (exfalso; omega)
        | (exfalso; simp at hq; omega)
       )
    | omega
    | contradiction
    | (refine fin1t rfl ?_ (by kernel_rfl) (by kernel_rfl) (h _ (by omega)); (intro i j hi hj; obtain rfl : j = 0 := (by simp at hj; omega); (try unfold setF); (try unfold zroF); (try unfold mkF); (try unfold putF); (try unfold appF); (try unfold clrF); (try unfold setF); (try unfold zroF); (repeat' split) <;> first | rfl | omega | (exfalso; omega) | (simp_all; done) | (simp_all; omega)))
    | (exfalso; omega)
    | (exfalso; simp at hq; omega)
theorem stKG_ok : BodyOk (mk XK) 6 Try.f29 stKG := by
  intro vs bs K hh hro
  clear hro
  unfold stKG at hh
  split at hh
  · rename_i vw a v
    obtain ⟨ew, nw, cw, fw, btw, rfl, hnw, hcw, rfl, hh0⟩ := parseRQ_inv hh
    obtain ⟨rfl, ⟨hU, h1⟩, hc⟩ := hh0
    exact ⟨_, _, cast (stKG_rE ew nw cw fw a v K) (stKG_rP ew nw cw fw a v K hnw hcw hU h1 hc)⟩
  · exact hh.elim
theorem stKG_told : Told 29 (specOf stKG) := told (X := XK) XK_told (by kernel_rfl) (by kernel_rfl) (by kernel_rfl) stKG_ok
end Go.Proofs.Ytfgeoglegebncaa.Fr
namespace Go.Proofs.Ytfgeoglegebncaa.Fr
set_option maxRecDepth 100000
set_option maxHeartbeats 4000000
open Go.Rx
open Go.RowKit (Below)
set_option linter.unusedVariables false
def gtK : Con := fun vs bs K => match vs with
  | [vw, .int .i64 a] => parseQ [.u64] 0 vw bs fun nw fw j0 bs0 => bs0 = [] ∧ ((Ok64 nw fw)) ∧ (K (.tuple ⟨[.int .u64 (gtV nw fw a), .int .i64 (gtE nw fw a)]⟩) [])
  | _ => False

def gtK_nA (a : Int) : Ann := fun _ _ _ => none
def gtK_rA (ew nw cw : Nat) (fw : RF) (a : Int) : Ann := fun _ _ _ => none
def gtK_nV (a : Int) (K : Value → List Blk → Prop) : Prop := (t2 (eB ∧ ((True) ∧ (t2 (∃ y0 : Value, (∃ y1 : List Blk, ((Go.Rx.Found 0 (Value.tuple { toList := [Value.int IntKind.u64 (0 : Int), vi (3 : Int)] }) ({ h := [], next := (0 : Nat) }) (y0) (y1)) ∧ (K y0 y1))))))))
theorem gtK_nE (a : Int) (K : Value → List Blk → Prop) : gtK_nV a K = bodyX (mk XK) (callN (mk XK) 6) (gtK_nA a) Try.f27 [.slice none 0 0, .int .i64 a] (stOf []) (Fd 0 K) := by kernel_rfl
set_option tactic.hygienic false in
theorem gtK_nP (a : Int) (K : Value → List Blk → Prop)  (hU : Ok64 0 zF) (h : K (.tuple ⟨[.int .u64 (gtV 0 zF a), .int .i64 (gtE 0 zF a)]⟩) []) : gtK_nV a K := by
  unfold gtK_nV
  have z0 := ar_cases 0 zF
  have z1 := gt_cases 0 zF a
  repeat' (first | (with_reducible exact rfl) | (with_reducible exact trivial) | (with_reducible refine And.intro ?_ ?_) | (intro) | (with_reducible refine br_d (fun hq => ?_) (fun hq => ?_)) | (with_reducible refine br_nd (fun hq => ?_) (fun hq => ?_)) | (with_reducible refine br_intro (fun hq => ?_) (fun hq => ?_)) | (with_reducible refine if_both (fun hz => ?_) (fun hz => ?_)) | fail)

  all_goals first
    | (with_reducible assumption)
    | (refine (id ?_ : ∃ (v1 : Value) (news : List Blk), _)
       first
        | contradiction
        | exact fin0 (by kernel_rfl) (by kernel_rfl) h
        | exact fin0 (by kernel_rfl) (by kernel_rfl) (fin0i (by omega) h)
        | exact fin0 (by kernel_rfl) (by kernel_rfl) (fin0p (by omega) (by omega) h)
        | exact fin0 (by kernel_rfl) (by kernel_rfl) (fin0u (by omega) (by omega) h)
        | exact fin0 (by kernel_rfl) (by kernel_rfl) (fin0s (by omega) (by omega) (by omega) h)
        | exact fin0 (by kernel_rfl) (by kernel_rfl) (fin0n (by omega) h)
        | (exfalso; simp at hq; omega)
        | (exfalso; omega)
       )
    | omega
    | contradiction
    | exact fin0 (by kernel_rfl) (by kernel_rfl) h
    | exact fin0 (by kernel_rfl) (by kernel_rfl) (fin0i (by omega) h)
    | exact fin0 (by kernel_rfl) (by kernel_rfl) (fin0p (by omega) (by omega) h)
    | exact fin0 (by kernel_rfl) (by kernel_rfl) (fin0u (by omega) (by omega) h)
    | exact fin0 (by kernel_rfl) (by kernel_rfl) (fin0s (by omega) (by omega) (by omega) h)
    | exact fin0 (by kernel_rfl) (by kernel_rfl) (fin0n (by omega) h)
    | (exfalso; simp at hq; omega)
    | (exfalso; omega)
def gtK_rV (ew nw cw : Nat) (fw : RF) (a : Int) (K : Value → List Blk → Prop) : Prop := let q0 := TS; let q1 := (T0 ∧ (∃ y0 : Value, (∃ y1 : List Blk, ((Go.Rx.Found 1 (Value.tuple { toList := [Value.int IntKind.u64 (0 : Int), vi (7 : Int)] }) ({ h := [((0 : Nat), Blk.row true [IntKind.u64] ew nw cw fw)], next := (1 : Nat) }) (y0) (y1)) ∧ (K y0 y1))))); let q2 := (T0 ∧ (if (@Eq Int (arE nw fw) ((0 : Int))) then ((q0 ∧ (@Eq Nat ((1 : Nat)) ((1 : Nat)))) ∧ ((((0 : Int) ≤ a) ∧ (a < (↑nw : Int))) ∧ ((Int.toNat a < nw) ∧ (∃ y0 : Value, (∃ y1 : List Blk, ((Go.Rx.Found 1 (Value.tuple { toList := [Value.int IntKind.u64 (fw (Int.toNat a) (0 : Nat)), vi (0 : Int)] }) ({ h := [((0 : Nat), Blk.row true [IntKind.u64] ew nw cw fw)], next := (1 : Nat) }) (y0) (y1)) ∧ (K y0 y1))))))) else (∃ y0 : Value, (∃ y1 : List Blk, ((Go.Rx.Found 1 (Value.tuple { toList := [Value.int IntKind.u64 (0 : Int), vi (arE nw fw)] }) ({ h := [((0 : Nat), Blk.row true [IntKind.u64] ew nw cw fw)], next := (1 : Nat) }) (y0) (y1)) ∧ (K y0 y1)))))); (T0 ∧ (((0 : Nat) + nw ≤ nw) ∧ (((@Eq Nat ((0 : Nat)) ((0 : Nat))) ∧ ((nw ≤ (100000 : Nat)) ∧ (nw ≤ cw))) ∧ (((@Eq (List IntKind) ([IntKind.u64]) ([IntKind.u64])) ∧ ((@Eq Nat (nw) (nw)) ∧ (@Eq Nat (cw) (cw)))) ∧ (eB ∧ ((True) ∧ (T0 ∧ (if (@Eq Int (arE nw fw) ((0 : Int))) then (t2 (if ((1 : Int) ≤ a) then (q0 ∧ (T0 ∧ (if (a ≤ (↑nw : Int)) then (T0 ∧ (q0 ∧ (T0 ∧ ((((-9223372036854775808 : Int) ≤ (↑nw : Int) - a) ∧ ((↑nw : Int) - a ≤ (9223372036854775807 : Int))) ∧ (T0 ∧ (if ((1 : Int) ≤ (↑nw : Int) - a) then q2 else q1)))))) else q1))) else q1)) else q2))))))))
theorem gtK_rE (ew nw cw : Nat) (fw : RF) (a : Int) (K : Value → List Blk → Prop) : gtK_rV ew nw cw fw a K = bodyX (mk XK) (callN (mk XK) 6) (gtK_rA ew nw cw fw a) Try.f27 [rsl 0 0 nw cw, .int .i64 a] (stOf [.row true [.u64] ew nw cw fw]) (Fd 1 K) := by kernel_rfl
set_option tactic.hygienic false in
theorem gtK_rP (ew nw cw : Nat) (fw : RF) (a : Int) (K : Value → List Blk → Prop)  (hnw : nw ≤ 100000) (hcw : nw ≤ cw) (hU : Ok64 nw fw) (h : K (.tuple ⟨[.int .u64 (gtV nw fw a), .int .i64 (gtE nw fw a)]⟩) []) : gtK_rV ew nw cw fw a K := by
  unfold gtK_rV
  conv => zeta
  have z0 := ar_cases nw fw
  have z1 := gt_cases nw fw a
  repeat' (first | (with_reducible exact rfl) | (with_reducible exact trivial) | (with_reducible refine And.intro ?_ ?_) | (intro) | (with_reducible refine br_d (fun hq => ?_) (fun hq => ?_)) | (with_reducible refine br_nd (fun hq => ?_) (fun hq => ?_)) | (with_reducible refine br_intro (fun hq => ?_) (fun hq => ?_)) | (with_reducible refine if_both (fun hz => ?_) (fun hz => ?_)) | fail)

  all_goals first
    | (with_reducible assumption)
    | (refine (id ?_ : ∃ (v1 : Value) (news : List Blk), _)
       first
        | contradiction
        | exact fin0 (by kernel_rfl) (by kernel_rfl) h
        | exact fin0 (by kernel_rfl) (by kernel_rfl) (fin0i (by omega) h)
        | exact fin0 (by kernel_rfl) (by kernel_rfl) (fin0p (by omega) (by omega) h)
        | exact fin0 (by kernel_rfl) (by kernel_rfl) (fin0u (by omega) (by omega) h)
        | exact fin0 (by kernel_rfl) (by kernel_rfl) (fin0s (by omega) (by omega) (by omega) h)
        | exact fin0 (by kernel_rfl) (by kernel_rfl) (fin0n (by omega) h)
        | (exfalso; simp at hq; omega)
        | (exfalso; omega)
       )
    | omega
    | contradiction
    | exact fin0 (by kernel_rfl) (by kernel_rfl) h
    | exact fin0 (by kernel_rfl) (by kernel_rfl) (fin0i (by omega) h)
    | exact fin0 (by kernel_rfl) (by kernel_rfl) (fin0p (by omega) (by omega) h)
    | exact fin0 (by kernel_rfl) (by kernel_rfl) (fin0u (by omega) (by omega) h)
    | exact fin0 (by kernel_rfl) (by kernel_rfl) (fin0s (by omega) (by omega) (by omega) h)
    | exact fin0 (by kernel_rfl) (by kernel_rfl) (fin0n (by omega) h)
    | (exfalso; simp at hq; omega)
    | (exfalso; omega)
theorem gtK_ok : BodyOk (mk XK) 6 Try.f27 gtK := by
  intro vs bs K hh hro
  clear hro
  unfold gtK at hh
  split at hh
  · rename_i vw a
    rcases parseQ_inv hh with ⟨rfl, hh0⟩ | ⟨ew, nw, cw, fw, btw, rfl, hnw, hcw, rfl, hh0⟩ <;> clear hh
    · obtain ⟨rfl, hU, hc⟩ := hh0
      exact ⟨_, _, cast (gtK_nE  a K) (gtK_nP  a K  hU hc)⟩
    · obtain ⟨rfl, hU, hc⟩ := hh0
      exact ⟨_, _, cast (gtK_rE ew nw cw fw a K) (gtK_rP ew nw cw fw a K hnw hcw hU hc)⟩
  · exact hh.elim
theorem gtK_told : Told 27 (specOf gtK) := told (X := XK) XK_told (by kernel_rfl) (by kernel_rfl) (by kernel_rfl) gtK_ok
end Go.Proofs.Ytfgeoglegebncaa.Fr
namespace Go.Proofs.Ytfgeoglegebncaa.Fr
set_option maxRecDepth 100000
set_option maxHeartbeats 4000000
open Go.Rx
open Go.RowKit (Below)
set_option linter.unusedVariables false
@[reducible] def XG : List (Nat × Rx.Spec) := [(27, specOf gtK), (94, specOf hkS), (65, specOf hkN)]
theorem XG_told : ∀ p ∈ XG, Told p.1 p.2 := by
  intro p hp
  simp only [List.mem_cons, List.not_mem_nil, or_false] at hp
  rcases hp with rfl | rfl | rfl
  · exact gtK_told
  · exact hkS_told
  · exact hkN_told
def okS_ : Con := fun vs bs K => match vs with
  | [vw, .int .i64 a] => parseQ [.u64] 0 vw bs fun nw fw j0 bs0 => bs0 = [] ∧ ((Ok64 nw fw)) ∧ (K (.tuple ⟨[.agg ⟨[.int .i64 (obP nw fw a), .int .i64 (obR nw fw a)]⟩, .int .i64 (obE nw fw a)]⟩) [])
  | _ => False

def okS__nA (a : Int) : Ann := fun _ _ _ => none
def okS__rA (ew nw cw : Nat) (fw : RF) (a : Int) : Ann := fun _ _ _ => none
def okS__nV (a : Int) (K : Value → List Blk → Prop) : Prop := (t3 (eB ∧ ((Ok64 (0 : Nat) zF) ∧ (t4 (∃ y0 : Value, (∃ y1 : List Blk, ((Go.Rx.Found 0 (Value.tuple { toList := [Value.agg { toList := [vi (0 : Int), vi (0 : Int)] }, vi (gtE (0 : Nat) zF a)] }) ({ h := [((0 : Nat), Blk.cells [vi (0 : Int), vi (0 : Int)] (60 : Nat))], next := (1 : Nat) }) (y0) (y1)) ∧ (K y0 y1))))))))
theorem okS__nE (a : Int) (K : Value → List Blk → Prop) : okS__nV a K = bodyX (mk XG) (callN (mk XG) 6) (okS__nA a) Try.f47 [.slice none 0 0, .int .i64 a] (stOf []) (Fd 0 K) := by kernel_rfl
set_option tactic.hygienic false in
theorem okS__nP (a : Int) (K : Value → List Blk → Prop)  (hU : Ok64 0 zF) (h : K (.tuple ⟨[.agg ⟨[.int .i64 (obP 0 zF a), .int .i64 (obR 0 zF a)]⟩, .int .i64 (obE 0 zF a)]⟩) []) : okS__nV a K := by
  unfold okS__nV
  have z0 := ar_cases 0 zF
  have z1 := ob_cases hU a
  have z2 := fun (h1 : 0 ≤ a) (h2 : a < 0) => hU.at h1 h2
  have z3 := gt_cases 0 zF a
  have z4 := szn_cases (hsP (zF (Int.toNat a) 0)) (hsR (zF (Int.toNat a) 0))
  have z5 := sze_cases (hsP (zF (Int.toNat a) 0)) (hsR (zF (Int.toNat a) 0))
  have z6 := hs_cases (zF (Int.toNat a) 0)
  have z7 := (fun h => by rw [h]; exact ⟨rfl, rfl, rfl⟩ : gtV 0 zF a = zF (Int.toNat a) 0 → hsE (gtV 0 zF a) = hsE (zF (Int.toNat a) 0) ∧ hsP (gtV 0 zF a) = hsP (zF (Int.toNat a) 0) ∧ hsR (gtV 0 zF a) = hsR (zF (Int.toNat a) 0))
  have z8 := szn_cases (hsP (gtV 0 zF a)) (hsR (gtV 0 zF a))
  have z9 := sze_cases (hsP (gtV 0 zF a)) (hsR (gtV 0 zF a))
  repeat' (first | (with_reducible exact rfl) | (with_reducible exact trivial) | (with_reducible refine And.intro ?_ ?_) | (intro) | (with_reducible refine br_d (fun hq => ?_) (fun hq => ?_)) | (with_reducible refine br_nd (fun hq => ?_) (fun hq => ?_)) | (with_reducible refine br_intro (fun hq => ?_) (fun hq => ?_)) | (with_reducible refine if_both (fun hz => ?_) (fun hz => ?_)) | fail)

  all_goals first
    | (with_reducible assumption)
    | (refine (id ?_ : ∃ (v1 : Value) (news : List Blk), _)
       first
        | contradiction
        | exact fin0 (by kernel_rfl) (by kernel_rfl) h
        | exact fin0 (by kernel_rfl) (by kernel_rfl) (fin0i (by omega) h)
        | exact fin0 (by kernel_rfl) (by kernel_rfl) (fin0p (by omega) (by omega) h)
        | exact fin0 (by kernel_rfl) (by kernel_rfl) (fin0u (by omega) (by omega) h)
        | exact fin0 (by kernel_rfl) (by kernel_rfl) (fin0s (by omega) (by omega) (by omega) h)
        | exact fin0 (by kernel_rfl) (by kernel_rfl) (fin0n (by omega) h)
        | (exfalso; simp at hq; omega)
        | (exfalso; omega)
       )
    | omega
    | contradiction
    | exact fin0 (by kernel_rfl) (by kernel_rfl) h
    | exact fin0 (by kernel_rfl) (by kernel_rfl) (fin0i (by omega) h)
    | exact fin0 (by kernel_rfl) (by kernel_rfl) (fin0p (by omega) (by omega) h)
    | exact fin0 (by kernel_rfl) (by kernel_rfl) (fin0u (by omega) (by omega) h)
    | exact fin0 (by kernel_rfl) (by kernel_rfl) (fin0s (by omega) (by omega) (by omega) h)
    | exact fin0 (by kernel_rfl) (by kernel_rfl) (fin0n (by omega) h)
    | (exfalso; simp at hq; omega)
    | (exfalso; omega)
def okS__rV (ew nw cw : Nat) (fw : RF) (a : Int) (K : Value → List Blk → Prop) : Prop := let q0 := eB; let q1 := ((0 : Nat), Blk.row true [IntKind.u64] ew nw cw fw); let q2 := ((1 : Nat), Blk.cells [vi (0 : Int), vi (0 : Int)] (60 : Nat)); let q3 := ((2 : Nat), Blk.cells [vi (hsP (gtV nw fw a)), vi (hsR (gtV nw fw a))] (60 : Nat)); (T0 ∧ (((0 : Nat) + nw ≤ nw) ∧ (T0 ∧ (((@Eq Nat ((0 : Nat)) ((0 : Nat))) ∧ ((nw ≤ (100000 : Nat)) ∧ (nw ≤ cw))) ∧ (((@Eq (List IntKind) ([IntKind.u64]) ([IntKind.u64])) ∧ ((@Eq Nat (nw) (nw)) ∧ (@Eq Nat (cw) (cw)))) ∧ (q0 ∧ ((Ok64 nw fw) ∧ (T0 ∧ (if (@Eq Int (gtE nw fw a) ((0 : Int))) then (T0 ∧ (q0 ∧ ((((0 : Int) ≤ gtV nw fw a) ∧ (gtV nw fw a ≤ (18446744073709551615 : Int))) ∧ (t3 (if (@Eq Int (hsE (gtV nw fw a)) ((0 : Int))) then (t3 (q0 ∧ ((True) ∧ (TS ∧ (T0 ∧ ((((-9223372036854775808 : Int) ≤ (↑nw : Int) - a) ∧ ((↑nw : Int) - a ≤ (9223372036854775807 : Int))) ∧ (T0 ∧ (if ((↑nw : Int) - a < szn (hsP (gtV nw fw a)) (hsR (gtV nw fw a))) then (t3 (∃ y0 : Value, (∃ y1 : List Blk, ((Go.Rx.Found 1 (Value.tuple { toList := [Value.agg { toList := [vi (0 : Int), vi (0 : Int)] }, vi (6 : Int)] }) ({ h := [q3, q2, q1], next := (3 : Nat) }) (y0) (y1)) ∧ (K y0 y1))))) else (t4 (∃ y0 : Value, (∃ y1 : List Blk, ((Go.Rx.Found 1 (Value.tuple { toList := [Value.agg { toList := [vi (hsP (gtV nw fw a)), vi (hsR (gtV nw fw a))] }, vi (0 : Int)] }) ({ h := [q3, ((1 : Nat), Blk.cells [vi (hsP (gtV nw fw a)), vi (hsR (gtV nw fw a))] (60 : Nat)), q1], next := (3 : Nat) }) (y0) (y1)) ∧ (K y0 y1))))))))))))) else (t3 (∃ y0 : Value, (∃ y1 : List Blk, ((Go.Rx.Found 1 (Value.tuple { toList := [Value.agg { toList := [vi (0 : Int), vi (0 : Int)] }, vi (hsE (gtV nw fw a))] }) ({ h := [q3, q2, q1], next := (3 : Nat) }) (y0) (y1)) ∧ (K y0 y1)))))))))) else (t3 (∃ y0 : Value, (∃ y1 : List Blk, ((Go.Rx.Found 1 (Value.tuple { toList := [Value.agg { toList := [vi (0 : Int), vi (0 : Int)] }, vi (gtE nw fw a)] }) ({ h := [q2, q1], next := (2 : Nat) }) (y0) (y1)) ∧ (K y0 y1))))))))))))))
theorem okS__rE (ew nw cw : Nat) (fw : RF) (a : Int) (K : Value → List Blk → Prop) : okS__rV ew nw cw fw a K = bodyX (mk XG) (callN (mk XG) 6) (okS__rA ew nw cw fw a) Try.f47 [rsl 0 0 nw cw, .int .i64 a] (stOf [.row true [.u64] ew nw cw fw]) (Fd 1 K) := by kernel_rfl
set_option tactic.hygienic false in
theorem okS__rP (ew nw cw : Nat) (fw : RF) (a : Int) (K : Value → List Blk → Prop)  (hnw : nw ≤ 100000) (hcw : nw ≤ cw) (hU : Ok64 nw fw) (h : K (.tuple ⟨[.agg ⟨[.int .i64 (obP nw fw a), .int .i64 (obR nw fw a)]⟩, .int .i64 (obE nw fw a)]⟩) []) : okS__rV ew nw cw fw a K := by
  unfold okS__rV
  conv => zeta
  have z0 := ar_cases nw fw
  have z1 := ob_cases hU a
  have z2 := fun (h1 : 0 ≤ a) (h2 : a < nw) => hU.at h1 h2
  have z3 := gt_cases nw fw a
  have z4 := szn_cases (hsP (fw (Int.toNat a) 0)) (hsR (fw (Int.toNat a) 0))
  have z5 := sze_cases (hsP (fw (Int.toNat a) 0)) (hsR (fw (Int.toNat a) 0))
  have z6 := hs_cases (fw (Int.toNat a) 0)
  have z7 := (fun h => by rw [h]; exact ⟨rfl, rfl, rfl⟩ : gtV nw fw a = fw (Int.toNat a) 0 → hsE (gtV nw fw a) = hsE (fw (Int.toNat a) 0) ∧ hsP (gtV nw fw a) = hsP (fw (Int.toNat a) 0) ∧ hsR (gtV nw fw a) = hsR (fw (Int.toNat a) 0))
  have z8 := szn_cases (hsP (gtV nw fw a)) (hsR (gtV nw fw a))
  have z9 := sze_cases (hsP (gtV nw fw a)) (hsR (gtV nw fw a))
  repeat' (first | (with_reducible exact rfl) | (with_reducible exact trivial) | (with_reducible refine And.intro ?_ ?_) | (intro) | (with_reducible refine br_d (fun hq => ?_) (fun hq => ?_)) | (with_reducible refine br_nd (fun hq => ?_) (fun hq => ?_)) | (with_reducible refine br_intro (fun hq => ?_) (fun hq => ?_)) | (with_reducible refine if_both (fun hz => ?_) (fun hz => ?_)) | fail)

  all_goals first
    | (with_reducible assumption)
    | (refine (id ?_ : ∃ (v1 : Value) (news : List Blk), _)
       first
        | contradiction
        | exact fin0 (by kernel_rfl) (by kernel_rfl) h
        | exact fin0 (by kernel_rfl) (by kernel_rfl) (fin0i (by omega) h)
        | exact fin0 (by kernel_rfl) (by kernel_rfl) (fin0p (by omega) (by omega) h)
        | exact fin0 (by kernel_rfl) (by kernel_rfl) (fin0u (by omega) (by omega) h)
        | exact fin0 (by kernel_rfl) (by kernel_rfl) (fin0s (by omega) (by omega) (by omega) h)
        | exact fin0 (by kernel_rfl) (by kernel_rfl) (fin0n (by omega) h)
        | (exfalso; simp at hq; omega)
        | (exfalso; omega)
       )
    | omega
    | contradiction
    | exact fin0 (by kernel_rfl) (by kernel_rfl) h
    | exact fin0 (by kernel_rfl) (by kernel_rfl) (fin0i (by omega) h)
    | exact fin0 (by kernel_rfl) (by kernel_rfl) (fin0p (by omega) (by omega) h)
    | exact fin0 (by kernel_rfl) (by kernel_rfl) (fin0u (by omega) (by omega) h)
    | exact fin0 (by kernel_rfl) (by kernel_rfl) (fin0s (by omega) (by omega) (by omega) h)
    | exact fin0 (by kernel_rfl) (by kernel_rfl) (fin0n (by omega) h)
    | (exfalso; simp at hq; omega)
    | (exfalso; omega)
theorem okS__ok : BodyOk (mk XG) 6 Try.f47 okS_ := by
  intro vs bs K hh hro
  clear hro
  unfold okS_ at hh
  split at hh
  · rename_i vw a
    rcases parseQ_inv hh with ⟨rfl, hh0⟩ | ⟨ew, nw, cw, fw, btw, rfl, hnw, hcw, rfl, hh0⟩ <;> clear hh
    · obtain ⟨rfl, hU, hc⟩ := hh0
      exact ⟨_, _, cast (okS__nE  a K) (okS__nP  a K  hU hc)⟩
    · obtain ⟨rfl, hU, hc⟩ := hh0
      exact ⟨_, _, cast (okS__rE ew nw cw fw a K) (okS__rP ew nw cw fw a K hnw hcw hU hc)⟩
  · exact hh.elim
theorem okS__told : Told 47 (specOf okS_) := told (X := XG) XG_told (by kernel_rfl) (by kernel_rfl) (by kernel_rfl) okS__ok
end Go.Proofs.Ytfgeoglegebncaa.Fr
namespace Go.Proofs.Ytfgeoglegebncaa.Fr
set_option maxRecDepth 100000
set_option maxHeartbeats 4000000
open Go.Rx
open Go.RowKit (Below)
set_option linter.unusedVariables false
@[reducible] def XS : List (Nat × Rx.Spec) := [(47, specOf okS_)]
theorem XS_told : ∀ p ∈ XS, Told p.1 p.2 := by
  intro p hp
  simp only [List.mem_cons, List.not_mem_nil, or_false] at hp
  rcases hp with rfl
  · exact okS__told
def okZ : Con := fun vs bs K => match vs with
  | [vw, .int .i64 a] => parseQ [.u64] 0 vw bs fun nw fw j0 bs0 => bs0 = [] ∧ ((Ok64 nw fw)) ∧ (K (.tuple ⟨[.int .i64 (obN nw fw a), .int .i64 (obE nw fw a)]⟩) [])
  | _ => False

def okZ_nA (a : Int) : Ann := fun _ _ _ => none
def okZ_rA (ew nw cw : Nat) (fw : RF) (a : Int) : Ann := fun _ _ _ => none
def okZ_nV (a : Int) (K : Value → List Blk → Prop) : Prop := (t3 (eB ∧ ((Ok64 (0 : Nat) zF) ∧ (t3 (∃ y0 : Value, (∃ y1 : List Blk, ((Go.Rx.Found 0 (Value.tuple { toList := [vi (0 : Int), vi (obE (0 : Nat) zF a)] }) ({ h := [((0 : Nat), Blk.cells [vi (obP (0 : Nat) zF a), vi (obR (0 : Nat) zF a)] (60 : Nat))], next := (1 : Nat) }) (y0) (y1)) ∧ (K y0 y1))))))))
theorem okZ_nE (a : Int) (K : Value → List Blk → Prop) : okZ_nV a K = bodyX (mk XS) (callN (mk XS) 6) (okZ_nA a) Try.f49 [.slice none 0 0, .int .i64 a] (stOf []) (Fd 0 K) := by kernel_rfl
set_option tactic.hygienic false in
theorem okZ_nP (a : Int) (K : Value → List Blk → Prop)  (hU : Ok64 0 zF) (h : K (.tuple ⟨[.int .i64 (obN 0 zF a), .int .i64 (obE 0 zF a)]⟩) []) : okZ_nV a K := by
  unfold okZ_nV
  have z0 := ob_cases hU a
  have z1 := fun (h1 : 0 ≤ a) (h2 : a < 0) => hU.at h1 h2
  have z2 := fun (h1 : 0 ≤ a) (h2 : a < 0) => hs_bd (hU.at h1 h2).1
  have z3 := obN_cases 0 zF a
  repeat' (first | (with_reducible exact rfl) | (with_reducible exact trivial) | (with_reducible refine And.intro ?_ ?_) | (intro) | (with_reducible refine br_d (fun hq => ?_) (fun hq => ?_)) | (with_reducible refine br_nd (fun hq => ?_) (fun hq => ?_)) | (with_reducible refine br_intro (fun hq => ?_) (fun hq => ?_)) | (with_reducible refine if_both (fun hz => ?_) (fun hz => ?_)) | fail)

  all_goals first
    | (with_reducible assumption)
    | (refine (id ?_ : ∃ (v1 : Value) (news : List Blk), _)
       first
        | contradiction
        | exact fin0 (by kernel_rfl) (by kernel_rfl) h
        | exact fin0 (by kernel_rfl) (by kernel_rfl) (fin0i (by omega) h)
        | exact fin0 (by kernel_rfl) (by kernel_rfl) (fin0p (by omega) (by omega) h)
        | exact fin0 (by kernel_rfl) (by kernel_rfl) (fin0u (by omega) (by omega) h)
        | exact fin0 (by kernel_rfl) (by kernel_rfl) (fin0s (by omega) (by omega) (by omega) h)
        | exact fin0 (by kernel_rfl) (by kernel_rfl) (fin0n (by omega) h)
        | (exfalso; simp at hq; omega)
        | (exfalso; omega)
       )
    | omega
    | contradiction
    | exact fin0 (by kernel_rfl) (by kernel_rfl) h
    | exact fin0 (by kernel_rfl) (by kernel_rfl) (fin0i (by omega) h)
    | exact fin0 (by kernel_rfl) (by kernel_rfl) (fin0p (by omega) (by omega) h)
    | exact fin0 (by kernel_rfl) (by kernel_rfl) (fin0u (by omega) (by omega) h)
    | exact fin0 (by kernel_rfl) (by kernel_rfl) (fin0s (by omega) (by omega) (by omega) h)
    | exact fin0 (by kernel_rfl) (by kernel_rfl) (fin0n (by omega) h)
    | (exfalso; simp at hq; omega)
    | (exfalso; omega)
def okZ_rV (ew nw cw : Nat) (fw : RF) (a : Int) (K : Value → List Blk → Prop) : Prop := let q0 := (9223372036854775807 : Int); let q1 := (-9223372036854775808 : Int); (T0 ∧ (((0 : Nat) + nw ≤ nw) ∧ (T0 ∧ (((@Eq Nat ((0 : Nat)) ((0 : Nat))) ∧ ((nw ≤ (100000 : Nat)) ∧ (nw ≤ cw))) ∧ (((@Eq (List IntKind) ([IntKind.u64]) ([IntKind.u64])) ∧ ((@Eq Nat (nw) (nw)) ∧ (@Eq Nat (cw) (cw)))) ∧ (eB ∧ ((Ok64 nw fw) ∧ (t3 (if (@Eq Int (obE nw fw a) ((0 : Int))) then (t2 (((q1 ≤ (1 : Int) + obP nw fw a) ∧ ((1 : Int) + obP nw fw a ≤ q0)) ∧ (t2 (((q1 ≤ (1 : Int) + obP nw fw a + obR nw fw a) ∧ ((1 : Int) + obP nw fw a + obR nw fw a ≤ q0)) ∧ (∃ y0 : Value, (∃ y1 : List Blk, ((Go.Rx.Found 1 (Value.tuple { toList := [vi ((1 : Int) + obP nw fw a + obR nw fw a), vi (0 : Int)] }) ({ h := [((1 : Nat), Blk.cells [vi (obP nw fw a), vi (obR nw fw a)] (60 : Nat)), ((0 : Nat), Blk.row true [IntKind.u64] ew nw cw fw)], next := (2 : Nat) }) (y0) (y1)) ∧ (K y0 y1)))))))) else (∃ y0 : Value, (∃ y1 : List Blk, ((Go.Rx.Found 1 (Value.tuple { toList := [vi (0 : Int), vi (obE nw fw a)] }) ({ h := [((1 : Nat), Blk.cells [vi (obP nw fw a), vi (obR nw fw a)] (60 : Nat)), ((0 : Nat), Blk.row true [IntKind.u64] ew nw cw fw)], next := (2 : Nat) }) (y0) (y1)) ∧ (K y0 y1)))))))))))))
theorem okZ_rE (ew nw cw : Nat) (fw : RF) (a : Int) (K : Value → List Blk → Prop) : okZ_rV ew nw cw fw a K = bodyX (mk XS) (callN (mk XS) 6) (okZ_rA ew nw cw fw a) Try.f49 [rsl 0 0 nw cw, .int .i64 a] (stOf [.row true [.u64] ew nw cw fw]) (Fd 1 K) := by kernel_rfl
set_option tactic.hygienic false in
theorem okZ_rP (ew nw cw : Nat) (fw : RF) (a : Int) (K : Value → List Blk → Prop)  (hnw : nw ≤ 100000) (hcw : nw ≤ cw) (hU : Ok64 nw fw) (h : K (.tuple ⟨[.int .i64 (obN nw fw a), .int .i64 (obE nw fw a)]⟩) []) : okZ_rV ew nw cw fw a K := by
  unfold okZ_rV
  conv => zeta
  have z0 := ob_cases hU a
  have z1 := fun (h1 : 0 ≤ a) (h2 : a < nw) => hU.at h1 h2
  have z2 := fun (h1 : 0 ≤ a) (h2 : a < nw) => hs_bd (hU.at h1 h2).1
  have z3 := obN_cases nw fw a
  repeat' (first | (with_reducible exact rfl) | (with_reducible exact trivial) | (with_reducible refine And.intro ?_ ?_) | (intro) | (with_reducible refine br_d (fun hq => ?_) (fun hq => ?_)) | (with_reducible refine br_nd (fun hq => ?_) (fun hq => ?_)) | (with_reducible refine br_intro (fun hq => ?_) (fun hq => ?_)) | (with_reducible refine if_both (fun hz => ?_) (fun hz => ?_)) | fail)

  all_goals first
    | (with_reducible assumption)
    | (refine (id ?_ : ∃ (v1 : Value) (news : List Blk), _)
       first
        | contradiction
        | exact fin0 (by kernel_rfl) (by kernel_rfl) h
        | exact fin0 (by kernel_rfl) (by kernel_rfl) (fin0i (by omega) h)
        | exact fin0 (by kernel_rfl) (by kernel_rfl) (fin0p (by omega) (by omega) h)
        | exact fin0 (by kernel_rfl) (by kernel_rfl) (fin0u (by omega) (by omega) h)
        | exact fin0 (by kernel_rfl) (by kernel_rfl) (fin0s (by omega) (by omega) (by omega) h)
        | exact fin0 (by kernel_rfl) (by kernel_rfl) (fin0n (by omega) h)
        | (exfalso; simp at hq; omega)
        | (exfalso; omega)
       )
    | omega
    | contradiction
    | exact fin0 (by kernel_rfl) (by kernel_rfl) h
    | exact fin0 (by kernel_rfl) (by kernel_rfl) (fin0i (by omega) h)
    | exact fin0 (by kernel_rfl) (by kernel_rfl) (fin0p (by omega) (by omega) h)
    | exact fin0 (by kernel_rfl) (by kernel_rfl) (fin0u (by omega) (by omega) h)
    | exact fin0 (by kernel_rfl) (by kernel_rfl) (fin0s (by omega) (by omega) (by omega) h)
    | exact fin0 (by kernel_rfl) (by kernel_rfl) (fin0n (by omega) h)
    | (exfalso; simp at hq; omega)
    | (exfalso; omega)
theorem okZ_ok : BodyOk (mk XS) 6 Try.f49 okZ := by
  intro vs bs K hh hro
  clear hro
  unfold okZ at hh
  split at hh
  · rename_i vw a
    rcases parseQ_inv hh with ⟨rfl, hh0⟩ | ⟨ew, nw, cw, fw, btw, rfl, hnw, hcw, rfl, hh0⟩ <;> clear hh
    · obtain ⟨rfl, hU, hc⟩ := hh0
      exact ⟨_, _, cast (okZ_nE  a K) (okZ_nP  a K  hU hc)⟩
    · obtain ⟨rfl, hU, hc⟩ := hh0
      exact ⟨_, _, cast (okZ_rE ew nw cw fw a K) (okZ_rP ew nw cw fw a K hnw hcw hU hc)⟩
  · exact hh.elim
theorem okZ_told : Told 49 (specOf okZ) := told (X := XS) XS_told (by kernel_rfl) (by kernel_rfl) (by kernel_rfl) okZ_ok
end Go.Proofs.Ytfgeoglegebncaa.Fr
namespace Go.Proofs.Ytfgeoglegebncaa.Fr
set_option maxRecDepth 100000
set_option maxHeartbeats 4000000
open Go.Rx
open Go.RowKit (Below)
set_option linter.unusedVariables false
def idR (b n : Nat) : List (Nat × Nat) := (List.range' b (n - b)).map fun i => (i, i)
theorem app1P {v : Int} {P : Nat → Int → Prop} (h : P 0 v) : ∀ i, i < 1 → P i (appF (fun _ _ => 0) 0 (litF 1 [v]) 0 i 0) := fun i hi => by
  obtain rfl : i = 0 := by omega
  simpa [appF, litF] using h
theorem appSP {f : RF} {k : Nat} {v : Int} {P : Nat → Int → Prop} (hf : ∀ i, i < k → P i (f i 0)) (h : P k v) : ∀ i, i < k + 1 → P i (appF f k (litF 1 [v]) 0 i 0) := fun i hi => by
  unfold appF
  split
  · exact hf i (by assumption)
  · obtain rfl : i = k := by omega
    simpa [litF] using h
def slF (a : Int) : RF := fun i _ => a + 1 + (i : Int)
end Go.Proofs.Ytfgeoglegebncaa.Fr
namespace Go.Proofs.Ytfgeoglegebncaa.Fr
set_option maxRecDepth 100000
set_option maxHeartbeats 4000000
open Go.Rx
open Go.RowKit (Below)
set_option linter.unusedVariables false
def slON : Con := fun vs bs K => match vs with
  | [vw, .int .i64 a] => parseQ [.u64] 0 vw bs fun nw fw j0 bs0 => bs0 = [] ∧ ((Ok64 nw fw) ∧ (¬ (obE nw fw a = 0 ∧ 0 < obP nw fw a))) ∧ (K (.tuple ⟨[.slice none 0 0, .int .i64 (obE nw fw a)]⟩) [])
  | _ => False

def slON_nA (a : Int) : Ann := fun _ _ _ => none
def slON_rA (ew nw cw : Nat) (fw : RF) (a : Int) : Ann := fun _ _ _ => none
def slOR : Con := fun vs bs K => match vs with
  | [vw, .int .i64 a] => parseRQ [.u64] 0 vw bs fun nw fw j0 bs0 => bs0 = [] ∧ ((Ok64 nw fw) ∧ (obE nw fw a = 0) ∧ (0 < obP nw fw a)) ∧ (∀ cp, (obP nw fw a).toNat ≤ cp → K (.tuple ⟨[rsl j0 0 ((obP nw fw a).toNat) cp, .int .i64 (0)]⟩) [.row false [.i64] 3 ((obP nw fw a).toNat) cp (slF a)])
  | _ => False

def slOR_rA (ew nw cw : Nat) (fw : RF) (a : Int) : Ann := fun _ _ _ => none
def slON_nV (a : Int) (K : Value → List Blk → Prop) : Prop := let q0 := ((0 : Nat) ≤ Int.toNat (obP (0 : Nat) zF a)); (t3 (eB ∧ ((True) ∧ (t9 (t2 (TS ∧ ((∃ y0 : Nat, ((Go.Rx.Sub 2 [((2 : Nat), (2 : Nat))] ⟨21, [(9, vi (0 : Int)), (8, vi (0 : Int)), (7, vn), (6, Value.pointer (some { block := (2 : Nat), off := (0 : Nat) })), (5, Value.pointer (some { block := (2 : Nat), off := (0 : Nat) })), (3, vn), (2, vn), (1, Value.pointer (some { block := (2 : Nat), off := (0 : Nat) })), (0, Value.agg { toList := [vn, vi (0 : Int)] })]⟩ ⟨[(2, Blk.cells [vn, vi (0 : Int)] (114 : Nat)), (1, Blk.cells [vi (0 : Int), vi (0 : Int), vn, vi (0 : Int), vn] (118 : Nat)), (0, Blk.cells [vi (0 : Int), vi (0 : Int), vn, vi (0 : Int), vn] (118 : Nat))], 3⟩ ({ n := (21 : Nat), m := [((9 : Nat), vi (0 : Int)), ((8 : Nat), vi (0 : Int)), ((7 : Nat), vn), ((6 : Nat), Value.pointer (some { block := (2 : Nat), off := (0 : Nat) })), ((5 : Nat), Value.pointer (some { block := (2 : Nat), off := (0 : Nat) })), ((3 : Nat), vn), ((2 : Nat), vn), ((1 : Nat), Value.pointer (some { block := (2 : Nat), off := (0 : Nat) })), ((0 : Nat), Value.agg { toList := [vn, vi (0 : Int)] })] }) ({ h := [((2 : Nat), Blk.cells [vn, vi (0 : Int)] (114 : Nat)), ((1 : Nat), Blk.cells [vi (0 : Int), vi (0 : Int), vn, vi (0 : Int), vn] (118 : Nat)), ((0 : Nat), Blk.cells [vi (0 : Int), vi (0 : Int), vn, vi (0 : Int), vn] (118 : Nat))], next := (3 : Nat) })) ∧ ((@Eq Nat (y0) ((0 : Nat))) ∧ q0))) ∧ (∀ y0 : Nat, (((@Eq Nat (y0) ((0 : Nat))) ∧ q0) → (T0 ∧ (∃ y1 : Value, (∃ y2 : List Blk, ((Go.Rx.Found 0 (Value.tuple { toList := [vn, vi (3 : Int)] }) ({ h := [((2 : Nat), Blk.cells [vn, vi (0 : Int)] (114 : Nat)), ((1 : Nat), Blk.cells [vi (0 : Int), vi (0 : Int), vn, vi (0 : Int), vn] (118 : Nat)), ((0 : Nat), Blk.cells [vi (0 : Int), vi (0 : Int), vn, vi (0 : Int), vn] (118 : Nat))], next := (3 : Nat) }) (y1) (y2)) ∧ (K y1 y2))))))))))))))
theorem slON_nE (a : Int) (K : Value → List Blk → Prop) : slON_nV a K = bodyX (mk XO) (callI (mk XO) (fun f ar s0 k tt ss => bif Nat.beq f 96 && Nat.beq k 3 then some [{ α := Nat, T := fun _ => tt, S := fun _ => ss, I := fun k => k = 0 ∧ 0 ≤ (obP 0 zF a).toNat, m := fun _ => (obP 0 zF a).toNat, ρ0 := idR (s0.next) ss.next, ρ1 := [idR (s0.next) ss.next] }] else some []) 9) (slON_nA a) Try.f50 [.slice none 0 0, .int .i64 a] (stOf []) (Fd 0 K) := by kernel_rfl
set_option tactic.hygienic false in
theorem slON_nP (a : Int) (K : Value → List Blk → Prop)  (hU : Ok64 0 zF) (h1 : ¬ (obE 0 zF a = 0 ∧ 0 < obP 0 zF a)) (h : K (.tuple ⟨[.slice none 0 0, .int .i64 (obE 0 zF a)]⟩) []) : slON_nV a K := by
  unfold slON_nV
  conv => zeta
  have z0 := ob_cases hU a
  have z1 := fun (h1 : 0 ≤ a) (h2 : a < 0) => hU.at h1 h2
  have z2 := fun (h1 : 0 ≤ a) (h2 : a < 0) => hs_bd (hU.at h1 h2).1
  repeat' (first | (with_reducible exact rfl) | (with_reducible exact trivial) | (with_reducible refine And.intro ?_ ?_) | (intro) | (with_reducible refine br_d (fun hq => ?_) (fun hq => ?_)) | (with_reducible refine br_nd (fun hq => ?_) (fun hq => ?_)) | (with_reducible refine br_intro (fun hq => ?_) (fun hq => ?_)) | (with_reducible refine if_both (fun hz => ?_) (fun hz => ?_)) | fail)
  all_goals try (rename Nat × Nat × RF => k; rename _ ∧ (∀ _ : Nat, _) => I; obtain ⟨k1, k2, k3⟩ := k; dsimp only at *; obtain ⟨⟨J1, J2, J3⟩, I2⟩ := I)
  all_goals first
    | (with_reducible assumption)
    | (refine (id ?_ : ∃ (v1 : Value) (news : List Blk), _)
       first
        | contradiction
        | exact .inl ⟨0, (by (refine And.intro (And.intro rfl (And.intro rfl (And.intro rfl rfl))) ?_; (repeat' (first | exact trivial | exact rfl | exact fun _ _ _ _ => rfl | refine And.intro ?_ ?_ | omega | fail)); done)), rfl, Nat.zero_le _⟩
        | exact ⟨0, (by (refine And.intro (And.intro rfl (And.intro rfl (And.intro rfl rfl))) ?_; (repeat' (first | exact trivial | exact rfl | exact fun _ _ _ _ => rfl | refine And.intro ?_ ?_ | omega | fail)); done)), rfl, Nat.zero_le _⟩
        | exact .inr (.inl ⟨(1, y1 - 1, appF (fun _ _ => 0) 0 (litF 1 [a + 1 + 0]) 0), (by (refine And.intro (And.intro rfl (And.intro rfl (And.intro rfl rfl))) ?_; (repeat' (first | exact trivial | exact rfl | exact fun _ _ _ _ => rfl | refine And.intro ?_ ?_ | omega | fail)); done)), ⟨⟨Nat.le_refl 1, by omega, by show 1 ≤ y1 - 1 + 1; omega⟩, app1P (P := fun i v => v = a + 1 + (i : Int)) (by omega)⟩, by show (obP 0 zF a).toNat - 1 < (obP 0 zF a).toNat; omega⟩)
        | exact .inr (.inr ⟨(k1 + 1, y1 - 1, appF k3 k1 (litF 1 [a + 1 + (k1 : Int)]) 0), (by (refine And.intro (And.intro rfl (And.intro rfl (And.intro rfl rfl))) ?_; (repeat' (first | exact trivial | exact rfl | exact fun _ _ _ _ => rfl | refine And.intro ?_ ?_ | omega | fail)); done)), ⟨⟨by show 1 ≤ k1 + 1; omega, by show k1 + 1 ≤ (obP 0 zF a).toNat; omega, by show k1 + 1 ≤ y1 - 1 + 1; omega⟩, appSP (P := fun i v => v = a + 1 + (i : Int)) I2 (rfl)⟩, by show (obP 0 zF a).toNat - (k1 + 1) < (obP 0 zF a).toNat - k1; omega⟩)
        | (obtain rfl : k1 = (obP 0 zF a).toNat := (by omega)
           exact fin1t rfl (fun i j hi hj => (by obtain rfl : j = 0 := (by simp at hj; omega)
                                                 exact (I2 i hi).symm)) (by kernel_rfl) (by kernel_rfl) (h _ (by omega)))
        | exact fin0 (by kernel_rfl) (by kernel_rfl) h
        | exact fin0 (by kernel_rfl) (by kernel_rfl) (fin0n (by omega) h)
        | (exfalso; omega)
       )
    | omega
    | contradiction
    | exact .inl ⟨0, (by (refine And.intro (And.intro rfl (And.intro rfl (And.intro rfl rfl))) ?_; (repeat' (first | exact trivial | exact rfl | exact fun _ _ _ _ => rfl | refine And.intro ?_ ?_ | omega | fail)); done)), rfl, Nat.zero_le _⟩
    | exact ⟨0, (by (refine And.intro (And.intro rfl (And.intro rfl (And.intro rfl rfl))) ?_; (repeat' (first | exact trivial | exact rfl | exact fun _ _ _ _ => rfl | refine And.intro ?_ ?_ | omega | fail)); done)), rfl, Nat.zero_le _⟩
    | exact .inr (.inl ⟨(1, y1 - 1, appF (fun _ _ => 0) 0 (litF 1 [a + 1 + 0]) 0), (by (refine And.intro (And.intro rfl (And.intro rfl (And.intro rfl rfl))) ?_; (repeat' (first | exact trivial | exact rfl | exact fun _ _ _ _ => rfl | refine And.intro ?_ ?_ | omega | fail)); done)), ⟨⟨Nat.le_refl 1, by omega, by show 1 ≤ y1 - 1 + 1; omega⟩, app1P (P := fun i v => v = a + 1 + (i : Int)) (by omega)⟩, by show (obP 0 zF a).toNat - 1 < (obP 0 zF a).toNat; omega⟩)
    | exact .inr (.inr ⟨(k1 + 1, y1 - 1, appF k3 k1 (litF 1 [a + 1 + (k1 : Int)]) 0), (by (refine And.intro (And.intro rfl (And.intro rfl (And.intro rfl rfl))) ?_; (repeat' (first | exact trivial | exact rfl | exact fun _ _ _ _ => rfl | refine And.intro ?_ ?_ | omega | fail)); done)), ⟨⟨by show 1 ≤ k1 + 1; omega, by show k1 + 1 ≤ (obP 0 zF a).toNat; omega, by show k1 + 1 ≤ y1 - 1 + 1; omega⟩, appSP (P := fun i v => v = a + 1 + (i : Int)) I2 (rfl)⟩, by show (obP 0 zF a).toNat - (k1 + 1) < (obP 0 zF a).toNat - k1; omega⟩)
    | (obtain rfl : k1 = (obP 0 zF a).toNat := (by omega)
       exact fin1t rfl (fun i j hi hj => (by obtain rfl : j = 0 := (by simp at hj; omega)
                                             exact (I2 i hi).symm)) (by kernel_rfl) (by kernel_rfl) (h _ (by omega)))
    | exact fin0 (by kernel_rfl) (by kernel_rfl) h
    | exact fin0 (by kernel_rfl) (by kernel_rfl) (fin0n (by omega) h)
    | (exfalso; omega)
def slON_rV (ew nw cw : Nat) (fw : RF) (a : Int) (K : Value → List Blk → Prop) : Prop := let q0 := ((5 : Nat), (5 : Nat)); let q1 := eB; let q2 := (9223372036854775807 : Int); let q3 := (fw (Int.toNat a) (0 : Nat)); let q4 := (-9223372036854775808 : Int); let q5 := (@Eq Nat ((1 : Nat)) ((1 : Nat))); let q6 := (hsP q3); let q7 := (hsR q3); let q8 := (9, vi (0 : Int)); let q9 := (8, vi (0 : Int)); let q10 := ((0 : Nat) ≤ Int.toNat (obP nw fw a)); let q11 := TS; let q12 := (7, vn); let q13 := (3, vn); let q14 := (2, vn); let q15 := (0, Blk.row true [IntKind.u64] ew nw cw fw); let q16 := ((9 : Nat), vi (0 : Int)); let q17 := ((8 : Nat), vi (0 : Int)); let q18 := ((7 : Nat), vn); let q19 := ((3 : Nat), vn); let q20 := ((2 : Nat), vn); let q21 := (a + (1 : Int) + hsP q3); let q22 := ((0 : Nat), Blk.row true [IntKind.u64] ew nw cw fw); let q23 := (6, Value.pointer (some { block := (5 : Nat), off := (0 : Nat) })); let q24 := (5, Value.pointer (some { block := (5 : Nat), off := (0 : Nat) })); let q25 := (1, Value.pointer (some { block := (5 : Nat), off := (0 : Nat) })); let q26 := ((6 : Nat), Value.pointer (some { block := (5 : Nat), off := (0 : Nat) })); let q27 := ((5 : Nat), Value.pointer (some { block := (5 : Nat), off := (0 : Nat) })); let q28 := ((1 : Nat), Value.pointer (some { block := (5 : Nat), off := (0 : Nat) })); let q29 := (Int.toNat (a + (1 : Int) + hsP q3 - (a + (1 : Int)))); let q30 := (a + (1 : Int) + hsP q3 + hsR q3); let q31 := (↑q29 : Int); let q32 := (8, vi q31); let q33 := (3, Blk.cells [vi q6, vi q7] (60 : Nat)); let q34 := ((3 : Nat), Blk.cells [vi q6, vi q7] (60 : Nat)); let q35 := (Int.toNat (a + (1 : Int) + hsP q3 + hsR q3 - q21)); let q36 := (2, Blk.cells [vi (0 : Int), vi (0 : Int), vn, vi (0 : Int), vn] (118 : Nat)); let q37 := (1, Blk.cells [vi (0 : Int), vi (0 : Int), vn, vi (0 : Int), vn] (118 : Nat)); let q38 := ((2 : Nat), Blk.cells [vi (0 : Int), vi (0 : Int), vn, vi (0 : Int), vn] (118 : Nat)); let q39 := ((1 : Nat), Blk.cells [vi (0 : Int), vi (0 : Int), vn, vi (0 : Int), vn] (118 : Nat)); let q40 := (7, Value.slice (some { block := (0 : Nat), off := (0 : Nat), spot := some (Nat.succ (Nat.succ (Int.toNat (a + (1 : Int))))) }) q29 q29); let q41 := (5, Blk.cells [Value.slice (some { block := (0 : Nat), off := (0 : Nat), spot := some (Nat.succ (Nat.succ (Int.toNat (a + (1 : Int))))) }) q29 q29, vi (a + (1 : Int))] (114 : Nat)); let q42 := (4, Blk.cells [vi q6, vi q7, Value.slice (some { block := (0 : Nat), off := (0 : Nat), spot := some (Nat.succ (Nat.succ (Int.toNat (a + (1 : Int))))) }) q29 q29, vi (a + (1 : Int)), Value.slice (some { block := (0 : Nat), off := (0 : Nat), spot := some (Nat.succ (Nat.succ (Int.toNat q21))) }) q35 q35] (118 : Nat)); let q43 := (2, Blk.cells [vi q6, vi q7, Value.slice (some { block := (0 : Nat), off := (0 : Nat), spot := some (Nat.succ (Nat.succ (Int.toNat (a + (1 : Int))))) }) q29 q29, vi (a + (1 : Int)), Value.slice (some { block := (0 : Nat), off := (0 : Nat), spot := some (Nat.succ (Nat.succ (Int.toNat q21))) }) q35 q35] (118 : Nat)); let q44 := (1, Blk.cells [vi q6, vi q7, Value.slice (some { block := (0 : Nat), off := (0 : Nat), spot := some (Nat.succ (Nat.succ (Int.toNat (a + (1 : Int))))) }) q29 q29, vi (a + (1 : Int)), Value.slice (some { block := (0 : Nat), off := (0 : Nat), spot := some (Nat.succ (Nat.succ (Int.toNat q21))) }) q35 q35] (118 : Nat)); let q45 := (t9 (t4 (q11 ∧ ((∃ y0 : Nat, ((Go.Rx.Sub 4 [((4 : Nat), (4 : Nat))] ⟨21, [q8, q9, q12, (6, Value.pointer (some { block := (4 : Nat), off := (0 : Nat) })), (5, Value.pointer (some { block := (4 : Nat), off := (0 : Nat) })), q13, q14, (1, Value.pointer (some { block := (4 : Nat), off := (0 : Nat) })), (0, Value.agg { toList := [vn, vi (0 : Int)] })]⟩ ⟨[(4, Blk.cells [vn, vi (0 : Int)] (114 : Nat)), (3, Blk.cells [vi (0 : Int), vi (0 : Int), vn, vi (0 : Int), vn] (118 : Nat)), q36, q37, q15], 5⟩ ({ n := (21 : Nat), m := [q16, q17, q18, ((6 : Nat), Value.pointer (some { block := (4 : Nat), off := (0 : Nat) })), ((5 : Nat), Value.pointer (some { block := (4 : Nat), off := (0 : Nat) })), q19, q20, ((1 : Nat), Value.pointer (some { block := (4 : Nat), off := (0 : Nat) })), ((0 : Nat), Value.agg { toList := [vn, vi (0 : Int)] })] }) ({ h := [((4 : Nat), Blk.cells [vn, vi (0 : Int)] (114 : Nat)), ((3 : Nat), Blk.cells [vi (0 : Int), vi (0 : Int), vn, vi (0 : Int), vn] (118 : Nat)), q38, q39, q22], next := (5 : Nat) })) ∧ ((@Eq Nat (y0) ((0 : Nat))) ∧ q10))) ∧ (∀ y0 : Nat, (((@Eq Nat (y0) ((0 : Nat))) ∧ q10) → (T0 ∧ (∃ y1 : Value, (∃ y2 : List Blk, ((Go.Rx.Found 1 (Value.tuple { toList := [vn, vi (7 : Int)] }) ({ h := [((4 : Nat), Blk.cells [vn, vi (0 : Int)] (114 : Nat)), ((3 : Nat), Blk.cells [vi (0 : Int), vi (0 : Int), vn, vi (0 : Int), vn] (118 : Nat)), q38, q39, q22], next := (5 : Nat) }) (y1) (y2)) ∧ (K y1 y2))))))))))); let q46 := (t9 (t4 (q11 ∧ ((∃ y0 : Nat, ((Go.Rx.Sub 5 [q0] ⟨21, [q8, q9, q12, q23, q24, q13, q14, q25, (0, Value.agg { toList := [vn, vi (0 : Int)] })]⟩ ⟨[(5, Blk.cells [vn, vi (0 : Int)] (114 : Nat)), (4, Blk.cells [vi (0 : Int), vi (0 : Int), vn, vi (0 : Int), vn] (118 : Nat)), q33, q36, q37, q15], 6⟩ ({ n := (21 : Nat), m := [q16, q17, q18, q26, q27, q19, q20, q28, ((0 : Nat), Value.agg { toList := [vn, vi (0 : Int)] })] }) ({ h := [((5 : Nat), Blk.cells [vn, vi (0 : Int)] (114 : Nat)), ((4 : Nat), Blk.cells [vi (0 : Int), vi (0 : Int), vn, vi (0 : Int), vn] (118 : Nat)), q34, q38, q39, q22], next := (6 : Nat) })) ∧ ((@Eq Nat (y0) ((0 : Nat))) ∧ q10))) ∧ (∀ y0 : Nat, (((@Eq Nat (y0) ((0 : Nat))) ∧ q10) → (T0 ∧ (∃ y1 : Value, (∃ y2 : List Blk, ((Go.Rx.Found 1 (Value.tuple { toList := [vn, vi (6 : Int)] }) ({ h := [((5 : Nat), Blk.cells [vn, vi (0 : Int)] (114 : Nat)), ((4 : Nat), Blk.cells [vi (0 : Int), vi (0 : Int), vn, vi (0 : Int), vn] (118 : Nat)), q34, q38, q39, q22], next := (6 : Nat) }) (y1) (y2)) ∧ (K y1 y2))))))))))); (t2 (((0 : Nat) + nw ≤ nw) ∧ (((@Eq Nat ((0 : Nat)) ((0 : Nat))) ∧ ((nw ≤ (100000 : Nat)) ∧ (nw ≤ cw))) ∧ (((@Eq (List IntKind) ([IntKind.u64]) ([IntKind.u64])) ∧ ((@Eq Nat (nw) (nw)) ∧ (@Eq Nat (cw) (cw)))) ∧ (q1 ∧ ((True) ∧ (T0 ∧ (if (@Eq Int (arE nw fw) ((0 : Int))) then (t2 (if (a < (1 : Int)) then q45 else (q11 ∧ (T0 ∧ (if ((↑nw : Int) ≤ a) then q45 else ((q11 ∧ q5) ∧ ((((0 : Int) ≤ a) ∧ (a < (↑nw : Int))) ∧ ((Int.toNat a < nw) ∧ (T0 ∧ (q1 ∧ ((((0 : Int) ≤ fw (Int.toNat a) (0 : Nat)) ∧ (fw (Int.toNat a) (0 : Nat) ≤ (18446744073709551615 : Int))) ∧ (t3 (if (@Eq Int (hsE q3) ((0 : Int))) then (t3 (((q4 ≤ hsP q3 + hsR q3) ∧ (hsP q3 + hsR q3 ≤ q2)) ∧ (q11 ∧ (T0 ∧ (((q4 ≤ (↑nw : Int) - a) ∧ ((↑nw : Int) - a ≤ q2)) ∧ (T0 ∧ (if ((↑nw : Int) - a ≤ hsP q3 + hsR q3) then q46 else (T0 ∧ (((q4 ≤ a + (1 : Int)) ∧ (a + (1 : Int) ≤ q2)) ∧ (t2 (((q4 ≤ a + (1 : Int) + hsP q3) ∧ (a + (1 : Int) + hsP q3 ≤ q2)) ∧ (t2 (((q4 ≤ a + (1 : Int) + hsP q3 + hsR q3) ∧ (a + (1 : Int) + hsP q3 + hsR q3 ≤ q2)) ∧ (t8 (q11 ∧ (t4 (q5 ∧ ((((0 : Int) ≤ a + (1 : Int)) ∧ ((a + (1 : Int) ≤ a + (1 : Int) + hsP q3) ∧ ((a + (1 : Int) + hsP q3 ≤ a + (1 : Int) + hsP q3) ∧ (a + (1 : Int) + hsP q3 ≤ (↑cw : Int))))) ∧ ((@Eq Int q21 q21) ∧ (t8 (q11 ∧ (t4 (q5 ∧ ((((0 : Int) ≤ a + (1 : Int) + hsP q3) ∧ ((a + (1 : Int) + hsP q3 ≤ a + (1 : Int) + hsP q3 + hsR q3) ∧ ((a + (1 : Int) + hsP q3 + hsR q3 ≤ a + (1 : Int) + hsP q3 + hsR q3) ∧ (a + (1 : Int) + hsP q3 + hsR q3 ≤ (↑cw : Int))))) ∧ ((@Eq Int q30 q30) ∧ (t9 (t7 (q11 ∧ ((∃ y0 : Nat, ((Go.Rx.Sub 5 [q0] ⟨21, [q8, q32, q40, q23, q24, q13, q14, q25, (0, Value.agg { toList := [Value.slice (some { block := (0 : Nat), off := (0 : Nat), spot := some (Nat.succ (Nat.succ (Int.toNat (a + (1 : Int))))) }) q29 q29, vi (a + (1 : Int))] })]⟩ ⟨[q41, q42, q33, q43, q44, q15], 6⟩ ({ n := (21 : Nat), m := [q16, ((8 : Nat), vi q31), ((7 : Nat), Value.slice (some { block := (0 : Nat), off := (0 : Nat), spot := some (Nat.succ (Nat.succ (Int.toNat (a + (1 : Int))))) }) q29 q29), q26, q27, q19, q20, q28, ((0 : Nat), Value.agg { toList := [Value.slice (some { block := (0 : Nat), off := (0 : Nat), spot := some (Nat.succ (Nat.succ (Int.toNat (a + (1 : Int))))) }) q29 q29, vi (a + (1 : Int))] })] }) ({ h := [((5 : Nat), Blk.cells [Value.slice (some { block := (0 : Nat), off := (0 : Nat), spot := some (Nat.succ (Nat.succ (Int.toNat (a + (1 : Int))))) }) q29 q29, vi (a + (1 : Int))] (114 : Nat)), ((4 : Nat), Blk.cells [vi q6, vi q7, Value.slice (some { block := (0 : Nat), off := (0 : Nat), spot := some (Nat.succ (Nat.succ (Int.toNat (a + (1 : Int))))) }) q29 q29, vi (a + (1 : Int)), Value.slice (some { block := (0 : Nat), off := (0 : Nat), spot := some (Nat.succ (Nat.succ (Int.toNat q21))) }) q35 q35] (118 : Nat)), q34, ((2 : Nat), Blk.cells [vi q6, vi q7, Value.slice (some { block := (0 : Nat), off := (0 : Nat), spot := some (Nat.succ (Nat.succ (Int.toNat (a + (1 : Int))))) }) q29 q29, vi (a + (1 : Int)), Value.slice (some { block := (0 : Nat), off := (0 : Nat), spot := some (Nat.succ (Nat.succ (Int.toNat q21))) }) q35 q35] (118 : Nat)), ((1 : Nat), Blk.cells [vi q6, vi q7, Value.slice (some { block := (0 : Nat), off := (0 : Nat), spot := some (Nat.succ (Nat.succ (Int.toNat (a + (1 : Int))))) }) q29 q29, vi (a + (1 : Int)), Value.slice (some { block := (0 : Nat), off := (0 : Nat), spot := some (Nat.succ (Nat.succ (Int.toNat q21))) }) q35 q35] (118 : Nat)), q22], next := (6 : Nat) })) ∧ ((@Eq Nat (y0) ((0 : Nat))) ∧ q10))) ∧ (∀ y0 : Nat, (((@Eq Nat (y0) ((0 : Nat))) ∧ q10) → (T0 ∧ (if ((0 : Int) < q31) then (t2 (((q4 ≤ a + (1 : Int) + (0 : Int)) ∧ (a + (1 : Int) + (0 : Int) ≤ q2)) ∧ (q11 ∧ (t4 (q11 ∧ (q11 ∧ (t4 (((1 : Nat) ≤ (1 : Nat)) ∧ (((1 : Nat) ≤ (100000 : Nat)) ∧ (∀ y1 : Nat, (((1 : Nat) ≤ y1) → (T0 ∧ (((q4 ≤ (0 : Int) + (1 : Int)) ∧ ((0 : Int) + (1 : Int) ≤ q2)) ∧ (∃ y2 : Nat, ((Go.Rx.Sub 5 [q0] ⟨21, [(9, vi (1 : Int)), (3, rsl (7 : Nat) (0 : Nat) (1 : Nat) (y1 - (1 : Nat) + (1 : Nat))), q32, q40, q23, q24, q14, q25, (0, Value.agg { toList := [Value.slice (some { block := (0 : Nat), off := (0 : Nat), spot := some (Nat.succ (Nat.succ (Int.toNat (a + (1 : Int))))) }) q29 q29, vi (a + (1 : Int))] })]⟩ ⟨[q41, q42, q33, q43, q44, q15], 8⟩ ({ n := (21 : Nat), m := [q16, ((8 : Nat), vi q31), ((7 : Nat), Value.slice (some { block := (0 : Nat), off := (0 : Nat), spot := some (Nat.succ (Nat.succ (Int.toNat (a + (1 : Int))))) }) q29 q29), q26, q27, q19, q20, q28, ((0 : Nat), Value.agg { toList := [Value.slice (some { block := (0 : Nat), off := (0 : Nat), spot := some (Nat.succ (Nat.succ (Int.toNat (a + (1 : Int))))) }) q29 q29, vi (a + (1 : Int))] })] }) ({ h := [((5 : Nat), Blk.cells [Value.slice (some { block := (0 : Nat), off := (0 : Nat), spot := some (Nat.succ (Nat.succ (Int.toNat (a + (1 : Int))))) }) q29 q29, vi (a + (1 : Int))] (114 : Nat)), ((4 : Nat), Blk.cells [vi q6, vi q7, Value.slice (some { block := (0 : Nat), off := (0 : Nat), spot := some (Nat.succ (Nat.succ (Int.toNat (a + (1 : Int))))) }) q29 q29, vi (a + (1 : Int)), Value.slice (some { block := (0 : Nat), off := (0 : Nat), spot := some (Nat.succ (Nat.succ (Int.toNat q21))) }) q35 q35] (118 : Nat)), q34, ((2 : Nat), Blk.cells [vi q6, vi q7, Value.slice (some { block := (0 : Nat), off := (0 : Nat), spot := some (Nat.succ (Nat.succ (Int.toNat (a + (1 : Int))))) }) q29 q29, vi (a + (1 : Int)), Value.slice (some { block := (0 : Nat), off := (0 : Nat), spot := some (Nat.succ (Nat.succ (Int.toNat q21))) }) q35 q35] (118 : Nat)), ((1 : Nat), Blk.cells [vi q6, vi q7, Value.slice (some { block := (0 : Nat), off := (0 : Nat), spot := some (Nat.succ (Nat.succ (Int.toNat (a + (1 : Int))))) }) q29 q29, vi (a + (1 : Int)), Value.slice (some { block := (0 : Nat), off := (0 : Nat), spot := some (Nat.succ (Nat.succ (Int.toNat q21))) }) q35 q35] (118 : Nat)), q22], next := (6 : Nat) })) ∧ (((@Eq Nat (y2) ((0 : Nat))) ∧ q10) ∧ (Int.toNat (obP nw fw a) < Int.toNat (obP nw fw a)))))))))))))))))) else (∃ y1 : Value, (∃ y2 : List Blk, ((Go.Rx.Found 1 (Value.tuple { toList := [vn, vi (0 : Int)] }) ({ h := [((5 : Nat), Blk.cells [Value.slice (some { block := (0 : Nat), off := (0 : Nat), spot := some (Nat.succ (Nat.succ (Int.toNat (a + (1 : Int))))) }) q29 q29, vi (a + (1 : Int))] (114 : Nat)), ((4 : Nat), Blk.cells [vi q6, vi q7, Value.slice (some { block := (0 : Nat), off := (0 : Nat), spot := some (Nat.succ (Nat.succ (Int.toNat (a + (1 : Int))))) }) q29 q29, vi (a + (1 : Int)), Value.slice (some { block := (0 : Nat), off := (0 : Nat), spot := some (Nat.succ (Nat.succ (Int.toNat q21))) }) q35 q35] (118 : Nat)), q34, ((2 : Nat), Blk.cells [vi q6, vi q7, Value.slice (some { block := (0 : Nat), off := (0 : Nat), spot := some (Nat.succ (Nat.succ (Int.toNat (a + (1 : Int))))) }) q29 q29, vi (a + (1 : Int)), Value.slice (some { block := (0 : Nat), off := (0 : Nat), spot := some (Nat.succ (Nat.succ (Int.toNat q21))) }) q35 q35] (118 : Nat)), ((1 : Nat), Blk.cells [vi q6, vi q7, Value.slice (some { block := (0 : Nat), off := (0 : Nat), spot := some (Nat.succ (Nat.succ (Int.toNat (a + (1 : Int))))) }) q29 q29, vi (a + (1 : Int)), Value.slice (some { block := (0 : Nat), off := (0 : Nat), spot := some (Nat.succ (Nat.succ (Int.toNat q21))) }) q35 q35] (118 : Nat)), q22], next := (6 : Nat) }) (y1) (y2)) ∧ (K y1 y2))))))))))))))))))))))))))))))))))))) else q46))))))))))))) else (t9 (T0 ∧ (q11 ∧ ((∃ y0 : Nat, ((Go.Rx.Sub 3 [((3 : Nat), (3 : Nat))] ⟨21, [q8, q9, q12, (6, Value.pointer (some { block := (3 : Nat), off := (0 : Nat) })), (5, Value.pointer (some { block := (3 : Nat), off := (0 : Nat) })), q13, q14, (1, Value.pointer (some { block := (3 : Nat), off := (0 : Nat) })), (0, Value.agg { toList := [vn, vi (0 : Int)] })]⟩ ⟨[(3, Blk.cells [vn, vi (0 : Int)] (114 : Nat)), q36, q37, q15], 4⟩ ({ n := (21 : Nat), m := [q16, q17, q18, ((6 : Nat), Value.pointer (some { block := (3 : Nat), off := (0 : Nat) })), ((5 : Nat), Value.pointer (some { block := (3 : Nat), off := (0 : Nat) })), q19, q20, ((1 : Nat), Value.pointer (some { block := (3 : Nat), off := (0 : Nat) })), ((0 : Nat), Value.agg { toList := [vn, vi (0 : Int)] })] }) ({ h := [((3 : Nat), Blk.cells [vn, vi (0 : Int)] (114 : Nat)), q38, q39, q22], next := (4 : Nat) })) ∧ ((@Eq Nat (y0) ((0 : Nat))) ∧ q10))) ∧ (∀ y0 : Nat, (((@Eq Nat (y0) ((0 : Nat))) ∧ q10) → (T0 ∧ (∃ y1 : Value, (∃ y2 : List Blk, ((Go.Rx.Found 1 (Value.tuple { toList := [vn, vi (arE nw fw)] }) ({ h := [((3 : Nat), Blk.cells [vn, vi (0 : Int)] (114 : Nat)), q38, q39, q22], next := (4 : Nat) }) (y1) (y2)) ∧ (K y1 y2)))))))))))))))))))
theorem slON_rE (ew nw cw : Nat) (fw : RF) (a : Int) (K : Value → List Blk → Prop) : slON_rV ew nw cw fw a K = bodyX (mk XO) (callI (mk XO) (fun f ar s0 k tt ss => bif Nat.beq f 96 && Nat.beq k 3 then some [{ α := Nat, T := fun _ => tt, S := fun _ => ss, I := fun k => k = 0 ∧ 0 ≤ (obP nw fw a).toNat, m := fun _ => (obP nw fw a).toNat, ρ0 := idR (s0.next) ss.next, ρ1 := [idR (s0.next) ss.next] }] else some []) 9) (slON_rA ew nw cw fw a) Try.f50 [rsl 0 0 nw cw, .int .i64 a] (stOf [.row true [.u64] ew nw cw fw]) (Fd 1 K) := by kernel_rfl
set_option tactic.hygienic false in
theorem slON_rP (ew nw cw : Nat) (fw : RF) (a : Int) (K : Value → List Blk → Prop)  (hnw : nw ≤ 100000) (hcw : nw ≤ cw) (hU : Ok64 nw fw) (h1 : ¬ (obE nw fw a = 0 ∧ 0 < obP nw fw a)) (h : K (.tuple ⟨[.slice none 0 0, .int .i64 (obE nw fw a)]⟩) []) : slON_rV ew nw cw fw a K := by
  unfold slON_rV
  conv => zeta
  have z0 := ob_cases hU a
  have z1 := fun (h1 : 0 ≤ a) (h2 : a < nw) => hU.at h1 h2
  have z2 := fun (h1 : 0 ≤ a) (h2 : a < nw) => hs_bd (hU.at h1 h2).1
  repeat' (first | (with_reducible exact rfl) | (with_reducible exact trivial) | (with_reducible refine And.intro ?_ ?_) | (intro) | (with_reducible refine br_d (fun hq => ?_) (fun hq => ?_)) | (with_reducible refine br_nd (fun hq => ?_) (fun hq => ?_)) | (with_reducible refine br_intro (fun hq => ?_) (fun hq => ?_)) | (with_reducible refine if_both (fun hz => ?_) (fun hz => ?_)) | fail)
  all_goals try (rename Nat × Nat × RF => k; rename _ ∧ (∀ _ : Nat, _) => I; obtain ⟨k1, k2, k3⟩ := k; dsimp only at *; obtain ⟨⟨J1, J2, J3⟩, I2⟩ := I)
  all_goals first
    | (with_reducible assumption)
    | (refine (id ?_ : ∃ (v1 : Value) (news : List Blk), _)
       first
        | contradiction
        | exact .inl ⟨0, (by (refine And.intro (And.intro rfl (And.intro rfl (And.intro rfl rfl))) ?_; (repeat' (first | exact trivial | exact rfl | exact fun _ _ _ _ => rfl | refine And.intro ?_ ?_ | omega | fail)); done)), rfl, Nat.zero_le _⟩
        | exact ⟨0, (by (refine And.intro (And.intro rfl (And.intro rfl (And.intro rfl rfl))) ?_; (repeat' (first | exact trivial | exact rfl | exact fun _ _ _ _ => rfl | refine And.intro ?_ ?_ | omega | fail)); done)), rfl, Nat.zero_le _⟩
        | exact .inr (.inl ⟨(1, y1 - 1, appF (fun _ _ => 0) 0 (litF 1 [a + 1 + 0]) 0), (by (refine And.intro (And.intro rfl (And.intro rfl (And.intro rfl rfl))) ?_; (repeat' (first | exact trivial | exact rfl | exact fun _ _ _ _ => rfl | refine And.intro ?_ ?_ | omega | fail)); done)), ⟨⟨Nat.le_refl 1, by omega, by show 1 ≤ y1 - 1 + 1; omega⟩, app1P (P := fun i v => v = a + 1 + (i : Int)) (by omega)⟩, by show (obP nw fw a).toNat - 1 < (obP nw fw a).toNat; omega⟩)
        | exact .inr (.inr ⟨(k1 + 1, y1 - 1, appF k3 k1 (litF 1 [a + 1 + (k1 : Int)]) 0), (by (refine And.intro (And.intro rfl (And.intro rfl (And.intro rfl rfl))) ?_; (repeat' (first | exact trivial | exact rfl | exact fun _ _ _ _ => rfl | refine And.intro ?_ ?_ | omega | fail)); done)), ⟨⟨by show 1 ≤ k1 + 1; omega, by show k1 + 1 ≤ (obP nw fw a).toNat; omega, by show k1 + 1 ≤ y1 - 1 + 1; omega⟩, appSP (P := fun i v => v = a + 1 + (i : Int)) I2 (rfl)⟩, by show (obP nw fw a).toNat - (k1 + 1) < (obP nw fw a).toNat - k1; omega⟩)
        | (obtain rfl : k1 = (obP nw fw a).toNat := (by omega)
           exact fin1t rfl (fun i j hi hj => (by obtain rfl : j = 0 := (by simp at hj; omega)
                                                 exact (I2 i hi).symm)) (by kernel_rfl) (by kernel_rfl) (h _ (by omega)))
        | exact fin0 (by kernel_rfl) (by kernel_rfl) h
        | exact fin0 (by kernel_rfl) (by kernel_rfl) (fin0n (by omega) h)
        | (exfalso; omega)
       )
    | omega
    | contradiction
    | exact .inl ⟨0, (by (refine And.intro (And.intro rfl (And.intro rfl (And.intro rfl rfl))) ?_; (repeat' (first | exact trivial | exact rfl | exact fun _ _ _ _ => rfl | refine And.intro ?_ ?_ | omega | fail)); done)), rfl, Nat.zero_le _⟩
    | exact ⟨0, (by (refine And.intro (And.intro rfl (And.intro rfl (And.intro rfl rfl))) ?_; (repeat' (first | exact trivial | exact rfl | exact fun _ _ _ _ => rfl | refine And.intro ?_ ?_ | omega | fail)); done)), rfl, Nat.zero_le _⟩
    | exact .inr (.inl ⟨(1, y1 - 1, appF (fun _ _ => 0) 0 (litF 1 [a + 1 + 0]) 0), (by (refine And.intro (And.intro rfl (And.intro rfl (And.intro rfl rfl))) ?_; (repeat' (first | exact trivial | exact rfl | exact fun _ _ _ _ => rfl | refine And.intro ?_ ?_ | omega | fail)); done)), ⟨⟨Nat.le_refl 1, by omega, by show 1 ≤ y1 - 1 + 1; omega⟩, app1P (P := fun i v => v = a + 1 + (i : Int)) (by omega)⟩, by show (obP nw fw a).toNat - 1 < (obP nw fw a).toNat; omega⟩)
    | exact .inr (.inr ⟨(k1 + 1, y1 - 1, appF k3 k1 (litF 1 [a + 1 + (k1 : Int)]) 0), (by (refine And.intro (And.intro rfl (And.intro rfl (And.intro rfl rfl))) ?_; (repeat' (first | exact trivial | exact rfl | exact fun _ _ _ _ => rfl | refine And.intro ?_ ?_ | omega | fail)); done)), ⟨⟨by show 1 ≤ k1 + 1; omega, by show k1 + 1 ≤ (obP nw fw a).toNat; omega, by show k1 + 1 ≤ y1 - 1 + 1; omega⟩, appSP (P := fun i v => v = a + 1 + (i : Int)) I2 (rfl)⟩, by show (obP nw fw a).toNat - (k1 + 1) < (obP nw fw a).toNat - k1; omega⟩)
    | (obtain rfl : k1 = (obP nw fw a).toNat := (by omega)
       exact fin1t rfl (fun i j hi hj => (by obtain rfl : j = 0 := (by simp at hj; omega)
                                             exact (I2 i hi).symm)) (by kernel_rfl) (by kernel_rfl) (h _ (by omega)))
    | exact fin0 (by kernel_rfl) (by kernel_rfl) h
    | exact fin0 (by kernel_rfl) (by kernel_rfl) (fin0n (by omega) h)
    | (exfalso; omega)
theorem slON_ok : BodyOk (mk XO) 9 Try.f50 slON := by
  intro vs bs K hh hro
  clear hro
  unfold slON at hh
  split at hh
  · rename_i vw a
    rcases parseQ_inv hh with ⟨rfl, hh0⟩ | ⟨ew, nw, cw, fw, btw, rfl, hnw, hcw, rfl, hh0⟩ <;> clear hh
    · obtain ⟨rfl, ⟨hU, h1⟩, hc⟩ := hh0
      exact ⟨_, _, cast (slON_nE  a K) (slON_nP  a K  hU h1 hc)⟩
    · obtain ⟨rfl, ⟨hU, h1⟩, hc⟩ := hh0
      exact ⟨_, _, cast (slON_rE ew nw cw fw a K) (slON_rP ew nw cw fw a K hnw hcw hU h1 hc)⟩
  · exact hh.elim
theorem slON_told : Told 50 (specOf slON) := told (X := XO) XO_told (by kernel_rfl) (by kernel_rfl) (by kernel_rfl) slON_ok
def slOR_rV (ew nw cw : Nat) (fw : RF) (a : Int) (K : Value → List Blk → Prop) : Prop := let q0 := ((3 : Nat), (3 : Nat)); let q1 := ((4 : Nat), (4 : Nat)); let q2 := ((5 : Nat), (5 : Nat)); let q3 := ((6 : Nat), (6 : Nat)); let q4 := ((6 : Nat), (8 : Nat)); let q5 := ((6 : Nat), (7 : Nat)); let q6 := ((1 : Nat) ≤ (1 : Nat)); let q7 := eB; let q8 := (List.length [IntKind.i64]); let q9 := (9223372036854775807 : Int); let q10 := (fw (Int.toNat a) (0 : Nat)); let q11 := ((1 : Nat) ≤ (100000 : Nat)); let q12 := (-9223372036854775808 : Int); let q13 := (@Eq Nat ((1 : Nat)) ((1 : Nat))); let q14 := (@Eq Nat ((0 : Nat)) ((0 : Nat))); let q15 := (hsP q10); let q16 := (hsR q10); let q17 := (9, vi (0 : Int)); let q18 := (8, vi (0 : Int)); let q19 := (9, vi (1 : Int)); let q20 := ((0 : Nat) ≤ Int.toNat (obP nw fw a)); let q21 := TS; let q22 := (7, vn); let q23 := (3, vn); let q24 := (2, vn); let q25 := (0, Blk.row true [IntKind.u64] ew nw cw fw); let q26 := ((8 : Nat), vi (0 : Int)); let q27 := ((9 : Nat), vi (0 : Int)); let q28 := ((7 : Nat), vn); let q29 := ((2 : Nat), vn); let q30 := ((3 : Nat), vn); let q31 := (a + (1 : Int) + hsP q10); let q32 := ((0 : Nat), Blk.row true [IntKind.u64] ew nw cw fw); let q33 := (6, Value.pointer (some { block := (3 : Nat), off := (0 : Nat) })); let q34 := (5, Value.pointer (some { block := (3 : Nat), off := (0 : Nat) })); let q35 := (1, Value.pointer (some { block := (3 : Nat), off := (0 : Nat) })); let q36 := (6, Value.pointer (some { block := (5 : Nat), off := (0 : Nat) })); let q37 := (5, Value.pointer (some { block := (5 : Nat), off := (0 : Nat) })); let q38 := (1, Value.pointer (some { block := (5 : Nat), off := (0 : Nat) })); let q39 := (6, Value.pointer (some { block := (4 : Nat), off := (0 : Nat) })); let q40 := (5, Value.pointer (some { block := (4 : Nat), off := (0 : Nat) })); let q41 := (1, Value.pointer (some { block := (4 : Nat), off := (0 : Nat) })); let q42 := ((6 : Nat), Value.pointer (some { block := (3 : Nat), off := (0 : Nat) })); let q43 := ((5 : Nat), Value.pointer (some { block := (3 : Nat), off := (0 : Nat) })); let q44 := ((1 : Nat), Value.pointer (some { block := (3 : Nat), off := (0 : Nat) })); let q45 := ((6 : Nat), Value.pointer (some { block := (5 : Nat), off := (0 : Nat) })); let q46 := ((5 : Nat), Value.pointer (some { block := (5 : Nat), off := (0 : Nat) })); let q47 := ((1 : Nat), Value.pointer (some { block := (5 : Nat), off := (0 : Nat) })); let q48 := ((6 : Nat), Value.pointer (some { block := (4 : Nat), off := (0 : Nat) })); let q49 := ((5 : Nat), Value.pointer (some { block := (4 : Nat), off := (0 : Nat) })); let q50 := ((1 : Nat), Value.pointer (some { block := (4 : Nat), off := (0 : Nat) })); let q51 := (Int.toNat (a + (1 : Int) + hsP q10 - (a + (1 : Int)))); let q52 := (a + (1 : Int) + hsP q10 + hsR q10); let q53 := (↑q51 : Int); let q54 := (3, Blk.cells [vn, vi (0 : Int)] (114 : Nat)); let q55 := (5, Blk.cells [vn, vi (0 : Int)] (114 : Nat)); let q56 := (4, Blk.cells [vn, vi (0 : Int)] (114 : Nat)); let q57 := ((3 : Nat), Blk.cells [vn, vi (0 : Int)] (114 : Nat)); let q58 := ((5 : Nat), Blk.cells [vn, vi (0 : Int)] (114 : Nat)); let q59 := ((4 : Nat), Blk.cells [vn, vi (0 : Int)] (114 : Nat)); let q60 := (8, vi q53); let q61 := ((8 : Nat), vi q53); let q62 := (3, Blk.cells [vi q15, vi q16] (60 : Nat)); let q63 := ((3 : Nat), Blk.cells [vi q15, vi q16] (60 : Nat)); let q64 := (Int.toNat (a + (1 : Int) + hsP q10 + hsR q10 - q31)); let q65 := (2, Blk.cells [vi (0 : Int), vi (0 : Int), vn, vi (0 : Int), vn] (118 : Nat)); let q66 := (1, Blk.cells [vi (0 : Int), vi (0 : Int), vn, vi (0 : Int), vn] (118 : Nat)); let q67 := (4, Blk.cells [vi (0 : Int), vi (0 : Int), vn, vi (0 : Int), vn] (118 : Nat)); let q68 := (3, Blk.cells [vi (0 : Int), vi (0 : Int), vn, vi (0 : Int), vn] (118 : Nat)); let q69 := ((2 : Nat), Blk.cells [vi (0 : Int), vi (0 : Int), vn, vi (0 : Int), vn] (118 : Nat)); let q70 := ((1 : Nat), Blk.cells [vi (0 : Int), vi (0 : Int), vn, vi (0 : Int), vn] (118 : Nat)); let q71 := ((4 : Nat), Blk.cells [vi (0 : Int), vi (0 : Int), vn, vi (0 : Int), vn] (118 : Nat)); let q72 := ((3 : Nat), Blk.cells [vi (0 : Int), vi (0 : Int), vn, vi (0 : Int), vn] (118 : Nat)); let q73 := (7, Value.slice (some { block := (0 : Nat), off := (0 : Nat), spot := some (Nat.succ (Nat.succ (Int.toNat (a + (1 : Int))))) }) q51 q51); let q74 := ((7 : Nat), Value.slice (some { block := (0 : Nat), off := (0 : Nat), spot := some (Nat.succ (Nat.succ (Int.toNat (a + (1 : Int))))) }) q51 q51); let q75 := (5, Blk.cells [Value.slice (some { block := (0 : Nat), off := (0 : Nat), spot := some (Nat.succ (Nat.succ (Int.toNat (a + (1 : Int))))) }) q51 q51, vi (a + (1 : Int))] (114 : Nat)); let q76 := ((5 : Nat), Blk.cells [Value.slice (some { block := (0 : Nat), off := (0 : Nat), spot := some (Nat.succ (Nat.succ (Int.toNat (a + (1 : Int))))) }) q51 q51, vi (a + (1 : Int))] (114 : Nat)); let q77 := (4, Blk.cells [vi q15, vi q16, Value.slice (some { block := (0 : Nat), off := (0 : Nat), spot := some (Nat.succ (Nat.succ (Int.toNat (a + (1 : Int))))) }) q51 q51, vi (a + (1 : Int)), Value.slice (some { block := (0 : Nat), off := (0 : Nat), spot := some (Nat.succ (Nat.succ (Int.toNat q31))) }) q64 q64] (118 : Nat)); let q78 := (2, Blk.cells [vi q15, vi q16, Value.slice (some { block := (0 : Nat), off := (0 : Nat), spot := some (Nat.succ (Nat.succ (Int.toNat (a + (1 : Int))))) }) q51 q51, vi (a + (1 : Int)), Value.slice (some { block := (0 : Nat), off := (0 : Nat), spot := some (Nat.succ (Nat.succ (Int.toNat q31))) }) q64 q64] (118 : Nat)); let q79 := (1, Blk.cells [vi q15, vi q16, Value.slice (some { block := (0 : Nat), off := (0 : Nat), spot := some (Nat.succ (Nat.succ (Int.toNat (a + (1 : Int))))) }) q51 q51, vi (a + (1 : Int)), Value.slice (some { block := (0 : Nat), off := (0 : Nat), spot := some (Nat.succ (Nat.succ (Int.toNat q31))) }) q64 q64] (118 : Nat)); let q80 := ((4 : Nat), Blk.cells [vi q15, vi q16, Value.slice (some { block := (0 : Nat), off := (0 : Nat), spot := some (Nat.succ (Nat.succ (Int.toNat (a + (1 : Int))))) }) q51 q51, vi (a + (1 : Int)), Value.slice (some { block := (0 : Nat), off := (0 : Nat), spot := some (Nat.succ (Nat.succ (Int.toNat q31))) }) q64 q64] (118 : Nat)); let q81 := ((2 : Nat), Blk.cells [vi q15, vi q16, Value.slice (some { block := (0 : Nat), off := (0 : Nat), spot := some (Nat.succ (Nat.succ (Int.toNat (a + (1 : Int))))) }) q51 q51, vi (a + (1 : Int)), Value.slice (some { block := (0 : Nat), off := (0 : Nat), spot := some (Nat.succ (Nat.succ (Int.toNat q31))) }) q64 q64] (118 : Nat)); let q82 := ((1 : Nat), Blk.cells [vi q15, vi q16, Value.slice (some { block := (0 : Nat), off := (0 : Nat), spot := some (Nat.succ (Nat.succ (Int.toNat (a + (1 : Int))))) }) q51 q51, vi (a + (1 : Int)), Value.slice (some { block := (0 : Nat), off := (0 : Nat), spot := some (Nat.succ (Nat.succ (Int.toNat q31))) }) q64 q64] (118 : Nat)); let q83 := (t9 (t4 (q21 ∧ (((∃ y0 : Nat, ((Go.Rx.Sub 4 [q1] ⟨21, [q17, q18, q22, q39, q40, q23, q24, q41, (0, Value.agg { toList := [vn, vi (0 : Int)] })]⟩ ⟨[q56, q68, q65, q66, q25], 5⟩ ({ n := (21 : Nat), m := [q27, q26, q28, q48, q49, q30, q29, q50, ((0 : Nat), Value.agg { toList := [vn, vi (0 : Int)] })] }) ({ h := [q59, q72, q69, q70, q32], next := (5 : Nat) })) ∧ ((@Eq Nat (y0) ((0 : Nat))) ∧ q20))) ∨ (∃ y0 : Nat × Nat × RF, let q105 := (Prod.fst (Prod.snd y0) + (1 : Nat)); ((Go.Rx.Sub 4 [q1, q2] ⟨21, [q17, q18, q22, q39, q40, q23, q24, q41, (0, Value.agg { toList := [vn, vi (0 : Int)] })]⟩ ⟨[q56, q68, q65, q66, q25], 5⟩ ({ n := (21 : Nat), m := [((3 : Nat), rsl (5 : Nat) (0 : Nat) (Prod.fst y0) q105), ((9 : Nat), vi (↑(Prod.fst y0) : Int)), q26, q28, q48, q49, q29, q50, ((0 : Nat), Value.agg { toList := [vn, vi (0 : Int)] })] }) ({ h := [((5 : Nat), Blk.row false [IntKind.i64] (3 : Nat) (Prod.fst y0) q105 (Prod.snd (Prod.snd y0))), q59, q72, q69, q70, q32], next := (6 : Nat) })) ∧ ((((1 : Nat) ≤ Prod.fst y0) ∧ ((Prod.fst y0 ≤ Int.toNat (obP nw fw a)) ∧ (Prod.fst y0 ≤ Prod.fst (Prod.snd y0) + (1 : Nat)))) ∧ (∀ y1 : Nat, ((y1 < Prod.fst y0) → (@Eq Int (Prod.snd (Prod.snd y0) y1 (0 : Nat)) (a + (1 : Int) + (↑y1 : Int))))))))) ∧ ((∀ y0 : Nat, (((@Eq Nat (y0) ((0 : Nat))) ∧ q20) → (T0 ∧ (∃ y1 : Value, (∃ y2 : List Blk, ((Go.Rx.Found 1 (Value.tuple { toList := [vn, vi (7 : Int)] }) ({ h := [q59, q72, q69, q70, q32], next := (5 : Nat) }) (y1) (y2)) ∧ (K y1 y2))))))) ∧ (∀ y0 : Nat × Nat × RF, let q104 := (Prod.fst (Prod.snd y0) + (1 : Nat)); (((((1 : Nat) ≤ Prod.fst y0) ∧ ((Prod.fst y0 ≤ Int.toNat (obP nw fw a)) ∧ (Prod.fst y0 ≤ Prod.fst (Prod.snd y0) + (1 : Nat)))) ∧ (∀ y1 : Nat, ((y1 < Prod.fst y0) → (@Eq Int (Prod.snd (Prod.snd y0) y1 (0 : Nat)) (a + (1 : Int) + (↑y1 : Int)))))) → (T0 ∧ (∃ y1 : Value, (∃ y2 : List Blk, ((Go.Rx.Found 1 (Value.tuple { toList := [rsl (5 : Nat) (0 : Nat) (Prod.fst y0) q104, vi (7 : Int)] }) ({ h := [((5 : Nat), Blk.row false [IntKind.i64] (3 : Nat) (Prod.fst y0) q104 (Prod.snd (Prod.snd y0))), q59, q72, q69, q70, q32], next := (6 : Nat) }) (y1) (y2)) ∧ (K y1 y2)))))))))))); let q84 := (t9 (t4 (q21 ∧ (((∃ y0 : Nat, ((Go.Rx.Sub 5 [q2] ⟨21, [q17, q18, q22, q36, q37, q23, q24, q38, (0, Value.agg { toList := [vn, vi (0 : Int)] })]⟩ ⟨[q55, q67, q62, q65, q66, q25], 6⟩ ({ n := (21 : Nat), m := [q27, q26, q28, q45, q46, q30, q29, q47, ((0 : Nat), Value.agg { toList := [vn, vi (0 : Int)] })] }) ({ h := [q58, q71, q63, q69, q70, q32], next := (6 : Nat) })) ∧ ((@Eq Nat (y0) ((0 : Nat))) ∧ q20))) ∨ (∃ y0 : Nat × Nat × RF, let q88 := (Prod.fst (Prod.snd y0) + (1 : Nat)); ((Go.Rx.Sub 5 [q2, q3] ⟨21, [q17, q18, q22, q36, q37, q23, q24, q38, (0, Value.agg { toList := [vn, vi (0 : Int)] })]⟩ ⟨[q55, q67, q62, q65, q66, q25], 6⟩ ({ n := (21 : Nat), m := [((3 : Nat), rsl (6 : Nat) (0 : Nat) (Prod.fst y0) q88), ((9 : Nat), vi (↑(Prod.fst y0) : Int)), q26, q28, q45, q46, q29, q47, ((0 : Nat), Value.agg { toList := [vn, vi (0 : Int)] })] }) ({ h := [((6 : Nat), Blk.row false [IntKind.i64] (3 : Nat) (Prod.fst y0) q88 (Prod.snd (Prod.snd y0))), q58, q71, q63, q69, q70, q32], next := (7 : Nat) })) ∧ ((((1 : Nat) ≤ Prod.fst y0) ∧ ((Prod.fst y0 ≤ Int.toNat (obP nw fw a)) ∧ (Prod.fst y0 ≤ Prod.fst (Prod.snd y0) + (1 : Nat)))) ∧ (∀ y1 : Nat, ((y1 < Prod.fst y0) → (@Eq Int (Prod.snd (Prod.snd y0) y1 (0 : Nat)) (a + (1 : Int) + (↑y1 : Int))))))))) ∧ ((∀ y0 : Nat, (((@Eq Nat (y0) ((0 : Nat))) ∧ q20) → (T0 ∧ (∃ y1 : Value, (∃ y2 : List Blk, ((Go.Rx.Found 1 (Value.tuple { toList := [vn, vi (6 : Int)] }) ({ h := [q58, q71, q63, q69, q70, q32], next := (6 : Nat) }) (y1) (y2)) ∧ (K y1 y2))))))) ∧ (∀ y0 : Nat × Nat × RF, let q87 := (Prod.fst (Prod.snd y0) + (1 : Nat)); (((((1 : Nat) ≤ Prod.fst y0) ∧ ((Prod.fst y0 ≤ Int.toNat (obP nw fw a)) ∧ (Prod.fst y0 ≤ Prod.fst (Prod.snd y0) + (1 : Nat)))) ∧ (∀ y1 : Nat, ((y1 < Prod.fst y0) → (@Eq Int (Prod.snd (Prod.snd y0) y1 (0 : Nat)) (a + (1 : Int) + (↑y1 : Int)))))) → (T0 ∧ (∃ y1 : Value, (∃ y2 : List Blk, ((Go.Rx.Found 1 (Value.tuple { toList := [rsl (6 : Nat) (0 : Nat) (Prod.fst y0) q87, vi (6 : Int)] }) ({ h := [((6 : Nat), Blk.row false [IntKind.i64] (3 : Nat) (Prod.fst y0) q87 (Prod.snd (Prod.snd y0))), q58, q71, q63, q69, q70, q32], next := (7 : Nat) }) (y1) (y2)) ∧ (K y1 y2)))))))))))); (t2 (((0 : Nat) + nw ≤ nw) ∧ ((q14 ∧ ((nw ≤ (100000 : Nat)) ∧ (nw ≤ cw))) ∧ (((@Eq (List IntKind) ([IntKind.u64]) ([IntKind.u64])) ∧ ((@Eq Nat (nw) (nw)) ∧ (@Eq Nat (cw) (cw)))) ∧ (q7 ∧ ((True) ∧ (T0 ∧ (if (@Eq Int (arE nw fw) ((0 : Int))) then (t2 (if (a < (1 : Int)) then q83 else (q21 ∧ (T0 ∧ (if ((↑nw : Int) ≤ a) then q83 else ((q21 ∧ q13) ∧ ((((0 : Int) ≤ a) ∧ (a < (↑nw : Int))) ∧ ((Int.toNat a < nw) ∧ (T0 ∧ (q7 ∧ ((((0 : Int) ≤ fw (Int.toNat a) (0 : Nat)) ∧ (fw (Int.toNat a) (0 : Nat) ≤ (18446744073709551615 : Int))) ∧ (t3 (if (@Eq Int (hsE q10) ((0 : Int))) then (t3 (((q12 ≤ hsP q10 + hsR q10) ∧ (hsP q10 + hsR q10 ≤ q9)) ∧ (q21 ∧ (T0 ∧ (((q12 ≤ (↑nw : Int) - a) ∧ ((↑nw : Int) - a ≤ q9)) ∧ (T0 ∧ (if ((↑nw : Int) - a ≤ hsP q10 + hsR q10) then q84 else (T0 ∧ (((q12 ≤ a + (1 : Int)) ∧ (a + (1 : Int) ≤ q9)) ∧ (t2 (((q12 ≤ a + (1 : Int) + hsP q10) ∧ (a + (1 : Int) + hsP q10 ≤ q9)) ∧ (t2 (((q12 ≤ a + (1 : Int) + hsP q10 + hsR q10) ∧ (a + (1 : Int) + hsP q10 + hsR q10 ≤ q9)) ∧ (t8 (q21 ∧ (t4 (q13 ∧ ((((0 : Int) ≤ a + (1 : Int)) ∧ ((a + (1 : Int) ≤ a + (1 : Int) + hsP q10) ∧ ((a + (1 : Int) + hsP q10 ≤ a + (1 : Int) + hsP q10) ∧ (a + (1 : Int) + hsP q10 ≤ (↑cw : Int))))) ∧ ((@Eq Int q31 q31) ∧ (t8 (q21 ∧ (t4 (q13 ∧ ((((0 : Int) ≤ a + (1 : Int) + hsP q10) ∧ ((a + (1 : Int) + hsP q10 ≤ a + (1 : Int) + hsP q10 + hsR q10) ∧ ((a + (1 : Int) + hsP q10 + hsR q10 ≤ a + (1 : Int) + hsP q10 + hsR q10) ∧ (a + (1 : Int) + hsP q10 + hsR q10 ≤ (↑cw : Int))))) ∧ ((@Eq Int q52 q52) ∧ (t9 (t7 (q21 ∧ (((∃ y0 : Nat, ((Go.Rx.Sub 5 [q2] ⟨21, [q17, q60, q73, q36, q37, q23, q24, q38, (0, Value.agg { toList := [Value.slice (some { block := (0 : Nat), off := (0 : Nat), spot := some (Nat.succ (Nat.succ (Int.toNat (a + (1 : Int))))) }) q51 q51, vi (a + (1 : Int))] })]⟩ ⟨[q75, q77, q62, q78, q79, q25], 6⟩ ({ n := (21 : Nat), m := [q27, q61, q74, q45, q46, q30, q29, q47, ((0 : Nat), Value.agg { toList := [Value.slice (some { block := (0 : Nat), off := (0 : Nat), spot := some (Nat.succ (Nat.succ (Int.toNat (a + (1 : Int))))) }) q51 q51, vi (a + (1 : Int))] })] }) ({ h := [q76, q80, q63, q81, q82, q32], next := (6 : Nat) })) ∧ ((@Eq Nat (y0) ((0 : Nat))) ∧ q20))) ∨ (∃ y0 : Nat × Nat × RF, let q103 := (Prod.fst (Prod.snd y0) + (1 : Nat)); ((Go.Rx.Sub 5 [q2, q3] ⟨21, [q17, q60, q73, q36, q37, q23, q24, q38, (0, Value.agg { toList := [Value.slice (some { block := (0 : Nat), off := (0 : Nat), spot := some (Nat.succ (Nat.succ (Int.toNat (a + (1 : Int))))) }) q51 q51, vi (a + (1 : Int))] })]⟩ ⟨[q75, q77, q62, q78, q79, q25], 6⟩ ({ n := (21 : Nat), m := [((3 : Nat), rsl (6 : Nat) (0 : Nat) (Prod.fst y0) q103), ((9 : Nat), vi (↑(Prod.fst y0) : Int)), q61, q74, q45, q46, q29, q47, ((0 : Nat), Value.agg { toList := [Value.slice (some { block := (0 : Nat), off := (0 : Nat), spot := some (Nat.succ (Nat.succ (Int.toNat (a + (1 : Int))))) }) q51 q51, vi (a + (1 : Int))] })] }) ({ h := [((6 : Nat), Blk.row false [IntKind.i64] (3 : Nat) (Prod.fst y0) q103 (Prod.snd (Prod.snd y0))), q76, q80, q63, q81, q82, q32], next := (7 : Nat) })) ∧ ((((1 : Nat) ≤ Prod.fst y0) ∧ ((Prod.fst y0 ≤ Int.toNat (obP nw fw a)) ∧ (Prod.fst y0 ≤ Prod.fst (Prod.snd y0) + (1 : Nat)))) ∧ (∀ y1 : Nat, ((y1 < Prod.fst y0) → (@Eq Int (Prod.snd (Prod.snd y0) y1 (0 : Nat)) (a + (1 : Int) + (↑y1 : Int))))))))) ∧ ((∀ y0 : Nat, (((@Eq Nat (y0) ((0 : Nat))) ∧ q20) → (T0 ∧ (if ((0 : Int) < q53) then (t2 (((q12 ≤ a + (1 : Int) + (0 : Int)) ∧ (a + (1 : Int) + (0 : Int) ≤ q9)) ∧ (q21 ∧ (t4 (q21 ∧ (q21 ∧ (t4 (q6 ∧ (q11 ∧ (∀ y1 : Nat, let q99 := (y1 - (1 : Nat) + (1 : Nat)); let q100 := (3, rsl (7 : Nat) (0 : Nat) (1 : Nat) q99); (((1 : Nat) ≤ y1) → (T0 ∧ (((q12 ≤ (0 : Int) + (1 : Int)) ∧ ((0 : Int) + (1 : Int) ≤ q9)) ∧ ((∃ y2 : Nat, ((Go.Rx.Sub 5 [q2] ⟨21, [q19, q100, q60, q73, q36, q37, q24, q38, (0, Value.agg { toList := [Value.slice (some { block := (0 : Nat), off := (0 : Nat), spot := some (Nat.succ (Nat.succ (Int.toNat (a + (1 : Int))))) }) q51 q51, vi (a + (1 : Int))] })]⟩ ⟨[q75, q77, q62, q78, q79, q25], 8⟩ ({ n := (21 : Nat), m := [q27, q61, q74, q45, q46, q30, q29, q47, ((0 : Nat), Value.agg { toList := [Value.slice (some { block := (0 : Nat), off := (0 : Nat), spot := some (Nat.succ (Nat.succ (Int.toNat (a + (1 : Int))))) }) q51 q51, vi (a + (1 : Int))] })] }) ({ h := [q76, q80, q63, q81, q82, q32], next := (6 : Nat) })) ∧ (((@Eq Nat (y2) ((0 : Nat))) ∧ q20) ∧ (Int.toNat (obP nw fw a) < Int.toNat (obP nw fw a))))) ∨ ((∃ y2 : Nat × Nat × RF, let q102 := (Prod.fst (Prod.snd y2) + (1 : Nat)); ((Go.Rx.Sub 5 [q2, q5] ⟨21, [q19, q100, q60, q73, q36, q37, q24, q38, (0, Value.agg { toList := [Value.slice (some { block := (0 : Nat), off := (0 : Nat), spot := some (Nat.succ (Nat.succ (Int.toNat (a + (1 : Int))))) }) q51 q51, vi (a + (1 : Int))] })]⟩ ⟨[(7, Blk.row false [IntKind.i64] (3 : Nat) (1 : Nat) q99 (appF (fun x x_1 ↦ (0 : Int)) (0 : Nat) (litF q8 ([a + (1 : Int) + (0 : Int)] ++ [])) (0 : Nat))), q75, q77, q62, q78, q79, q25], 8⟩ ({ n := (21 : Nat), m := [((3 : Nat), rsl (6 : Nat) (0 : Nat) (Prod.fst y2) q102), ((9 : Nat), vi (↑(Prod.fst y2) : Int)), q61, q74, q45, q46, q29, q47, ((0 : Nat), Value.agg { toList := [Value.slice (some { block := (0 : Nat), off := (0 : Nat), spot := some (Nat.succ (Nat.succ (Int.toNat (a + (1 : Int))))) }) q51 q51, vi (a + (1 : Int))] })] }) ({ h := [((6 : Nat), Blk.row false [IntKind.i64] (3 : Nat) (Prod.fst y2) q102 (Prod.snd (Prod.snd y2))), q76, q80, q63, q81, q82, q32], next := (7 : Nat) })) ∧ (((((1 : Nat) ≤ Prod.fst y2) ∧ ((Prod.fst y2 ≤ Int.toNat (obP nw fw a)) ∧ (Prod.fst y2 ≤ Prod.fst (Prod.snd y2) + (1 : Nat)))) ∧ (∀ y3 : Nat, ((y3 < Prod.fst y2) → (@Eq Int (Prod.snd (Prod.snd y2) y3 (0 : Nat)) (a + (1 : Int) + (↑y3 : Int)))))) ∧ (Int.toNat (obP nw fw a) - Prod.fst y2 < Int.toNat (obP nw fw a))))) ∨ (∃ y2 : Nat × Nat × RF, let q101 := (Prod.fst (Prod.snd y2) + (1 : Nat)); ((Go.Rx.Sub 5 [q2, q4] ⟨21, [q19, q100, q60, q73, q36, q37, q24, q38, (0, Value.agg { toList := [Value.slice (some { block := (0 : Nat), off := (0 : Nat), spot := some (Nat.succ (Nat.succ (Int.toNat (a + (1 : Int))))) }) q51 q51, vi (a + (1 : Int))] })]⟩ ⟨[q75, q77, q62, q78, q79, q25], 8⟩ ({ n := (21 : Nat), m := [((3 : Nat), rsl (6 : Nat) (0 : Nat) (Prod.fst y2) q101), ((9 : Nat), vi (↑(Prod.fst y2) : Int)), q61, q74, q45, q46, q29, q47, ((0 : Nat), Value.agg { toList := [Value.slice (some { block := (0 : Nat), off := (0 : Nat), spot := some (Nat.succ (Nat.succ (Int.toNat (a + (1 : Int))))) }) q51 q51, vi (a + (1 : Int))] })] }) ({ h := [((6 : Nat), Blk.row false [IntKind.i64] (3 : Nat) (Prod.fst y2) q101 (Prod.snd (Prod.snd y2))), q76, q80, q63, q81, q82, q32], next := (7 : Nat) })) ∧ (((((1 : Nat) ≤ Prod.fst y2) ∧ ((Prod.fst y2 ≤ Int.toNat (obP nw fw a)) ∧ (Prod.fst y2 ≤ Prod.fst (Prod.snd y2) + (1 : Nat)))) ∧ (∀ y3 : Nat, ((y3 < Prod.fst y2) → (@Eq Int (Prod.snd (Prod.snd y2) y3 (0 : Nat)) (a + (1 : Int) + (↑y3 : Int)))))) ∧ (Int.toNat (obP nw fw a) - Prod.fst y2 < Int.toNat (obP nw fw a)))))))))))))))))))) else (∃ y1 : Value, (∃ y2 : List Blk, ((Go.Rx.Found 1 (Value.tuple { toList := [vn, vi (0 : Int)] }) ({ h := [q76, q80, q63, q81, q82, q32], next := (6 : Nat) }) (y1) (y2)) ∧ (K y1 y2)))))))) ∧ (∀ y0 : Nat × Nat × RF, let q89 := (↑(Prod.fst y0) : Int); let q90 := (Prod.snd (Prod.snd y0)); let q91 := (Prod.fst y0 + (1 : Nat)); let q92 := (Prod.fst (Prod.snd y0) + (1 : Nat)); let q93 := (9, vi (q89 + (1 : Int))); let q94 := (litF q8 ([a + (1 : Int) + q89] ++ [])); (((((1 : Nat) ≤ Prod.fst y0) ∧ ((Prod.fst y0 ≤ Int.toNat (obP nw fw a)) ∧ (Prod.fst y0 ≤ Prod.fst (Prod.snd y0) + (1 : Nat)))) ∧ (∀ y1 : Nat, ((y1 < Prod.fst y0) → (@Eq Int (Prod.snd (Prod.snd y0) y1 (0 : Nat)) (a + (1 : Int) + (↑y1 : Int)))))) → (T0 ∧ (if (q89 < q53) then (t2 (((q12 ≤ a + (1 : Int) + q89) ∧ (a + (1 : Int) + q89 ≤ q9)) ∧ (q21 ∧ (t4 (q21 ∧ (q21 ∧ (t4 (q6 ∧ (q11 ∧ (T0 ∧ ((T0 ∧ ((false = false) ∧ (q14 ∧ ((@Eq Nat (Prod.fst y0) (Prod.fst y0)) ∧ ((@Eq Nat q92 q92) ∧ (Prod.fst y0 + (1 : Nat) ≤ (100000 : Nat))))))) ∧ (∀ y1 : Nat, let q95 := (y1 - (1 : Nat) + (1 : Nat)); let q96 := (3, rsl (8 : Nat) (0 : Nat) q91 q95); ((Prod.fst y0 + (1 : Nat) ≤ y1) → (T0 ∧ (((q12 ≤ q89 + (1 : Int)) ∧ (q89 + (1 : Int) ≤ q9)) ∧ ((∃ y2 : Nat, ((Go.Rx.Sub 5 [q2] ⟨21, [q93, q96, q60, q73, q36, q37, q24, q38, (0, Value.agg { toList := [Value.slice (some { block := (0 : Nat), off := (0 : Nat), spot := some (Nat.succ (Nat.succ (Int.toNat (a + (1 : Int))))) }) q51 q51, vi (a + (1 : Int))] })]⟩ ⟨[q75, q77, q62, q78, q79, q25], 9⟩ ({ n := (21 : Nat), m := [q27, q61, q74, q45, q46, q30, q29, q47, ((0 : Nat), Value.agg { toList := [Value.slice (some { block := (0 : Nat), off := (0 : Nat), spot := some (Nat.succ (Nat.succ (Int.toNat (a + (1 : Int))))) }) q51 q51, vi (a + (1 : Int))] })] }) ({ h := [q76, q80, q63, q81, q82, q32], next := (6 : Nat) })) ∧ (((@Eq Nat (y2) ((0 : Nat))) ∧ q20) ∧ (Int.toNat (obP nw fw a) < Int.toNat (obP nw fw a) - Prod.fst y0)))) ∨ ((∃ y2 : Nat × Nat × RF, let q98 := (Prod.fst (Prod.snd y2) + (1 : Nat)); ((Go.Rx.Sub 5 [q2, q5] ⟨21, [q93, q96, q60, q73, q36, q37, q24, q38, (0, Value.agg { toList := [Value.slice (some { block := (0 : Nat), off := (0 : Nat), spot := some (Nat.succ (Nat.succ (Int.toNat (a + (1 : Int))))) }) q51 q51, vi (a + (1 : Int))] })]⟩ ⟨[(7, Blk.row false [IntKind.i64] (3 : Nat) (1 : Nat) (1 : Nat) q94), q75, q77, q62, q78, q79, q25], 9⟩ ({ n := (21 : Nat), m := [((3 : Nat), rsl (6 : Nat) (0 : Nat) (Prod.fst y2) q98), ((9 : Nat), vi (↑(Prod.fst y2) : Int)), q61, q74, q45, q46, q29, q47, ((0 : Nat), Value.agg { toList := [Value.slice (some { block := (0 : Nat), off := (0 : Nat), spot := some (Nat.succ (Nat.succ (Int.toNat (a + (1 : Int))))) }) q51 q51, vi (a + (1 : Int))] })] }) ({ h := [((6 : Nat), Blk.row false [IntKind.i64] (3 : Nat) (Prod.fst y2) q98 (Prod.snd (Prod.snd y2))), q76, q80, q63, q81, q82, q32], next := (7 : Nat) })) ∧ (((((1 : Nat) ≤ Prod.fst y2) ∧ ((Prod.fst y2 ≤ Int.toNat (obP nw fw a)) ∧ (Prod.fst y2 ≤ Prod.fst (Prod.snd y2) + (1 : Nat)))) ∧ (∀ y3 : Nat, ((y3 < Prod.fst y2) → (@Eq Int (Prod.snd (Prod.snd y2) y3 (0 : Nat)) (a + (1 : Int) + (↑y3 : Int)))))) ∧ (Int.toNat (obP nw fw a) - Prod.fst y2 < Int.toNat (obP nw fw a) - Prod.fst y0)))) ∨ (∃ y2 : Nat × Nat × RF, let q97 := (Prod.fst (Prod.snd y2) + (1 : Nat)); ((Go.Rx.Sub 5 [q2, q4] ⟨21, [q93, q96, q60, q73, q36, q37, q24, q38, (0, Value.agg { toList := [Value.slice (some { block := (0 : Nat), off := (0 : Nat), spot := some (Nat.succ (Nat.succ (Int.toNat (a + (1 : Int))))) }) q51 q51, vi (a + (1 : Int))] })]⟩ ⟨[(8, Blk.row false [IntKind.i64] (3 : Nat) q91 q95 (appF q90 (Prod.fst y0) q94 (0 : Nat))), q75, q77, q62, q78, q79, q25], 9⟩ ({ n := (21 : Nat), m := [((3 : Nat), rsl (6 : Nat) (0 : Nat) (Prod.fst y2) q97), ((9 : Nat), vi (↑(Prod.fst y2) : Int)), q61, q74, q45, q46, q29, q47, ((0 : Nat), Value.agg { toList := [Value.slice (some { block := (0 : Nat), off := (0 : Nat), spot := some (Nat.succ (Nat.succ (Int.toNat (a + (1 : Int))))) }) q51 q51, vi (a + (1 : Int))] })] }) ({ h := [((6 : Nat), Blk.row false [IntKind.i64] (3 : Nat) (Prod.fst y2) q97 (Prod.snd (Prod.snd y2))), q76, q80, q63, q81, q82, q32], next := (7 : Nat) })) ∧ (((((1 : Nat) ≤ Prod.fst y2) ∧ ((Prod.fst y2 ≤ Int.toNat (obP nw fw a)) ∧ (Prod.fst y2 ≤ Prod.fst (Prod.snd y2) + (1 : Nat)))) ∧ (∀ y3 : Nat, ((y3 < Prod.fst y2) → (@Eq Int (Prod.snd (Prod.snd y2) y3 (0 : Nat)) (a + (1 : Int) + (↑y3 : Int)))))) ∧ (Int.toNat (obP nw fw a) - Prod.fst y2 < Int.toNat (obP nw fw a) - Prod.fst y0))))))))))))))))))))) else (∃ y1 : Value, (∃ y2 : List Blk, ((Go.Rx.Found 1 (Value.tuple { toList := [rsl (6 : Nat) (0 : Nat) (Prod.fst y0) q92, vi (0 : Int)] }) ({ h := [((6 : Nat), Blk.row false [IntKind.i64] (3 : Nat) (Prod.fst y0) q92 q90), q76, q80, q63, q81, q82, q32], next := (7 : Nat) }) (y1) (y2)) ∧ (K y1 y2)))))))))))))))))))))))))))))))))))))) else q84))))))))))))) else (t9 (T0 ∧ (q21 ∧ (((∃ y0 : Nat, ((Go.Rx.Sub 3 [q0] ⟨21, [q17, q18, q22, q33, q34, q23, q24, q35, (0, Value.agg { toList := [vn, vi (0 : Int)] })]⟩ ⟨[q54, q65, q66, q25], 4⟩ ({ n := (21 : Nat), m := [q27, q26, q28, q42, q43, q30, q29, q44, ((0 : Nat), Value.agg { toList := [vn, vi (0 : Int)] })] }) ({ h := [q57, q69, q70, q32], next := (4 : Nat) })) ∧ ((@Eq Nat (y0) ((0 : Nat))) ∧ q20))) ∨ (∃ y0 : Nat × Nat × RF, let q86 := (Prod.fst (Prod.snd y0) + (1 : Nat)); ((Go.Rx.Sub 3 [q0, q1] ⟨21, [q17, q18, q22, q33, q34, q23, q24, q35, (0, Value.agg { toList := [vn, vi (0 : Int)] })]⟩ ⟨[q54, q65, q66, q25], 4⟩ ({ n := (21 : Nat), m := [((3 : Nat), rsl (4 : Nat) (0 : Nat) (Prod.fst y0) q86), ((9 : Nat), vi (↑(Prod.fst y0) : Int)), q26, q28, q42, q43, q29, q44, ((0 : Nat), Value.agg { toList := [vn, vi (0 : Int)] })] }) ({ h := [((4 : Nat), Blk.row false [IntKind.i64] (3 : Nat) (Prod.fst y0) q86 (Prod.snd (Prod.snd y0))), q57, q69, q70, q32], next := (5 : Nat) })) ∧ ((((1 : Nat) ≤ Prod.fst y0) ∧ ((Prod.fst y0 ≤ Int.toNat (obP nw fw a)) ∧ (Prod.fst y0 ≤ Prod.fst (Prod.snd y0) + (1 : Nat)))) ∧ (∀ y1 : Nat, ((y1 < Prod.fst y0) → (@Eq Int (Prod.snd (Prod.snd y0) y1 (0 : Nat)) (a + (1 : Int) + (↑y1 : Int))))))))) ∧ ((∀ y0 : Nat, (((@Eq Nat (y0) ((0 : Nat))) ∧ q20) → (T0 ∧ (∃ y1 : Value, (∃ y2 : List Blk, ((Go.Rx.Found 1 (Value.tuple { toList := [vn, vi (arE nw fw)] }) ({ h := [q57, q69, q70, q32], next := (4 : Nat) }) (y1) (y2)) ∧ (K y1 y2))))))) ∧ (∀ y0 : Nat × Nat × RF, let q85 := (Prod.fst (Prod.snd y0) + (1 : Nat)); (((((1 : Nat) ≤ Prod.fst y0) ∧ ((Prod.fst y0 ≤ Int.toNat (obP nw fw a)) ∧ (Prod.fst y0 ≤ Prod.fst (Prod.snd y0) + (1 : Nat)))) ∧ (∀ y1 : Nat, ((y1 < Prod.fst y0) → (@Eq Int (Prod.snd (Prod.snd y0) y1 (0 : Nat)) (a + (1 : Int) + (↑y1 : Int)))))) → (T0 ∧ (∃ y1 : Value, (∃ y2 : List Blk, ((Go.Rx.Found 1 (Value.tuple { toList := [rsl (4 : Nat) (0 : Nat) (Prod.fst y0) q85, vi (arE nw fw)] }) ({ h := [((4 : Nat), Blk.row false [IntKind.i64] (3 : Nat) (Prod.fst y0) q85 (Prod.snd (Prod.snd y0))), q57, q69, q70, q32], next := (5 : Nat) }) (y1) (y2)) ∧ (K y1 y2))))))))))))))))))))
theorem slOR_rE (ew nw cw : Nat) (fw : RF) (a : Int) (K : Value → List Blk → Prop) : slOR_rV ew nw cw fw a K = bodyX (mk XO) (callI (mk XO) (fun f ar s0 k tt ss => bif Nat.beq f 96 && Nat.beq k 3 then some [{ α := Nat, T := fun _ => tt, S := fun _ => ss, I := fun k => k = 0 ∧ 0 ≤ (obP nw fw a).toNat, m := fun _ => (obP nw fw a).toNat, ρ0 := idR (s0.next) ss.next, ρ1 := [idR (s0.next) ss.next] }, { α := Nat × Nat × RF, T := fun k => ⟨tt.n, (3, rsl ss.next 0 k.1 (k.2.1 + 1)) :: (9, .int .i64 (k.1 : Int)) :: Rx.del (Rx.del tt.m 3) 9⟩, S := fun k => ⟨(ss.next, .row false [.i64] 3 k.1 (k.2.1 + 1) k.2.2) :: ss.h, ss.next + 1⟩, I := fun k => (1 ≤ k.1 ∧ k.1 ≤ (obP nw fw a).toNat ∧ k.1 ≤ k.2.1 + 1) ∧ ∀ i, i < k.1 → (k.2.2 i 0) = a + 1 + (i : Int), m := fun k => (obP nw fw a).toNat - k.1, ρ0 := (idR (s0.next) ss.next ++ [(ss.next, ss.next)]), ρ1 := [(idR (s0.next) ss.next ++ [(ss.next, ss.next + 1)]), (idR (s0.next) ss.next ++ [(ss.next, ss.next + 2)])] }] else some []) 9) (slOR_rA ew nw cw fw a) Try.f50 [rsl 0 0 nw cw, .int .i64 a] (stOf [.row true [.u64] ew nw cw fw]) (Fd 1 K) := by kernel_rfl
set_option tactic.hygienic false in
theorem slOR_rP (ew nw cw : Nat) (fw : RF) (a : Int) (K : Value → List Blk → Prop)  (hnw : nw ≤ 100000) (hcw : nw ≤ cw) (hU : Ok64 nw fw) (h1 : obE nw fw a = 0) (h2 : 0 < obP nw fw a) (h : ∀ cp, (obP nw fw a).toNat ≤ cp → K (.tuple ⟨[rsl 1 0 ((obP nw fw a).toNat) cp, .int .i64 (0)]⟩) [.row false [.i64] 3 ((obP nw fw a).toNat) cp (slF a)]) : slOR_rV ew nw cw fw a K := by
  unfold slOR_rV
  conv => zeta
  have z0 := ob_cases hU a
  have z1 := fun (h1 : 0 ≤ a) (h2 : a < nw) => hU.at h1 h2
  have z2 := fun (h1 : 0 ≤ a) (h2 : a < nw) => hs_bd (hU.at h1 h2).1
  repeat' (first | (with_reducible exact rfl) | (with_reducible exact trivial) | (with_reducible refine And.intro ?_ ?_) | (intro) | (with_reducible refine br_d (fun hq => ?_) (fun hq => ?_)) | (with_reducible refine br_nd (fun hq => ?_) (fun hq => ?_)) | (with_reducible refine br_intro (fun hq => ?_) (fun hq => ?_)) | (with_reducible refine if_both (fun hz => ?_) (fun hz => ?_)) | fail)
  all_goals try (rename Nat × Nat × RF => k; rename _ ∧ (∀ _ : Nat, _) => I; obtain ⟨k1, k2, k3⟩ := k; dsimp only at *; obtain ⟨⟨J1, J2, J3⟩, I2⟩ := I)
  all_goals first
    | (with_reducible assumption)
    | (refine (id ?_ : ∃ (v1 : Value) (news : List Blk), _)
       first
        | contradiction
        | exact .inl ⟨0, (by (refine And.intro (And.intro rfl (And.intro rfl (And.intro rfl rfl))) ?_; (repeat' (first | exact trivial | exact rfl | exact fun _ _ _ _ => rfl | refine And.intro ?_ ?_ | omega | fail)); done)), rfl, Nat.zero_le _⟩
        | exact ⟨0, (by (refine And.intro (And.intro rfl (And.intro rfl (And.intro rfl rfl))) ?_; (repeat' (first | exact trivial | exact rfl | exact fun _ _ _ _ => rfl | refine And.intro ?_ ?_ | omega | fail)); done)), rfl, Nat.zero_le _⟩
        | exact .inr (.inl ⟨(1, y1 - 1, appF (fun _ _ => 0) 0 (litF 1 [a + 1 + 0]) 0), (by (refine And.intro (And.intro rfl (And.intro rfl (And.intro rfl rfl))) ?_; (repeat' (first | exact trivial | exact rfl | exact fun _ _ _ _ => rfl | refine And.intro ?_ ?_ | omega | fail)); done)), ⟨⟨Nat.le_refl 1, by omega, by show 1 ≤ y1 - 1 + 1; omega⟩, app1P (P := fun i v => v = a + 1 + (i : Int)) (by omega)⟩, by show (obP nw fw a).toNat - 1 < (obP nw fw a).toNat; omega⟩)
        | exact .inr (.inr ⟨(k1 + 1, y1 - 1, appF k3 k1 (litF 1 [a + 1 + (k1 : Int)]) 0), (by (refine And.intro (And.intro rfl (And.intro rfl (And.intro rfl rfl))) ?_; (repeat' (first | exact trivial | exact rfl | exact fun _ _ _ _ => rfl | refine And.intro ?_ ?_ | omega | fail)); done)), ⟨⟨by show 1 ≤ k1 + 1; omega, by show k1 + 1 ≤ (obP nw fw a).toNat; omega, by show k1 + 1 ≤ y1 - 1 + 1; omega⟩, appSP (P := fun i v => v = a + 1 + (i : Int)) I2 (rfl)⟩, by show (obP nw fw a).toNat - (k1 + 1) < (obP nw fw a).toNat - k1; omega⟩)
        | (obtain rfl : k1 = (obP nw fw a).toNat := (by omega)
           exact fin1t rfl (fun i j hi hj => (by obtain rfl : j = 0 := (by simp at hj; omega)
                                                 exact (I2 i hi).symm)) (by kernel_rfl) (by kernel_rfl) (h _ (by omega)))
        | exact fin0 (by kernel_rfl) (by kernel_rfl) h
        | exact fin0 (by kernel_rfl) (by kernel_rfl) (fin0n (by omega) h)
        | (exfalso; omega)
       )
    | omega
    | contradiction
    | exact .inl ⟨0, (by (refine And.intro (And.intro rfl (And.intro rfl (And.intro rfl rfl))) ?_; (repeat' (first | exact trivial | exact rfl | exact fun _ _ _ _ => rfl | refine And.intro ?_ ?_ | omega | fail)); done)), rfl, Nat.zero_le _⟩
    | exact ⟨0, (by (refine And.intro (And.intro rfl (And.intro rfl (And.intro rfl rfl))) ?_; (repeat' (first | exact trivial | exact rfl | exact fun _ _ _ _ => rfl | refine And.intro ?_ ?_ | omega | fail)); done)), rfl, Nat.zero_le _⟩
    | exact .inr (.inl ⟨(1, y1 - 1, appF (fun _ _ => 0) 0 (litF 1 [a + 1 + 0]) 0), (by (refine And.intro (And.intro rfl (And.intro rfl (And.intro rfl rfl))) ?_; (repeat' (first | exact trivial | exact rfl | exact fun _ _ _ _ => rfl | refine And.intro ?_ ?_ | omega | fail)); done)), ⟨⟨Nat.le_refl 1, by omega, by show 1 ≤ y1 - 1 + 1; omega⟩, app1P (P := fun i v => v = a + 1 + (i : Int)) (by omega)⟩, by show (obP nw fw a).toNat - 1 < (obP nw fw a).toNat; omega⟩)
    | exact .inr (.inr ⟨(k1 + 1, y1 - 1, appF k3 k1 (litF 1 [a + 1 + (k1 : Int)]) 0), (by (refine And.intro (And.intro rfl (And.intro rfl (And.intro rfl rfl))) ?_; (repeat' (first | exact trivial | exact rfl | exact fun _ _ _ _ => rfl | refine And.intro ?_ ?_ | omega | fail)); done)), ⟨⟨by show 1 ≤ k1 + 1; omega, by show k1 + 1 ≤ (obP nw fw a).toNat; omega, by show k1 + 1 ≤ y1 - 1 + 1; omega⟩, appSP (P := fun i v => v = a + 1 + (i : Int)) I2 (rfl)⟩, by show (obP nw fw a).toNat - (k1 + 1) < (obP nw fw a).toNat - k1; omega⟩)
    | (obtain rfl : k1 = (obP nw fw a).toNat := (by omega)
       exact fin1t rfl (fun i j hi hj => (by obtain rfl : j = 0 := (by simp at hj; omega)
                                             exact (I2 i hi).symm)) (by kernel_rfl) (by kernel_rfl) (h _ (by omega)))
    | exact fin0 (by kernel_rfl) (by kernel_rfl) h
    | exact fin0 (by kernel_rfl) (by kernel_rfl) (fin0n (by omega) h)
    | (exfalso; omega)
theorem slOR_ok : BodyOk (mk XO) 9 Try.f50 slOR := by
  intro vs bs K hh hro
  clear hro
  unfold slOR at hh
  split at hh
  · rename_i vw a
    obtain ⟨ew, nw, cw, fw, btw, rfl, hnw, hcw, rfl, hh0⟩ := parseRQ_inv hh
    obtain ⟨rfl, ⟨hU, h1, h2⟩, hc⟩ := hh0
    exact ⟨_, _, cast (slOR_rE ew nw cw fw a K) (slOR_rP ew nw cw fw a K hnw hcw hU h1 h2 hc)⟩
  · exact hh.elim
theorem slOR_told : Told 50 (specOf slOR) := told (X := XO) XO_told (by kernel_rfl) (by kernel_rfl) (by kernel_rfl) slOR_ok
end Go.Proofs.Ytfgeoglegebncaa.Fr
namespace Go.Proofs.Ytfgeoglegebncaa.Fr
set_option maxRecDepth 100000
set_option maxHeartbeats 4000000
open Go.Rx
open Go.RowKit (Below)
set_option linter.unusedVariables false
def slKN : Con := fun vs bs K => match vs with
  | [vw, .int .i64 a] => parseQ [.u64] 0 vw bs fun nw fw j0 bs0 => bs0 = [] ∧ ((Ok64 nw fw) ∧ (¬ (obE nw fw a = 0 ∧ 0 < obP nw fw a))) ∧ (K (.tuple ⟨[.slice none 0 0, .int .i64 (obE nw fw a)]⟩) [])
  | _ => False

def slKN_nA (a : Int) : Ann := fun k tt ss => bif Nat.beq k 6 then some [{ α := Nat, T := fun _ => tt, S := fun _ => ss, I := fun k => k = 0 ∧ 0 ≤ (obP 0 zF a).toNat, m := fun _ => (obP 0 zF a).toNat, ρ0 := idR (0) ss.next, ρ1 := [idR (0) ss.next] }] else none
def slKN_rA (ew nw cw : Nat) (fw : RF) (a : Int) : Ann := fun k tt ss => bif Nat.beq k 6 then some [{ α := Nat, T := fun _ => tt, S := fun _ => ss, I := fun k => k = 0 ∧ 0 ≤ (obP nw fw a).toNat, m := fun _ => (obP nw fw a).toNat, ρ0 := idR (1) ss.next, ρ1 := [idR (1) ss.next] }] else none
def slKR : Con := fun vs bs K => match vs with
  | [vw, .int .i64 a] => parseRQ [.u64] 0 vw bs fun nw fw j0 bs0 => bs0 = [] ∧ ((Ok64 nw fw) ∧ (obE nw fw a = 0) ∧ (0 < obP nw fw a)) ∧ (∀ cp, (obP nw fw a).toNat ≤ cp → K (.tuple ⟨[rsl j0 0 ((obP nw fw a).toNat) cp, .int .i64 (0)]⟩) [.row false [.i64] 3 ((obP nw fw a).toNat) cp (slF a)])
  | _ => False

def slKR_rA (ew nw cw : Nat) (fw : RF) (a : Int) : Ann := fun k tt ss => bif Nat.beq k 6 then some [{ α := Nat, T := fun _ => tt, S := fun _ => ss, I := fun k => k = 0 ∧ 0 ≤ (obP nw fw a).toNat, m := fun _ => (obP nw fw a).toNat, ρ0 := idR (1) ss.next, ρ1 := [idR (1) ss.next] }, { α := Nat × Nat × RF, T := fun k => ⟨tt.n, (8, rsl ss.next 0 k.1 (k.2.1 + 1)) :: (9, .int .i64 (k.1 : Int)) :: Rx.del (Rx.del tt.m 8) 9⟩, S := fun k => ⟨(ss.next, .row false [.i64] 3 k.1 (k.2.1 + 1) k.2.2) :: ss.h, ss.next + 1⟩, I := fun k => (1 ≤ k.1 ∧ k.1 ≤ (obP nw fw a).toNat ∧ k.1 ≤ k.2.1 + 1) ∧ ∀ i, i < k.1 → (k.2.2 i 0) = a + 1 + (i : Int), m := fun k => (obP nw fw a).toNat - k.1, ρ0 := (idR (1) ss.next ++ [(ss.next, ss.next)]), ρ1 := [(idR (1) ss.next ++ [(ss.next, ss.next + 1)]), (idR (1) ss.next ++ [(ss.next, ss.next + 2)])] }] else none
def slKN_nV (a : Int) (K : Value → List Blk → Prop) : Prop := (t3 (eB ∧ ((Ok64 (0 : Nat) zF) ∧ (t3 (∃ y0 : Value, (∃ y1 : List Blk, ((Go.Rx.Found 0 (Value.tuple { toList := [vn, vi (obE (0 : Nat) zF a)] }) ({ h := [((0 : Nat), Blk.cells [vi (obP (0 : Nat) zF a), vi (obR (0 : Nat) zF a)] (60 : Nat))], next := (1 : Nat) }) (y0) (y1)) ∧ (K y0 y1))))))))
theorem slKN_nE (a : Int) (K : Value → List Blk → Prop) : slKN_nV a K = bodyX (mk XS) (callN (mk XS) 6) (slKN_nA a) Try.f51 [.slice none 0 0, .int .i64 a] (stOf []) (Fd 0 K) := by kernel_rfl
set_option tactic.hygienic false in
theorem slKN_nP (a : Int) (K : Value → List Blk → Prop)  (hU : Ok64 0 zF) (h1 : ¬ (obE 0 zF a = 0 ∧ 0 < obP 0 zF a)) (h : K (.tuple ⟨[.slice none 0 0, .int .i64 (obE 0 zF a)]⟩) []) : slKN_nV a K := by
  unfold slKN_nV
  have z0 := ob_cases hU a
  repeat' (first | (with_reducible exact rfl) | (with_reducible exact trivial) | (with_reducible refine And.intro ?_ ?_) | (intro) | (with_reducible refine br_d (fun hq => ?_) (fun hq => ?_)) | (with_reducible refine br_nd (fun hq => ?_) (fun hq => ?_)) | (with_reducible refine br_intro (fun hq => ?_) (fun hq => ?_)) | (with_reducible refine if_both (fun hz => ?_) (fun hz => ?_)) | fail)
  all_goals try (rename Nat × Nat × RF => k; rename _ ∧ (∀ _ : Nat, _) => I; obtain ⟨k1, k2, k3⟩ := k; dsimp only at *; obtain ⟨⟨J1, J2, J3⟩, I2⟩ := I)
  all_goals first
    | (with_reducible assumption)
    | (refine (id ?_ : ∃ (v1 : Value) (news : List Blk), _)
       first
        | contradiction
        | exact .inl ⟨0, (by (refine And.intro (And.intro rfl (And.intro rfl (And.intro rfl rfl))) ?_; (repeat' (first | exact trivial | exact rfl | exact fun _ _ _ _ => rfl | refine And.intro ?_ ?_ | omega | fail)); done)), rfl, Nat.zero_le _⟩
        | exact ⟨0, (by (refine And.intro (And.intro rfl (And.intro rfl (And.intro rfl rfl))) ?_; (repeat' (first | exact trivial | exact rfl | exact fun _ _ _ _ => rfl | refine And.intro ?_ ?_ | omega | fail)); done)), rfl, Nat.zero_le _⟩
        | exact .inr (.inl ⟨(1, y1 - 1, appF (fun _ _ => 0) 0 (litF 1 [a + 1 + 0]) 0), (by (refine And.intro (And.intro rfl (And.intro rfl (And.intro rfl rfl))) ?_; (repeat' (first | exact trivial | exact rfl | exact fun _ _ _ _ => rfl | refine And.intro ?_ ?_ | omega | fail)); done)), ⟨⟨Nat.le_refl 1, by omega, by show 1 ≤ y1 - 1 + 1; omega⟩, app1P (P := fun i v => v = a + 1 + (i : Int)) (by omega)⟩, by show (obP 0 zF a).toNat - 1 < (obP 0 zF a).toNat; omega⟩)
        | exact .inr (.inr ⟨(k1 + 1, y1 - 1, appF k3 k1 (litF 1 [a + 1 + (k1 : Int)]) 0), (by (refine And.intro (And.intro rfl (And.intro rfl (And.intro rfl rfl))) ?_; (repeat' (first | exact trivial | exact rfl | exact fun _ _ _ _ => rfl | refine And.intro ?_ ?_ | omega | fail)); done)), ⟨⟨by show 1 ≤ k1 + 1; omega, by show k1 + 1 ≤ (obP 0 zF a).toNat; omega, by show k1 + 1 ≤ y1 - 1 + 1; omega⟩, appSP (P := fun i v => v = a + 1 + (i : Int)) I2 (rfl)⟩, by show (obP 0 zF a).toNat - (k1 + 1) < (obP 0 zF a).toNat - k1; omega⟩)
        | (obtain rfl : k1 = (obP 0 zF a).toNat := (by omega)
           exact fin1t rfl (fun i j hi hj => (by obtain rfl : j = 0 := (by simp at hj; omega)
                                                 exact (I2 i hi).symm)) (by kernel_rfl) (by kernel_rfl) (h _ (by omega)))
        | exact fin0 (by kernel_rfl) (by kernel_rfl) h
        | exact fin0 (by kernel_rfl) (by kernel_rfl) (fin0n (by omega) h)
        | (exfalso; omega)
       )
    | omega
    | contradiction
    | exact .inl ⟨0, (by (refine And.intro (And.intro rfl (And.intro rfl (And.intro rfl rfl))) ?_; (repeat' (first | exact trivial | exact rfl | exact fun _ _ _ _ => rfl | refine And.intro ?_ ?_ | omega | fail)); done)), rfl, Nat.zero_le _⟩
    | exact ⟨0, (by (refine And.intro (And.intro rfl (And.intro rfl (And.intro rfl rfl))) ?_; (repeat' (first | exact trivial | exact rfl | exact fun _ _ _ _ => rfl | refine And.intro ?_ ?_ | omega | fail)); done)), rfl, Nat.zero_le _⟩
    | exact .inr (.inl ⟨(1, y1 - 1, appF (fun _ _ => 0) 0 (litF 1 [a + 1 + 0]) 0), (by (refine And.intro (And.intro rfl (And.intro rfl (And.intro rfl rfl))) ?_; (repeat' (first | exact trivial | exact rfl | exact fun _ _ _ _ => rfl | refine And.intro ?_ ?_ | omega | fail)); done)), ⟨⟨Nat.le_refl 1, by omega, by show 1 ≤ y1 - 1 + 1; omega⟩, app1P (P := fun i v => v = a + 1 + (i : Int)) (by omega)⟩, by show (obP 0 zF a).toNat - 1 < (obP 0 zF a).toNat; omega⟩)
    | exact .inr (.inr ⟨(k1 + 1, y1 - 1, appF k3 k1 (litF 1 [a + 1 + (k1 : Int)]) 0), (by (refine And.intro (And.intro rfl (And.intro rfl (And.intro rfl rfl))) ?_; (repeat' (first | exact trivial | exact rfl | exact fun _ _ _ _ => rfl | refine And.intro ?_ ?_ | omega | fail)); done)), ⟨⟨by show 1 ≤ k1 + 1; omega, by show k1 + 1 ≤ (obP 0 zF a).toNat; omega, by show k1 + 1 ≤ y1 - 1 + 1; omega⟩, appSP (P := fun i v => v = a + 1 + (i : Int)) I2 (rfl)⟩, by show (obP 0 zF a).toNat - (k1 + 1) < (obP 0 zF a).toNat - k1; omega⟩)
    | (obtain rfl : k1 = (obP 0 zF a).toNat := (by omega)
       exact fin1t rfl (fun i j hi hj => (by obtain rfl : j = 0 := (by simp at hj; omega)
                                             exact (I2 i hi).symm)) (by kernel_rfl) (by kernel_rfl) (h _ (by omega)))
    | exact fin0 (by kernel_rfl) (by kernel_rfl) h
    | exact fin0 (by kernel_rfl) (by kernel_rfl) (fin0n (by omega) h)
    | (exfalso; omega)
def slKN_rV (ew nw cw : Nat) (fw : RF) (a : Int) (K : Value → List Blk → Prop) : Prop := let q0 := ((1 : Nat), (1 : Nat)); let q1 := (17, Value.bool false); let q2 := (9223372036854775807 : Int); let q3 := (1, vi a); let q4 := (-9223372036854775808 : Int); let q5 := (12, vi a); let q6 := (0, rsl (0 : Nat) (0 : Nat) nw cw); let q7 := (11, rsl (0 : Nat) (0 : Nat) nw cw); let q8 := (5, vi (0 : Int)); let q9 := ((0 : Nat) ≤ Int.toNat (obP nw fw a)); let q10 := (7, vi (obE nw fw a)); let q11 := TS; let q12 := (16, vi (obE nw fw a)); let q13 := (15, vi (obE nw fw a)); let q14 := (4, vn); let q15 := (0, Blk.row true [IntKind.u64] ew nw cw fw); let q16 := (6, Value.pointer (some { block := (1 : Nat), off := (0 : Nat) })); let q17 := (1, Blk.cells [vi (obP nw fw a), vi (obR nw fw a)] (60 : Nat)); (T0 ∧ (((0 : Nat) + nw ≤ nw) ∧ (T0 ∧ (((@Eq Nat ((0 : Nat)) ((0 : Nat))) ∧ ((nw ≤ (100000 : Nat)) ∧ (nw ≤ cw))) ∧ (((@Eq (List IntKind) ([IntKind.u64]) ([IntKind.u64])) ∧ ((@Eq Nat (nw) (nw)) ∧ (@Eq Nat (cw) (cw)))) ∧ (eB ∧ ((Ok64 nw fw) ∧ (t3 (if (@Eq Int (obE nw fw a) ((0 : Int))) then ((∃ y0 : Nat, ((Go.Rx.Sub 1 [q0] ⟨33, [(9, vi (0 : Int)), (8, vn), q1, q12, q10, q16, q13, (14, Value.agg { toList := [vi (obP nw fw a), vi (obR nw fw a)] }), (10, Value.tuple { toList := [Value.agg { toList := [vi (obP nw fw a), vi (obR nw fw a)] }, vi (obE nw fw a)] }), (13, Value.tuple { toList := [Value.agg { toList := [vi (obP nw fw a), vi (obR nw fw a)] }, vi (obE nw fw a)] }), q5, q7, q8, q14, q6, q3]⟩ ⟨[q17, q15], 2⟩ ({ n := (33 : Nat), m := [((9 : Nat), vi (0 : Int)), ((8 : Nat), vn), ((17 : Nat), Value.bool false), ((16 : Nat), vi (obE nw fw a)), ((7 : Nat), vi (obE nw fw a)), ((6 : Nat), Value.pointer (some { block := (1 : Nat), off := (0 : Nat) })), ((15 : Nat), vi (obE nw fw a)), ((14 : Nat), Value.agg { toList := [vi (obP nw fw a), vi (obR nw fw a)] }), ((10 : Nat), Value.tuple { toList := [Value.agg { toList := [vi (obP nw fw a), vi (obR nw fw a)] }, vi (obE nw fw a)] }), ((13 : Nat), Value.tuple { toList := [Value.agg { toList := [vi (obP nw fw a), vi (obR nw fw a)] }, vi (obE nw fw a)] }), ((12 : Nat), vi a), ((11 : Nat), rsl (0 : Nat) (0 : Nat) nw cw), ((5 : Nat), vi (0 : Int)), ((4 : Nat), vn), ((0 : Nat), rsl (0 : Nat) (0 : Nat) nw cw), ((1 : Nat), vi a)] }) ({ h := [((1 : Nat), Blk.cells [vi (obP nw fw a), vi (obR nw fw a)] (60 : Nat)), ((0 : Nat), Blk.row true [IntKind.u64] ew nw cw fw)], next := (2 : Nat) })) ∧ ((@Eq Nat (y0) ((0 : Nat))) ∧ q9))) ∧ (∀ y0 : Nat, (((@Eq Nat (y0) ((0 : Nat))) ∧ q9) → (t2 (if ((0 : Int) < obP nw fw a) then (T0 ∧ (((q4 ≤ a + (1 : Int)) ∧ (a + (1 : Int) ≤ q2)) ∧ (T0 ∧ (((q4 ≤ a + (1 : Int) + (0 : Int)) ∧ (a + (1 : Int) + (0 : Int) ≤ q2)) ∧ (q11 ∧ (t4 (q11 ∧ (q11 ∧ (t4 (((1 : Nat) ≤ (1 : Nat)) ∧ (((1 : Nat) ≤ (100000 : Nat)) ∧ (∀ y1 : Nat, (((1 : Nat) ≤ y1) → (T0 ∧ (((q4 ≤ (0 : Int) + (1 : Int)) ∧ ((0 : Int) + (1 : Int) ≤ q2)) ∧ (∃ y2 : Nat, ((Go.Rx.Sub 1 [q0] ⟨33, [(9, vi (1 : Int)), (8, rsl (3 : Nat) (0 : Nat) (1 : Nat) (y1 - (1 : Nat) + (1 : Nat))), q1, q12, q10, q16, q13, (14, Value.agg { toList := [vi (obP nw fw a), vi (obR nw fw a)] }), (10, Value.tuple { toList := [Value.agg { toList := [vi (obP nw fw a), vi (obR nw fw a)] }, vi (obE nw fw a)] }), (13, Value.tuple { toList := [Value.agg { toList := [vi (obP nw fw a), vi (obR nw fw a)] }, vi (obE nw fw a)] }), q5, q7, q8, q14, q6, q3]⟩ ⟨[q17, q15], 4⟩ ({ n := (33 : Nat), m := [((9 : Nat), vi (0 : Int)), ((8 : Nat), vn), ((17 : Nat), Value.bool false), ((16 : Nat), vi (obE nw fw a)), ((7 : Nat), vi (obE nw fw a)), ((6 : Nat), Value.pointer (some { block := (1 : Nat), off := (0 : Nat) })), ((15 : Nat), vi (obE nw fw a)), ((14 : Nat), Value.agg { toList := [vi (obP nw fw a), vi (obR nw fw a)] }), ((10 : Nat), Value.tuple { toList := [Value.agg { toList := [vi (obP nw fw a), vi (obR nw fw a)] }, vi (obE nw fw a)] }), ((13 : Nat), Value.tuple { toList := [Value.agg { toList := [vi (obP nw fw a), vi (obR nw fw a)] }, vi (obE nw fw a)] }), ((12 : Nat), vi a), ((11 : Nat), rsl (0 : Nat) (0 : Nat) nw cw), ((5 : Nat), vi (0 : Int)), ((4 : Nat), vn), ((0 : Nat), rsl (0 : Nat) (0 : Nat) nw cw), ((1 : Nat), vi a)] }) ({ h := [((1 : Nat), Blk.cells [vi (obP nw fw a), vi (obR nw fw a)] (60 : Nat)), ((0 : Nat), Blk.row true [IntKind.u64] ew nw cw fw)], next := (2 : Nat) })) ∧ (((@Eq Nat (y2) ((0 : Nat))) ∧ q9) ∧ (Int.toNat (obP nw fw a) < Int.toNat (obP nw fw a)))))))))))))))))))) else (∃ y1 : Value, (∃ y2 : List Blk, ((Go.Rx.Found 1 (Value.tuple { toList := [vn, vi (0 : Int)] }) ({ h := [((1 : Nat), Blk.cells [vi (obP nw fw a), vi (obR nw fw a)] (60 : Nat)), ((0 : Nat), Blk.row true [IntKind.u64] ew nw cw fw)], next := (2 : Nat) }) (y1) (y2)) ∧ (K y1 y2))))))))) else (∃ y0 : Value, (∃ y1 : List Blk, ((Go.Rx.Found 1 (Value.tuple { toList := [vn, vi (obE nw fw a)] }) ({ h := [((1 : Nat), Blk.cells [vi (obP nw fw a), vi (obR nw fw a)] (60 : Nat)), ((0 : Nat), Blk.row true [IntKind.u64] ew nw cw fw)], next := (2 : Nat) }) (y0) (y1)) ∧ (K y0 y1)))))))))))))
theorem slKN_rE (ew nw cw : Nat) (fw : RF) (a : Int) (K : Value → List Blk → Prop) : slKN_rV ew nw cw fw a K = bodyX (mk XS) (callN (mk XS) 6) (slKN_rA ew nw cw fw a) Try.f51 [rsl 0 0 nw cw, .int .i64 a] (stOf [.row true [.u64] ew nw cw fw]) (Fd 1 K) := by kernel_rfl
set_option tactic.hygienic false in
theorem slKN_rP (ew nw cw : Nat) (fw : RF) (a : Int) (K : Value → List Blk → Prop)  (hnw : nw ≤ 100000) (hcw : nw ≤ cw) (hU : Ok64 nw fw) (h1 : ¬ (obE nw fw a = 0 ∧ 0 < obP nw fw a)) (h : K (.tuple ⟨[.slice none 0 0, .int .i64 (obE nw fw a)]⟩) []) : slKN_rV ew nw cw fw a K := by
  unfold slKN_rV
  conv => zeta
  have z0 := ob_cases hU a
  repeat' (first | (with_reducible exact rfl) | (with_reducible exact trivial) | (with_reducible refine And.intro ?_ ?_) | (intro) | (with_reducible refine br_d (fun hq => ?_) (fun hq => ?_)) | (with_reducible refine br_nd (fun hq => ?_) (fun hq => ?_)) | (with_reducible refine br_intro (fun hq => ?_) (fun hq => ?_)) | (with_reducible refine if_both (fun hz => ?_) (fun hz => ?_)) | fail)
  all_goals try (rename Nat × Nat × RF => k; rename _ ∧ (∀ _ : Nat, _) => I; obtain ⟨k1, k2, k3⟩ := k; dsimp only at *; obtain ⟨⟨J1, J2, J3⟩, I2⟩ := I)
  all_goals first
    | (with_reducible assumption)
    | (refine (id ?_ : ∃ (v1 : Value) (news : List Blk), _)
       first
        | contradiction
        | exact .inl ⟨0, (by (refine And.intro (And.intro rfl (And.intro rfl (And.intro rfl rfl))) ?_; (repeat' (first | exact trivial | exact rfl | exact fun _ _ _ _ => rfl | refine And.intro ?_ ?_ | omega | fail)); done)), rfl, Nat.zero_le _⟩
        | exact ⟨0, (by (refine And.intro (And.intro rfl (And.intro rfl (And.intro rfl rfl))) ?_; (repeat' (first | exact trivial | exact rfl | exact fun _ _ _ _ => rfl | refine And.intro ?_ ?_ | omega | fail)); done)), rfl, Nat.zero_le _⟩
        | exact .inr (.inl ⟨(1, y1 - 1, appF (fun _ _ => 0) 0 (litF 1 [a + 1 + 0]) 0), (by (refine And.intro (And.intro rfl (And.intro rfl (And.intro rfl rfl))) ?_; (repeat' (first | exact trivial | exact rfl | exact fun _ _ _ _ => rfl | refine And.intro ?_ ?_ | omega | fail)); done)), ⟨⟨Nat.le_refl 1, by omega, by show 1 ≤ y1 - 1 + 1; omega⟩, app1P (P := fun i v => v = a + 1 + (i : Int)) (by omega)⟩, by show (obP nw fw a).toNat - 1 < (obP nw fw a).toNat; omega⟩)
        | exact .inr (.inr ⟨(k1 + 1, y1 - 1, appF k3 k1 (litF 1 [a + 1 + (k1 : Int)]) 0), (by (refine And.intro (And.intro rfl (And.intro rfl (And.intro rfl rfl))) ?_; (repeat' (first | exact trivial | exact rfl | exact fun _ _ _ _ => rfl | refine And.intro ?_ ?_ | omega | fail)); done)), ⟨⟨by show 1 ≤ k1 + 1; omega, by show k1 + 1 ≤ (obP nw fw a).toNat; omega, by show k1 + 1 ≤ y1 - 1 + 1; omega⟩, appSP (P := fun i v => v = a + 1 + (i : Int)) I2 (rfl)⟩, by show (obP nw fw a).toNat - (k1 + 1) < (obP nw fw a).toNat - k1; omega⟩)
        | (obtain rfl : k1 = (obP nw fw a).toNat := (by omega)
           exact fin1t rfl (fun i j hi hj => (by obtain rfl : j = 0 := (by simp at hj; omega)
                                                 exact (I2 i hi).symm)) (by kernel_rfl) (by kernel_rfl) (h _ (by omega)))
        | exact fin0 (by kernel_rfl) (by kernel_rfl) h
        | exact fin0 (by kernel_rfl) (by kernel_rfl) (fin0n (by omega) h)
        | (exfalso; omega)
       )
    | omega
    | contradiction
    | exact .inl ⟨0, (by (refine And.intro (And.intro rfl (And.intro rfl (And.intro rfl rfl))) ?_; (repeat' (first | exact trivial | exact rfl | exact fun _ _ _ _ => rfl | refine And.intro ?_ ?_ | omega | fail)); done)), rfl, Nat.zero_le _⟩
    | exact ⟨0, (by (refine And.intro (And.intro rfl (And.intro rfl (And.intro rfl rfl))) ?_; (repeat' (first | exact trivial | exact rfl | exact fun _ _ _ _ => rfl | refine And.intro ?_ ?_ | omega | fail)); done)), rfl, Nat.zero_le _⟩
    | exact .inr (.inl ⟨(1, y1 - 1, appF (fun _ _ => 0) 0 (litF 1 [a + 1 + 0]) 0), (by (refine And.intro (And.intro rfl (And.intro rfl (And.intro rfl rfl))) ?_; (repeat' (first | exact trivial | exact rfl | exact fun _ _ _ _ => rfl | refine And.intro ?_ ?_ | omega | fail)); done)), ⟨⟨Nat.le_refl 1, by omega, by show 1 ≤ y1 - 1 + 1; omega⟩, app1P (P := fun i v => v = a + 1 + (i : Int)) (by omega)⟩, by show (obP nw fw a).toNat - 1 < (obP nw fw a).toNat; omega⟩)
    | exact .inr (.inr ⟨(k1 + 1, y1 - 1, appF k3 k1 (litF 1 [a + 1 + (k1 : Int)]) 0), (by (refine And.intro (And.intro rfl (And.intro rfl (And.intro rfl rfl))) ?_; (repeat' (first | exact trivial | exact rfl | exact fun _ _ _ _ => rfl | refine And.intro ?_ ?_ | omega | fail)); done)), ⟨⟨by show 1 ≤ k1 + 1; omega, by show k1 + 1 ≤ (obP nw fw a).toNat; omega, by show k1 + 1 ≤ y1 - 1 + 1; omega⟩, appSP (P := fun i v => v = a + 1 + (i : Int)) I2 (rfl)⟩, by show (obP nw fw a).toNat - (k1 + 1) < (obP nw fw a).toNat - k1; omega⟩)
    | (obtain rfl : k1 = (obP nw fw a).toNat := (by omega)
       exact fin1t rfl (fun i j hi hj => (by obtain rfl : j = 0 := (by simp at hj; omega)
                                             exact (I2 i hi).symm)) (by kernel_rfl) (by kernel_rfl) (h _ (by omega)))
    | exact fin0 (by kernel_rfl) (by kernel_rfl) h
    | exact fin0 (by kernel_rfl) (by kernel_rfl) (fin0n (by omega) h)
    | (exfalso; omega)
theorem slKN_ok : BodyOk (mk XS) 6 Try.f51 slKN := by
  intro vs bs K hh hro
  clear hro
  unfold slKN at hh
  split at hh
  · rename_i vw a
    rcases parseQ_inv hh with ⟨rfl, hh0⟩ | ⟨ew, nw, cw, fw, btw, rfl, hnw, hcw, rfl, hh0⟩ <;> clear hh
    · obtain ⟨rfl, ⟨hU, h1⟩, hc⟩ := hh0
      exact ⟨_, _, cast (slKN_nE  a K) (slKN_nP  a K  hU h1 hc)⟩
    · obtain ⟨rfl, ⟨hU, h1⟩, hc⟩ := hh0
      exact ⟨_, _, cast (slKN_rE ew nw cw fw a K) (slKN_rP ew nw cw fw a K hnw hcw hU h1 hc)⟩
  · exact hh.elim
theorem slKN_told : Told 51 (specOf slKN) := told (X := XS) XS_told (by kernel_rfl) (by kernel_rfl) (by kernel_rfl) slKN_ok
def slKR_rV (ew nw cw : Nat) (fw : RF) (a : Int) (K : Value → List Blk → Prop) : Prop := let q0 := ((1 : Nat), (1 : Nat)); let q1 := ((2 : Nat), (4 : Nat)); let q2 := (17, Value.bool false); let q3 := ((2 : Nat), (3 : Nat)); let q4 := ((1 : Nat) ≤ (1 : Nat)); let q5 := (List.length [IntKind.i64]); let q6 := (9223372036854775807 : Int); let q7 := ((1 : Nat) ≤ (100000 : Nat)); let q8 := (1, vi a); let q9 := (-9223372036854775808 : Int); let q10 := (12, vi a); let q11 := ((17 : Nat), Value.bool false); let q12 := (@Eq Nat ((0 : Nat)) ((0 : Nat))); let q13 := (0, rsl (0 : Nat) (0 : Nat) nw cw); let q14 := (11, rsl (0 : Nat) (0 : Nat) nw cw); let q15 := (5, vi (0 : Int)); let q16 := ((1 : Nat), vi a); let q17 := (9, vi (1 : Int)); let q18 := (9, vi (0 : Int)); let q19 := ((12 : Nat), vi a); let q20 := ((0 : Nat) ≤ Int.toNat (obP nw fw a)); let q21 := (7, vi (obE nw fw a)); let q22 := TS; let q23 := (16, vi (obE nw fw a)); let q24 := (15, vi (obE nw fw a)); let q25 := (4, vn); let q26 := (8, vn); let q27 := ((0 : Nat), rsl (0 : Nat) (0 : Nat) nw cw); let q28 := (0, Blk.row true [IntKind.u64] ew nw cw fw); let q29 := ((11 : Nat), rsl (0 : Nat) (0 : Nat) nw cw); let q30 := ((5 : Nat), vi (0 : Int)); let q31 := ((7 : Nat), vi (obE nw fw a)); let q32 := ((16 : Nat), vi (obE nw fw a)); let q33 := ((15 : Nat), vi (obE nw fw a)); let q34 := ((4 : Nat), vn); let q35 := ((0 : Nat), Blk.row true [IntKind.u64] ew nw cw fw); let q36 := (6, Value.pointer (some { block := (1 : Nat), off := (0 : Nat) })); let q37 := ((6 : Nat), Value.pointer (some { block := (1 : Nat), off := (0 : Nat) })); let q38 := ((q9 ≤ a + (1 : Int)) ∧ (a + (1 : Int) ≤ q6)); let q39 := (1, Blk.cells [vi (obP nw fw a), vi (obR nw fw a)] (60 : Nat)); let q40 := ((1 : Nat), Blk.cells [vi (obP nw fw a), vi (obR nw fw a)] (60 : Nat)); (T0 ∧ (((0 : Nat) + nw ≤ nw) ∧ (T0 ∧ ((q12 ∧ ((nw ≤ (100000 : Nat)) ∧ (nw ≤ cw))) ∧ (((@Eq (List IntKind) ([IntKind.u64]) ([IntKind.u64])) ∧ ((@Eq Nat (nw) (nw)) ∧ (@Eq Nat (cw) (cw)))) ∧ (eB ∧ ((Ok64 nw fw) ∧ (t3 (if (@Eq Int (obE nw fw a) ((0 : Int))) then (((∃ y0 : Nat, ((Go.Rx.Sub 1 [q0] ⟨33, [q18, q26, q2, q23, q21, q36, q24, (14, Value.agg { toList := [vi (obP nw fw a), vi (obR nw fw a)] }), (10, Value.tuple { toList := [Value.agg { toList := [vi (obP nw fw a), vi (obR nw fw a)] }, vi (obE nw fw a)] }), (13, Value.tuple { toList := [Value.agg { toList := [vi (obP nw fw a), vi (obR nw fw a)] }, vi (obE nw fw a)] }), q10, q14, q15, q25, q13, q8]⟩ ⟨[q39, q28], 2⟩ ({ n := (33 : Nat), m := [((9 : Nat), vi (0 : Int)), ((8 : Nat), vn), q11, q32, q31, q37, q33, ((14 : Nat), Value.agg { toList := [vi (obP nw fw a), vi (obR nw fw a)] }), ((10 : Nat), Value.tuple { toList := [Value.agg { toList := [vi (obP nw fw a), vi (obR nw fw a)] }, vi (obE nw fw a)] }), ((13 : Nat), Value.tuple { toList := [Value.agg { toList := [vi (obP nw fw a), vi (obR nw fw a)] }, vi (obE nw fw a)] }), q19, q29, q30, q34, q27, q16] }) ({ h := [q40, q35], next := (2 : Nat) })) ∧ ((@Eq Nat (y0) ((0 : Nat))) ∧ q20))) ∨ (∃ y0 : Nat × Nat × RF, let q55 := (Prod.fst (Prod.snd y0) + (1 : Nat)); ((Go.Rx.Sub 1 [q0, ((2 : Nat), (2 : Nat))] ⟨33, [q18, q26, q2, q23, q21, q36, q24, (14, Value.agg { toList := [vi (obP nw fw a), vi (obR nw fw a)] }), (10, Value.tuple { toList := [Value.agg { toList := [vi (obP nw fw a), vi (obR nw fw a)] }, vi (obE nw fw a)] }), (13, Value.tuple { toList := [Value.agg { toList := [vi (obP nw fw a), vi (obR nw fw a)] }, vi (obE nw fw a)] }), q10, q14, q15, q25, q13, q8]⟩ ⟨[q39, q28], 2⟩ ({ n := (33 : Nat), m := [((8 : Nat), rsl (2 : Nat) (0 : Nat) (Prod.fst y0) q55), ((9 : Nat), vi (↑(Prod.fst y0) : Int)), q11, q32, q31, q37, q33, ((14 : Nat), Value.agg { toList := [vi (obP nw fw a), vi (obR nw fw a)] }), ((10 : Nat), Value.tuple { toList := [Value.agg { toList := [vi (obP nw fw a), vi (obR nw fw a)] }, vi (obE nw fw a)] }), ((13 : Nat), Value.tuple { toList := [Value.agg { toList := [vi (obP nw fw a), vi (obR nw fw a)] }, vi (obE nw fw a)] }), q19, q29, q30, q34, q27, q16] }) ({ h := [((2 : Nat), Blk.row false [IntKind.i64] (3 : Nat) (Prod.fst y0) q55 (Prod.snd (Prod.snd y0))), q40, q35], next := (3 : Nat) })) ∧ ((((1 : Nat) ≤ Prod.fst y0) ∧ ((Prod.fst y0 ≤ Int.toNat (obP nw fw a)) ∧ (Prod.fst y0 ≤ Prod.fst (Prod.snd y0) + (1 : Nat)))) ∧ (∀ y1 : Nat, ((y1 < Prod.fst y0) → (@Eq Int (Prod.snd (Prod.snd y0) y1 (0 : Nat)) (a + (1 : Int) + (↑y1 : Int))))))))) ∧ ((∀ y0 : Nat, (((@Eq Nat (y0) ((0 : Nat))) ∧ q20) → (t2 (if ((0 : Int) < obP nw fw a) then (T0 ∧ (q38 ∧ (T0 ∧ (((q9 ≤ a + (1 : Int) + (0 : Int)) ∧ (a + (1 : Int) + (0 : Int) ≤ q6)) ∧ (q22 ∧ (t4 (q22 ∧ (q22 ∧ (t4 (q4 ∧ (q7 ∧ (∀ y1 : Nat, let q51 := (y1 - (1 : Nat) + (1 : Nat)); let q52 := (8, rsl (3 : Nat) (0 : Nat) (1 : Nat) q51); (((1 : Nat) ≤ y1) → (T0 ∧ (((q9 ≤ (0 : Int) + (1 : Int)) ∧ ((0 : Int) + (1 : Int) ≤ q6)) ∧ ((∃ y2 : Nat, ((Go.Rx.Sub 1 [q0] ⟨33, [q17, q52, q2, q23, q21, q36, q24, (14, Value.agg { toList := [vi (obP nw fw a), vi (obR nw fw a)] }), (10, Value.tuple { toList := [Value.agg { toList := [vi (obP nw fw a), vi (obR nw fw a)] }, vi (obE nw fw a)] }), (13, Value.tuple { toList := [Value.agg { toList := [vi (obP nw fw a), vi (obR nw fw a)] }, vi (obE nw fw a)] }), q10, q14, q15, q25, q13, q8]⟩ ⟨[q39, q28], 4⟩ ({ n := (33 : Nat), m := [((9 : Nat), vi (0 : Int)), ((8 : Nat), vn), q11, q32, q31, q37, q33, ((14 : Nat), Value.agg { toList := [vi (obP nw fw a), vi (obR nw fw a)] }), ((10 : Nat), Value.tuple { toList := [Value.agg { toList := [vi (obP nw fw a), vi (obR nw fw a)] }, vi (obE nw fw a)] }), ((13 : Nat), Value.tuple { toList := [Value.agg { toList := [vi (obP nw fw a), vi (obR nw fw a)] }, vi (obE nw fw a)] }), q19, q29, q30, q34, q27, q16] }) ({ h := [q40, q35], next := (2 : Nat) })) ∧ (((@Eq Nat (y2) ((0 : Nat))) ∧ q20) ∧ (Int.toNat (obP nw fw a) < Int.toNat (obP nw fw a))))) ∨ ((∃ y2 : Nat × Nat × RF, let q54 := (Prod.fst (Prod.snd y2) + (1 : Nat)); ((Go.Rx.Sub 1 [q0, q3] ⟨33, [q17, q52, q2, q23, q21, q36, q24, (14, Value.agg { toList := [vi (obP nw fw a), vi (obR nw fw a)] }), (10, Value.tuple { toList := [Value.agg { toList := [vi (obP nw fw a), vi (obR nw fw a)] }, vi (obE nw fw a)] }), (13, Value.tuple { toList := [Value.agg { toList := [vi (obP nw fw a), vi (obR nw fw a)] }, vi (obE nw fw a)] }), q10, q14, q15, q25, q13, q8]⟩ ⟨[(3, Blk.row false [IntKind.i64] (3 : Nat) (1 : Nat) q51 (appF (fun x x_1 ↦ (0 : Int)) (0 : Nat) (litF q5 ([a + (1 : Int) + (0 : Int)] ++ [])) (0 : Nat))), q39, q28], 4⟩ ({ n := (33 : Nat), m := [((8 : Nat), rsl (2 : Nat) (0 : Nat) (Prod.fst y2) q54), ((9 : Nat), vi (↑(Prod.fst y2) : Int)), q11, q32, q31, q37, q33, ((14 : Nat), Value.agg { toList := [vi (obP nw fw a), vi (obR nw fw a)] }), ((10 : Nat), Value.tuple { toList := [Value.agg { toList := [vi (obP nw fw a), vi (obR nw fw a)] }, vi (obE nw fw a)] }), ((13 : Nat), Value.tuple { toList := [Value.agg { toList := [vi (obP nw fw a), vi (obR nw fw a)] }, vi (obE nw fw a)] }), q19, q29, q30, q34, q27, q16] }) ({ h := [((2 : Nat), Blk.row false [IntKind.i64] (3 : Nat) (Prod.fst y2) q54 (Prod.snd (Prod.snd y2))), q40, q35], next := (3 : Nat) })) ∧ (((((1 : Nat) ≤ Prod.fst y2) ∧ ((Prod.fst y2 ≤ Int.toNat (obP nw fw a)) ∧ (Prod.fst y2 ≤ Prod.fst (Prod.snd y2) + (1 : Nat)))) ∧ (∀ y3 : Nat, ((y3 < Prod.fst y2) → (@Eq Int (Prod.snd (Prod.snd y2) y3 (0 : Nat)) (a + (1 : Int) + (↑y3 : Int)))))) ∧ (Int.toNat (obP nw fw a) - Prod.fst y2 < Int.toNat (obP nw fw a))))) ∨ (∃ y2 : Nat × Nat × RF, let q53 := (Prod.fst (Prod.snd y2) + (1 : Nat)); ((Go.Rx.Sub 1 [q0, q1] ⟨33, [q17, q52, q2, q23, q21, q36, q24, (14, Value.agg { toList := [vi (obP nw fw a), vi (obR nw fw a)] }), (10, Value.tuple { toList := [Value.agg { toList := [vi (obP nw fw a), vi (obR nw fw a)] }, vi (obE nw fw a)] }), (13, Value.tuple { toList := [Value.agg { toList := [vi (obP nw fw a), vi (obR nw fw a)] }, vi (obE nw fw a)] }), q10, q14, q15, q25, q13, q8]⟩ ⟨[q39, q28], 4⟩ ({ n := (33 : Nat), m := [((8 : Nat), rsl (2 : Nat) (0 : Nat) (Prod.fst y2) q53), ((9 : Nat), vi (↑(Prod.fst y2) : Int)), q11, q32, q31, q37, q33, ((14 : Nat), Value.agg { toList := [vi (obP nw fw a), vi (obR nw fw a)] }), ((10 : Nat), Value.tuple { toList := [Value.agg { toList := [vi (obP nw fw a), vi (obR nw fw a)] }, vi (obE nw fw a)] }), ((13 : Nat), Value.tuple { toList := [Value.agg { toList := [vi (obP nw fw a), vi (obR nw fw a)] }, vi (obE nw fw a)] }), q19, q29, q30, q34, q27, q16] }) ({ h := [((2 : Nat), Blk.row false [IntKind.i64] (3 : Nat) (Prod.fst y2) q53 (Prod.snd (Prod.snd y2))), q40, q35], next := (3 : Nat) })) ∧ (((((1 : Nat) ≤ Prod.fst y2) ∧ ((Prod.fst y2 ≤ Int.toNat (obP nw fw a)) ∧ (Prod.fst y2 ≤ Prod.fst (Prod.snd y2) + (1 : Nat)))) ∧ (∀ y3 : Nat, ((y3 < Prod.fst y2) → (@Eq Int (Prod.snd (Prod.snd y2) y3 (0 : Nat)) (a + (1 : Int) + (↑y3 : Int)))))) ∧ (Int.toNat (obP nw fw a) - Prod.fst y2 < Int.toNat (obP nw fw a)))))))))))))))))))))) else (∃ y1 : Value, (∃ y2 : List Blk, ((Go.Rx.Found 1 (Value.tuple { toList := [vn, vi (0 : Int)] }) ({ h := [q40, q35], next := (2 : Nat) }) (y1) (y2)) ∧ (K y1 y2)))))))) ∧ (∀ y0 : Nat × Nat × RF, let q41 := (↑(Prod.fst y0) : Int); let q42 := (Prod.snd (Prod.snd y0)); let q43 := (Prod.fst y0 + (1 : Nat)); let q44 := (Prod.fst (Prod.snd y0) + (1 : Nat)); let q45 := (9, vi (q41 + (1 : Int))); let q46 := (litF q5 ([a + (1 : Int) + q41] ++ [])); (((((1 : Nat) ≤ Prod.fst y0) ∧ ((Prod.fst y0 ≤ Int.toNat (obP nw fw a)) ∧ (Prod.fst y0 ≤ Prod.fst (Prod.snd y0) + (1 : Nat)))) ∧ (∀ y1 : Nat, ((y1 < Prod.fst y0) → (@Eq Int (Prod.snd (Prod.snd y0) y1 (0 : Nat)) (a + (1 : Int) + (↑y1 : Int)))))) → (t2 (if (q41 < obP nw fw a) then (T0 ∧ (q38 ∧ (T0 ∧ (((q9 ≤ a + (1 : Int) + q41) ∧ (a + (1 : Int) + q41 ≤ q6)) ∧ (q22 ∧ (t4 (q22 ∧ (q22 ∧ (t4 (q4 ∧ (q7 ∧ (T0 ∧ ((T0 ∧ ((false = false) ∧ (q12 ∧ ((@Eq Nat (Prod.fst y0) (Prod.fst y0)) ∧ ((@Eq Nat q44 q44) ∧ (Prod.fst y0 + (1 : Nat) ≤ (100000 : Nat))))))) ∧ (∀ y1 : Nat, let q47 := (y1 - (1 : Nat) + (1 : Nat)); let q48 := (8, rsl (4 : Nat) (0 : Nat) q43 q47); ((Prod.fst y0 + (1 : Nat) ≤ y1) → (T0 ∧ (((q9 ≤ q41 + (1 : Int)) ∧ (q41 + (1 : Int) ≤ q6)) ∧ ((∃ y2 : Nat, ((Go.Rx.Sub 1 [q0] ⟨33, [q45, q48, q2, q23, q21, q36, q24, (14, Value.agg { toList := [vi (obP nw fw a), vi (obR nw fw a)] }), (10, Value.tuple { toList := [Value.agg { toList := [vi (obP nw fw a), vi (obR nw fw a)] }, vi (obE nw fw a)] }), (13, Value.tuple { toList := [Value.agg { toList := [vi (obP nw fw a), vi (obR nw fw a)] }, vi (obE nw fw a)] }), q10, q14, q15, q25, q13, q8]⟩ ⟨[q39, q28], 5⟩ ({ n := (33 : Nat), m := [((9 : Nat), vi (0 : Int)), ((8 : Nat), vn), q11, q32, q31, q37, q33, ((14 : Nat), Value.agg { toList := [vi (obP nw fw a), vi (obR nw fw a)] }), ((10 : Nat), Value.tuple { toList := [Value.agg { toList := [vi (obP nw fw a), vi (obR nw fw a)] }, vi (obE nw fw a)] }), ((13 : Nat), Value.tuple { toList := [Value.agg { toList := [vi (obP nw fw a), vi (obR nw fw a)] }, vi (obE nw fw a)] }), q19, q29, q30, q34, q27, q16] }) ({ h := [q40, q35], next := (2 : Nat) })) ∧ (((@Eq Nat (y2) ((0 : Nat))) ∧ q20) ∧ (Int.toNat (obP nw fw a) < Int.toNat (obP nw fw a) - Prod.fst y0)))) ∨ ((∃ y2 : Nat × Nat × RF, let q50 := (Prod.fst (Prod.snd y2) + (1 : Nat)); ((Go.Rx.Sub 1 [q0, q3] ⟨33, [q45, q48, q2, q23, q21, q36, q24, (14, Value.agg { toList := [vi (obP nw fw a), vi (obR nw fw a)] }), (10, Value.tuple { toList := [Value.agg { toList := [vi (obP nw fw a), vi (obR nw fw a)] }, vi (obE nw fw a)] }), (13, Value.tuple { toList := [Value.agg { toList := [vi (obP nw fw a), vi (obR nw fw a)] }, vi (obE nw fw a)] }), q10, q14, q15, q25, q13, q8]⟩ ⟨[(3, Blk.row false [IntKind.i64] (3 : Nat) (1 : Nat) (1 : Nat) q46), q39, q28], 5⟩ ({ n := (33 : Nat), m := [((8 : Nat), rsl (2 : Nat) (0 : Nat) (Prod.fst y2) q50), ((9 : Nat), vi (↑(Prod.fst y2) : Int)), q11, q32, q31, q37, q33, ((14 : Nat), Value.agg { toList := [vi (obP nw fw a), vi (obR nw fw a)] }), ((10 : Nat), Value.tuple { toList := [Value.agg { toList := [vi (obP nw fw a), vi (obR nw fw a)] }, vi (obE nw fw a)] }), ((13 : Nat), Value.tuple { toList := [Value.agg { toList := [vi (obP nw fw a), vi (obR nw fw a)] }, vi (obE nw fw a)] }), q19, q29, q30, q34, q27, q16] }) ({ h := [((2 : Nat), Blk.row false [IntKind.i64] (3 : Nat) (Prod.fst y2) q50 (Prod.snd (Prod.snd y2))), q40, q35], next := (3 : Nat) })) ∧ (((((1 : Nat) ≤ Prod.fst y2) ∧ ((Prod.fst y2 ≤ Int.toNat (obP nw fw a)) ∧ (Prod.fst y2 ≤ Prod.fst (Prod.snd y2) + (1 : Nat)))) ∧ (∀ y3 : Nat, ((y3 < Prod.fst y2) → (@Eq Int (Prod.snd (Prod.snd y2) y3 (0 : Nat)) (a + (1 : Int) + (↑y3 : Int)))))) ∧ (Int.toNat (obP nw fw a) - Prod.fst y2 < Int.toNat (obP nw fw a) - Prod.fst y0)))) ∨ (∃ y2 : Nat × Nat × RF, let q49 := (Prod.fst (Prod.snd y2) + (1 : Nat)); ((Go.Rx.Sub 1 [q0, q1] ⟨33, [q45, q48, q2, q23, q21, q36, q24, (14, Value.agg { toList := [vi (obP nw fw a), vi (obR nw fw a)] }), (10, Value.tuple { toList := [Value.agg { toList := [vi (obP nw fw a), vi (obR nw fw a)] }, vi (obE nw fw a)] }), (13, Value.tuple { toList := [Value.agg { toList := [vi (obP nw fw a), vi (obR nw fw a)] }, vi (obE nw fw a)] }), q10, q14, q15, q25, q13, q8]⟩ ⟨[(4, Blk.row false [IntKind.i64] (3 : Nat) q43 q47 (appF q42 (Prod.fst y0) q46 (0 : Nat))), q39, q28], 5⟩ ({ n := (33 : Nat), m := [((8 : Nat), rsl (2 : Nat) (0 : Nat) (Prod.fst y2) q49), ((9 : Nat), vi (↑(Prod.fst y2) : Int)), q11, q32, q31, q37, q33, ((14 : Nat), Value.agg { toList := [vi (obP nw fw a), vi (obR nw fw a)] }), ((10 : Nat), Value.tuple { toList := [Value.agg { toList := [vi (obP nw fw a), vi (obR nw fw a)] }, vi (obE nw fw a)] }), ((13 : Nat), Value.tuple { toList := [Value.agg { toList := [vi (obP nw fw a), vi (obR nw fw a)] }, vi (obE nw fw a)] }), q19, q29, q30, q34, q27, q16] }) ({ h := [((2 : Nat), Blk.row false [IntKind.i64] (3 : Nat) (Prod.fst y2) q49 (Prod.snd (Prod.snd y2))), q40, q35], next := (3 : Nat) })) ∧ (((((1 : Nat) ≤ Prod.fst y2) ∧ ((Prod.fst y2 ≤ Int.toNat (obP nw fw a)) ∧ (Prod.fst y2 ≤ Prod.fst (Prod.snd y2) + (1 : Nat)))) ∧ (∀ y3 : Nat, ((y3 < Prod.fst y2) → (@Eq Int (Prod.snd (Prod.snd y2) y3 (0 : Nat)) (a + (1 : Int) + (↑y3 : Int)))))) ∧ (Int.toNat (obP nw fw a) - Prod.fst y2 < Int.toNat (obP nw fw a) - Prod.fst y0))))))))))))))))))))))) else (∃ y1 : Value, (∃ y2 : List Blk, ((Go.Rx.Found 1 (Value.tuple { toList := [rsl (2 : Nat) (0 : Nat) (Prod.fst y0) q44, vi (0 : Int)] }) ({ h := [((2 : Nat), Blk.row false [IntKind.i64] (3 : Nat) (Prod.fst y0) q44 q42), q40, q35], next := (3 : Nat) }) (y1) (y2)) ∧ (K y1 y2)))))))))) else (∃ y0 : Value, (∃ y1 : List Blk, ((Go.Rx.Found 1 (Value.tuple { toList := [vn, vi (obE nw fw a)] }) ({ h := [q40, q35], next := (2 : Nat) }) (y0) (y1)) ∧ (K y0 y1)))))))))))))
theorem slKR_rE (ew nw cw : Nat) (fw : RF) (a : Int) (K : Value → List Blk → Prop) : slKR_rV ew nw cw fw a K = bodyX (mk XS) (callN (mk XS) 6) (slKR_rA ew nw cw fw a) Try.f51 [rsl 0 0 nw cw, .int .i64 a] (stOf [.row true [.u64] ew nw cw fw]) (Fd 1 K) := by kernel_rfl
set_option tactic.hygienic false in
theorem slKR_rP (ew nw cw : Nat) (fw : RF) (a : Int) (K : Value → List Blk → Prop)  (hnw : nw ≤ 100000) (hcw : nw ≤ cw) (hU : Ok64 nw fw) (h1 : obE nw fw a = 0) (h2 : 0 < obP nw fw a) (h : ∀ cp, (obP nw fw a).toNat ≤ cp → K (.tuple ⟨[rsl 1 0 ((obP nw fw a).toNat) cp, .int .i64 (0)]⟩) [.row false [.i64] 3 ((obP nw fw a).toNat) cp (slF a)]) : slKR_rV ew nw cw fw a K := by
  unfold slKR_rV
  conv => zeta
  have z0 := ob_cases hU a
  repeat' (first | (with_reducible exact rfl) | (with_reducible exact trivial) | (with_reducible refine And.intro ?_ ?_) | (intro) | (with_reducible refine br_d (fun hq => ?_) (fun hq => ?_)) | (with_reducible refine br_nd (fun hq => ?_) (fun hq => ?_)) | (with_reducible refine br_intro (fun hq => ?_) (fun hq => ?_)) | (with_reducible refine if_both (fun hz => ?_) (fun hz => ?_)) | fail)
  all_goals try (rename Nat × Nat × RF => k; rename _ ∧ (∀ _ : Nat, _) => I; obtain ⟨k1, k2, k3⟩ := k; dsimp only at *; obtain ⟨⟨J1, J2, J3⟩, I2⟩ := I)
  all_goals first
    | (with_reducible assumption)
    | (refine (id ?_ : ∃ (v1 : Value) (news : List Blk), _)
       first
        | contradiction
        | exact .inl ⟨0, (by (refine And.intro (And.intro rfl (And.intro rfl (And.intro rfl rfl))) ?_; (repeat' (first | exact trivial | exact rfl | exact fun _ _ _ _ => rfl | refine And.intro ?_ ?_ | omega | fail)); done)), rfl, Nat.zero_le _⟩
        | exact ⟨0, (by (refine And.intro (And.intro rfl (And.intro rfl (And.intro rfl rfl))) ?_; (repeat' (first | exact trivial | exact rfl | exact fun _ _ _ _ => rfl | refine And.intro ?_ ?_ | omega | fail)); done)), rfl, Nat.zero_le _⟩
        | exact .inr (.inl ⟨(1, y1 - 1, appF (fun _ _ => 0) 0 (litF 1 [a + 1 + 0]) 0), (by (refine And.intro (And.intro rfl (And.intro rfl (And.intro rfl rfl))) ?_; (repeat' (first | exact trivial | exact rfl | exact fun _ _ _ _ => rfl | refine And.intro ?_ ?_ | omega | fail)); done)), ⟨⟨Nat.le_refl 1, by omega, by show 1 ≤ y1 - 1 + 1; omega⟩, app1P (P := fun i v => v = a + 1 + (i : Int)) (by omega)⟩, by show (obP nw fw a).toNat - 1 < (obP nw fw a).toNat; omega⟩)
        | exact .inr (.inr ⟨(k1 + 1, y1 - 1, appF k3 k1 (litF 1 [a + 1 + (k1 : Int)]) 0), (by (refine And.intro (And.intro rfl (And.intro rfl (And.intro rfl rfl))) ?_; (repeat' (first | exact trivial | exact rfl | exact fun _ _ _ _ => rfl | refine And.intro ?_ ?_ | omega | fail)); done)), ⟨⟨by show 1 ≤ k1 + 1; omega, by show k1 + 1 ≤ (obP nw fw a).toNat; omega, by show k1 + 1 ≤ y1 - 1 + 1; omega⟩, appSP (P := fun i v => v = a + 1 + (i : Int)) I2 (rfl)⟩, by show (obP nw fw a).toNat - (k1 + 1) < (obP nw fw a).toNat - k1; omega⟩)
        | (obtain rfl : k1 = (obP nw fw a).toNat := (by omega)
           exact fin1t rfl (fun i j hi hj => (by obtain rfl : j = 0 := (by simp at hj; omega)
                                                 exact (I2 i hi).symm)) (by kernel_rfl) (by kernel_rfl) (h _ (by omega)))
        | exact fin0 (by kernel_rfl) (by kernel_rfl) h
        | exact fin0 (by kernel_rfl) (by kernel_rfl) (fin0n (by omega) h)
        | (exfalso; omega)
       )
    | omega
    | contradiction
    | exact .inl ⟨0, (by (refine And.intro (And.intro rfl (And.intro rfl (And.intro rfl rfl))) ?_; (repeat' (first | exact trivial | exact rfl | exact fun _ _ _ _ => rfl | refine And.intro ?_ ?_ | omega | fail)); done)), rfl, Nat.zero_le _⟩
    | exact ⟨0, (by (refine And.intro (And.intro rfl (And.intro rfl (And.intro rfl rfl))) ?_; (repeat' (first | exact trivial | exact rfl | exact fun _ _ _ _ => rfl | refine And.intro ?_ ?_ | omega | fail)); done)), rfl, Nat.zero_le _⟩
    | exact .inr (.inl ⟨(1, y1 - 1, appF (fun _ _ => 0) 0 (litF 1 [a + 1 + 0]) 0), (by (refine And.intro (And.intro rfl (And.intro rfl (And.intro rfl rfl))) ?_; (repeat' (first | exact trivial | exact rfl | exact fun _ _ _ _ => rfl | refine And.intro ?_ ?_ | omega | fail)); done)), ⟨⟨Nat.le_refl 1, by omega, by show 1 ≤ y1 - 1 + 1; omega⟩, app1P (P := fun i v => v = a + 1 + (i : Int)) (by omega)⟩, by show (obP nw fw a).toNat - 1 < (obP nw fw a).toNat; omega⟩)
    | exact .inr (.inr ⟨(k1 + 1, y1 - 1, appF k3 k1 (litF 1 [a + 1 + (k1 : Int)]) 0), (by (refine And.intro (And.intro rfl (And.intro rfl (And.intro rfl rfl))) ?_; (repeat' (first | exact trivial | exact rfl | exact fun _ _ _ _ => rfl | refine And.intro ?_ ?_ | omega | fail)); done)), ⟨⟨by show 1 ≤ k1 + 1; omega, by show k1 + 1 ≤ (obP nw fw a).toNat; omega, by show k1 + 1 ≤ y1 - 1 + 1; omega⟩, appSP (P := fun i v => v = a + 1 + (i : Int)) I2 (rfl)⟩, by show (obP nw fw a).toNat - (k1 + 1) < (obP nw fw a).toNat - k1; omega⟩)
    | (obtain rfl : k1 = (obP nw fw a).toNat := (by omega)
       exact fin1t rfl (fun i j hi hj => (by obtain rfl : j = 0 := (by simp at hj; omega)
                                             exact (I2 i hi).symm)) (by kernel_rfl) (by kernel_rfl) (h _ (by omega)))
    | exact fin0 (by kernel_rfl) (by kernel_rfl) h
    | exact fin0 (by kernel_rfl) (by kernel_rfl) (fin0n (by omega) h)
    | (exfalso; omega)
theorem slKR_ok : BodyOk (mk XS) 6 Try.f51 slKR := by
  intro vs bs K hh hro
  clear hro
  unfold slKR at hh
  split at hh
  · rename_i vw a
    obtain ⟨ew, nw, cw, fw, btw, rfl, hnw, hcw, rfl, hh0⟩ := parseRQ_inv hh
    obtain ⟨rfl, ⟨hU, h1, h2⟩, hc⟩ := hh0
    exact ⟨_, _, cast (slKR_rE ew nw cw fw a K) (slKR_rP ew nw cw fw a K hnw hcw hU h1 h2 hc)⟩
  · exact hh.elim
theorem slKR_told : Told 51 (specOf slKR) := told (X := XS) XS_told (by kernel_rfl) (by kernel_rfl) (by kernel_rfl) slKR_ok
end Go.Proofs.Ytfgeoglegebncaa.Fr
namespace Go.Proofs.Ytfgeoglegebncaa.Fr
set_option maxRecDepth 100000
set_option maxHeartbeats 4000000
open Go.Rx
open Go.RowKit (Below)
set_option linter.unusedVariables false
@[reducible] def XM : List (Nat × Rx.Spec) := [(24, specOf arC), (89, specOf hdP)]
theorem XM_told : ∀ p ∈ XM, Told p.1 p.2 := by
  intro p hp
  simp only [List.mem_cons, List.not_mem_nil, or_false] at hp
  rcases hp with rfl | rfl
  · exact arC_told
  · exact hdP_told
def mkO_B : Con := fun vs bs K => match vs with
  | [vw, .int .i64 a, .agg ⟨[.int .i64 p, .int .i64 q]⟩] => parseQ [.u64] 0 vw bs fun nw fw j0 bs0 => bs0 = [] ∧ ((Ok64 nw fw) ∧ (¬ mkE nw fw a p q = 0)) ∧ (K (.tuple ⟨[.slice none 0 0, .int .i64 (mkE nw fw a p q)]⟩) [])
  | _ => False

def mkO_B_nA (a : Int) (p : Int) (q : Int) : Ann := fun _ _ _ => none
def mkO_B_rA (ew nw cw : Nat) (fw : RF) (a : Int) (p : Int) (q : Int) : Ann := fun _ _ _ => none
def mkO_G : Con := fun vs bs K => match vs with
  | [vw, .int .i64 a, .agg ⟨[.int .i64 p, .int .i64 q]⟩] => parseRQ [.u64] 0 vw bs fun nw fw j0 bs0 => bs0 = [] ∧ ((Ok64 nw fw) ∧ (mkE nw fw a p q = 0)) ∧ (∀ cp, nw ≤ cp → K (.tuple ⟨[rsl j0 0 (nw) cp, .int .i64 (0)]⟩) [.row false [.u64] 25 (nw) cp (mkF fw (Int.toNat a) (Int.toNat (1 + p + q)) (1 + 256 * p + 65536 * q))])
  | _ => False

def mkO_G_rA (ew nw cw : Nat) (fw : RF) (a : Int) (p : Int) (q : Int) : Ann := fun _ _ _ => none
def mkO_B_nV (a : Int) (p : Int) (q : Int) (K : Value → List Blk → Prop) : Prop := (t2 (eB ∧ ((True) ∧ (T0 ∧ (∃ y0 : Value, (∃ y1 : List Blk, ((Go.Rx.Found 0 (Value.tuple { toList := [vn, vi (3 : Int)] }) ({ h := [((0 : Nat), Blk.cells [vi p, vi q] (60 : Nat))], next := (1 : Nat) }) (y0) (y1)) ∧ (K y0 y1))))))))
theorem mkO_B_nE (a : Int) (p : Int) (q : Int) (K : Value → List Blk → Prop) : mkO_B_nV a p q K = bodyX (mk XM) (callN (mk XM) 9) (mkO_B_nA a p q) Try.f44 [.slice none 0 0, .int .i64 a, .agg ⟨[.int .i64 p, .int .i64 q]⟩] (stOf []) (Fd 0 K) := by kernel_rfl
set_option tactic.hygienic false in
theorem mkO_B_nP (a : Int) (p : Int) (q : Int) (K : Value → List Blk → Prop)  (hU : Ok64 0 zF) (h1 : ¬ mkE 0 zF a p q = 0) (h : K (.tuple ⟨[.slice none 0 0, .int .i64 (mkE 0 zF a p q)]⟩) []) : mkO_B_nV a p q K := by
  unfold mkO_B_nV
  have z0 := ar_cases 0 zF
  have z1 := mk_cases 0 zF a p q
  have z2 := sze_cases p q
  have z3 := pkv_cases p q
  repeat' (first | (with_reducible exact rfl) | (with_reducible exact trivial) | (with_reducible refine And.intro ?_ ?_) | (intro) | (with_reducible refine br_d (fun hq => ?_) (fun hq => ?_)) | (with_reducible refine br_nd (fun hq => ?_) (fun hq => ?_)) | (with_reducible refine br_intro (fun hq => ?_) (fun hq => ?_)) | (with_reducible refine if_both (fun hz => ?_) (fun hz => ?_)) | fail)

  all_goals first
    | (with_reducible assumption)
    | (refine (id ?_ : ∃ (v1 : Value) (news : List Blk), _)
       first
        | contradiction
        | exact fin0 (by kernel_rfl) (by kernel_rfl) h
        | exact fin0 (by kernel_rfl) (by kernel_rfl) (fin0i (by omega) h)
        | exact fin0 (by kernel_rfl) (by kernel_rfl) (fin0p (by omega) (by omega) h)
        | exact fin0 (by kernel_rfl) (by kernel_rfl) (fin0u (by omega) (by omega) h)
        | exact fin0 (by kernel_rfl) (by kernel_rfl) (fin0s (by omega) (by omega) (by omega) h)
        | exact fin0 (by kernel_rfl) (by kernel_rfl) (fin0n (by omega) h)
        | (exfalso; simp at hq; omega)
        | (exfalso; omega)
       )
    | omega
    | contradiction
    | exact fin0 (by kernel_rfl) (by kernel_rfl) h
    | exact fin0 (by kernel_rfl) (by kernel_rfl) (fin0i (by omega) h)
    | exact fin0 (by kernel_rfl) (by kernel_rfl) (fin0p (by omega) (by omega) h)
    | exact fin0 (by kernel_rfl) (by kernel_rfl) (fin0u (by omega) (by omega) h)
    | exact fin0 (by kernel_rfl) (by kernel_rfl) (fin0s (by omega) (by omega) (by omega) h)
    | exact fin0 (by kernel_rfl) (by kernel_rfl) (fin0n (by omega) h)
    | (exfalso; simp at hq; omega)
    | (exfalso; omega)
def mkO_B_rV (ew nw cw : Nat) (fw : RF) (a : Int) (p : Int) (q : Int) (K : Value → List Blk → Prop) : Prop := let q0 := ((0 : Nat) + nw ≤ nw); let q1 := (nw ≤ (100000 : Nat)); let q2 := eB; let q3 := (Int.toNat (a + (1 : Int))); let q4 := ((0 : Int) ≤ a + (1 : Int)); let q5 := (9223372036854775807 : Int); let q6 := (-9223372036854775808 : Int); let q7 := (@Eq Nat ((0 : Nat)) ((0 : Nat))); let q8 := (@Eq Nat ((1 : Nat)) ((1 : Nat))); let q9 := (litF (List.length [IntKind.u64]) []); let q10 := (a + (1 : Int) ≤ a + (1 : Int) + p + q); let q11 := TS; let q12 := (a + (1 : Int) + p + q - (a + (1 : Int))); let q13 := ((0 : Nat), Blk.row true [IntKind.u64] ew nw cw fw); let q14 := (Int.toNat q12); let q15 := (putF q9 (Int.toNat a) (0 : Nat) (pkv p q)); let q16 := (q11 ∧ q8); let q17 := ((1 : Nat), Blk.cells [vi p, vi q] (60 : Nat)); let q18 := (putF (appF (fun x x_1 ↦ (0 : Int)) (0 : Nat) fw (0 : Nat)) (Int.toNat a) (0 : Nat) (pkv p q)); let q19 := ((q6 ≤ a + (1 : Int)) ∧ (a + (1 : Int) ≤ q5)); let q20 := ((q6 ≤ a + (1 : Int) + p) ∧ (a + (1 : Int) + p ≤ q5)); let q21 := ((2 : Nat), Blk.row false [IntKind.u64] (25 : Nat) (0 : Nat) (0 : Nat) q9); let q22 := ((q6 ≤ a + (1 : Int) + p + q) ∧ (a + (1 : Int) + p + q ≤ q5)); let q23 := (∃ y0 : Value, (∃ y1 : List Blk, ((Go.Rx.Found 1 (Value.tuple { toList := [vn, vi (7 : Int)] }) ({ h := [q17, q13], next := (2 : Nat) }) (y0) (y1)) ∧ (K y0 y1)))); (T0 ∧ (q0 ∧ ((q7 ∧ (q1 ∧ (nw ≤ cw))) ∧ (((@Eq (List IntKind) ([IntKind.u64]) ([IntKind.u64])) ∧ ((@Eq Nat (nw) (nw)) ∧ (@Eq Nat (cw) (cw)))) ∧ (q2 ∧ ((True) ∧ (T0 ∧ (if (@Eq Int (arE nw fw) ((0 : Int))) then (t3 (q2 ∧ ((True) ∧ (T0 ∧ (if (@Eq Int (sze p q) ((0 : Int))) then (T0 ∧ (if (a < (1 : Int)) then q23 else (q11 ∧ (T0 ∧ (if ((↑nw : Int) ≤ a) then q23 else (t3 (((q6 ≤ p + q) ∧ (p + q ≤ q5)) ∧ (q11 ∧ (T0 ∧ (((q6 ≤ (↑nw : Int) - a) ∧ ((↑nw : Int) - a ≤ q5)) ∧ (T0 ∧ (if ((↑nw : Int) - a ≤ p + q) then q23 else (T0 ∧ (q11 ∧ (q11 ∧ (t4 (q11 ∧ (q11 ∧ (t4 (q0 ∧ (q1 ∧ (T0 ∧ (q7 ∧ (Go.Rx.br (decide ((0 : Nat) < nw)) (∀ y0 : Nat, let q24 := (y0 - (1 : Nat) + (1 : Nat)); let q25 := (↑q24 : Int); ((nw ≤ y0) → (q16 ∧ ((((0 : Int) ≤ a) ∧ (a < (↑nw : Int))) ∧ ((false = false) ∧ ((Int.toNat a < nw) ∧ (t3 (q19 ∧ (T0 ∧ (q19 ∧ (t2 (q20 ∧ (t2 (q22 ∧ (q11 ∧ (t4 (q8 ∧ ((q4 ∧ (q10 ∧ ((a + (1 : Int) + p + q ≤ q25) ∧ (q25 ≤ q25)))) ∧ (Go.Rx.br (decide (a + (1 : Int) < q25)) (q11 ∧ (t3 (((false = false) ∧ ((Int.toNat (a + (1 : Int)) + Int.toNat q12 ≤ nw) ∧ T0)) ∧ (∃ y1 : Value, (∃ y2 : List Blk, ((Go.Rx.Found 1 (Value.tuple { toList := [rsl (3 : Nat) (0 : Nat) nw q24, vi (0 : Int)] }) ({ h := [((3 : Nat), Blk.row false [IntKind.u64] (25 : Nat) nw q24 (clrF q18 q3 q14)), q21, q17, q13], next := (4 : Nat) }) (y1) (y2)) ∧ (K y1 y2))))))) (q11 ∧ (t3 (((false = false) ∧ (((0 : Nat) ≤ nw) ∧ T0)) ∧ (∃ y1 : Value, (∃ y2 : List Blk, ((Go.Rx.Found 1 (Value.tuple { toList := [rsl (3 : Nat) (0 : Nat) nw q24, vi (0 : Int)] }) ({ h := [((3 : Nat), Blk.row false [IntKind.u64] (25 : Nat) nw q24 (clrF q18 (0 : Nat) (0 : Nat))), q21, q17, q13], next := (4 : Nat) }) (y1) (y2)) ∧ (K y1 y2)))))))))))))))))))))))))) (q16 ∧ ((((0 : Int) ≤ a) ∧ (a < (↑(0 : Nat) : Int))) ∧ ((false = false) ∧ ((Int.toNat a < (0 : Nat)) ∧ (t3 (q19 ∧ (T0 ∧ (q19 ∧ (t2 (q20 ∧ (t2 (q22 ∧ (q11 ∧ (t4 (q8 ∧ ((q4 ∧ (q10 ∧ ((a + (1 : Int) + p + q ≤ (↑(0 : Nat) : Int)) ∧ ((↑(0 : Nat) : Int) ≤ (↑(0 : Nat) : Int))))) ∧ (Go.Rx.br (decide (a + (1 : Int) < (↑(0 : Nat) : Int))) (q11 ∧ (t3 (((false = false) ∧ ((Int.toNat (a + (1 : Int)) + Int.toNat q12 ≤ (0 : Nat)) ∧ T0)) ∧ (∃ y0 : Value, (∃ y1 : List Blk, ((Go.Rx.Found 1 (Value.tuple { toList := [rsl (2 : Nat) (0 : Nat) (0 : Nat) (0 : Nat), vi (0 : Int)] }) ({ h := [((2 : Nat), Blk.row false [IntKind.u64] (25 : Nat) (0 : Nat) (0 : Nat) (clrF q15 q3 q14)), q17, q13], next := (3 : Nat) }) (y0) (y1)) ∧ (K y0 y1))))))) (q11 ∧ (t3 (((false = false) ∧ (((0 : Nat) ≤ (0 : Nat)) ∧ T0)) ∧ (∃ y0 : Value, (∃ y1 : List Blk, ((Go.Rx.Found 1 (Value.tuple { toList := [rsl (2 : Nat) (0 : Nat) (0 : Nat) (0 : Nat), vi (0 : Int)] }) ({ h := [((2 : Nat), Blk.row false [IntKind.u64] (25 : Nat) (0 : Nat) (0 : Nat) (clrF q15 (0 : Nat) (0 : Nat))), q17, q13], next := (3 : Nat) }) (y0) (y1)) ∧ (K y0 y1)))))))))))))))))))))))))))))))))))))))))))))))) else (∃ y0 : Value, (∃ y1 : List Blk, ((Go.Rx.Found 1 (Value.tuple { toList := [vn, vi (sze p q)] }) ({ h := [q17, q13], next := (2 : Nat) }) (y0) (y1)) ∧ (K y0 y1))))))))) else (∃ y0 : Value, (∃ y1 : List Blk, ((Go.Rx.Found 1 (Value.tuple { toList := [vn, vi (arE nw fw)] }) ({ h := [q17, q13], next := (2 : Nat) }) (y0) (y1)) ∧ (K y0 y1))))))))))))
theorem mkO_B_rE (ew nw cw : Nat) (fw : RF) (a : Int) (p : Int) (q : Int) (K : Value → List Blk → Prop) : mkO_B_rV ew nw cw fw a p q K = bodyX (mk XM) (callN (mk XM) 9) (mkO_B_rA ew nw cw fw a p q) Try.f44 [rsl 0 0 nw cw, .int .i64 a, .agg ⟨[.int .i64 p, .int .i64 q]⟩] (stOf [.row true [.u64] ew nw cw fw]) (Fd 1 K) := by kernel_rfl
set_option tactic.hygienic false in
theorem mkO_B_rP (ew nw cw : Nat) (fw : RF) (a : Int) (p : Int) (q : Int) (K : Value → List Blk → Prop)  (hnw : nw ≤ 100000) (hcw : nw ≤ cw) (hU : Ok64 nw fw) (h1 : ¬ mkE nw fw a p q = 0) (h : K (.tuple ⟨[.slice none 0 0, .int .i64 (mkE nw fw a p q)]⟩) []) : mkO_B_rV ew nw cw fw a p q K := by
  unfold mkO_B_rV
  conv => zeta
  have z0 := ar_cases nw fw
  have z1 := mk_cases nw fw a p q
  have z2 := sze_cases p q
  have z3 := pkv_cases p q
  repeat' (first | (with_reducible exact rfl) | (with_reducible exact trivial) | (with_reducible refine And.intro ?_ ?_) | (intro) | (with_reducible refine br_d (fun hq => ?_) (fun hq => ?_)) | (with_reducible refine br_nd (fun hq => ?_) (fun hq => ?_)) | (with_reducible refine br_intro (fun hq => ?_) (fun hq => ?_)) | (with_reducible refine if_both (fun hz => ?_) (fun hz => ?_)) | fail)

  all_goals first
    | (with_reducible assumption)
    | (refine (id ?_ : ∃ (v1 : Value) (news : List Blk), _)
       first
        | contradiction
        | exact fin0 (by kernel_rfl) (by kernel_rfl) h
        | exact fin0 (by kernel_rfl) (by kernel_rfl) (fin0i (by omega) h)
        | exact fin0 (by kernel_rfl) (by kernel_rfl) (fin0p (by omega) (by omega) h)
        | exact fin0 (by kernel_rfl) (by kernel_rfl) (fin0u (by omega) (by omega) h)
        | exact fin0 (by kernel_rfl) (by kernel_rfl) (fin0s (by omega) (by omega) (by omega) h)
        | exact fin0 (by kernel_rfl) (by kernel_rfl) (fin0n (by omega) h)
        | (exfalso; simp at hq; omega)
        | (exfalso; omega)
       )
    | omega
    | contradiction
    | exact fin0 (by kernel_rfl) (by kernel_rfl) h
    | exact fin0 (by kernel_rfl) (by kernel_rfl) (fin0i (by omega) h)
    | exact fin0 (by kernel_rfl) (by kernel_rfl) (fin0p (by omega) (by omega) h)
    | exact fin0 (by kernel_rfl) (by kernel_rfl) (fin0u (by omega) (by omega) h)
    | exact fin0 (by kernel_rfl) (by kernel_rfl) (fin0s (by omega) (by omega) (by omega) h)
    | exact fin0 (by kernel_rfl) (by kernel_rfl) (fin0n (by omega) h)
    | (exfalso; simp at hq; omega)
    | (exfalso; omega)
theorem mkO_B_ok : BodyOk (mk XM) 9 Try.f44 mkO_B := by
  intro vs bs K hh hro
  clear hro
  unfold mkO_B at hh
  split at hh
  · rename_i vw a p q
    rcases parseQ_inv hh with ⟨rfl, hh0⟩ | ⟨ew, nw, cw, fw, btw, rfl, hnw, hcw, rfl, hh0⟩ <;> clear hh
    · obtain ⟨rfl, ⟨hU, h1⟩, hc⟩ := hh0
      exact ⟨_, _, cast (mkO_B_nE  a p q K) (mkO_B_nP  a p q K  hU h1 hc)⟩
    · obtain ⟨rfl, ⟨hU, h1⟩, hc⟩ := hh0
      exact ⟨_, _, cast (mkO_B_rE ew nw cw fw a p q K) (mkO_B_rP ew nw cw fw a p q K hnw hcw hU h1 hc)⟩
  · exact hh.elim
theorem mkO_B_told : Told 44 (specOf mkO_B) := told (X := XM) XM_told (by kernel_rfl) (by kernel_rfl) (by kernel_rfl) mkO_B_ok
def mkO_G_rV (ew nw cw : Nat) (fw : RF) (a : Int) (p : Int) (q : Int) (K : Value → List Blk → Prop) : Prop := let q0 := ((0 : Nat) + nw ≤ nw); let q1 := (nw ≤ (100000 : Nat)); let q2 := eB; let q3 := (Int.toNat (a + (1 : Int))); let q4 := ((0 : Int) ≤ a + (1 : Int)); let q5 := (9223372036854775807 : Int); let q6 := (-9223372036854775808 : Int); let q7 := (@Eq Nat ((0 : Nat)) ((0 : Nat))); let q8 := (@Eq Nat ((1 : Nat)) ((1 : Nat))); let q9 := (litF (List.length [IntKind.u64]) []); let q10 := (a + (1 : Int) ≤ a + (1 : Int) + p + q); let q11 := TS; let q12 := (a + (1 : Int) + p + q - (a + (1 : Int))); let q13 := ((0 : Nat), Blk.row true [IntKind.u64] ew nw cw fw); let q14 := (Int.toNat q12); let q15 := (putF q9 (Int.toNat a) (0 : Nat) (pkv p q)); let q16 := (q11 ∧ q8); let q17 := ((1 : Nat), Blk.cells [vi p, vi q] (60 : Nat)); let q18 := (putF (appF (fun x x_1 ↦ (0 : Int)) (0 : Nat) fw (0 : Nat)) (Int.toNat a) (0 : Nat) (pkv p q)); let q19 := ((q6 ≤ a + (1 : Int)) ∧ (a + (1 : Int) ≤ q5)); let q20 := ((q6 ≤ a + (1 : Int) + p) ∧ (a + (1 : Int) + p ≤ q5)); let q21 := ((2 : Nat), Blk.row false [IntKind.u64] (25 : Nat) (0 : Nat) (0 : Nat) q9); let q22 := ((q6 ≤ a + (1 : Int) + p + q) ∧ (a + (1 : Int) + p + q ≤ q5)); let q23 := (∃ y0 : Value, (∃ y1 : List Blk, ((Go.Rx.Found 1 (Value.tuple { toList := [vn, vi (7 : Int)] }) ({ h := [q17, q13], next := (2 : Nat) }) (y0) (y1)) ∧ (K y0 y1)))); (T0 ∧ (q0 ∧ ((q7 ∧ (q1 ∧ (nw ≤ cw))) ∧ (((@Eq (List IntKind) ([IntKind.u64]) ([IntKind.u64])) ∧ ((@Eq Nat (nw) (nw)) ∧ (@Eq Nat (cw) (cw)))) ∧ (q2 ∧ ((True) ∧ (T0 ∧ (if (@Eq Int (arE nw fw) ((0 : Int))) then (t3 (q2 ∧ ((True) ∧ (T0 ∧ (if (@Eq Int (sze p q) ((0 : Int))) then (T0 ∧ (if (a < (1 : Int)) then q23 else (q11 ∧ (T0 ∧ (if ((↑nw : Int) ≤ a) then q23 else (t3 (((q6 ≤ p + q) ∧ (p + q ≤ q5)) ∧ (q11 ∧ (T0 ∧ (((q6 ≤ (↑nw : Int) - a) ∧ ((↑nw : Int) - a ≤ q5)) ∧ (T0 ∧ (if ((↑nw : Int) - a ≤ p + q) then q23 else (T0 ∧ (q11 ∧ (q11 ∧ (t4 (q11 ∧ (q11 ∧ (t4 (q0 ∧ (q1 ∧ (T0 ∧ (q7 ∧ (Go.Rx.br (decide ((0 : Nat) < nw)) (∀ y0 : Nat, let q24 := (y0 - (1 : Nat) + (1 : Nat)); let q25 := (↑q24 : Int); ((nw ≤ y0) → (q16 ∧ ((((0 : Int) ≤ a) ∧ (a < (↑nw : Int))) ∧ ((false = false) ∧ ((Int.toNat a < nw) ∧ (t3 (q19 ∧ (T0 ∧ (q19 ∧ (t2 (q20 ∧ (t2 (q22 ∧ (q11 ∧ (t4 (q8 ∧ ((q4 ∧ (q10 ∧ ((a + (1 : Int) + p + q ≤ q25) ∧ (q25 ≤ q25)))) ∧ (Go.Rx.br (decide (a + (1 : Int) < q25)) (q11 ∧ (t3 (((false = false) ∧ ((Int.toNat (a + (1 : Int)) + Int.toNat q12 ≤ nw) ∧ T0)) ∧ (∃ y1 : Value, (∃ y2 : List Blk, ((Go.Rx.Found 1 (Value.tuple { toList := [rsl (3 : Nat) (0 : Nat) nw q24, vi (0 : Int)] }) ({ h := [((3 : Nat), Blk.row false [IntKind.u64] (25 : Nat) nw q24 (clrF q18 q3 q14)), q21, q17, q13], next := (4 : Nat) }) (y1) (y2)) ∧ (K y1 y2))))))) (q11 ∧ (t3 (((false = false) ∧ (((0 : Nat) ≤ nw) ∧ T0)) ∧ (∃ y1 : Value, (∃ y2 : List Blk, ((Go.Rx.Found 1 (Value.tuple { toList := [rsl (3 : Nat) (0 : Nat) nw q24, vi (0 : Int)] }) ({ h := [((3 : Nat), Blk.row false [IntKind.u64] (25 : Nat) nw q24 (clrF q18 (0 : Nat) (0 : Nat))), q21, q17, q13], next := (4 : Nat) }) (y1) (y2)) ∧ (K y1 y2)))))))))))))))))))))))))) (q16 ∧ ((((0 : Int) ≤ a) ∧ (a < (↑(0 : Nat) : Int))) ∧ ((false = false) ∧ ((Int.toNat a < (0 : Nat)) ∧ (t3 (q19 ∧ (T0 ∧ (q19 ∧ (t2 (q20 ∧ (t2 (q22 ∧ (q11 ∧ (t4 (q8 ∧ ((q4 ∧ (q10 ∧ ((a + (1 : Int) + p + q ≤ (↑(0 : Nat) : Int)) ∧ ((↑(0 : Nat) : Int) ≤ (↑(0 : Nat) : Int))))) ∧ (Go.Rx.br (decide (a + (1 : Int) < (↑(0 : Nat) : Int))) (q11 ∧ (t3 (((false = false) ∧ ((Int.toNat (a + (1 : Int)) + Int.toNat q12 ≤ (0 : Nat)) ∧ T0)) ∧ (∃ y0 : Value, (∃ y1 : List Blk, ((Go.Rx.Found 1 (Value.tuple { toList := [rsl (2 : Nat) (0 : Nat) (0 : Nat) (0 : Nat), vi (0 : Int)] }) ({ h := [((2 : Nat), Blk.row false [IntKind.u64] (25 : Nat) (0 : Nat) (0 : Nat) (clrF q15 q3 q14)), q17, q13], next := (3 : Nat) }) (y0) (y1)) ∧ (K y0 y1))))))) (q11 ∧ (t3 (((false = false) ∧ (((0 : Nat) ≤ (0 : Nat)) ∧ T0)) ∧ (∃ y0 : Value, (∃ y1 : List Blk, ((Go.Rx.Found 1 (Value.tuple { toList := [rsl (2 : Nat) (0 : Nat) (0 : Nat) (0 : Nat), vi (0 : Int)] }) ({ h := [((2 : Nat), Blk.row false [IntKind.u64] (25 : Nat) (0 : Nat) (0 : Nat) (clrF q15 (0 : Nat) (0 : Nat))), q17, q13], next := (3 : Nat) }) (y0) (y1)) ∧ (K y0 y1)))))))))))))))))))))))))))))))))))))))))))))))) else (∃ y0 : Value, (∃ y1 : List Blk, ((Go.Rx.Found 1 (Value.tuple { toList := [vn, vi (sze p q)] }) ({ h := [q17, q13], next := (2 : Nat) }) (y0) (y1)) ∧ (K y0 y1))))))))) else (∃ y0 : Value, (∃ y1 : List Blk, ((Go.Rx.Found 1 (Value.tuple { toList := [vn, vi (arE nw fw)] }) ({ h := [q17, q13], next := (2 : Nat) }) (y0) (y1)) ∧ (K y0 y1))))))))))))
theorem mkO_G_rE (ew nw cw : Nat) (fw : RF) (a : Int) (p : Int) (q : Int) (K : Value → List Blk → Prop) : mkO_G_rV ew nw cw fw a p q K = bodyX (mk XM) (callN (mk XM) 9) (mkO_G_rA ew nw cw fw a p q) Try.f44 [rsl 0 0 nw cw, .int .i64 a, .agg ⟨[.int .i64 p, .int .i64 q]⟩] (stOf [.row true [.u64] ew nw cw fw]) (Fd 1 K) := by kernel_rfl
set_option tactic.hygienic false in
theorem mkO_G_rP (ew nw cw : Nat) (fw : RF) (a : Int) (p : Int) (q : Int) (K : Value → List Blk → Prop)  (hnw : nw ≤ 100000) (hcw : nw ≤ cw) (hU : Ok64 nw fw) (h1 : mkE nw fw a p q = 0) (h : ∀ cp, nw ≤ cp → K (.tuple ⟨[rsl 1 0 (nw) cp, .int .i64 (0)]⟩) [.row false [.u64] 25 (nw) cp (mkF fw (Int.toNat a) (Int.toNat (1 + p + q)) (1 + 256 * p + 65536 * q))]) : mkO_G_rV ew nw cw fw a p q K := by
  unfold mkO_G_rV
  conv => zeta
  have z0 := ar_cases nw fw
  have z1 := mk_cases nw fw a p q
  have z2 := sze_cases p q
  have z3 := pkv_cases p q
  repeat' (first | (with_reducible exact rfl) | (with_reducible exact trivial) | (with_reducible refine And.intro ?_ ?_) | (intro) | (with_reducible refine br_d (fun hq => ?_) (fun hq => ?_)) | (with_reducible refine br_nd (fun hq => ?_) (fun hq => ?_)) | (with_reducible refine br_intro (fun hq => ?_) (fun hq => ?_)) | (with_reducible refine if_both (fun hz => ?_) (fun hz => ?_)) | fail)

  all_goals first
    | (with_reducible assumption)
    | (refine (id ?_ : ∃ (v1 : Value) (news : List Blk), _)
       first
        | contradiction
        | (refine fin1t rfl ?_ (by kernel_rfl) (by kernel_rfl) (h _ (by omega)); (intro i j hi hj; obtain rfl : j = 0 := (by simp at hj; omega); (try unfold setF); (try unfold zroF); (try unfold mkF); (try unfold putF); (try unfold appF); (try unfold clrF); (try unfold setF); (try unfold zroF); (repeat' split) <;> first | rfl | omega | (exfalso; omega) | (simp_all; done) | (simp_all; omega)))
        | (exfalso; omega)
        | (exfalso; simp at hq; omega)
       )
    | omega
    | contradiction
    | (refine fin1t rfl ?_ (by kernel_rfl) (by kernel_rfl) (h _ (by omega)); (intro i j hi hj; obtain rfl : j = 0 := (by simp at hj; omega); (try unfold setF); (try unfold zroF); (try unfold mkF); (try unfold putF); (try unfold appF); (try unfold clrF); (try unfold setF); (try unfold zroF); (repeat' split) <;> first | rfl | omega | (exfalso; omega) | (simp_all; done) | (simp_all; omega)))
    | (exfalso; omega)
    | (exfalso; simp at hq; omega)
theorem mkO_G_ok : BodyOk (mk XM) 9 Try.f44 mkO_G := by
  intro vs bs K hh hro
  clear hro
  unfold mkO_G at hh
  split at hh
  · rename_i vw a p q
    obtain ⟨ew, nw, cw, fw, btw, rfl, hnw, hcw, rfl, hh0⟩ := parseRQ_inv hh
    obtain ⟨rfl, ⟨hU, h1⟩, hc⟩ := hh0
    exact ⟨_, _, cast (mkO_G_rE ew nw cw fw a p q K) (mkO_G_rP ew nw cw fw a p q K hnw hcw hU h1 hc)⟩
  · exact hh.elim
theorem mkO_G_told : Told 44 (specOf mkO_G) := told (X := XM) XM_told (by kernel_rfl) (by kernel_rfl) (by kernel_rfl) mkO_G_ok
end Go.Proofs.Ytfgeoglegebncaa.Fr
