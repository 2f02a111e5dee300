/-
  The program's tables, as the calculus takes them. No project text.
-/
import Derived.Test.YtfgeoglegebncaaZ4
import Derived.Test.YtfgeoglegebncaaChecked
namespace Go.Proofs.Ytfgeoglegebncaa.Fr
set_option maxRecDepth 100000
set_option maxHeartbeats 4000000
open Go.Rx
abbrev T0 : Prop := true = true
abbrev t2 (p : Prop) : Prop := T0 ∧ T0 ∧ p
abbrev t3 (p : Prop) : Prop := T0 ∧ T0 ∧ T0 ∧ p
abbrev t4 (p : Prop) : Prop := T0 ∧ T0 ∧ T0 ∧ T0 ∧ p
abbrev t5 (p : Prop) : Prop := T0 ∧ T0 ∧ T0 ∧ T0 ∧ T0 ∧ p
abbrev t6 (p : Prop) : Prop := T0 ∧ T0 ∧ T0 ∧ T0 ∧ T0 ∧ T0 ∧ p
abbrev t7 (p : Prop) : Prop := T0 ∧ T0 ∧ T0 ∧ T0 ∧ T0 ∧ T0 ∧ T0 ∧ p
abbrev t8 (p : Prop) : Prop := T0 ∧ T0 ∧ T0 ∧ T0 ∧ T0 ∧ T0 ∧ T0 ∧ T0 ∧ p
abbrev t9 (p : Prop) : Prop := T0 ∧ T0 ∧ T0 ∧ T0 ∧ T0 ∧ T0 ∧ T0 ∧ T0 ∧ T0 ∧ p
abbrev TS : Prop := @Eq Ev.TK Ev.TK.slice Ev.TK.slice
abbrev vi (z : Int) : Value := .int .i64 z
abbrev vn : Value := .slice none 0 0
abbrev eN (n : Nat) : Prop := n = n
abbrev k2 : List IntKind := [.i64, .i64]
abbrev eK : Prop := k2 = k2
abbrev eB : Prop := @Eq (List Blk) [] []
abbrev rF (e n c : Nat) (f : Nat → Nat → Int) : Blk := .row false [.i64, .i64] e n c f
abbrev rT (e n c : Nat) (f : Nat → Nat → Int) : Blk := .row true [.i64, .i64] e n c f
abbrev Fd (m : Nat) (K : Value → List Blk → Prop) : KV := fun v s' => ∃ v1 news, Rx.Found m v s' v1 news ∧ K v1 news
open Go.Rx
open Go.RowKit (Below)
set_option linter.unusedVariables false
def T : List (Nat × Ev.TI) := [
  (3, { size := (1 : Nat), bytes := (8 : Nat), agg := false, zero := some [Value.int IntKind.i64 (0 : Int)], zval := some (Value.int IntKind.i64 (0 : Int)), kind := Ev.TK.int IntKind.i64, fields := [], len := (0 : Nat), elem := (0 : Nat), eagg := false, esize := (1 : Nat), kk := Ev.TK.other }),
  (4, { size := (1 : Nat), bytes := (1 : Nat), agg := false, zero := some [Value.bool false], zval := some (Value.bool false), kind := Ev.TK.other, fields := [], len := (0 : Nat), elem := (0 : Nat), eagg := false, esize := (1 : Nat), kk := Ev.TK.other }),
  (5, { size := (1 : Nat), bytes := (1 : Nat), agg := false, zero := some [Value.int IntKind.u8 (0 : Int)], zval := some (Value.int IntKind.u8 (0 : Int)), kind := Ev.TK.int IntKind.u8, fields := [], len := (0 : Nat), elem := (0 : Nat), eagg := false, esize := (1 : Nat), kk := Ev.TK.other }),
  (22, { size := (5 : Nat), bytes := (40 : Nat), agg := true, zero := some [Value.int IntKind.i64 (0 : Int), Value.int IntKind.i64 (0 : Int), Value.int IntKind.i64 (0 : Int), Value.int IntKind.i64 (0 : Int), Value.int IntKind.i64 (0 : Int)], zval := some (Value.agg { toList := [Value.int IntKind.i64 (0 : Int), Value.int IntKind.i64 (0 : Int), Value.int IntKind.i64 (0 : Int), Value.int IntKind.i64 (0 : Int), Value.int IntKind.i64 (0 : Int)] }), kind := Ev.TK.struct, fields := [((0 : Nat), false, (1 : Nat)), ((1 : Nat), false, (1 : Nat)), ((2 : Nat), false, (1 : Nat)), ((3 : Nat), false, (1 : Nat)), ((4 : Nat), false, (1 : Nat))], len := (0 : Nat), elem := (0 : Nat), eagg := false, esize := (1 : Nat), kk := Ev.TK.other }),
  (23, { size := (5 : Nat), bytes := (40 : Nat), agg := true, zero := some [Value.int IntKind.i64 (0 : Int), Value.int IntKind.i64 (0 : Int), Value.int IntKind.i64 (0 : Int), Value.int IntKind.i64 (0 : Int), Value.int IntKind.i64 (0 : Int)], zval := some (Value.agg { toList := [Value.int IntKind.i64 (0 : Int), Value.int IntKind.i64 (0 : Int), Value.int IntKind.i64 (0 : Int), Value.int IntKind.i64 (0 : Int), Value.int IntKind.i64 (0 : Int)] }), kind := Ev.TK.struct, fields := [((0 : Nat), false, (1 : Nat)), ((1 : Nat), false, (1 : Nat)), ((2 : Nat), false, (1 : Nat)), ((3 : Nat), false, (1 : Nat)), ((4 : Nat), false, (1 : Nat))], len := (0 : Nat), elem := (0 : Nat), eagg := false, esize := (1 : Nat), kk := Ev.TK.other }),
  (24, { size := (1 : Nat), bytes := (24 : Nat), agg := false, zero := some [Value.slice none (0 : Nat) (0 : Nat)], zval := some (Value.slice none (0 : Nat) (0 : Nat)), kind := Ev.TK.slice, fields := [], len := (0 : Nat), elem := (25 : Nat), eagg := false, esize := (1 : Nat), kk := Ev.TK.other }),
  (25, { size := (1 : Nat), bytes := (8 : Nat), agg := false, zero := some [Value.int IntKind.u64 (0 : Int)], zval := some (Value.int IntKind.u64 (0 : Int)), kind := Ev.TK.int IntKind.u64, fields := [], len := (0 : Nat), elem := (0 : Nat), eagg := false, esize := (1 : Nat), kk := Ev.TK.other }),
  (26, { size := (2 : Nat), bytes := (16 : Nat), agg := true, zero := some [Value.int IntKind.i64 (0 : Int), Value.int IntKind.u64 (0 : Int)], zval := some (Value.agg { toList := [Value.int IntKind.i64 (0 : Int), Value.int IntKind.u64 (0 : Int)] }), kind := Ev.TK.struct, fields := [((0 : Nat), false, (1 : Nat)), ((1 : Nat), false, (1 : Nat))], len := (0 : Nat), elem := (0 : Nat), eagg := false, esize := (1 : Nat), kk := Ev.TK.other }),
  (27, { size := (2 : Nat), bytes := (16 : Nat), agg := true, zero := some [Value.int IntKind.i64 (0 : Int), Value.int IntKind.u64 (0 : Int)], zval := some (Value.agg { toList := [Value.int IntKind.i64 (0 : Int), Value.int IntKind.u64 (0 : Int)] }), kind := Ev.TK.struct, fields := [((0 : Nat), false, (1 : Nat)), ((1 : Nat), false, (1 : Nat))], len := (0 : Nat), elem := (0 : Nat), eagg := false, esize := (1 : Nat), kk := Ev.TK.other }),
  (29, { size := (1 : Nat), bytes := (8 : Nat), agg := false, zero := some [Value.int IntKind.i64 (0 : Int)], zval := some (Value.int IntKind.i64 (0 : Int)), kind := Ev.TK.int IntKind.i64, fields := [], len := (0 : Nat), elem := (0 : Nat), eagg := false, esize := (1 : Nat), kk := Ev.TK.other }),
  (38, { size := (3 : Nat), bytes := (24 : Nat), agg := true, zero := some [Value.int IntKind.i64 (0 : Int), Value.int IntKind.i64 (0 : Int), Value.int IntKind.i64 (0 : Int)], zval := some (Value.agg { toList := [Value.int IntKind.i64 (0 : Int), Value.int IntKind.i64 (0 : Int), Value.int IntKind.i64 (0 : Int)] }), kind := Ev.TK.array, fields := [], len := (3 : Nat), elem := (3 : Nat), eagg := false, esize := (1 : Nat), kk := Ev.TK.other }),
  (43, { size := (1 : Nat), bytes := (24 : Nat), agg := false, zero := some [Value.slice none (0 : Nat) (0 : Nat)], zval := some (Value.slice none (0 : Nat) (0 : Nat)), kind := Ev.TK.slice, fields := [], len := (0 : Nat), elem := (3 : Nat), eagg := false, esize := (1 : Nat), kk := Ev.TK.other }),
  (48, { size := (1 : Nat), bytes := (24 : Nat), agg := false, zero := some [Value.slice none (0 : Nat) (0 : Nat)], zval := some (Value.slice none (0 : Nat) (0 : Nat)), kind := Ev.TK.slice, fields := [], len := (0 : Nat), elem := (56 : Nat), eagg := true, esize := (5 : Nat), kk := Ev.TK.other }),
  (49, { size := (2 : Nat), bytes := (16 : Nat), agg := true, zero := some [Value.int IntKind.i64 (0 : Int), Value.int IntKind.i64 (0 : Int)], zval := some (Value.agg { toList := [Value.int IntKind.i64 (0 : Int), Value.int IntKind.i64 (0 : Int)] }), kind := Ev.TK.struct, fields := [((0 : Nat), false, (1 : Nat)), ((1 : Nat), false, (1 : Nat))], len := (0 : Nat), elem := (0 : Nat), eagg := false, esize := (1 : Nat), kk := Ev.TK.other }),
  (50, { size := (2 : Nat), bytes := (16 : Nat), agg := true, zero := some [Value.int IntKind.i64 (0 : Int), Value.int IntKind.i64 (0 : Int)], zval := some (Value.agg { toList := [Value.int IntKind.i64 (0 : Int), Value.int IntKind.i64 (0 : Int)] }), kind := Ev.TK.struct, fields := [((0 : Nat), false, (1 : Nat)), ((1 : Nat), false, (1 : Nat))], len := (0 : Nat), elem := (0 : Nat), eagg := false, esize := (1 : Nat), kk := Ev.TK.other }),
  (55, { size := (5 : Nat), bytes := (40 : Nat), agg := true, zero := some [Value.int IntKind.i64 (0 : Int), Value.int IntKind.i64 (0 : Int), Value.int IntKind.i64 (0 : Int), Value.int IntKind.i64 (0 : Int), Value.int IntKind.u64 (0 : Int)], zval := some (Value.agg { toList := [Value.int IntKind.i64 (0 : Int), Value.int IntKind.i64 (0 : Int), Value.int IntKind.i64 (0 : Int), Value.int IntKind.i64 (0 : Int), Value.int IntKind.u64 (0 : Int)] }), kind := Ev.TK.struct, fields := [((0 : Nat), false, (1 : Nat)), ((1 : Nat), false, (1 : Nat)), ((2 : Nat), false, (1 : Nat)), ((3 : Nat), false, (1 : Nat)), ((4 : Nat), false, (1 : Nat))], len := (0 : Nat), elem := (0 : Nat), eagg := false, esize := (1 : Nat), kk := Ev.TK.other }),
  (56, { size := (5 : Nat), bytes := (40 : Nat), agg := true, zero := some [Value.int IntKind.i64 (0 : Int), Value.int IntKind.i64 (0 : Int), Value.int IntKind.i64 (0 : Int), Value.int IntKind.i64 (0 : Int), Value.int IntKind.u64 (0 : Int)], zval := some (Value.agg { toList := [Value.int IntKind.i64 (0 : Int), Value.int IntKind.i64 (0 : Int), Value.int IntKind.i64 (0 : Int), Value.int IntKind.i64 (0 : Int), Value.int IntKind.u64 (0 : Int)] }), kind := Ev.TK.struct, fields := [((0 : Nat), false, (1 : Nat)), ((1 : Nat), false, (1 : Nat)), ((2 : Nat), false, (1 : Nat)), ((3 : Nat), false, (1 : Nat)), ((4 : Nat), false, (1 : Nat))], len := (0 : Nat), elem := (0 : Nat), eagg := false, esize := (1 : Nat), kk := Ev.TK.other }),
  (59, { size := (2 : Nat), bytes := (16 : Nat), agg := true, zero := some [Value.int IntKind.i64 (0 : Int), Value.int IntKind.i64 (0 : Int)], zval := some (Value.agg { toList := [Value.int IntKind.i64 (0 : Int), Value.int IntKind.i64 (0 : Int)] }), kind := Ev.TK.struct, fields := [((0 : Nat), false, (1 : Nat)), ((1 : Nat), false, (1 : Nat))], len := (0 : Nat), elem := (0 : Nat), eagg := false, esize := (1 : Nat), kk := Ev.TK.other }),
  (60, { size := (2 : Nat), bytes := (16 : Nat), agg := true, zero := some [Value.int IntKind.i64 (0 : Int), Value.int IntKind.i64 (0 : Int)], zval := some (Value.agg { toList := [Value.int IntKind.i64 (0 : Int), Value.int IntKind.i64 (0 : Int)] }), kind := Ev.TK.struct, fields := [((0 : Nat), false, (1 : Nat)), ((1 : Nat), false, (1 : Nat))], len := (0 : Nat), elem := (0 : Nat), eagg := false, esize := (1 : Nat), kk := Ev.TK.other }),
  (69, { size := (2 : Nat), bytes := (16 : Nat), agg := true, zero := some [Value.int IntKind.i64 (0 : Int), Value.int IntKind.i64 (0 : Int)], zval := some (Value.agg { toList := [Value.int IntKind.i64 (0 : Int), Value.int IntKind.i64 (0 : Int)] }), kind := Ev.TK.array, fields := [], len := (2 : Nat), elem := (3 : Nat), eagg := false, esize := (1 : Nat), kk := Ev.TK.other }),
  (73, { size := (4 : Nat), bytes := (32 : Nat), agg := true, zero := some [Value.int IntKind.i64 (0 : Int), Value.int IntKind.i64 (0 : Int), Value.int IntKind.i64 (0 : Int), Value.int IntKind.u64 (0 : Int)], zval := some (Value.agg { toList := [Value.int IntKind.i64 (0 : Int), Value.int IntKind.i64 (0 : Int), Value.int IntKind.i64 (0 : Int), Value.int IntKind.u64 (0 : Int)] }), kind := Ev.TK.struct, fields := [((0 : Nat), false, (1 : Nat)), ((1 : Nat), false, (1 : Nat)), ((2 : Nat), false, (1 : Nat)), ((3 : Nat), false, (1 : Nat))], len := (0 : Nat), elem := (0 : Nat), eagg := false, esize := (1 : Nat), kk := Ev.TK.other }),
  (74, { size := (4 : Nat), bytes := (32 : Nat), agg := true, zero := some [Value.int IntKind.i64 (0 : Int), Value.int IntKind.i64 (0 : Int), Value.int IntKind.i64 (0 : Int), Value.int IntKind.u64 (0 : Int)], zval := some (Value.agg { toList := [Value.int IntKind.i64 (0 : Int), Value.int IntKind.i64 (0 : Int), Value.int IntKind.i64 (0 : Int), Value.int IntKind.u64 (0 : Int)] }), kind := Ev.TK.struct, fields := [((0 : Nat), false, (1 : Nat)), ((1 : Nat), false, (1 : Nat)), ((2 : Nat), false, (1 : Nat)), ((3 : Nat), false, (1 : Nat))], len := (0 : Nat), elem := (0 : Nat), eagg := false, esize := (1 : Nat), kk := Ev.TK.other }),
  (86, { size := (1 : Nat), bytes := (24 : Nat), agg := false, zero := some [Value.slice none (0 : Nat) (0 : Nat)], zval := some (Value.slice none (0 : Nat) (0 : Nat)), kind := Ev.TK.slice, fields := [], len := (0 : Nat), elem := (91 : Nat), eagg := true, esize := (2 : Nat), kk := Ev.TK.other }),
  (90, { size := (2 : Nat), bytes := (16 : Nat), agg := true, zero := some [Value.int IntKind.i64 (0 : Int), Value.int IntKind.i64 (0 : Int)], zval := some (Value.agg { toList := [Value.int IntKind.i64 (0 : Int), Value.int IntKind.i64 (0 : Int)] }), kind := Ev.TK.struct, fields := [((0 : Nat), false, (1 : Nat)), ((1 : Nat), false, (1 : Nat))], len := (0 : Nat), elem := (0 : Nat), eagg := false, esize := (1 : Nat), kk := Ev.TK.other }),
  (91, { size := (2 : Nat), bytes := (16 : Nat), agg := true, zero := some [Value.int IntKind.i64 (0 : Int), Value.int IntKind.i64 (0 : Int)], zval := some (Value.agg { toList := [Value.int IntKind.i64 (0 : Int), Value.int IntKind.i64 (0 : Int)] }), kind := Ev.TK.struct, fields := [((0 : Nat), false, (1 : Nat)), ((1 : Nat), false, (1 : Nat))], len := (0 : Nat), elem := (0 : Nat), eagg := false, esize := (1 : Nat), kk := Ev.TK.other }),
  (103, { size := (1 : Nat), bytes := (24 : Nat), agg := false, zero := some [Value.slice none (0 : Nat) (0 : Nat)], zval := some (Value.slice none (0 : Nat) (0 : Nat)), kind := Ev.TK.slice, fields := [], len := (0 : Nat), elem := (24 : Nat), eagg := false, esize := (1 : Nat), kk := Ev.TK.other }),
  (104, { size := (1 : Nat), bytes := (8 : Nat), agg := false, zero := some [Value.pointer none], zval := some (Value.pointer none), kind := Ev.TK.pointer, fields := [], len := (0 : Nat), elem := (107 : Nat), eagg := true, esize := (4 : Nat), kk := Ev.TK.other }),
  (106, { size := (4 : Nat), bytes := (64 : Nat), agg := true, zero := some [Value.slice none (0 : Nat) (0 : Nat), Value.slice none (0 : Nat) (0 : Nat), Value.int IntKind.i64 (0 : Int), Value.int IntKind.i64 (0 : Int)], zval := some (Value.agg { toList := [Value.slice none (0 : Nat) (0 : Nat), Value.slice none (0 : Nat) (0 : Nat), Value.int IntKind.i64 (0 : Int), Value.int IntKind.i64 (0 : Int)] }), kind := Ev.TK.struct, fields := [((0 : Nat), false, (1 : Nat)), ((1 : Nat), false, (1 : Nat)), ((2 : Nat), true, (2 : Nat))], len := (0 : Nat), elem := (0 : Nat), eagg := false, esize := (1 : Nat), kk := Ev.TK.other }),
  (107, { size := (4 : Nat), bytes := (64 : Nat), agg := true, zero := some [Value.slice none (0 : Nat) (0 : Nat), Value.slice none (0 : Nat) (0 : Nat), Value.int IntKind.i64 (0 : Int), Value.int IntKind.i64 (0 : Int)], zval := some (Value.agg { toList := [Value.slice none (0 : Nat) (0 : Nat), Value.slice none (0 : Nat) (0 : Nat), Value.int IntKind.i64 (0 : Int), Value.int IntKind.i64 (0 : Int)] }), kind := Ev.TK.struct, fields := [((0 : Nat), false, (1 : Nat)), ((1 : Nat), false, (1 : Nat)), ((2 : Nat), true, (2 : Nat))], len := (0 : Nat), elem := (0 : Nat), eagg := false, esize := (1 : Nat), kk := Ev.TK.other }),
  (108, { size := (1 : Nat), bytes := (8 : Nat), agg := false, zero := some [Value.nilFunc], zval := some Value.nilFunc, kind := Ev.TK.func, fields := [], len := (0 : Nat), elem := (0 : Nat), eagg := false, esize := (1 : Nat), kk := Ev.TK.other }),
  (111, { size := (1 : Nat), bytes := (24 : Nat), agg := true, zero := some [Value.slice none (0 : Nat) (0 : Nat)], zval := some (Value.agg { toList := [Value.slice none (0 : Nat) (0 : Nat)] }), kind := Ev.TK.struct, fields := [((0 : Nat), false, (1 : Nat))], len := (0 : Nat), elem := (0 : Nat), eagg := false, esize := (1 : Nat), kk := Ev.TK.other }),
  (112, { size := (1 : Nat), bytes := (24 : Nat), agg := true, zero := some [Value.slice none (0 : Nat) (0 : Nat)], zval := some (Value.agg { toList := [Value.slice none (0 : Nat) (0 : Nat)] }), kind := Ev.TK.struct, fields := [((0 : Nat), false, (1 : Nat))], len := (0 : Nat), elem := (0 : Nat), eagg := false, esize := (1 : Nat), kk := Ev.TK.other }),
  (113, { size := (2 : Nat), bytes := (32 : Nat), agg := true, zero := some [Value.slice none (0 : Nat) (0 : Nat), Value.int IntKind.i64 (0 : Int)], zval := some (Value.agg { toList := [Value.slice none (0 : Nat) (0 : Nat), Value.int IntKind.i64 (0 : Int)] }), kind := Ev.TK.struct, fields := [((0 : Nat), true, (1 : Nat)), ((1 : Nat), false, (1 : Nat))], len := (0 : Nat), elem := (0 : Nat), eagg := false, esize := (1 : Nat), kk := Ev.TK.other }),
  (114, { size := (2 : Nat), bytes := (32 : Nat), agg := true, zero := some [Value.slice none (0 : Nat) (0 : Nat), Value.int IntKind.i64 (0 : Int)], zval := some (Value.agg { toList := [Value.slice none (0 : Nat) (0 : Nat), Value.int IntKind.i64 (0 : Int)] }), kind := Ev.TK.struct, fields := [((0 : Nat), true, (1 : Nat)), ((1 : Nat), false, (1 : Nat))], len := (0 : Nat), elem := (0 : Nat), eagg := false, esize := (1 : Nat), kk := Ev.TK.other }),
  (115, { size := (1 : Nat), bytes := (24 : Nat), agg := true, zero := some [Value.slice none (0 : Nat) (0 : Nat)], zval := some (Value.agg { toList := [Value.slice none (0 : Nat) (0 : Nat)] }), kind := Ev.TK.struct, fields := [((0 : Nat), true, (1 : Nat))], len := (0 : Nat), elem := (0 : Nat), eagg := false, esize := (1 : Nat), kk := Ev.TK.other }),
  (116, { size := (1 : Nat), bytes := (24 : Nat), agg := true, zero := some [Value.slice none (0 : Nat) (0 : Nat)], zval := some (Value.agg { toList := [Value.slice none (0 : Nat) (0 : Nat)] }), kind := Ev.TK.struct, fields := [((0 : Nat), true, (1 : Nat))], len := (0 : Nat), elem := (0 : Nat), eagg := false, esize := (1 : Nat), kk := Ev.TK.other }),
  (117, { size := (5 : Nat), bytes := (72 : Nat), agg := true, zero := some [Value.int IntKind.i64 (0 : Int), Value.int IntKind.i64 (0 : Int), Value.slice none (0 : Nat) (0 : Nat), Value.int IntKind.i64 (0 : Int), Value.slice none (0 : Nat) (0 : Nat)], zval := some (Value.agg { toList := [Value.int IntKind.i64 (0 : Int), Value.int IntKind.i64 (0 : Int), Value.slice none (0 : Nat) (0 : Nat), Value.int IntKind.i64 (0 : Int), Value.slice none (0 : Nat) (0 : Nat)] }), kind := Ev.TK.struct, fields := [((0 : Nat), true, (2 : Nat)), ((2 : Nat), true, (2 : Nat)), ((4 : Nat), true, (1 : Nat))], len := (0 : Nat), elem := (0 : Nat), eagg := false, esize := (1 : Nat), kk := Ev.TK.other }),
  (118, { size := (5 : Nat), bytes := (72 : Nat), agg := true, zero := some [Value.int IntKind.i64 (0 : Int), Value.int IntKind.i64 (0 : Int), Value.slice none (0 : Nat) (0 : Nat), Value.int IntKind.i64 (0 : Int), Value.slice none (0 : Nat) (0 : Nat)], zval := some (Value.agg { toList := [Value.int IntKind.i64 (0 : Int), Value.int IntKind.i64 (0 : Int), Value.slice none (0 : Nat) (0 : Nat), Value.int IntKind.i64 (0 : Int), Value.slice none (0 : Nat) (0 : Nat)] }), kind := Ev.TK.struct, fields := [((0 : Nat), true, (2 : Nat)), ((2 : Nat), true, (2 : Nat)), ((4 : Nat), true, (1 : Nat))], len := (0 : Nat), elem := (0 : Nat), eagg := false, esize := (1 : Nat), kk := Ev.TK.other }),
  (133, { size := (1 : Nat), bytes := (8 : Nat), agg := false, zero := some [Value.map none], zval := some (Value.map none), kind := Ev.TK.map, fields := [], len := (0 : Nat), elem := (3 : Nat), eagg := false, esize := (1 : Nat), kk := Ev.TK.int IntKind.i64 }),
  (134, { size := (1 : Nat), bytes := (24 : Nat), agg := false, zero := some [Value.slice none (0 : Nat) (0 : Nat)], zval := some (Value.slice none (0 : Nat) (0 : Nat)), kind := Ev.TK.slice, fields := [], len := (0 : Nat), elem := (4 : Nat), eagg := false, esize := (1 : Nat), kk := Ev.TK.other }),
  (137, { size := (1 : Nat), bytes := (8 : Nat), agg := false, zero := some [Value.map none], zval := some (Value.map none), kind := Ev.TK.map, fields := [], len := (0 : Nat), elem := (108 : Nat), eagg := false, esize := (1 : Nat), kk := Ev.TK.int IntKind.i64 }),
  (141, { size := (1 : Nat), bytes := (8 : Nat), agg := false, zero := some [Value.int IntKind.u64 (0 : Int)], zval := some (Value.int IntKind.u64 (0 : Int)), kind := Ev.TK.int IntKind.u64, fields := [], len := (0 : Nat), elem := (0 : Nat), eagg := false, esize := (1 : Nat), kk := Ev.TK.other }),
  (145, { size := (1 : Nat), bytes := (8 : Nat), agg := false, zero := some [Value.int IntKind.u64 (0 : Int)], zval := some (Value.int IntKind.u64 (0 : Int)), kind := Ev.TK.int IntKind.u64, fields := [], len := (0 : Nat), elem := (0 : Nat), eagg := false, esize := (1 : Nat), kk := Ev.TK.other }),
  (163, { size := (1 : Nat), bytes := (8 : Nat), agg := false, zero := some [Value.pointer none], zval := some (Value.pointer none), kind := Ev.TK.pointer, fields := [], len := (0 : Nat), elem := (3 : Nat), eagg := false, esize := (1 : Nat), kk := Ev.TK.other }),
  (165, { size := (1 : Nat), bytes := (24 : Nat), agg := false, zero := some [Value.slice none (0 : Nat) (0 : Nat)], zval := some (Value.slice none (0 : Nat) (0 : Nat)), kind := Ev.TK.slice, fields := [], len := (0 : Nat), elem := (170 : Nat), eagg := true, esize := (5 : Nat), kk := Ev.TK.other }),
  (167, { size := (1 : Nat), bytes := (8 : Nat), agg := false, zero := some [Value.nilFunc], zval := some Value.nilFunc, kind := Ev.TK.func, fields := [], len := (0 : Nat), elem := (0 : Nat), eagg := false, esize := (1 : Nat), kk := Ev.TK.other }),
  (168, { size := (1 : Nat), bytes := (8 : Nat), agg := false, zero := some [Value.nilFunc], zval := some Value.nilFunc, kind := Ev.TK.func, fields := [], len := (0 : Nat), elem := (0 : Nat), eagg := false, esize := (1 : Nat), kk := Ev.TK.other }),
  (169, { size := (5 : Nat), bytes := (48 : Nat), agg := true, zero := some [Value.string { data := #[] }, Value.int IntKind.i64 (0 : Int), Value.int IntKind.i64 (0 : Int), Value.nilFunc, Value.nilFunc], zval := some (Value.agg { toList := [Value.string { data := #[] }, Value.int IntKind.i64 (0 : Int), Value.int IntKind.i64 (0 : Int), Value.nilFunc, Value.nilFunc] }), kind := Ev.TK.struct, fields := [((0 : Nat), false, (1 : Nat)), ((1 : Nat), false, (1 : Nat)), ((2 : Nat), false, (1 : Nat)), ((3 : Nat), false, (1 : Nat)), ((4 : Nat), false, (1 : Nat))], len := (0 : Nat), elem := (0 : Nat), eagg := false, esize := (1 : Nat), kk := Ev.TK.other }),
  (170, { size := (5 : Nat), bytes := (48 : Nat), agg := true, zero := some [Value.string { data := #[] }, Value.int IntKind.i64 (0 : Int), Value.int IntKind.i64 (0 : Int), Value.nilFunc, Value.nilFunc], zval := some (Value.agg { toList := [Value.string { data := #[] }, Value.int IntKind.i64 (0 : Int), Value.int IntKind.i64 (0 : Int), Value.nilFunc, Value.nilFunc] }), kind := Ev.TK.struct, fields := [((0 : Nat), false, (1 : Nat)), ((1 : Nat), false, (1 : Nat)), ((2 : Nat), false, (1 : Nat)), ((3 : Nat), false, (1 : Nat)), ((4 : Nat), false, (1 : Nat))], len := (0 : Nat), elem := (0 : Nat), eagg := false, esize := (1 : Nat), kk := Ev.TK.other }),
  (171, { size := (1 : Nat), bytes := (8 : Nat), agg := false, zero := some [Value.pointer none], zval := some (Value.pointer none), kind := Ev.TK.pointer, fields := [], len := (0 : Nat), elem := (23 : Nat), eagg := true, esize := (5 : Nat), kk := Ev.TK.other })]
noncomputable def F : List (Nat × Func) := [(3, Try.f3), (4, Try.f4), (5, Try.f5), (6, Try.f6), (7, Try.f7), (8, Try.f8), (9, Try.f9), (10, Try.f10), (11, Try.f11), (12, Try.f12), (13, Try.f13), (14, Try.f14), (15, Try.f15), (16, Try.f16), (17, Try.f17), (18, Try.f18), (19, Try.f19), (20, Try.f20), (21, Try.f21), (22, Try.f22), (23, Try.f23), (24, Try.f24), (25, Try.f25), (26, Try.f26), (27, Try.f27), (28, Try.f28), (29, Try.f29), (30, Try.f30), (31, Try.f31), (32, Try.f32), (33, Try.f33), (34, Try.f34), (35, Try.f35), (36, Try.f36), (37, Try.f37), (38, Try.f38), (39, Try.f39), (40, Try.f40), (41, Try.f41), (42, Try.f42), (43, Try.f43), (44, Try.f44), (45, Try.f45), (46, Try.f46), (47, Try.f47), (48, Try.f48), (49, Try.f49), (50, Try.f50), (51, Try.f51), (52, Try.f52), (53, Try.f53), (54, Try.f54), (55, Try.f55), (56, Try.f56), (57, Try.f57), (58, Try.f58), (59, Try.f59), (60, Try.f60), (61, Try.f61), (62, Try.f62), (63, Try.f63), (64, Try.f64), (65, Try.f65), (66, Try.f66), (67, Try.f67), (68, Try.f68), (69, Try.f69), (70, Try.f70), (71, Try.f71), (72, Try.f72), (73, Try.f73), (74, Try.f74), (75, Try.f75), (76, Try.f76), (77, Try.f77), (78, Try.f78), (79, Try.f79), (80, Try.f80), (81, Try.f81), (82, Try.f82), (83, Try.f83), (84, Try.f84), (85, Try.f85), (86, Try.f86), (87, Try.f87), (88, Try.f88), (89, Try.f89), (90, Try.f90), (91, Try.f91), (92, Try.f92), (93, Try.f93), (94, Try.f94), (95, Try.f95), (96, Try.f96), (97, Try.f97), (98, Try.f98), (99, Try.f99), (100, Try.f100), (101, Try.f101), (102, Try.f102), (103, Try.f103), (104, Try.f104), (105, Try.f105), (106, Try.f106), (107, Try.f107), (108, Try.f108), (109, Try.f109), (110, Try.f110), (111, Try.f111), (112, Try.f112), (113, Try.f113), (114, Try.f114), (115, Try.f115), (116, Try.f116), (117, Try.f117), (118, Try.f118), (119, Try.f119), (120, Try.f120), (121, Try.f121), (122, Try.f122), (123, Try.f123), (124, Try.f124), (125, Try.f125), (126, Try.f126), (127, Try.f127), (128, Try.f128), (129, Try.f129), (130, Try.f130), (131, Try.f131), (132, Try.f132), (133, Try.f133), (134, Try.f134), (135, Try.f135), (136, Try.f136), (137, Try.f137), (138, Try.f138), (139, Try.f139), (140, Try.f140), (141, Try.f141), (142, Try.f142), (143, Try.f143), (144, Try.f144), (145, Try.f145), (146, Try.f146), (147, Try.f147), (148, Try.f148), (149, Try.f149), (150, Try.f150), (151, Try.f151), (152, Try.f152), (153, Try.f153), (154, Try.f154), (155, Try.f155), (156, Try.f156), (157, Try.f157), (158, Try.f158), (159, Try.f159), (160, Try.f160), (161, Try.f161), (162, Try.f162), (163, Try.f163), (164, Try.f164)]
def Q : List (Nat × List IntKind) := [(60, [.i64, .i64]), (50, [.i64, .i64])]
noncomputable abbrev mk (X : List (Nat × Rx.Spec)) : Env := ⟨Try.prog, T, F, Rx.look X, Q, [4]⟩
theorem qs60 : Ev.QOk Try.prog 60 [.i64, .i64] := by
  intro l m hl hm op x y w ho
  obtain ⟨aa0, aa1, rfl⟩ : ∃ aa0 aa1, l = [aa0, aa1] := by
    match l, hl with
    | [aa0, aa1], _ => exact ⟨aa0, aa1, rfl⟩
  obtain ⟨cc0, cc1, rfl⟩ : ∃ cc0 cc1, m = [cc0, cc1] := by
    match m, hm with
    | [cc0, cc1], _ => exact ⟨cc0, cc1, rfl⟩
  have u3 := Try.underlying3
  have a3 := Try.isAgg3
  have z3 := Try.sizeOf3
  have hS : Try.prog.underlying 60 = some (.struct (Try.prog.fieldsOf 60)) := by kernel_rfl
  have hp : Try.prog.stoodInHeld 60 = false := by kernel_rfl
  have hg : Try.prog.eqGuardType Try.prog.depth 60 = false := by kernel_rfl
  simp only [Ev.ints]
  rw [Sem.run_bind, run_eqGuard_agg w op 60 x y _ _ hg]
  rcases ho with rfl | rfl
  · simp only [Result.andThen_ok]
    rw [run_eql_struct, show (10000 : Nat) = 9999 + 1 from rfl, run_equalIn_agg w 9999 60 _ _ hS hp]
    simp only [Program.fieldsOf, Try.underlying60]
    go_simp
    by_cases h0 : aa0 = cc0 <;> by_cases h1 : aa1 = cc1 <;> simp [h0, h1]
  · simp only [Result.andThen_ok]
    rw [run_neq_struct, show (10000 : Nat) = 9999 + 1 from rfl, run_equalIn_agg w 9999 60 _ _ hS hp]
    simp only [Program.fieldsOf, Try.underlying60]
    go_simp
    by_cases h0 : aa0 = cc0 <;> by_cases h1 : aa1 = cc1 <;> simp [h0, h1]
theorem qs50 : Ev.QOk Try.prog 50 [.i64, .i64] := by
  intro l m hl hm op x y w ho
  obtain ⟨aa0, aa1, rfl⟩ : ∃ aa0 aa1, l = [aa0, aa1] := by
    match l, hl with
    | [aa0, aa1], _ => exact ⟨aa0, aa1, rfl⟩
  obtain ⟨cc0, cc1, rfl⟩ : ∃ cc0 cc1, m = [cc0, cc1] := by
    match m, hm with
    | [cc0, cc1], _ => exact ⟨cc0, cc1, rfl⟩
  have u3 := Try.underlying3
  have a3 := Try.isAgg3
  have z3 := Try.sizeOf3
  have hS : Try.prog.underlying 50 = some (.struct (Try.prog.fieldsOf 50)) := by kernel_rfl
  have hp : Try.prog.stoodInHeld 50 = false := by kernel_rfl
  have hg : Try.prog.eqGuardType Try.prog.depth 50 = false := by kernel_rfl
  simp only [Ev.ints]
  rw [Sem.run_bind, run_eqGuard_agg w op 50 x y _ _ hg]
  rcases ho with rfl | rfl
  · simp only [Result.andThen_ok]
    rw [run_eql_struct, show (10000 : Nat) = 9999 + 1 from rfl, run_equalIn_agg w 9999 50 _ _ hS hp]
    simp only [Program.fieldsOf, Try.underlying50]
    go_simp
    by_cases h0 : aa0 = cc0 <;> by_cases h1 : aa1 = cc1 <;> simp [h0, h1]
  · simp only [Result.andThen_ok]
    rw [run_neq_struct, show (10000 : Nat) = 9999 + 1 from rfl, run_equalIn_agg w 9999 50 _ _ hS hp]
    simp only [Program.fieldsOf, Try.underlying50]
    go_simp
    by_cases h0 : aa0 = cc0 <;> by_cases h1 : aa1 = cc1 <;> simp [h0, h1]
theorem mixed : Try.prog.follows .mixedOrders = true := by kernel_rfl
/-- A function's contract may be used. -/
def Told (f : Nat) (sp : Rx.Spec) : Prop := (∃ fn, Try.prog.funcs[f]? = some fn ∧ fn.body.isSome = true ∧ (fn.name == "runtime.NumGoroutine") = false) ∧ SpecOk Try.prog f sp
theorem mkOk {X : List (Nat × Rx.Spec)} (h : ∀ p ∈ X, Told p.1 p.2) : EnvOk (mk X) where
  types := look_all (q := fun ty i => Ev.mkTI Try.prog ty = some i) (by
    intro p hp
    simp only [T, List.mem_cons, List.not_mem_nil, or_false] at hp
    rcases hp with rfl | rfl | rfl | rfl | rfl | rfl | rfl | rfl | rfl | rfl | rfl | rfl | rfl | rfl | rfl | rfl | rfl | rfl | rfl | rfl | rfl | rfl | rfl | rfl | rfl | rfl | rfl | rfl | rfl | rfl | rfl | rfl | rfl | rfl | rfl | rfl | rfl | rfl | rfl | rfl | rfl | rfl | rfl | rfl | rfl | rfl | rfl | rfl | rfl | rfl <;> kernel_rfl)
  funcs := look_all (q := fun f fn => Try.prog.funcs[f]? = some fn ∧ (fn.name == "runtime.NumGoroutine") = false) (by
    intro p hp
    simp only [F, List.mem_cons, List.not_mem_nil, or_false] at hp
    rcases hp with rfl | rfl | rfl | rfl | rfl | rfl | rfl | rfl | rfl | rfl | rfl | rfl | rfl | rfl | rfl | rfl | rfl | rfl | rfl | rfl | rfl | rfl | rfl | rfl | rfl | rfl | rfl | rfl | rfl | rfl | rfl | rfl | rfl | rfl | rfl | rfl | rfl | rfl | rfl | rfl | rfl | rfl | rfl | rfl | rfl | rfl | rfl | rfl | rfl | rfl | rfl | rfl | rfl | rfl | rfl | rfl | rfl | rfl | rfl | rfl | rfl | rfl | rfl | rfl | rfl | rfl | rfl | rfl | rfl | rfl | rfl | rfl | rfl | rfl | rfl | rfl | rfl | rfl | rfl | rfl | rfl | rfl | rfl | rfl | rfl | rfl | rfl | rfl | rfl | rfl | rfl | rfl | rfl | rfl | rfl | rfl | rfl | rfl | rfl | rfl | rfl | rfl | rfl | rfl | rfl | rfl | rfl | rfl | rfl | rfl | rfl | rfl | rfl | rfl | rfl | rfl | rfl | rfl | rfl | rfl | rfl | rfl | rfl | rfl | rfl | rfl | rfl | rfl | rfl | rfl | rfl | rfl | rfl | rfl | rfl | rfl | rfl | rfl | rfl | rfl | rfl | rfl | rfl | rfl | rfl | rfl | rfl | rfl | rfl | rfl | rfl | rfl | rfl | rfl | rfl | rfl | rfl | rfl | rfl | rfl | rfl | rfl <;> exact ⟨by kernel_rfl, by kernel_rfl⟩)
  specs := look_all (q := Told) h
  mixed := mixed
  qs := look_all (q := fun ty ks => Ev.QOk Try.prog ty ks) (by
    intro p hp
    simp only [Q, List.mem_cons, List.not_mem_nil, or_false] at hp
    rcases hp with rfl | rfl
    · exact qs60
    · exact qs50)
  bo := by
    intro ty hty
    simp only [List.mem_cons, List.not_mem_nil, or_false] at hty
    subst hty
    kernel_rfl
/-- From a function's body to its contract. -/
theorem told {X : List (Nat × Rx.Spec)} (hX : ∀ p ∈ X, Told p.1 p.2) {f n : Nat} {fn : Func} (hf : Try.prog.funcs[f]? = some fn) (h1 : fn.body.isSome = true) (h2 : (fn.name == "runtime.NumGoroutine") = false) {c : Con} (hb : BodyOk (mk X) n fn c) : Told f (specOf c) :=
  ⟨⟨fn, hf, h1, h2⟩, specOf_ok (mkOk hX) hf hb⟩
end Go.Proofs.Ytfgeoglegebncaa.Fr
namespace Go.Proofs.Ytfgeoglegebncaa.Fr
set_option maxRecDepth 100000
set_option maxHeartbeats 4000000
open Go.Rx
open Go.RowKit (Below)
set_option linter.unusedVariables false
/-- A narrower contract. -/
theorem Told.mono {f : Nat} {c c' : Con} (h : Told f (specOf c)) (hc : ∀ vs bs K, c' vs bs K → c vs bs K) : Told f (specOf c') :=
  ⟨h.1, fun args s K hk => h.2 args s K (locA_mono (fun us bs => hc us bs _) args 0 hk)⟩
/-- A slice of a row of these kinds, or none; with the room that it has. -/
def parseQ (ks : List IntKind) (j : Nat) (v : Value) (bs : List Blk) (k : Nat → RF → Nat → List Blk → Prop) : Prop :=
  match v with
  | .slice none 0 0 => k 0 zF j bs
  | .slice (some ⟨b, 0, some 0⟩) n c => (b = j ∧ n ≤ 100000 ∧ n ≤ c) ∧ match bs with
    | .row true ks' _ n' c' f :: bs' => (ks' = ks ∧ n' = n ∧ c' = c) ∧ k n f (j + 1) bs'
    | _ => False
  | _ => False
theorem parseQ_inv {ks : List IntKind} {j : Nat} {v : Value} {bs : List Blk} {k : Nat → RF → Nat → List Blk → Prop} (h : parseQ ks j v bs k) : (v = .slice none 0 0 ∧ k 0 zF j bs) ∨ ∃ e n c f bs', v = rsl j 0 n c ∧ n ≤ 100000 ∧ n ≤ c ∧ bs = .row true ks e n c f :: bs' ∧ k n f (j + 1) bs' := by
  unfold parseQ at h
  split at h
  · exact .inl ⟨rfl, h⟩
  · obtain ⟨⟨rfl, hn, hc⟩, h⟩ := h
    split at h
    · obtain ⟨⟨rfl, rfl, rfl⟩, h⟩ := h
      exact .inr ⟨_, _, _, _, _, rfl, hn, hc, rfl, h⟩
    · exact h.elim
  · exact h.elim
def parseRQ (ks : List IntKind) (j : Nat) (v : Value) (bs : List Blk) (k : Nat → RF → Nat → List Blk → Prop) : Prop :=
  match v with
  | .slice (some ⟨b, 0, some 0⟩) n c => (b = j ∧ n ≤ 100000 ∧ n ≤ c) ∧ match bs with
    | .row true ks' _ n' c' f :: bs' => (ks' = ks ∧ n' = n ∧ c' = c) ∧ k n f (j + 1) bs'
    | _ => False
  | _ => False
theorem parseRQ_inv {ks : List IntKind} {j : Nat} {v : Value} {bs : List Blk} {k : Nat → RF → Nat → List Blk → Prop} (h : parseRQ ks j v bs k) : ∃ e n c f bs', v = rsl j 0 n c ∧ n ≤ 100000 ∧ n ≤ c ∧ bs = .row true ks e n c f :: bs' ∧ k n f (j + 1) bs' := by
  unfold parseRQ at h
  split at h
  · obtain ⟨⟨rfl, hn, hc⟩, h⟩ := h
    split at h
    · obtain ⟨⟨rfl, rfl, rfl⟩, h⟩ := h
      exact ⟨_, _, _, _, _, rfl, hn, hc, rfl, h⟩
    · exact h.elim
  · exact h.elim
abbrev KB := Value → List Blk → Prop
theorem fin0i {K : KB} {x y : Int} (e : x = y) (h : K (.int .i64 x) []) : K (.int .i64 y) [] := e ▸ h
theorem fin0p {K : KB} {x y x' y' : Int} (e : x = x') (e' : y = y') (h : K (.tuple ⟨[.int .i64 x, .int .i64 y]⟩) []) : K (.tuple ⟨[.int .i64 x', .int .i64 y']⟩) [] := e ▸ e' ▸ h
theorem fin0u {K : KB} {x y x' y' : Int} (e : x = x') (e' : y = y') (h : K (.tuple ⟨[.int .u64 x, .int .i64 y]⟩) []) : K (.tuple ⟨[.int .u64 x', .int .i64 y']⟩) [] := e ▸ e' ▸ h
theorem fin0s {K : KB} {x y z x' y' z' : Int} (e : x = x') (e' : y = y') (e2 : z = z') (h : K (.tuple ⟨[.agg ⟨[.int .i64 x, .int .i64 y]⟩, .int .i64 z]⟩) []) : K (.tuple ⟨[.agg ⟨[.int .i64 x', .int .i64 y']⟩, .int .i64 z']⟩) [] := e ▸ e' ▸ e2 ▸ h
theorem fin0n {K : KB} {y y' : Int} (e : y = y') (h : K (.tuple ⟨[.slice none 0 0, .int .i64 y]⟩) []) : K (.tuple ⟨[.slice none 0 0, .int .i64 y']⟩) [] := e ▸ h
/-- Words of an arena. -/
structure Ok64 (n : Nat) (f : RF) : Prop where
  h : ∀ i, i < n → 0 ≤ f i 0 ∧ f i 0 ≤ 18446744073709551615
theorem Ok64.nil {f : RF} : Ok64 0 f := ⟨fun i h => absurd h (by omega)⟩
/-- The error of an arena. -/
def arE (n : Nat) (f : RF) : Int := if n < 1 ∨ 1601 < n then 3 else if f (Int.toNat 0) 0 = 0 then 0 else 6
theorem ar_cases (n : Nat) (f : RF) : (arE n f = 3 ∧ (n < 1 ∨ 1601 < n)) ∨ (arE n f = 6 ∧ 1 ≤ n ∧ n ≤ 1601 ∧ ¬ f (Int.toNat 0) 0 = 0) ∨ (arE n f = 0 ∧ 1 ≤ n ∧ n ≤ 1601 ∧ f (Int.toNat 0) 0 = 0) := by
  unfold arE
  repeat' split
  all_goals omega
/-- The error of a shape, its size, its header. -/
def sze (p q : Int) : Int := if p < 0 ∨ q < 0 then 7 else if 64 ≤ p ∨ 64 ≤ q ∨ 64 < 1 + p + q then 11 else 0
def szn (p q : Int) : Int := if sze p q = 0 then 1 + p + q else 0
def pkv (p q : Int) : Int := if sze p q = 0 then 1 + 256 * p + 65536 * q else 0
theorem sze_cases (p q : Int) : (sze p q = 7 ∧ (p < 0 ∨ q < 0)) ∨ (sze p q = 11 ∧ 0 ≤ p ∧ 0 ≤ q ∧ (64 ≤ p ∨ 64 ≤ q ∨ 64 < 1 + p + q)) ∨ (sze p q = 0 ∧ 0 ≤ p ∧ 0 ≤ q ∧ 1 + p + q ≤ 64) := by
  unfold sze
  repeat' split
  all_goals omega
theorem szn_cases (p q : Int) : (sze p q = 0 ∧ szn p q = 1 + p + q) ∨ (¬ sze p q = 0 ∧ szn p q = 0) := by
  unfold szn
  split
  · exact .inl ⟨by assumption, rfl⟩
  · exact .inr ⟨by assumption, rfl⟩
theorem pkv_cases (p q : Int) : (sze p q = 0 ∧ pkv p q = 1 + 256 * p + 65536 * q) ∨ (¬ sze p q = 0 ∧ pkv p q = 0) := by
  unfold pkv
  split
  · exact .inl ⟨by assumption, rfl⟩
  · exact .inr ⟨by assumption, rfl⟩
/-- A word as a header: its error, and the shape. -/
def hsE (v : Int) : Int := if v % 256 = 1 ∧ v / 65536 < 64 ∧ v / 256 % 256 < 64 ∧ 1 + v / 256 % 256 + v / 65536 ≤ 64 then 0 else 6
def hsP (v : Int) : Int := if hsE v = 0 then v / 256 % 256 else 0
def hsR (v : Int) : Int := if hsE v = 0 then v / 65536 else 0
theorem hs_cases (v : Int) : (hsE v = 0 ∧ v % 256 = 1 ∧ v / 65536 < 64 ∧ v / 256 % 256 < 64 ∧ 1 + v / 256 % 256 + v / 65536 ≤ 64 ∧ hsP v = v / 256 % 256 ∧ hsR v = v / 65536) ∨
    (hsE v = 6 ∧ hsP v = 0 ∧ hsR v = 0 ∧ ¬ (v % 256 = 1 ∧ v / 65536 < 64 ∧ v / 256 % 256 < 64 ∧ 1 + v / 256 % 256 + v / 65536 ≤ 64)) := by
  by_cases h : v % 256 = 1 ∧ v / 65536 < 64 ∧ v / 256 % 256 < 64 ∧ 1 + v / 256 % 256 + v / 65536 ≤ 64
  · have e : hsE v = 0 := if_pos h
    have e1 : hsP v = v / 256 % 256 := if_pos e
    have e2 : hsR v = v / 65536 := if_pos e
    exact .inl ⟨e, h.1, h.2.1, h.2.2.1, h.2.2.2, e1, e2⟩
  · have e : hsE v = 6 := if_neg h
    have e1 : hsP v = 0 := if_neg (by omega)
    have e2 : hsR v = 0 := if_neg (by omega)
    exact .inr ⟨e, e1, e2, h⟩
/-- An object: its error, and its shape. -/
def obE (n : Nat) (f : RF) (a : Int) : Int := if arE n f = 0 then (if a < 1 ∨ (n : Int) ≤ a then 7 else if hsE (f a.toNat 0) = 0 ∧ hsP (f a.toNat 0) + hsR (f a.toNat 0) < n - a then 0 else 6) else arE n f
def obP (n : Nat) (f : RF) (a : Int) : Int := if obE n f a = 0 then hsP (f a.toNat 0) else 0
def obR (n : Nat) (f : RF) (a : Int) : Int := if obE n f a = 0 then hsR (f a.toNat 0) else 0
theorem ob_cases {n : Nat} {f : RF} (hU : Ok64 n f) (a : Int) : (¬ arE n f = 0 ∧ obE n f a = arE n f ∧ obP n f a = 0 ∧ obR n f a = 0) ∨
    (arE n f = 0 ∧ obE n f a = 7 ∧ (a < 1 ∨ (n : Int) ≤ a) ∧ obP n f a = 0 ∧ obR n f a = 0) ∨
    (arE n f = 0 ∧ obE n f a = 6 ∧ 1 ≤ a ∧ a < n ∧ (¬ hsE (f a.toNat 0) = 0 ∨ n - a ≤ hsP (f a.toNat 0) + hsR (f a.toNat 0)) ∧ obP n f a = 0 ∧ obR n f a = 0) ∨
    (arE n f = 0 ∧ obE n f a = 0 ∧ 1 ≤ a ∧ a < n ∧ hsE (f a.toNat 0) = 0 ∧ obP n f a = hsP (f a.toNat 0) ∧ obR n f a = hsR (f a.toNat 0) ∧ 0 ≤ hsP (f a.toNat 0) ∧ 0 ≤ hsR (f a.toNat 0) ∧ hsP (f a.toNat 0) + hsR (f a.toNat 0) < n - a ∧ hsP (f a.toNat 0) + hsR (f a.toNat 0) ≤ 63) := by
  have b := hs_cases (f a.toNat 0)
  by_cases h0 : arE n f = 0
  · by_cases h1 : a < 1 ∨ (n : Int) ≤ a
    · have e : obE n f a = 7 := by unfold obE; rw [if_pos h0, if_pos h1]
      have e1 : obP n f a = 0 := if_neg (by omega)
      have e2 : obR n f a = 0 := if_neg (by omega)
      exact .inr (.inl ⟨h0, e, h1, e1, e2⟩)
    · have hv := (hU.h a.toNat (by omega)).1
      by_cases h2 : hsE (f a.toNat 0) = 0 ∧ hsP (f a.toNat 0) + hsR (f a.toNat 0) < n - a
      · have e : obE n f a = 0 := by unfold obE; rw [if_pos h0, if_neg h1, if_pos h2]
        have e1 : obP n f a = hsP (f a.toNat 0) := if_pos e
        have e2 : obR n f a = hsR (f a.toNat 0) := if_pos e
        exact .inr (.inr (.inr ⟨h0, e, by omega, by omega, h2.1, e1, e2, by omega, by omega, h2.2, by omega⟩))
      · have e : obE n f a = 6 := by unfold obE; rw [if_pos h0, if_neg h1, if_neg h2]
        have e1 : obP n f a = 0 := if_neg (by omega)
        have e2 : obR n f a = 0 := if_neg (by omega)
        exact .inr (.inr (.inl ⟨h0, e, by omega, by omega, by omega, e1, e2⟩))
  · have e : obE n f a = arE n f := if_neg h0
    have e1 : obP n f a = 0 := if_neg (by omega)
    have e2 : obR n f a = 0 := if_neg (by omega)
    exact .inl ⟨h0, e, e1, e2⟩
def obN (n : Nat) (f : RF) (a : Int) : Int := if obE n f a = 0 then 1 + obP n f a + obR n f a else 0
theorem obN_cases (n : Nat) (f : RF) (a : Int) : (obE n f a = 0 ∧ obN n f a = 1 + obP n f a + obR n f a) ∨ (¬ obE n f a = 0 ∧ obN n f a = 0) := by
  unfold obN
  split
  · exact .inl ⟨by assumption, rfl⟩
  · exact .inr ⟨by assumption, rfl⟩
/-- Another word; words that are 0. -/
def setF (f : RF) (a : Nat) (v : Int) : RF := fun i _ => if i = a then v else f i 0
def zroF (f : RF) (a m : Nat) : RF := fun i _ => if a ≤ i ∧ i < a + m then 0 else f i 0
@[reducible] def XZ : List (Nat × Rx.Spec) := []
theorem XZ_told : ∀ p ∈ XZ, Told p.1 p.2 := fun p hp => by cases hp
def arC : Con := fun vs bs K => match vs with
  | [vw] => parseQ [.u64] 0 vw bs fun nw fw j0 bs0 => bs0 = [] ∧ (True) ∧ (K (.int .i64 (arE nw fw)) [])
  | _ => False

def arC_nA  : Ann := fun _ _ _ => none
def arC_rA (ew nw cw : Nat) (fw : RF) : Ann := fun _ _ _ => none
def arK : Con := fun vs bs K => match vs with
  | [vw] => parseQ [.u64] 0 vw bs fun nw fw j0 bs0 => bs0 = [] ∧ (True) ∧ (K (.int .i64 (arE nw fw)) [])
  | _ => False

def arK_nA  : Ann := fun _ _ _ => none
def arK_rA (ew nw cw : Nat) (fw : RF) : Ann := fun _ _ _ => none
def hdC : Con := fun vs bs K => match vs with
  | [.agg ⟨[.int .i64 p, .int .i64 q]⟩] => bs = [] ∧ (True) ∧ (K (.int .i64 (sze p q)) [])
  | _ => False

def hdC_zA (p : Int) (q : Int) : Ann := fun _ _ _ => none
def hdK : Con := fun vs bs K => match vs with
  | [.agg ⟨[.int .i64 p, .int .i64 q]⟩] => bs = [] ∧ (True) ∧ (K (.int .i64 (sze p q)) [])
  | _ => False

def hdK_zA (p : Int) (q : Int) : Ann := fun _ _ _ => none
def arC_nV  (K : Value → List Blk → Prop) : Prop := (T0 ∧ (TS ∧ (T0 ∧ (∃ y0 : Value, (∃ y1 : List Blk, ((Go.Rx.Found 0 (vi (3 : Int)) ({ h := [], next := (0 : Nat) }) (y0) (y1)) ∧ (K y0 y1)))))))
theorem arC_nE  (K : Value → List Blk → Prop) : arC_nV  K = bodyX (mk XZ) (callN (mk XZ) 6) (arC_nA ) Try.f24 [.slice none 0 0] (stOf []) (Fd 0 K) := by kernel_rfl
set_option tactic.hygienic false in
theorem arC_nP  (K : Value → List Blk → Prop)  (h : K (.int .i64 (arE 0 zF)) []) : arC_nV  K := by
  unfold arC_nV
  have z0 := ar_cases 0 zF
  repeat' (first | (with_reducible exact rfl) | (with_reducible exact trivial) | (with_reducible refine And.intro ?_ ?_) | (intro) | (with_reducible refine br_d (fun hq => ?_) (fun hq => ?_)) | (with_reducible refine br_nd (fun hq => ?_) (fun hq => ?_)) | (with_reducible refine br_intro (fun hq => ?_) (fun hq => ?_)) | (with_reducible refine if_both (fun hz => ?_) (fun hz => ?_)) | fail)

  all_goals first
    | (with_reducible assumption)
    | (refine (id ?_ : ∃ (v1 : Value) (news : List Blk), _)
       first
        | contradiction
        | exact fin0 (by kernel_rfl) (by kernel_rfl) h
        | exact fin0 (by kernel_rfl) (by kernel_rfl) (fin0i (by omega) h)
        | exact fin0 (by kernel_rfl) (by kernel_rfl) (fin0p (by omega) (by omega) h)
        | exact fin0 (by kernel_rfl) (by kernel_rfl) (fin0u (by omega) (by omega) h)
        | exact fin0 (by kernel_rfl) (by kernel_rfl) (fin0s (by omega) (by omega) (by omega) h)
        | exact fin0 (by kernel_rfl) (by kernel_rfl) (fin0n (by omega) h)
        | (exfalso; simp at hq; omega)
        | (exfalso; omega)
       )
    | omega
    | contradiction
    | exact fin0 (by kernel_rfl) (by kernel_rfl) h
    | exact fin0 (by kernel_rfl) (by kernel_rfl) (fin0i (by omega) h)
    | exact fin0 (by kernel_rfl) (by kernel_rfl) (fin0p (by omega) (by omega) h)
    | exact fin0 (by kernel_rfl) (by kernel_rfl) (fin0u (by omega) (by omega) h)
    | exact fin0 (by kernel_rfl) (by kernel_rfl) (fin0s (by omega) (by omega) (by omega) h)
    | exact fin0 (by kernel_rfl) (by kernel_rfl) (fin0n (by omega) h)
    | (exfalso; simp at hq; omega)
    | (exfalso; omega)
def arC_rV (ew nw cw : Nat) (fw : RF) (K : Value → List Blk → Prop) : Prop := let q0 := TS; let q1 := (∃ y0 : Value, (∃ y1 : List Blk, ((Go.Rx.Found 1 (vi (3 : Int)) ({ h := [((0 : Nat), Blk.row true [IntKind.u64] ew nw cw fw)], next := (1 : Nat) }) (y0) (y1)) ∧ (K y0 y1)))); (T0 ∧ (q0 ∧ (T0 ∧ (if ((↑nw : Int) < (1 : Int)) then q1 else (q0 ∧ (T0 ∧ (if ((1601 : Int) < (↑nw : Int)) then q1 else ((q0 ∧ (@Eq Nat ((1 : Nat)) ((1 : Nat)))) ∧ ((((0 : Int) ≤ (0 : Int)) ∧ ((0 : Int) < (↑nw : Int))) ∧ ((Int.toNat (0 : Int) < nw) ∧ (T0 ∧ (if (@Eq Int (fw (Int.toNat (0 : Int)) (0 : Nat)) ((0 : Int))) then (∃ y0 : Value, (∃ y1 : List Blk, ((Go.Rx.Found 1 (vi (0 : Int)) ({ h := [((0 : Nat), Blk.row true [IntKind.u64] ew nw cw fw)], next := (1 : Nat) }) (y0) (y1)) ∧ (K y0 y1)))) else (∃ y0 : Value, (∃ y1 : List Blk, ((Go.Rx.Found 1 (vi (6 : Int)) ({ h := [((0 : Nat), Blk.row true [IntKind.u64] ew nw cw fw)], next := (1 : Nat) }) (y0) (y1)) ∧ (K y0 y1))))))))))))))))
theorem arC_rE (ew nw cw : Nat) (fw : RF) (K : Value → List Blk → Prop) : arC_rV ew nw cw fw K = bodyX (mk XZ) (callN (mk XZ) 6) (arC_rA ew nw cw fw) Try.f24 [rsl 0 0 nw cw] (stOf [.row true [.u64] ew nw cw fw]) (Fd 1 K) := by kernel_rfl
set_option tactic.hygienic false in
theorem arC_rP (ew nw cw : Nat) (fw : RF) (K : Value → List Blk → Prop)  (hnw : nw ≤ 100000) (hcw : nw ≤ cw) (h : K (.int .i64 (arE nw fw)) []) : arC_rV ew nw cw fw K := by
  unfold arC_rV
  conv => zeta
  have z0 := ar_cases nw fw
  repeat' (first | (with_reducible exact rfl) | (with_reducible exact trivial) | (with_reducible refine And.intro ?_ ?_) | (intro) | (with_reducible refine br_d (fun hq => ?_) (fun hq => ?_)) | (with_reducible refine br_nd (fun hq => ?_) (fun hq => ?_)) | (with_reducible refine br_intro (fun hq => ?_) (fun hq => ?_)) | (with_reducible refine if_both (fun hz => ?_) (fun hz => ?_)) | fail)

  all_goals first
    | (with_reducible assumption)
    | (refine (id ?_ : ∃ (v1 : Value) (news : List Blk), _)
       first
        | contradiction
        | exact fin0 (by kernel_rfl) (by kernel_rfl) h
        | exact fin0 (by kernel_rfl) (by kernel_rfl) (fin0i (by omega) h)
        | exact fin0 (by kernel_rfl) (by kernel_rfl) (fin0p (by omega) (by omega) h)
        | exact fin0 (by kernel_rfl) (by kernel_rfl) (fin0u (by omega) (by omega) h)
        | exact fin0 (by kernel_rfl) (by kernel_rfl) (fin0s (by omega) (by omega) (by omega) h)
        | exact fin0 (by kernel_rfl) (by kernel_rfl) (fin0n (by omega) h)
        | (exfalso; simp at hq; omega)
        | (exfalso; omega)
       )
    | omega
    | contradiction
    | exact fin0 (by kernel_rfl) (by kernel_rfl) h
    | exact fin0 (by kernel_rfl) (by kernel_rfl) (fin0i (by omega) h)
    | exact fin0 (by kernel_rfl) (by kernel_rfl) (fin0p (by omega) (by omega) h)
    | exact fin0 (by kernel_rfl) (by kernel_rfl) (fin0u (by omega) (by omega) h)
    | exact fin0 (by kernel_rfl) (by kernel_rfl) (fin0s (by omega) (by omega) (by omega) h)
    | exact fin0 (by kernel_rfl) (by kernel_rfl) (fin0n (by omega) h)
    | (exfalso; simp at hq; omega)
    | (exfalso; omega)
theorem arC_ok : BodyOk (mk XZ) 6 Try.f24 arC := by
  intro vs bs K hh hro
  clear hro
  unfold arC at hh
  split at hh
  · rename_i vw
    rcases parseQ_inv hh with ⟨rfl, hh0⟩ | ⟨ew, nw, cw, fw, btw, rfl, hnw, hcw, rfl, hh0⟩ <;> clear hh
    · obtain ⟨rfl, -, hc⟩ := hh0
      exact ⟨_, _, cast (arC_nE   K) (arC_nP   K   hc)⟩
    · obtain ⟨rfl, -, hc⟩ := hh0
      exact ⟨_, _, cast (arC_rE ew nw cw fw  K) (arC_rP ew nw cw fw  K hnw hcw  hc)⟩
  · exact hh.elim
theorem arC_told : Told 24 (specOf arC) := told (X := XZ) XZ_told (by kernel_rfl) (by kernel_rfl) (by kernel_rfl) arC_ok
def arK_nV  (K : Value → List Blk → Prop) : Prop := (T0 ∧ (TS ∧ (T0 ∧ (∃ y0 : Value, (∃ y1 : List Blk, ((Go.Rx.Found 0 (vi (3 : Int)) ({ h := [], next := (0 : Nat) }) (y0) (y1)) ∧ (K y0 y1)))))))
theorem arK_nE  (K : Value → List Blk → Prop) : arK_nV  K = bodyX (mk XZ) (callN (mk XZ) 6) (arK_nA ) Try.f25 [.slice none 0 0] (stOf []) (Fd 0 K) := by kernel_rfl
set_option tactic.hygienic false in
theorem arK_nP  (K : Value → List Blk → Prop)  (h : K (.int .i64 (arE 0 zF)) []) : arK_nV  K := by
  unfold arK_nV
  have z0 := ar_cases 0 zF
  repeat' (first | (with_reducible exact rfl) | (with_reducible exact trivial) | (with_reducible refine And.intro ?_ ?_) | (intro) | (with_reducible refine br_d (fun hq => ?_) (fun hq => ?_)) | (with_reducible refine br_nd (fun hq => ?_) (fun hq => ?_)) | (with_reducible refine br_intro (fun hq => ?_) (fun hq => ?_)) | (with_reducible refine if_both (fun hz => ?_) (fun hz => ?_)) | fail)

  all_goals first
    | (with_reducible assumption)
    | (refine (id ?_ : ∃ (v1 : Value) (news : List Blk), _)
       first
        | contradiction
        | exact fin0 (by kernel_rfl) (by kernel_rfl) h
        | exact fin0 (by kernel_rfl) (by kernel_rfl) (fin0i (by omega) h)
        | exact fin0 (by kernel_rfl) (by kernel_rfl) (fin0p (by omega) (by omega) h)
        | exact fin0 (by kernel_rfl) (by kernel_rfl) (fin0u (by omega) (by omega) h)
        | exact fin0 (by kernel_rfl) (by kernel_rfl) (fin0s (by omega) (by omega) (by omega) h)
        | exact fin0 (by kernel_rfl) (by kernel_rfl) (fin0n (by omega) h)
        | (exfalso; simp at hq; omega)
        | (exfalso; omega)
       )
    | omega
    | contradiction
    | exact fin0 (by kernel_rfl) (by kernel_rfl) h
    | exact fin0 (by kernel_rfl) (by kernel_rfl) (fin0i (by omega) h)
    | exact fin0 (by kernel_rfl) (by kernel_rfl) (fin0p (by omega) (by omega) h)
    | exact fin0 (by kernel_rfl) (by kernel_rfl) (fin0u (by omega) (by omega) h)
    | exact fin0 (by kernel_rfl) (by kernel_rfl) (fin0s (by omega) (by omega) (by omega) h)
    | exact fin0 (by kernel_rfl) (by kernel_rfl) (fin0n (by omega) h)
    | (exfalso; simp at hq; omega)
    | (exfalso; omega)
def arK_rV (ew nw cw : Nat) (fw : RF) (K : Value → List Blk → Prop) : Prop := let q0 := TS; let q1 := (∃ y0 : Value, (∃ y1 : List Blk, ((Go.Rx.Found 1 (vi (3 : Int)) ({ h := [((0 : Nat), Blk.row true [IntKind.u64] ew nw cw fw)], next := (1 : Nat) }) (y0) (y1)) ∧ (K y0 y1)))); (T0 ∧ (q0 ∧ (T0 ∧ (if ((↑nw : Int) < (1 : Int)) then q1 else (q0 ∧ (T0 ∧ (if ((1601 : Int) < (↑nw : Int)) then q1 else ((q0 ∧ (@Eq Nat ((1 : Nat)) ((1 : Nat)))) ∧ ((((0 : Int) ≤ (0 : Int)) ∧ ((0 : Int) < (↑nw : Int))) ∧ ((Int.toNat (0 : Int) < nw) ∧ (T0 ∧ (if (@Eq Int (fw (Int.toNat (0 : Int)) (0 : Nat)) ((0 : Int))) then (∃ y0 : Value, (∃ y1 : List Blk, ((Go.Rx.Found 1 (vi (0 : Int)) ({ h := [((0 : Nat), Blk.row true [IntKind.u64] ew nw cw fw)], next := (1 : Nat) }) (y0) (y1)) ∧ (K y0 y1)))) else (∃ y0 : Value, (∃ y1 : List Blk, ((Go.Rx.Found 1 (vi (6 : Int)) ({ h := [((0 : Nat), Blk.row true [IntKind.u64] ew nw cw fw)], next := (1 : Nat) }) (y0) (y1)) ∧ (K y0 y1))))))))))))))))
theorem arK_rE (ew nw cw : Nat) (fw : RF) (K : Value → List Blk → Prop) : arK_rV ew nw cw fw K = bodyX (mk XZ) (callN (mk XZ) 6) (arK_rA ew nw cw fw) Try.f25 [rsl 0 0 nw cw] (stOf [.row true [.u64] ew nw cw fw]) (Fd 1 K) := by kernel_rfl
set_option tactic.hygienic false in
theorem arK_rP (ew nw cw : Nat) (fw : RF) (K : Value → List Blk → Prop)  (hnw : nw ≤ 100000) (hcw : nw ≤ cw) (h : K (.int .i64 (arE nw fw)) []) : arK_rV ew nw cw fw K := by
  unfold arK_rV
  conv => zeta
  have z0 := ar_cases nw fw
  repeat' (first | (with_reducible exact rfl) | (with_reducible exact trivial) | (with_reducible refine And.intro ?_ ?_) | (intro) | (with_reducible refine br_d (fun hq => ?_) (fun hq => ?_)) | (with_reducible refine br_nd (fun hq => ?_) (fun hq => ?_)) | (with_reducible refine br_intro (fun hq => ?_) (fun hq => ?_)) | (with_reducible refine if_both (fun hz => ?_) (fun hz => ?_)) | fail)

  all_goals first
    | (with_reducible assumption)
    | (refine (id ?_ : ∃ (v1 : Value) (news : List Blk), _)
       first
        | contradiction
        | exact fin0 (by kernel_rfl) (by kernel_rfl) h
        | exact fin0 (by kernel_rfl) (by kernel_rfl) (fin0i (by omega) h)
        | exact fin0 (by kernel_rfl) (by kernel_rfl) (fin0p (by omega) (by omega) h)
        | exact fin0 (by kernel_rfl) (by kernel_rfl) (fin0u (by omega) (by omega) h)
        | exact fin0 (by kernel_rfl) (by kernel_rfl) (fin0s (by omega) (by omega) (by omega) h)
        | exact fin0 (by kernel_rfl) (by kernel_rfl) (fin0n (by omega) h)
        | (exfalso; simp at hq; omega)
        | (exfalso; omega)
       )
    | omega
    | contradiction
    | exact fin0 (by kernel_rfl) (by kernel_rfl) h
    | exact fin0 (by kernel_rfl) (by kernel_rfl) (fin0i (by omega) h)
    | exact fin0 (by kernel_rfl) (by kernel_rfl) (fin0p (by omega) (by omega) h)
    | exact fin0 (by kernel_rfl) (by kernel_rfl) (fin0u (by omega) (by omega) h)
    | exact fin0 (by kernel_rfl) (by kernel_rfl) (fin0s (by omega) (by omega) (by omega) h)
    | exact fin0 (by kernel_rfl) (by kernel_rfl) (fin0n (by omega) h)
    | (exfalso; simp at hq; omega)
    | (exfalso; omega)
theorem arK_ok : BodyOk (mk XZ) 6 Try.f25 arK := by
  intro vs bs K hh hro
  clear hro
  unfold arK at hh
  split at hh
  · rename_i vw
    rcases parseQ_inv hh with ⟨rfl, hh0⟩ | ⟨ew, nw, cw, fw, btw, rfl, hnw, hcw, rfl, hh0⟩ <;> clear hh
    · obtain ⟨rfl, -, hc⟩ := hh0
      exact ⟨_, _, cast (arK_nE   K) (arK_nP   K   hc)⟩
    · obtain ⟨rfl, -, hc⟩ := hh0
      exact ⟨_, _, cast (arK_rE ew nw cw fw  K) (arK_rP ew nw cw fw  K hnw hcw  hc)⟩
  · exact hh.elim
theorem arK_told : Told 25 (specOf arK) := told (X := XZ) XZ_told (by kernel_rfl) (by kernel_rfl) (by kernel_rfl) arK_ok
def hdC_zV (p : Int) (q : Int) (K : Value → List Blk → Prop) : Prop := let q0 := (9223372036854775807 : Int); let q1 := (-9223372036854775808 : Int); let q2 := (∃ y0 : Value, (∃ y1 : List Blk, ((Go.Rx.Found 0 (vi (7 : Int)) ({ h := [((0 : Nat), Blk.cells [vi p, vi q] (60 : Nat))], next := (1 : Nat) }) (y0) (y1)) ∧ (K y0 y1)))); let q3 := (∃ y0 : Value, (∃ y1 : List Blk, ((Go.Rx.Found 0 (vi (11 : Int)) ({ h := [((0 : Nat), Blk.cells [vi p, vi q] (60 : Nat))], next := (1 : Nat) }) (y0) (y1)) ∧ (K y0 y1)))); (t3 (if (p < (0 : Int)) then q2 else (t2 (if (q < (0 : Int)) then q2 else (t2 (if ((64 : Int) ≤ p) then q3 else (t2 (if ((64 : Int) ≤ q) then q3 else (t2 (((q1 ≤ (1 : Int) + p) ∧ ((1 : Int) + p ≤ q0)) ∧ (t2 (((q1 ≤ (1 : Int) + p + q) ∧ ((1 : Int) + p + q ≤ q0)) ∧ (T0 ∧ (if ((64 : Int) < (1 : Int) + p + q) then q3 else (∃ y0 : Value, (∃ y1 : List Blk, ((Go.Rx.Found 0 (vi (0 : Int)) ({ h := [((0 : Nat), Blk.cells [vi p, vi q] (60 : Nat))], next := (1 : Nat) }) (y0) (y1)) ∧ (K y0 y1))))))))))))))))))
theorem hdC_zE (p : Int) (q : Int) (K : Value → List Blk → Prop) : hdC_zV p q K = bodyX (mk XZ) (callN (mk XZ) 6) (hdC_zA p q) Try.f118 [.agg ⟨[.int .i64 p, .int .i64 q]⟩] (stOf []) (Fd 0 K) := by kernel_rfl
set_option tactic.hygienic false in
theorem hdC_zP (p : Int) (q : Int) (K : Value → List Blk → Prop)  (h : K (.int .i64 (sze p q)) []) : hdC_zV p q K := by
  unfold hdC_zV
  conv => zeta
  have z0 := sze_cases p q
  repeat' (first | (with_reducible exact rfl) | (with_reducible exact trivial) | (with_reducible refine And.intro ?_ ?_) | (intro) | (with_reducible refine br_d (fun hq => ?_) (fun hq => ?_)) | (with_reducible refine br_nd (fun hq => ?_) (fun hq => ?_)) | (with_reducible refine br_intro (fun hq => ?_) (fun hq => ?_)) | (with_reducible refine if_both (fun hz => ?_) (fun hz => ?_)) | fail)

  all_goals first
    | (with_reducible assumption)
    | (refine (id ?_ : ∃ (v1 : Value) (news : List Blk), _)
       first
        | contradiction
        | exact fin0 (by kernel_rfl) (by kernel_rfl) h
        | exact fin0 (by kernel_rfl) (by kernel_rfl) (fin0i (by omega) h)
        | exact fin0 (by kernel_rfl) (by kernel_rfl) (fin0p (by omega) (by omega) h)
        | exact fin0 (by kernel_rfl) (by kernel_rfl) (fin0u (by omega) (by omega) h)
        | exact fin0 (by kernel_rfl) (by kernel_rfl) (fin0s (by omega) (by omega) (by omega) h)
        | exact fin0 (by kernel_rfl) (by kernel_rfl) (fin0n (by omega) h)
        | (exfalso; simp at hq; omega)
        | (exfalso; omega)
       )
    | omega
    | contradiction
    | exact fin0 (by kernel_rfl) (by kernel_rfl) h
    | exact fin0 (by kernel_rfl) (by kernel_rfl) (fin0i (by omega) h)
    | exact fin0 (by kernel_rfl) (by kernel_rfl) (fin0p (by omega) (by omega) h)
    | exact fin0 (by kernel_rfl) (by kernel_rfl) (fin0u (by omega) (by omega) h)
    | exact fin0 (by kernel_rfl) (by kernel_rfl) (fin0s (by omega) (by omega) (by omega) h)
    | exact fin0 (by kernel_rfl) (by kernel_rfl) (fin0n (by omega) h)
    | (exfalso; simp at hq; omega)
    | (exfalso; omega)
theorem hdC_ok : BodyOk (mk XZ) 6 Try.f118 hdC := by
  intro vs bs K hh hro
  clear hro
  unfold hdC at hh
  split at hh
  · rename_i p q
    obtain ⟨rfl, -, hc⟩ := hh
    exact ⟨_, _, cast (hdC_zE  p q K) (hdC_zP  p q K   hc)⟩
  · exact hh.elim
theorem hdC_told : Told 118 (specOf hdC) := told (X := XZ) XZ_told (by kernel_rfl) (by kernel_rfl) (by kernel_rfl) hdC_ok
def hdK_zV (p : Int) (q : Int) (K : Value → List Blk → Prop) : Prop := let q0 := (9223372036854775807 : Int); let q1 := (-9223372036854775808 : Int); let q2 := (∃ y0 : Value, (∃ y1 : List Blk, ((Go.Rx.Found 0 (vi (7 : Int)) ({ h := [((0 : Nat), Blk.cells [vi p, vi q] (60 : Nat))], next := (1 : Nat) }) (y0) (y1)) ∧ (K y0 y1)))); let q3 := (∃ y0 : Value, (∃ y1 : List Blk, ((Go.Rx.Found 0 (vi (11 : Int)) ({ h := [((0 : Nat), Blk.cells [vi p, vi q] (60 : Nat))], next := (1 : Nat) }) (y0) (y1)) ∧ (K y0 y1)))); (t3 (if (p < (0 : Int)) then q2 else (t2 (if (q < (0 : Int)) then q2 else (t2 (if ((64 : Int) < p) then q3 else (t2 (if ((64 : Int) < q) then q3 else (t2 (((q1 ≤ (1 : Int) + p) ∧ ((1 : Int) + p ≤ q0)) ∧ (t2 (((q1 ≤ (1 : Int) + p + q) ∧ ((1 : Int) + p + q ≤ q0)) ∧ (T0 ∧ (if ((64 : Int) < (1 : Int) + p + q) then q3 else (∃ y0 : Value, (∃ y1 : List Blk, ((Go.Rx.Found 0 (vi (0 : Int)) ({ h := [((0 : Nat), Blk.cells [vi p, vi q] (60 : Nat))], next := (1 : Nat) }) (y0) (y1)) ∧ (K y0 y1))))))))))))))))))
theorem hdK_zE (p : Int) (q : Int) (K : Value → List Blk → Prop) : hdK_zV p q K = bodyX (mk XZ) (callN (mk XZ) 6) (hdK_zA p q) Try.f91 [.agg ⟨[.int .i64 p, .int .i64 q]⟩] (stOf []) (Fd 0 K) := by kernel_rfl
set_option tactic.hygienic false in
theorem hdK_zP (p : Int) (q : Int) (K : Value → List Blk → Prop)  (h : K (.int .i64 (sze p q)) []) : hdK_zV p q K := by
  unfold hdK_zV
  conv => zeta
  have z0 := sze_cases p q
  repeat' (first | (with_reducible exact rfl) | (with_reducible exact trivial) | (with_reducible refine And.intro ?_ ?_) | (intro) | (with_reducible refine br_d (fun hq => ?_) (fun hq => ?_)) | (with_reducible refine br_nd (fun hq => ?_) (fun hq => ?_)) | (with_reducible refine br_intro (fun hq => ?_) (fun hq => ?_)) | (with_reducible refine if_both (fun hz => ?_) (fun hz => ?_)) | fail)

  all_goals first
    | (with_reducible assumption)
    | (refine (id ?_ : ∃ (v1 : Value) (news : List Blk), _)
       first
        | contradiction
        | exact fin0 (by kernel_rfl) (by kernel_rfl) h
        | exact fin0 (by kernel_rfl) (by kernel_rfl) (fin0i (by omega) h)
        | exact fin0 (by kernel_rfl) (by kernel_rfl) (fin0p (by omega) (by omega) h)
        | exact fin0 (by kernel_rfl) (by kernel_rfl) (fin0u (by omega) (by omega) h)
        | exact fin0 (by kernel_rfl) (by kernel_rfl) (fin0s (by omega) (by omega) (by omega) h)
        | exact fin0 (by kernel_rfl) (by kernel_rfl) (fin0n (by omega) h)
        | (exfalso; simp at hq; omega)
        | (exfalso; omega)
       )
    | omega
    | contradiction
    | exact fin0 (by kernel_rfl) (by kernel_rfl) h
    | exact fin0 (by kernel_rfl) (by kernel_rfl) (fin0i (by omega) h)
    | exact fin0 (by kernel_rfl) (by kernel_rfl) (fin0p (by omega) (by omega) h)
    | exact fin0 (by kernel_rfl) (by kernel_rfl) (fin0u (by omega) (by omega) h)
    | exact fin0 (by kernel_rfl) (by kernel_rfl) (fin0s (by omega) (by omega) (by omega) h)
    | exact fin0 (by kernel_rfl) (by kernel_rfl) (fin0n (by omega) h)
    | (exfalso; simp at hq; omega)
    | (exfalso; omega)
theorem hdK_ok : BodyOk (mk XZ) 6 Try.f91 hdK := by
  intro vs bs K hh hro
  clear hro
  unfold hdK at hh
  split at hh
  · rename_i p q
    obtain ⟨rfl, -, hc⟩ := hh
    exact ⟨_, _, cast (hdK_zE  p q K) (hdK_zP  p q K   hc)⟩
  · exact hh.elim
theorem hdK_told : Told 91 (specOf hdK) := told (X := XZ) XZ_told (by kernel_rfl) (by kernel_rfl) (by kernel_rfl) hdK_ok
end Go.Proofs.Ytfgeoglegebncaa.Fr
namespace Go.Proofs.Ytfgeoglegebncaa.Fr
set_option maxRecDepth 100000
set_option maxHeartbeats 4000000
open Go.Rx
open Go.RowKit (Below)
set_option linter.unusedVariables false
@[reducible] def XC : List (Nat × Rx.Spec) := [(118, specOf hdC), (24, specOf arC)]
theorem XC_told : ∀ p ∈ XC, Told p.1 p.2 := by
  intro p hp
  simp only [List.mem_cons, List.not_mem_nil, or_false] at hp
  rcases hp with rfl | rfl
  · exact hdC_told
  · exact arC_told
@[reducible] def XK : List (Nat × Rx.Spec) := [(91, specOf hdK), (25, specOf arK)]
theorem XK_told : ∀ p ∈ XK, Told p.1 p.2 := by
  intro p hp
  simp only [List.mem_cons, List.not_mem_nil, or_false] at hp
  rcases hp with rfl | rfl
  · exact hdK_told
  · exact arK_told
def hdP : Con := fun vs bs K => match vs with
  | [.agg ⟨[.int .i64 p, .int .i64 q]⟩] => bs = [] ∧ (True) ∧ (K (.tuple ⟨[.int .u64 (pkv p q), .int .i64 (sze p q)]⟩) [])
  | _ => False

def hdP_zA (p : Int) (q : Int) : Ann := fun _ _ _ => none
def hkN : Con := fun vs bs K => match vs with
  | [.agg ⟨[.int .i64 p, .int .i64 q]⟩] => bs = [] ∧ (True) ∧ (K (.tuple ⟨[.int .i64 (szn p q), .int .i64 (sze p q)]⟩) [])
  | _ => False

def hkN_zA (p : Int) (q : Int) : Ann := fun _ _ _ => none
def hdS : Con := fun vs bs K => match vs with
  | [.int .u64 v] => bs = [] ∧ ((0 ≤ v ∧ v ≤ 18446744073709551615)) ∧ (K (.tuple ⟨[.agg ⟨[.int .i64 (hsP v), .int .i64 (hsR v)]⟩, .int .i64 (hsE v)]⟩) [])
  | _ => False

def hdS_zA (v : Int) : Ann := fun _ _ _ => none
def hdP_zV (p : Int) (q : Int) (K : Value → List Blk → Prop) : Prop := let q0 := (18446744073709551616 : Int); (t4 (eB ∧ ((True) ∧ (T0 ∧ (if (@Eq Int (sze p q) ((0 : Int))) then (t4 ((((0 : Int) ≤ (16 : Int)) ∧ ((16 : Int) ≤ (64 : Int))) ∧ (t2 ((((0 : Int) ≤ (8 : Int)) ∧ ((8 : Int) ≤ (64 : Int))) ∧ (t2 (∃ y0 : Value, (∃ y1 : List Blk, ((Go.Rx.Found 0 (Value.tuple { toList := [Value.int IntKind.u64 ((((0 : Int) + (q % q0 * (65536 : Int) % q0 + (1 : Int)) % q0) % q0 + p % q0 * (256 : Int) % q0) % q0), vi (0 : Int)] }) ({ h := [((0 : Nat), Blk.cells [vi p, vi q] (60 : Nat))], next := (1 : Nat) }) (y0) (y1)) ∧ (K y0 y1))))))))) else (∃ y0 : Value, (∃ y1 : List Blk, ((Go.Rx.Found 0 (Value.tuple { toList := [Value.int IntKind.u64 (0 : Int), vi (sze p q)] }) ({ h := [((0 : Nat), Blk.cells [vi p, vi q] (60 : Nat))], next := (1 : Nat) }) (y0) (y1)) ∧ (K y0 y1)))))))))
theorem hdP_zE (p : Int) (q : Int) (K : Value → List Blk → Prop) : hdP_zV p q K = bodyX (mk XC) (callN (mk XC) 6) (hdP_zA p q) Try.f89 [.agg ⟨[.int .i64 p, .int .i64 q]⟩] (stOf []) (Fd 0 K) := by kernel_rfl
set_option tactic.hygienic false in
theorem hdP_zP (p : Int) (q : Int) (K : Value → List Blk → Prop)  (h : K (.tuple ⟨[.int .u64 (pkv p q), .int .i64 (sze p q)]⟩) []) : hdP_zV p q K := by
  unfold hdP_zV
  conv => zeta
  have z0 := sze_cases p q
  have z1 := pkv_cases p q
  repeat' (first | (with_reducible exact rfl) | (with_reducible exact trivial) | (with_reducible refine And.intro ?_ ?_) | (intro) | (with_reducible refine br_d (fun hq => ?_) (fun hq => ?_)) | (with_reducible refine br_nd (fun hq => ?_) (fun hq => ?_)) | (with_reducible refine br_intro (fun hq => ?_) (fun hq => ?_)) | (with_reducible refine if_both (fun hz => ?_) (fun hz => ?_)) | fail)

  all_goals first
    | (with_reducible assumption)
    | (refine (id ?_ : ∃ (v1 : Value) (news : List Blk), _)
       first
        | contradiction
        | exact fin0 (by kernel_rfl) (by kernel_rfl) h
        | exact fin0 (by kernel_rfl) (by kernel_rfl) (fin0i (by omega) h)
        | exact fin0 (by kernel_rfl) (by kernel_rfl) (fin0p (by omega) (by omega) h)
        | exact fin0 (by kernel_rfl) (by kernel_rfl) (fin0u (by omega) (by omega) h)
        | exact fin0 (by kernel_rfl) (by kernel_rfl) (fin0s (by omega) (by omega) (by omega) h)
        | exact fin0 (by kernel_rfl) (by kernel_rfl) (fin0n (by omega) h)
        | (exfalso; simp at hq; omega)
        | (exfalso; omega)
       )
    | omega
    | contradiction
    | exact fin0 (by kernel_rfl) (by kernel_rfl) h
    | exact fin0 (by kernel_rfl) (by kernel_rfl) (fin0i (by omega) h)
    | exact fin0 (by kernel_rfl) (by kernel_rfl) (fin0p (by omega) (by omega) h)
    | exact fin0 (by kernel_rfl) (by kernel_rfl) (fin0u (by omega) (by omega) h)
    | exact fin0 (by kernel_rfl) (by kernel_rfl) (fin0s (by omega) (by omega) (by omega) h)
    | exact fin0 (by kernel_rfl) (by kernel_rfl) (fin0n (by omega) h)
    | (exfalso; simp at hq; omega)
    | (exfalso; omega)
theorem hdP_ok : BodyOk (mk XC) 6 Try.f89 hdP := by
  intro vs bs K hh hro
  clear hro
  unfold hdP at hh
  split at hh
  · rename_i p q
    obtain ⟨rfl, -, hc⟩ := hh
    exact ⟨_, _, cast (hdP_zE  p q K) (hdP_zP  p q K   hc)⟩
  · exact hh.elim
theorem hdP_told : Told 89 (specOf hdP) := told (X := XC) XC_told (by kernel_rfl) (by kernel_rfl) (by kernel_rfl) hdP_ok
def hkN_zV (p : Int) (q : Int) (K : Value → List Blk → Prop) : Prop := let q0 := (9223372036854775807 : Int); let q1 := (-9223372036854775808 : Int); (t4 (eB ∧ ((True) ∧ (T0 ∧ (if (@Eq Int (sze p q) ((0 : Int))) then (t2 (((q1 ≤ (1 : Int) + p) ∧ ((1 : Int) + p ≤ q0)) ∧ (t2 (((q1 ≤ (1 : Int) + p + q) ∧ ((1 : Int) + p + q ≤ q0)) ∧ (∃ y0 : Value, (∃ y1 : List Blk, ((Go.Rx.Found 0 (Value.tuple { toList := [vi ((1 : Int) + p + q), vi (0 : Int)] }) ({ h := [((0 : Nat), Blk.cells [vi p, vi q] (60 : Nat))], next := (1 : Nat) }) (y0) (y1)) ∧ (K y0 y1)))))))) else (∃ y0 : Value, (∃ y1 : List Blk, ((Go.Rx.Found 0 (Value.tuple { toList := [vi (0 : Int), vi (sze p q)] }) ({ h := [((0 : Nat), Blk.cells [vi p, vi q] (60 : Nat))], next := (1 : Nat) }) (y0) (y1)) ∧ (K y0 y1)))))))))
theorem hkN_zE (p : Int) (q : Int) (K : Value → List Blk → Prop) : hkN_zV p q K = bodyX (mk XK) (callN (mk XK) 6) (hkN_zA p q) Try.f65 [.agg ⟨[.int .i64 p, .int .i64 q]⟩] (stOf []) (Fd 0 K) := by kernel_rfl
set_option tactic.hygienic false in
theorem hkN_zP (p : Int) (q : Int) (K : Value → List Blk → Prop)  (h : K (.tuple ⟨[.int .i64 (szn p q), .int .i64 (sze p q)]⟩) []) : hkN_zV p q K := by
  unfold hkN_zV
  conv => zeta
  have z0 := sze_cases p q
  have z1 := szn_cases p q
  repeat' (first | (with_reducible exact rfl) | (with_reducible exact trivial) | (with_reducible refine And.intro ?_ ?_) | (intro) | (with_reducible refine br_d (fun hq => ?_) (fun hq => ?_)) | (with_reducible refine br_nd (fun hq => ?_) (fun hq => ?_)) | (with_reducible refine br_intro (fun hq => ?_) (fun hq => ?_)) | (with_reducible refine if_both (fun hz => ?_) (fun hz => ?_)) | fail)

  all_goals first
    | (with_reducible assumption)
    | (refine (id ?_ : ∃ (v1 : Value) (news : List Blk), _)
       first
        | contradiction
        | exact fin0 (by kernel_rfl) (by kernel_rfl) h
        | exact fin0 (by kernel_rfl) (by kernel_rfl) (fin0i (by omega) h)
        | exact fin0 (by kernel_rfl) (by kernel_rfl) (fin0p (by omega) (by omega) h)
        | exact fin0 (by kernel_rfl) (by kernel_rfl) (fin0u (by omega) (by omega) h)
        | exact fin0 (by kernel_rfl) (by kernel_rfl) (fin0s (by omega) (by omega) (by omega) h)
        | exact fin0 (by kernel_rfl) (by kernel_rfl) (fin0n (by omega) h)
        | (exfalso; simp at hq; omega)
        | (exfalso; omega)
       )
    | omega
    | contradiction
    | exact fin0 (by kernel_rfl) (by kernel_rfl) h
    | exact fin0 (by kernel_rfl) (by kernel_rfl) (fin0i (by omega) h)
    | exact fin0 (by kernel_rfl) (by kernel_rfl) (fin0p (by omega) (by omega) h)
    | exact fin0 (by kernel_rfl) (by kernel_rfl) (fin0u (by omega) (by omega) h)
    | exact fin0 (by kernel_rfl) (by kernel_rfl) (fin0s (by omega) (by omega) (by omega) h)
    | exact fin0 (by kernel_rfl) (by kernel_rfl) (fin0n (by omega) h)
    | (exfalso; simp at hq; omega)
    | (exfalso; omega)
theorem hkN_ok : BodyOk (mk XK) 6 Try.f65 hkN := by
  intro vs bs K hh hro
  clear hro
  unfold hkN at hh
  split at hh
  · rename_i p q
    obtain ⟨rfl, -, hc⟩ := hh
    exact ⟨_, _, cast (hkN_zE  p q K) (hkN_zP  p q K   hc)⟩
  · exact hh.elim
theorem hkN_told : Told 65 (specOf hkN) := told (X := XK) XK_told (by kernel_rfl) (by kernel_rfl) (by kernel_rfl) hkN_ok
def hdS_zV (v : Int) (K : Value → List Blk → Prop) : Prop := let q0 := (9223372036854775807 : Int); let q1 := (-9223372036854775808 : Int); let q2 := (18446744073709551615 : Int); let q3 := (v / (256 : Int) % (256 : Int)); let q4 := (((0 : Int) ≤ (8 : Int)) ∧ ((8 : Int) ≤ (64 : Int))); let q5 := (((0 : Int) ≤ (16 : Int)) ∧ ((16 : Int) ≤ (64 : Int))); let q6 := (((255 : Int) ≤ q2) ∧ T0); let q7 := ((0 : Nat), Blk.cells [vi (0 : Int), vi (0 : Int)] (60 : Nat)); let q8 := ((q1 ≤ v / (65536 : Int)) ∧ (v / (65536 : Int) ≤ q0)); let q9 := (((0 : Int) ≤ v) ∧ ((v ≤ q2) ∧ q6)); let q10 := ((q1 ≤ v / (256 : Int) % (256 : Int)) ∧ (v / (256 : Int) % (256 : Int) ≤ q0)); let q11 := ((1 : Nat), Blk.cells [vi q3, vi (v / (65536 : Int))] (60 : Nat)); let q12 := (((0 : Int) ≤ v / (256 : Int)) ∧ ((v / (256 : Int) ≤ q2) ∧ q6)); let q13 := (t4 (∃ y0 : Value, (∃ y1 : List Blk, ((Go.Rx.Found 0 (Value.tuple { toList := [Value.agg { toList := [vi (0 : Int), vi (0 : Int)] }, vi (6 : Int)] }) ({ h := [q7], next := (1 : Nat) }) (y0) (y1)) ∧ (K y0 y1))))); let q14 := (t4 (∃ y0 : Value, (∃ y1 : List Blk, ((Go.Rx.Found 0 (Value.tuple { toList := [Value.agg { toList := [vi (0 : Int), vi (0 : Int)] }, vi (6 : Int)] }) ({ h := [q11, q7], next := (2 : Nat) }) (y0) (y1)) ∧ (K y0 y1))))); let q15 := (t2 (q9 ∧ (T0 ∧ (if (@Eq Int (v % (256 : Int)) ((2 : Int))) then (T0 ∧ (q4 ∧ (T0 ∧ (if ((1 : Int) ≤ v / (256 : Int)) then (T0 ∧ (q4 ∧ (T0 ∧ (if (v / (256 : Int) ≤ (1600 : Int)) then q13 else q13)))) else q13)))) else q13)))); (t5 (q9 ∧ (T0 ∧ (if (@Eq Int (v % (256 : Int)) ((1 : Int))) then (T0 ∧ (q5 ∧ (T0 ∧ (if (v / (65536 : Int) < (64 : Int)) then (t2 (q4 ∧ (T0 ∧ (q12 ∧ (q10 ∧ (T0 ∧ (q5 ∧ (q8 ∧ (t5 (eB ∧ ((True) ∧ (T0 ∧ (if (@Eq Int (sze q3 (v / (65536 : Int))) ((0 : Int))) then (t3 (q4 ∧ (T0 ∧ (q12 ∧ (q10 ∧ (T0 ∧ (q5 ∧ (q8 ∧ (t6 (∃ y0 : Value, (∃ y1 : List Blk, ((Go.Rx.Found 0 (Value.tuple { toList := [Value.agg { toList := [vi q3, vi (v / (65536 : Int))] }, vi (0 : Int)] }) ({ h := [((2 : Nat), Blk.cells [vi q3, vi (v / (65536 : Int))] (60 : Nat)), q11, ((0 : Nat), Blk.cells [vi q3, vi (v / (65536 : Int))] (60 : Nat))], next := (3 : Nat) }) (y0) (y1)) ∧ (K y0 y1))))))))))))) else (t2 (q9 ∧ (T0 ∧ (if (@Eq Int (v % (256 : Int)) ((2 : Int))) then (T0 ∧ (q4 ∧ (T0 ∧ (if ((1 : Int) ≤ v / (256 : Int)) then (T0 ∧ (q4 ∧ (T0 ∧ (if (v / (256 : Int) ≤ (1600 : Int)) then q14 else q14)))) else q14)))) else q14))))))))))))))))) else q15)))) else q15))))
theorem hdS_zE (v : Int) (K : Value → List Blk → Prop) : hdS_zV v K = bodyX (mk XC) (callN (mk XC) 6) (hdS_zA v) Try.f120 [.int .u64 v] (stOf []) (Fd 0 K) := by kernel_rfl
set_option tactic.hygienic false in
theorem hdS_zP (v : Int) (K : Value → List Blk → Prop)  (hv : 0 ≤ v ∧ v ≤ 18446744073709551615) (h : K (.tuple ⟨[.agg ⟨[.int .i64 (hsP v), .int .i64 (hsR v)]⟩, .int .i64 (hsE v)]⟩) []) : hdS_zV v K := by
  unfold hdS_zV
  conv => zeta
  have z0 := hs_cases v
  have z1 := sze_cases (v / 256 % 256) (v / 65536)
  repeat' (first | (with_reducible exact rfl) | (with_reducible exact trivial) | (with_reducible refine And.intro ?_ ?_) | (intro) | (with_reducible refine br_d (fun hq => ?_) (fun hq => ?_)) | (with_reducible refine br_nd (fun hq => ?_) (fun hq => ?_)) | (with_reducible refine br_intro (fun hq => ?_) (fun hq => ?_)) | (with_reducible refine if_both (fun hz => ?_) (fun hz => ?_)) | fail)

  all_goals first
    | (with_reducible assumption)
    | (refine (id ?_ : ∃ (v1 : Value) (news : List Blk), _)
       first
        | contradiction
        | exact fin0 (by kernel_rfl) (by kernel_rfl) h
        | exact fin0 (by kernel_rfl) (by kernel_rfl) (fin0i (by omega) h)
        | exact fin0 (by kernel_rfl) (by kernel_rfl) (fin0p (by omega) (by omega) h)
        | exact fin0 (by kernel_rfl) (by kernel_rfl) (fin0u (by omega) (by omega) h)
        | exact fin0 (by kernel_rfl) (by kernel_rfl) (fin0s (by omega) (by omega) (by omega) h)
        | exact fin0 (by kernel_rfl) (by kernel_rfl) (fin0n (by omega) h)
        | (exfalso; simp at hq; omega)
        | (exfalso; omega)
       )
    | omega
    | contradiction
    | exact fin0 (by kernel_rfl) (by kernel_rfl) h
    | exact fin0 (by kernel_rfl) (by kernel_rfl) (fin0i (by omega) h)
    | exact fin0 (by kernel_rfl) (by kernel_rfl) (fin0p (by omega) (by omega) h)
    | exact fin0 (by kernel_rfl) (by kernel_rfl) (fin0u (by omega) (by omega) h)
    | exact fin0 (by kernel_rfl) (by kernel_rfl) (fin0s (by omega) (by omega) (by omega) h)
    | exact fin0 (by kernel_rfl) (by kernel_rfl) (fin0n (by omega) h)
    | (exfalso; simp at hq; omega)
    | (exfalso; omega)
theorem hdS_ok : BodyOk (mk XC) 6 Try.f120 hdS := by
  intro vs bs K hh hro
  clear hro
  unfold hdS at hh
  split at hh
  · rename_i v
    obtain ⟨rfl, hv, hc⟩ := hh
    exact ⟨_, _, cast (hdS_zE  v K) (hdS_zP  v K  hv hc)⟩
  · exact hh.elim
theorem hdS_told : Told 120 (specOf hdS) := told (X := XC) XC_told (by kernel_rfl) (by kernel_rfl) (by kernel_rfl) hdS_ok
end Go.Proofs.Ytfgeoglegebncaa.Fr
namespace Go.Proofs.Ytfgeoglegebncaa.Fr
set_option maxRecDepth 100000
set_option maxHeartbeats 4000000
open Go.Rx
open Go.RowKit (Below)
set_option linter.unusedVariables false
theorem toNat_add {a x : Int} (ha : 0 ≤ a) (hx : 0 ≤ x) : a.toNat + x.toNat = (a + x).toNat := by omega
theorem hs_bd {v : Int} (h : 0 ≤ v) : 0 ≤ hsP v ∧ hsP v ≤ 63 ∧ 0 ≤ hsR v ∧ hsR v ≤ 63 ∧ hsP v + hsR v ≤ 63 := by
  have := hs_cases v
  omega
theorem Ok64.at {n : Nat} {f : RF} (h : Ok64 n f) {a : Int} (h1 : 0 ≤ a) (h2 : a < n) : 0 ≤ f (Int.toNat a) 0 ∧ f (Int.toNat a) 0 ≤ 18446744073709551615 := h.h _ (by omega)
/-- A pointer field, a raw field: the error, and the value. -/
def ptE (n : Nat) (f : RF) (a x : Int) : Int := if obE n f a = 0 then (if 0 ≤ x ∧ x < obP n f a then (if f (a + 1 + x).toNat 0 ≤ 1600 then 0 else 6) else 10) else obE n f a
def ptV (n : Nat) (f : RF) (a x : Int) : Int := if ptE n f a x = 0 then f (a + 1 + x).toNat 0 else 0
theorem pt_cases (n : Nat) (f : RF) (a x : Int) : (¬ obE n f a = 0 ∧ ptE n f a x = obE n f a ∧ ptV n f a x = 0) ∨ (obE n f a = 0 ∧ ptE n f a x = 10 ∧ ptV n f a x = 0 ∧ (x < 0 ∨ obP n f a ≤ x)) ∨ (obE n f a = 0 ∧ ptE n f a x = 6 ∧ ptV n f a x = 0 ∧ 0 ≤ x ∧ x < obP n f a ∧ 1600 < f (a + 1 + x).toNat 0) ∨
    (obE n f a = 0 ∧ ptE n f a x = 0 ∧ ptV n f a x = f (a + 1 + x).toNat 0 ∧ 0 ≤ x ∧ x < obP n f a ∧ f (a + 1 + x).toNat 0 ≤ 1600) := by
  by_cases h0 : obE n f a = 0
  · by_cases h1 : 0 ≤ x ∧ x < obP n f a
    · by_cases h2 : f (a + 1 + x).toNat 0 ≤ 1600
      · have e : ptE n f a x = 0 := by unfold ptE; rw [if_pos h0, if_pos h1, if_pos h2]
        exact .inr (.inr (.inr ⟨h0, e, if_pos e, h1.1, h1.2, h2⟩))
      · have e : ptE n f a x = 6 := by unfold ptE; rw [if_pos h0, if_pos h1, if_neg h2]
        exact .inr (.inr (.inl ⟨h0, e, if_neg (by omega), h1.1, h1.2, by omega⟩))
    · have e : ptE n f a x = 10 := by unfold ptE; rw [if_pos h0, if_neg h1]
      exact .inr (.inl ⟨h0, e, if_neg (by omega), by omega⟩)
  · have e : ptE n f a x = obE n f a := if_neg h0
    exact .inl ⟨h0, e, if_neg (by omega)⟩
def rwE (n : Nat) (f : RF) (a x : Int) : Int := if obE n f a = 0 then (if 0 ≤ x ∧ x < obR n f a then 0 else 10) else obE n f a
def rwV (n : Nat) (f : RF) (a x : Int) : Int := if rwE n f a x = 0 then f (a + 1 + obP n f a + x).toNat 0 else 0
theorem rw_cases (n : Nat) (f : RF) (a x : Int) : (¬ obE n f a = 0 ∧ rwE n f a x = obE n f a ∧ rwV n f a x = 0) ∨ (obE n f a = 0 ∧ rwE n f a x = 10 ∧ rwV n f a x = 0 ∧ (x < 0 ∨ obR n f a ≤ x)) ∨ (obE n f a = 0 ∧ rwE n f a x = 0 ∧ rwV n f a x = f (a + 1 + obP n f a + x).toNat 0 ∧ 0 ≤ x ∧ x < obR n f a) := by
  by_cases h0 : obE n f a = 0
  · by_cases h1 : 0 ≤ x ∧ x < obR n f a
    · have e : rwE n f a x = 0 := by unfold rwE; rw [if_pos h0, if_pos h1]
      exact .inr (.inr ⟨h0, e, if_pos e, h1⟩)
    · have e : rwE n f a x = 10 := by unfold rwE; rw [if_pos h0, if_neg h1]
      exact .inr (.inl ⟨h0, e, if_neg (by omega), by omega⟩)
  · have e : rwE n f a x = obE n f a := if_neg h0
    exact .inl ⟨h0, e, if_neg (by omega)⟩
/-- The error of an object that is made. -/
def mkE (n : Nat) (f : RF) (a p q : Int) : Int := if arE n f = 0 then (if sze p q = 0 then (if 1 ≤ a ∧ p + q < n - a then 0 else 7) else sze p q) else arE n f
theorem mk_cases (n : Nat) (f : RF) (a p q : Int) : (¬ arE n f = 0 ∧ mkE n f a p q = arE n f) ∨ (arE n f = 0 ∧ ¬ sze p q = 0 ∧ mkE n f a p q = sze p q) ∨ (arE n f = 0 ∧ sze p q = 0 ∧ mkE n f a p q = 7 ∧ ¬ (1 ≤ a ∧ p + q < n - a)) ∨ (arE n f = 0 ∧ sze p q = 0 ∧ mkE n f a p q = 0 ∧ 1 ≤ a ∧ p + q < n - a) := by
  unfold mkE
  repeat' split
  all_goals omega
@[reducible] def XO : List (Nat × Rx.Spec) := [(24, specOf arC), (120, specOf hdS)]
theorem XO_told : ∀ p ∈ XO, Told p.1 p.2 := by
  intro p hp
  simp only [List.mem_cons, List.not_mem_nil, or_false] at hp
  rcases hp with rfl | rfl
  · exact arC_told
  · exact hdS_told
def obS : Con := fun vs bs K => match vs with
  | [vw, .int .i64 a] => parseQ [.u64] 0 vw bs fun nw fw j0 bs0 => bs0 = [] ∧ ((Ok64 nw fw)) ∧ (K (.tuple ⟨[.agg ⟨[.int .i64 (obP nw fw a), .int .i64 (obR nw fw a)]⟩, .int .i64 (obE nw fw a)]⟩) [])
  | _ => False

def obS_nA (a : Int) : Ann := fun _ _ _ => none
def obS_rA (ew nw cw : Nat) (fw : RF) (a : Int) : Ann := fun _ _ _ => none
def obZ : Con := fun vs bs K => match vs with
  | [vw, .int .i64 a] => parseQ [.u64] 0 vw bs fun nw fw j0 bs0 => bs0 = [] ∧ ((Ok64 nw fw)) ∧ (K (.tuple ⟨[.int .i64 (obN nw fw a), .int .i64 (obE nw fw a)]⟩) [])
  | _ => False

def obZ_nA (a : Int) : Ann := fun _ _ _ => none
def obZ_rA (ew nw cw : Nat) (fw : RF) (a : Int) : Ann := fun _ _ _ => none
def obS_nV (a : Int) (K : Value → List Blk → Prop) : Prop := (t3 (eB ∧ ((True) ∧ (t9 (t2 (∃ y0 : Value, (∃ y1 : List Blk, ((Go.Rx.Found 0 (Value.tuple { toList := [Value.agg { toList := [vi (0 : Int), vi (0 : Int)] }, vi (3 : Int)] }) ({ h := [((2 : Nat), Blk.cells [vi (0 : Int), vi (0 : Int), vn, vi (0 : Int), vn] (118 : Nat)), ((1 : Nat), Blk.cells [vi (0 : Int), vi (0 : Int), vn, vi (0 : Int), vn] (118 : Nat)), ((0 : Nat), Blk.cells [vi (0 : Int), vi (0 : Int)] (60 : Nat))], next := (3 : Nat) }) (y0) (y1)) ∧ (K y0 y1)))))))))
theorem obS_nE (a : Int) (K : Value → List Blk → Prop) : obS_nV a K = bodyX (mk XO) (callN (mk XO) 6) (obS_nA a) Try.f46 [.slice none 0 0, .int .i64 a] (stOf []) (Fd 0 K) := by kernel_rfl
set_option tactic.hygienic false in
theorem obS_nP (a : Int) (K : Value → List Blk → Prop)  (hU : Ok64 0 zF) (h : K (.tuple ⟨[.agg ⟨[.int .i64 (obP 0 zF a), .int .i64 (obR 0 zF a)]⟩, .int .i64 (obE 0 zF a)]⟩) []) : obS_nV a K := by
  unfold obS_nV
  have z0 := ob_cases hU a
  have z1 := fun (h1 : 0 ≤ a) (h2 : a < 0) => hU.at h1 h2
  have z2 := fun (h1 : 0 ≤ a) (h2 : a < 0) => hs_bd (hU.at h1 h2).1
  repeat' (first | (with_reducible exact rfl) | (with_reducible exact trivial) | (with_reducible refine And.intro ?_ ?_) | (intro) | (with_reducible refine br_d (fun hq => ?_) (fun hq => ?_)) | (with_reducible refine br_nd (fun hq => ?_) (fun hq => ?_)) | (with_reducible refine br_intro (fun hq => ?_) (fun hq => ?_)) | (with_reducible refine if_both (fun hz => ?_) (fun hz => ?_)) | fail)

  all_goals first
    | (with_reducible assumption)
    | (refine (id ?_ : ∃ (v1 : Value) (news : List Blk), _)
       first
        | contradiction
        | exact fin0 (by kernel_rfl) (by kernel_rfl) h
        | exact fin0 (by kernel_rfl) (by kernel_rfl) (fin0i (by omega) h)
        | exact fin0 (by kernel_rfl) (by kernel_rfl) (fin0p (by omega) (by omega) h)
        | exact fin0 (by kernel_rfl) (by kernel_rfl) (fin0u (by omega) (by omega) h)
        | exact fin0 (by kernel_rfl) (by kernel_rfl) (fin0s (by omega) (by omega) (by omega) h)
        | exact fin0 (by kernel_rfl) (by kernel_rfl) (fin0n (by omega) h)
        | (exfalso; simp at hq; omega)
        | (exfalso; omega)
       )
    | omega
    | contradiction
    | exact fin0 (by kernel_rfl) (by kernel_rfl) h
    | exact fin0 (by kernel_rfl) (by kernel_rfl) (fin0i (by omega) h)
    | exact fin0 (by kernel_rfl) (by kernel_rfl) (fin0p (by omega) (by omega) h)
    | exact fin0 (by kernel_rfl) (by kernel_rfl) (fin0u (by omega) (by omega) h)
    | exact fin0 (by kernel_rfl) (by kernel_rfl) (fin0s (by omega) (by omega) (by omega) h)
    | exact fin0 (by kernel_rfl) (by kernel_rfl) (fin0n (by omega) h)
    | (exfalso; simp at hq; omega)
    | (exfalso; omega)
def obS_rV (ew nw cw : Nat) (fw : RF) (a : Int) (K : Value → List Blk → Prop) : Prop := let q0 := eB; let q1 := (9223372036854775807 : Int); let q2 := (fw (Int.toNat a) (0 : Nat)); let q3 := (-9223372036854775808 : Int); let q4 := (@Eq Nat ((1 : Nat)) ((1 : Nat))); let q5 := (hsP q2); let q6 := (hsR q2); let q7 := TS; let q8 := (a + (1 : Int) + hsP q2); let q9 := ((0 : Nat), Blk.row true [IntKind.u64] ew nw cw fw); let q10 := (Int.toNat (a + (1 : Int) + hsP q2 - (a + (1 : Int)))); let q11 := (a + (1 : Int) + hsP q2 + hsR q2); let q12 := ((1 : Nat), Blk.cells [vi (0 : Int), vi (0 : Int)] (60 : Nat)); let q13 := ((4 : Nat), Blk.cells [vi q5, vi q6] (60 : Nat)); let q14 := (Int.toNat (a + (1 : Int) + hsP q2 + hsR q2 - q8)); let q15 := ((3 : Nat), Blk.cells [vi (0 : Int), vi (0 : Int), vn, vi (0 : Int), vn] (118 : Nat)); let q16 := ((2 : Nat), Blk.cells [vi (0 : Int), vi (0 : Int), vn, vi (0 : Int), vn] (118 : Nat)); let q17 := (t9 (t4 (∃ y0 : Value, (∃ y1 : List Blk, ((Go.Rx.Found 1 (Value.tuple { toList := [Value.agg { toList := [vi (0 : Int), vi (0 : Int)] }, vi (7 : Int)] }) ({ h := [((4 : Nat), Blk.cells [vi (0 : Int), vi (0 : Int), vn, vi (0 : Int), vn] (118 : Nat)), q15, q16, q12, q9], next := (5 : Nat) }) (y0) (y1)) ∧ (K y0 y1)))))); let q18 := (t9 (t4 (∃ y0 : Value, (∃ y1 : List Blk, ((Go.Rx.Found 1 (Value.tuple { toList := [Value.agg { toList := [vi (0 : Int), vi (0 : Int)] }, vi (6 : Int)] }) ({ h := [((5 : Nat), Blk.cells [vi (0 : Int), vi (0 : Int), vn, vi (0 : Int), vn] (118 : Nat)), q13, q15, q16, q12, q9], next := (6 : Nat) }) (y0) (y1)) ∧ (K y0 y1)))))); (t2 (((0 : Nat) + nw ≤ nw) ∧ (((@Eq Nat ((0 : Nat)) ((0 : Nat))) ∧ ((nw ≤ (100000 : Nat)) ∧ (nw ≤ cw))) ∧ (((@Eq (List IntKind) ([IntKind.u64]) ([IntKind.u64])) ∧ ((@Eq Nat (nw) (nw)) ∧ (@Eq Nat (cw) (cw)))) ∧ (q0 ∧ ((True) ∧ (T0 ∧ (if (@Eq Int (arE nw fw) ((0 : Int))) then (t2 (if (a < (1 : Int)) then q17 else (q7 ∧ (T0 ∧ (if ((↑nw : Int) ≤ a) then q17 else ((q7 ∧ q4) ∧ ((((0 : Int) ≤ a) ∧ (a < (↑nw : Int))) ∧ ((Int.toNat a < nw) ∧ (T0 ∧ (q0 ∧ ((((0 : Int) ≤ fw (Int.toNat a) (0 : Nat)) ∧ (fw (Int.toNat a) (0 : Nat) ≤ (18446744073709551615 : Int))) ∧ (t3 (if (@Eq Int (hsE q2) ((0 : Int))) then (t3 (((q3 ≤ hsP q2 + hsR q2) ∧ (hsP q2 + hsR q2 ≤ q1)) ∧ (q7 ∧ (T0 ∧ (((q3 ≤ (↑nw : Int) - a) ∧ ((↑nw : Int) - a ≤ q1)) ∧ (T0 ∧ (if ((↑nw : Int) - a ≤ hsP q2 + hsR q2) then q18 else (T0 ∧ (((q3 ≤ a + (1 : Int)) ∧ (a + (1 : Int) ≤ q1)) ∧ (t2 (((q3 ≤ a + (1 : Int) + hsP q2) ∧ (a + (1 : Int) + hsP q2 ≤ q1)) ∧ (t2 (((q3 ≤ a + (1 : Int) + hsP q2 + hsR q2) ∧ (a + (1 : Int) + hsP q2 + hsR q2 ≤ q1)) ∧ (t8 (q7 ∧ (t4 (q4 ∧ ((((0 : Int) ≤ a + (1 : Int)) ∧ ((a + (1 : Int) ≤ a + (1 : Int) + hsP q2) ∧ ((a + (1 : Int) + hsP q2 ≤ a + (1 : Int) + hsP q2) ∧ (a + (1 : Int) + hsP q2 ≤ (↑cw : Int))))) ∧ ((@Eq Int q8 q8) ∧ (t8 (q7 ∧ (t4 (q4 ∧ ((((0 : Int) ≤ a + (1 : Int) + hsP q2) ∧ ((a + (1 : Int) + hsP q2 ≤ a + (1 : Int) + hsP q2 + hsR q2) ∧ ((a + (1 : Int) + hsP q2 + hsR q2 ≤ a + (1 : Int) + hsP q2 + hsR q2) ∧ (a + (1 : Int) + hsP q2 + hsR q2 ≤ (↑cw : Int))))) ∧ ((@Eq Int q11 q11) ∧ (t9 (t7 (∃ y0 : Value, (∃ y1 : List Blk, ((Go.Rx.Found 1 (Value.tuple { toList := [Value.agg { toList := [vi q5, vi q6] }, vi (0 : Int)] }) ({ h := [((5 : Nat), Blk.cells [vi q5, vi q6, Value.slice (some { block := (0 : Nat), off := (0 : Nat), spot := some (Nat.succ (Nat.succ (Int.toNat (a + (1 : Int))))) }) q10 q10, vi (a + (1 : Int)), Value.slice (some { block := (0 : Nat), off := (0 : Nat), spot := some (Nat.succ (Nat.succ (Int.toNat q8))) }) q14 q14] (118 : Nat)), q13, ((3 : Nat), Blk.cells [vi q5, vi q6, Value.slice (some { block := (0 : Nat), off := (0 : Nat), spot := some (Nat.succ (Nat.succ (Int.toNat (a + (1 : Int))))) }) q10 q10, vi (a + (1 : Int)), Value.slice (some { block := (0 : Nat), off := (0 : Nat), spot := some (Nat.succ (Nat.succ (Int.toNat q8))) }) q14 q14] (118 : Nat)), ((2 : Nat), Blk.cells [vi q5, vi q6, Value.slice (some { block := (0 : Nat), off := (0 : Nat), spot := some (Nat.succ (Nat.succ (Int.toNat (a + (1 : Int))))) }) q10 q10, vi (a + (1 : Int)), Value.slice (some { block := (0 : Nat), off := (0 : Nat), spot := some (Nat.succ (Nat.succ (Int.toNat q8))) }) q14 q14] (118 : Nat)), ((1 : Nat), Blk.cells [vi q5, vi q6] (60 : Nat)), q9], next := (6 : Nat) }) (y0) (y1)) ∧ (K y0 y1))))))))))))))))))))))))))))))) else q18))))))))))))) else (t9 (T0 ∧ (∃ y0 : Value, (∃ y1 : List Blk, ((Go.Rx.Found 1 (Value.tuple { toList := [Value.agg { toList := [vi (0 : Int), vi (0 : Int)] }, vi (arE nw fw)] }) ({ h := [q15, q16, q12, q9], next := (4 : Nat) }) (y0) (y1)) ∧ (K y0 y1))))))))))))))
theorem obS_rE (ew nw cw : Nat) (fw : RF) (a : Int) (K : Value → List Blk → Prop) : obS_rV ew nw cw fw a K = bodyX (mk XO) (callN (mk XO) 6) (obS_rA ew nw cw fw a) Try.f46 [rsl 0 0 nw cw, .int .i64 a] (stOf [.row true [.u64] ew nw cw fw]) (Fd 1 K) := by kernel_rfl
set_option tactic.hygienic false in
theorem obS_rP (ew nw cw : Nat) (fw : RF) (a : Int) (K : Value → List Blk → Prop)  (hnw : nw ≤ 100000) (hcw : nw ≤ cw) (hU : Ok64 nw fw) (h : K (.tuple ⟨[.agg ⟨[.int .i64 (obP nw fw a), .int .i64 (obR nw fw a)]⟩, .int .i64 (obE nw fw a)]⟩) []) : obS_rV ew nw cw fw a K := by
  unfold obS_rV
  conv => zeta
  have z0 := ob_cases hU a
  have z1 := fun (h1 : 0 ≤ a) (h2 : a < nw) => hU.at h1 h2
  have z2 := fun (h1 : 0 ≤ a) (h2 : a < nw) => hs_bd (hU.at h1 h2).1
  repeat' (first | (with_reducible exact rfl) | (with_reducible exact trivial) | (with_reducible refine And.intro ?_ ?_) | (intro) | (with_reducible refine br_d (fun hq => ?_) (fun hq => ?_)) | (with_reducible refine br_nd (fun hq => ?_) (fun hq => ?_)) | (with_reducible refine br_intro (fun hq => ?_) (fun hq => ?_)) | (with_reducible refine if_both (fun hz => ?_) (fun hz => ?_)) | fail)

  all_goals first
    | (with_reducible assumption)
    | (refine (id ?_ : ∃ (v1 : Value) (news : List Blk), _)
       first
        | contradiction
        | exact fin0 (by kernel_rfl) (by kernel_rfl) h
        | exact fin0 (by kernel_rfl) (by kernel_rfl) (fin0i (by omega) h)
        | exact fin0 (by kernel_rfl) (by kernel_rfl) (fin0p (by omega) (by omega) h)
        | exact fin0 (by kernel_rfl) (by kernel_rfl) (fin0u (by omega) (by omega) h)
        | exact fin0 (by kernel_rfl) (by kernel_rfl) (fin0s (by omega) (by omega) (by omega) h)
        | exact fin0 (by kernel_rfl) (by kernel_rfl) (fin0n (by omega) h)
        | (exfalso; simp at hq; omega)
        | (exfalso; omega)
       )
    | omega
    | contradiction
    | exact fin0 (by kernel_rfl) (by kernel_rfl) h
    | exact fin0 (by kernel_rfl) (by kernel_rfl) (fin0i (by omega) h)
    | exact fin0 (by kernel_rfl) (by kernel_rfl) (fin0p (by omega) (by omega) h)
    | exact fin0 (by kernel_rfl) (by kernel_rfl) (fin0u (by omega) (by omega) h)
    | exact fin0 (by kernel_rfl) (by kernel_rfl) (fin0s (by omega) (by omega) (by omega) h)
    | exact fin0 (by kernel_rfl) (by kernel_rfl) (fin0n (by omega) h)
    | (exfalso; simp at hq; omega)
    | (exfalso; omega)
theorem obS_ok : BodyOk (mk XO) 6 Try.f46 obS := by
  intro vs bs K hh hro
  clear hro
  unfold obS at hh
  split at hh
  · rename_i vw a
    rcases parseQ_inv hh with ⟨rfl, hh0⟩ | ⟨ew, nw, cw, fw, btw, rfl, hnw, hcw, rfl, hh0⟩ <;> clear hh
    · obtain ⟨rfl, hU, hc⟩ := hh0
      exact ⟨_, _, cast (obS_nE  a K) (obS_nP  a K  hU hc)⟩
    · obtain ⟨rfl, hU, hc⟩ := hh0
      exact ⟨_, _, cast (obS_rE ew nw cw fw a K) (obS_rP ew nw cw fw a K hnw hcw hU hc)⟩
  · exact hh.elim
theorem obS_told : Told 46 (specOf obS) := told (X := XO) XO_told (by kernel_rfl) (by kernel_rfl) (by kernel_rfl) obS_ok
def obZ_nV (a : Int) (K : Value → List Blk → Prop) : Prop := (t3 (eB ∧ ((True) ∧ (t7 (∃ y0 : Value, (∃ y1 : List Blk, ((Go.Rx.Found 0 (Value.tuple { toList := [vi (0 : Int), vi (3 : Int)] }) ({ h := [((1 : Nat), Blk.cells [vi (0 : Int), vi (0 : Int), vn, vi (0 : Int), vn] (118 : Nat)), ((0 : Nat), Blk.cells [vi (0 : Int), vi (0 : Int), vn, vi (0 : Int), vn] (118 : Nat))], next := (2 : Nat) }) (y0) (y1)) ∧ (K y0 y1))))))))
theorem obZ_nE (a : Int) (K : Value → List Blk → Prop) : obZ_nV a K = bodyX (mk XO) (callN (mk XO) 6) (obZ_nA a) Try.f48 [.slice none 0 0, .int .i64 a] (stOf []) (Fd 0 K) := by kernel_rfl
set_option tactic.hygienic false in
theorem obZ_nP (a : Int) (K : Value → List Blk → Prop)  (hU : Ok64 0 zF) (h : K (.tuple ⟨[.int .i64 (obN 0 zF a), .int .i64 (obE 0 zF a)]⟩) []) : obZ_nV a K := by
  unfold obZ_nV
  have z0 := ob_cases hU a
  have z1 := fun (h1 : 0 ≤ a) (h2 : a < 0) => hU.at h1 h2
  have z2 := fun (h1 : 0 ≤ a) (h2 : a < 0) => hs_bd (hU.at h1 h2).1
  have z3 := obN_cases 0 zF a
  repeat' (first | (with_reducible exact rfl) | (with_reducible exact trivial) | (with_reducible refine And.intro ?_ ?_) | (intro) | (with_reducible refine br_d (fun hq => ?_) (fun hq => ?_)) | (with_reducible refine br_nd (fun hq => ?_) (fun hq => ?_)) | (with_reducible refine br_intro (fun hq => ?_) (fun hq => ?_)) | (with_reducible refine if_both (fun hz => ?_) (fun hz => ?_)) | fail)

  all_goals first
    | (with_reducible assumption)
    | (refine (id ?_ : ∃ (v1 : Value) (news : List Blk), _)
       first
        | contradiction
        | exact fin0 (by kernel_rfl) (by kernel_rfl) h
        | exact fin0 (by kernel_rfl) (by kernel_rfl) (fin0i (by omega) h)
        | exact fin0 (by kernel_rfl) (by kernel_rfl) (fin0p (by omega) (by omega) h)
        | exact fin0 (by kernel_rfl) (by kernel_rfl) (fin0u (by omega) (by omega) h)
        | exact fin0 (by kernel_rfl) (by kernel_rfl) (fin0s (by omega) (by omega) (by omega) h)
        | exact fin0 (by kernel_rfl) (by kernel_rfl) (fin0n (by omega) h)
        | (exfalso; simp at hq; omega)
        | (exfalso; omega)
       )
    | omega
    | contradiction
    | exact fin0 (by kernel_rfl) (by kernel_rfl) h
    | exact fin0 (by kernel_rfl) (by kernel_rfl) (fin0i (by omega) h)
    | exact fin0 (by kernel_rfl) (by kernel_rfl) (fin0p (by omega) (by omega) h)
    | exact fin0 (by kernel_rfl) (by kernel_rfl) (fin0u (by omega) (by omega) h)
    | exact fin0 (by kernel_rfl) (by kernel_rfl) (fin0s (by omega) (by omega) (by omega) h)
    | exact fin0 (by kernel_rfl) (by kernel_rfl) (fin0n (by omega) h)
    | (exfalso; simp at hq; omega)
    | (exfalso; omega)
def obZ_rV (ew nw cw : Nat) (fw : RF) (a : Int) (K : Value → List Blk → Prop) : Prop := let q0 := eB; let q1 := (9223372036854775807 : Int); let q2 := (-9223372036854775808 : Int); let q3 := (fw (Int.toNat a) (0 : Nat)); let q4 := (@Eq Nat ((1 : Nat)) ((1 : Nat))); let q5 := (hsP q3); let q6 := (hsR q3); let q7 := TS; let q8 := (a + (1 : Int) + hsP q3); let q9 := ((0 : Nat), Blk.row true [IntKind.u64] ew nw cw fw); let q10 := (Int.toNat (a + (1 : Int) + hsP q3 - (a + (1 : Int)))); let q11 := (a + (1 : Int) + hsP q3 + hsR q3); let q12 := ((3 : Nat), Blk.cells [vi q5, vi q6] (60 : Nat)); let q13 := (Int.toNat (a + (1 : Int) + hsP q3 + hsR q3 - q8)); let q14 := ((2 : Nat), Blk.cells [vi (0 : Int), vi (0 : Int), vn, vi (0 : Int), vn] (118 : Nat)); let q15 := ((1 : Nat), Blk.cells [vi (0 : Int), vi (0 : Int), vn, vi (0 : Int), vn] (118 : Nat)); let q16 := (t9 (∃ y0 : Value, (∃ y1 : List Blk, ((Go.Rx.Found 1 (Value.tuple { toList := [vi (0 : Int), vi (7 : Int)] }) ({ h := [((3 : Nat), Blk.cells [vi (0 : Int), vi (0 : Int), vn, vi (0 : Int), vn] (118 : Nat)), q14, q15, q9], next := (4 : Nat) }) (y0) (y1)) ∧ (K y0 y1))))); let q17 := (t9 (∃ y0 : Value, (∃ y1 : List Blk, ((Go.Rx.Found 1 (Value.tuple { toList := [vi (0 : Int), vi (6 : Int)] }) ({ h := [((4 : Nat), Blk.cells [vi (0 : Int), vi (0 : Int), vn, vi (0 : Int), vn] (118 : Nat)), q12, q14, q15, q9], next := (5 : Nat) }) (y0) (y1)) ∧ (K y0 y1))))); (t2 (((0 : Nat) + nw ≤ nw) ∧ (((@Eq Nat ((0 : Nat)) ((0 : Nat))) ∧ ((nw ≤ (100000 : Nat)) ∧ (nw ≤ cw))) ∧ (((@Eq (List IntKind) ([IntKind.u64]) ([IntKind.u64])) ∧ ((@Eq Nat (nw) (nw)) ∧ (@Eq Nat (cw) (cw)))) ∧ (q0 ∧ ((True) ∧ (T0 ∧ (if (@Eq Int (arE nw fw) ((0 : Int))) then (t2 (if (a < (1 : Int)) then q16 else (q7 ∧ (T0 ∧ (if ((↑nw : Int) ≤ a) then q16 else ((q7 ∧ q4) ∧ ((((0 : Int) ≤ a) ∧ (a < (↑nw : Int))) ∧ ((Int.toNat a < nw) ∧ (T0 ∧ (q0 ∧ ((((0 : Int) ≤ fw (Int.toNat a) (0 : Nat)) ∧ (fw (Int.toNat a) (0 : Nat) ≤ (18446744073709551615 : Int))) ∧ (t3 (if (@Eq Int (hsE q3) ((0 : Int))) then (t3 (((q2 ≤ hsP q3 + hsR q3) ∧ (hsP q3 + hsR q3 ≤ q1)) ∧ (q7 ∧ (T0 ∧ (((q2 ≤ (↑nw : Int) - a) ∧ ((↑nw : Int) - a ≤ q1)) ∧ (T0 ∧ (if ((↑nw : Int) - a ≤ hsP q3 + hsR q3) then q17 else (T0 ∧ (((q2 ≤ a + (1 : Int)) ∧ (a + (1 : Int) ≤ q1)) ∧ (t2 (((q2 ≤ a + (1 : Int) + hsP q3) ∧ (a + (1 : Int) + hsP q3 ≤ q1)) ∧ (t2 (((q2 ≤ a + (1 : Int) + hsP q3 + hsR q3) ∧ (a + (1 : Int) + hsP q3 + hsR q3 ≤ q1)) ∧ (t8 (q7 ∧ (t4 (q4 ∧ ((((0 : Int) ≤ a + (1 : Int)) ∧ ((a + (1 : Int) ≤ a + (1 : Int) + hsP q3) ∧ ((a + (1 : Int) + hsP q3 ≤ a + (1 : Int) + hsP q3) ∧ (a + (1 : Int) + hsP q3 ≤ (↑cw : Int))))) ∧ ((@Eq Int q8 q8) ∧ (t8 (q7 ∧ (t4 (q4 ∧ ((((0 : Int) ≤ a + (1 : Int) + hsP q3) ∧ ((a + (1 : Int) + hsP q3 ≤ a + (1 : Int) + hsP q3 + hsR q3) ∧ ((a + (1 : Int) + hsP q3 + hsR q3 ≤ a + (1 : Int) + hsP q3 + hsR q3) ∧ (a + (1 : Int) + hsP q3 + hsR q3 ≤ (↑cw : Int))))) ∧ ((@Eq Int q11 q11) ∧ (t9 (t8 (((q2 ≤ (1 : Int) + hsP q3) ∧ ((1 : Int) + hsP q3 ≤ q1)) ∧ (t3 (((q2 ≤ (1 : Int) + hsP q3 + hsR q3) ∧ ((1 : Int) + hsP q3 + hsR q3 ≤ q1)) ∧ (∃ y0 : Value, (∃ y1 : List Blk, ((Go.Rx.Found 1 (Value.tuple { toList := [vi ((1 : Int) + hsP q3 + hsR q3), vi (0 : Int)] }) ({ h := [((5 : Nat), Blk.cells [vi q5, vi q6, Value.slice (some { block := (0 : Nat), off := (0 : Nat), spot := some (Nat.succ (Nat.succ (Int.toNat (a + (1 : Int))))) }) q10 q10, vi (a + (1 : Int)), Value.slice (some { block := (0 : Nat), off := (0 : Nat), spot := some (Nat.succ (Nat.succ (Int.toNat q8))) }) q13 q13] (118 : Nat)), ((4 : Nat), Blk.cells [vi q5, vi q6, Value.slice (some { block := (0 : Nat), off := (0 : Nat), spot := some (Nat.succ (Nat.succ (Int.toNat (a + (1 : Int))))) }) q10 q10, vi (a + (1 : Int)), Value.slice (some { block := (0 : Nat), off := (0 : Nat), spot := some (Nat.succ (Nat.succ (Int.toNat q8))) }) q13 q13] (118 : Nat)), q12, ((2 : Nat), Blk.cells [vi q5, vi q6, Value.slice (some { block := (0 : Nat), off := (0 : Nat), spot := some (Nat.succ (Nat.succ (Int.toNat (a + (1 : Int))))) }) q10 q10, vi (a + (1 : Int)), Value.slice (some { block := (0 : Nat), off := (0 : Nat), spot := some (Nat.succ (Nat.succ (Int.toNat q8))) }) q13 q13] (118 : Nat)), ((1 : Nat), Blk.cells [vi q5, vi q6, Value.slice (some { block := (0 : Nat), off := (0 : Nat), spot := some (Nat.succ (Nat.succ (Int.toNat (a + (1 : Int))))) }) q10 q10, vi (a + (1 : Int)), Value.slice (some { block := (0 : Nat), off := (0 : Nat), spot := some (Nat.succ (Nat.succ (Int.toNat q8))) }) q13 q13] (118 : Nat)), q9], next := (6 : Nat) }) (y0) (y1)) ∧ (K y0 y1)))))))))))))))))))))))))))))))))) else q17))))))))))))) else (t6 (if (@Eq Int (arE nw fw) ((0 : Int))) then (t5 (((q2 ≤ (1 : Int) + (0 : Int)) ∧ ((1 : Int) + (0 : Int) ≤ q1)) ∧ (t3 (((q2 ≤ (1 : Int) + (0 : Int) + (0 : Int)) ∧ ((1 : Int) + (0 : Int) + (0 : Int) ≤ q1)) ∧ (∃ y0 : Value, (∃ y1 : List Blk, ((Go.Rx.Found 1 (Value.tuple { toList := [vi (1 : Int), vi (0 : Int)] }) ({ h := [((3 : Nat), Blk.cells [vi (0 : Int), vi (0 : Int), vn, vi (0 : Int), vn] (118 : Nat)), q14, q15, q9], next := (4 : Nat) }) (y0) (y1)) ∧ (K y0 y1)))))))) else (∃ y0 : Value, (∃ y1 : List Blk, ((Go.Rx.Found 1 (Value.tuple { toList := [vi (0 : Int), vi (arE nw fw)] }) ({ h := [q14, q15, q9], next := (3 : Nat) }) (y0) (y1)) ∧ (K y0 y1))))))))))))))
theorem obZ_rE (ew nw cw : Nat) (fw : RF) (a : Int) (K : Value → List Blk → Prop) : obZ_rV ew nw cw fw a K = bodyX (mk XO) (callN (mk XO) 6) (obZ_rA ew nw cw fw a) Try.f48 [rsl 0 0 nw cw, .int .i64 a] (stOf [.row true [.u64] ew nw cw fw]) (Fd 1 K) := by kernel_rfl
set_option tactic.hygienic false in
theorem obZ_rP (ew nw cw : Nat) (fw : RF) (a : Int) (K : Value → List Blk → Prop)  (hnw : nw ≤ 100000) (hcw : nw ≤ cw) (hU : Ok64 nw fw) (h : K (.tuple ⟨[.int .i64 (obN nw fw a), .int .i64 (obE nw fw a)]⟩) []) : obZ_rV ew nw cw fw a K := by
  unfold obZ_rV
  conv => zeta
  have z0 := ob_cases hU a
  have z1 := fun (h1 : 0 ≤ a) (h2 : a < nw) => hU.at h1 h2
  have z2 := fun (h1 : 0 ≤ a) (h2 : a < nw) => hs_bd (hU.at h1 h2).1
  have z3 := obN_cases nw fw a
  repeat' (first | (with_reducible exact rfl) | (with_reducible exact trivial) | (with_reducible refine And.intro ?_ ?_) | (intro) | (with_reducible refine br_d (fun hq => ?_) (fun hq => ?_)) | (with_reducible refine br_nd (fun hq => ?_) (fun hq => ?_)) | (with_reducible refine br_intro (fun hq => ?_) (fun hq => ?_)) | (with_reducible refine if_both (fun hz => ?_) (fun hz => ?_)) | fail)

  all_goals first
    | (with_reducible assumption)
    | (refine (id ?_ : ∃ (v1 : Value) (news : List Blk), _)
       first
        | contradiction
        | exact fin0 (by kernel_rfl) (by kernel_rfl) h
        | exact fin0 (by kernel_rfl) (by kernel_rfl) (fin0i (by omega) h)
        | exact fin0 (by kernel_rfl) (by kernel_rfl) (fin0p (by omega) (by omega) h)
        | exact fin0 (by kernel_rfl) (by kernel_rfl) (fin0u (by omega) (by omega) h)
        | exact fin0 (by kernel_rfl) (by kernel_rfl) (fin0s (by omega) (by omega) (by omega) h)
        | exact fin0 (by kernel_rfl) (by kernel_rfl) (fin0n (by omega) h)
        | (exfalso; simp at hq; omega)
        | (exfalso; omega)
       )
    | omega
    | contradiction
    | exact fin0 (by kernel_rfl) (by kernel_rfl) h
    | exact fin0 (by kernel_rfl) (by kernel_rfl) (fin0i (by omega) h)
    | exact fin0 (by kernel_rfl) (by kernel_rfl) (fin0p (by omega) (by omega) h)
    | exact fin0 (by kernel_rfl) (by kernel_rfl) (fin0u (by omega) (by omega) h)
    | exact fin0 (by kernel_rfl) (by kernel_rfl) (fin0s (by omega) (by omega) (by omega) h)
    | exact fin0 (by kernel_rfl) (by kernel_rfl) (fin0n (by omega) h)
    | (exfalso; simp at hq; omega)
    | (exfalso; omega)
theorem obZ_ok : BodyOk (mk XO) 6 Try.f48 obZ := by
  intro vs bs K hh hro
  clear hro
  unfold obZ at hh
  split at hh
  · rename_i vw a
    rcases parseQ_inv hh with ⟨rfl, hh0⟩ | ⟨ew, nw, cw, fw, btw, rfl, hnw, hcw, rfl, hh0⟩ <;> clear hh
    · obtain ⟨rfl, hU, hc⟩ := hh0
      exact ⟨_, _, cast (obZ_nE  a K) (obZ_nP  a K  hU hc)⟩
    · obtain ⟨rfl, hU, hc⟩ := hh0
      exact ⟨_, _, cast (obZ_rE ew nw cw fw a K) (obZ_rP ew nw cw fw a K hnw hcw hU hc)⟩
  · exact hh.elim
theorem obZ_told : Told 48 (specOf obZ) := told (X := XO) XO_told (by kernel_rfl) (by kernel_rfl) (by kernel_rfl) obZ_ok
end Go.Proofs.Ytfgeoglegebncaa.Fr
namespace Go.Proofs.Ytfgeoglegebncaa.Fr
set_option maxRecDepth 100000
set_option maxHeartbeats 4000000
open Go.Rx
open Go.RowKit (Below)
set_option linter.unusedVariables false
/-- An object that is made. -/
def mkF (f : RF) (a m : Nat) (v : Int) : RF := fun i _ => if i = a then v else if a < i ∧ i < a + m then 0 else f i 0
theorem Ok64.mk_ {n : Nat} {f : RF} (h : Ok64 n f) {a m : Nat} {v : Int} (hv : 0 ≤ v ∧ v ≤ 18446744073709551615) : Ok64 n (mkF f a m v) := ⟨fun i hi => by
  unfold mkF
  repeat' split
  · exact hv
  · omega
  · exact h.h i hi⟩
end Go.Proofs.Ytfgeoglegebncaa.Fr
namespace Go.Proofs.Ytfgeoglegebncaa.Fr
set_option maxRecDepth 100000
set_option maxHeartbeats 4000000
open Go.Rx
open Go.RowKit (Below)
set_option linter.unusedVariables false
def idR (b n : Nat) : List (Nat × Nat) := (List.range' b (n - b)).map fun i => (i, i)
theorem app1P {v : Int} {P : Nat → Int → Prop} (h : P 0 v) : ∀ i, i < 1 → P i (appF (fun _ _ => 0) 0 (litF 1 [v]) 0 i 0) := fun i hi => by
  obtain rfl : i = 0 := by omega
  simpa [appF, litF] using h
theorem appSP {f : RF} {k : Nat} {v : Int} {P : Nat → Int → Prop} (hf : ∀ i, i < k → P i (f i 0)) (h : P k v) : ∀ i, i < k + 1 → P i (appF f k (litF 1 [v]) 0 i 0) := fun i hi => by
  unfold appF
  split
  · exact hf i (by assumption)
  · obtain rfl : i = k := by omega
    simpa [litF] using h
def slF (a : Int) : RF := fun i _ => a + 1 + (i : Int)
end Go.Proofs.Ytfgeoglegebncaa.Fr
namespace Go.Proofs.Ytfgeoglegebncaa.Fr
set_option maxRecDepth 100000
set_option maxHeartbeats 4000000
open Go.Rx
open Go.RowKit (Below)
set_option linter.unusedVariables false
/-- What Differ finds. -/
structure DifL (n : Nat) (f g : RF) (m : Nat) (l : RF) : Prop where
  pos : 1 ≤ m
  mem : ∀ i, i < m → 0 ≤ l i 0 ∧ l i 0 < n ∧ ¬ f (l i 0).toNat 0 = g (l i 0).toNat 0
  asc : ∀ i j, i < j → j < m → l i 0 < l j 0
def eqF (n : Nat) (f g : RF) : Prop := ∀ i, i < n → f i 0 = g i 0
/-- Indexes below k where two rows differ. -/
structure DifK (k n : Nat) (f g : RF) (m : Nat) (l : RF) : Prop where
  pos : 1 ≤ m
  mem : ∀ i, i < m → 0 ≤ l i 0 ∧ l i 0 < k ∧ ¬ f (l i 0).toNat 0 = g (l i 0).toNat 0
  asc : ∀ i j, i < j → j < m → l i 0 < l j 0
theorem DifK.one {k n : Nat} {f g : RF} {v : Int} (hv : v = (k : Int)) (h : ¬ f k 0 = g k 0) : DifK (k + 1) n f g 1 (appF (fun _ _ => 0) 0 (litF 1 [v]) 0) := by
  have e : appF (fun _ _ => 0) 0 (litF 1 [v]) 0 0 0 = (k : Int) := by rw [← hv]; rfl
  refine ⟨Nat.le_refl 1, fun i hi => ?_, fun i j h1 h2 => absurd h2 (by omega)⟩
  obtain rfl : i = 0 := by omega
  rw [e]
  exact ⟨by omega, by omega, h⟩
theorem DifK.more {k n m : Nat} {f g l : RF} {v : Int} (H : DifK k n f g m l) (hv : v = (k : Int)) (h : ¬ f k 0 = g k 0) : DifK (k + 1) n f g (m + 1) (appF l m (litF 1 [v]) 0) := by
  have e : appF l m (litF 1 [v]) 0 m 0 = (k : Int) := by
    rw [← hv]
    simp [appF, litF]
  have e2 : ∀ i, i < m → appF l m (litF 1 [v]) 0 i 0 = l i 0 := fun i hi => if_pos hi
  refine ⟨by omega, fun i hi => ?_, fun i j h1 h2 => ?_⟩
  · rcases Nat.lt_or_ge i m with q | q
    · rw [e2 i q]
      have := H.mem i q
      exact ⟨this.1, by omega, this.2.2⟩
    · obtain rfl : i = m := by omega
      rw [e]
      exact ⟨by omega, by omega, h⟩
  · rcases Nat.lt_or_ge j m with q | q
    · rw [e2 i (by omega), e2 j q]
      exact H.asc i j h1 q
    · obtain rfl : j = m := by omega
      rw [e, e2 i h1]
      have := H.mem i h1
      omega
theorem DifK.next {k n m : Nat} {f g l : RF} (H : DifK k n f g m l) : DifK (k + 1) n f g m l := ⟨H.pos, fun i hi => by
  have := H.mem i hi
  exact ⟨this.1, by omega, this.2.2⟩, H.asc⟩
theorem eq_next {k : Nat} {f g : RF} (h : eqF k f g) (h' : f k 0 = g k 0) : eqF (k + 1) f g := fun i hi => by
  rcases Nat.lt_or_ge i k with q | q
  · exact h i q
  · obtain rfl : i = k := by omega
    exact h'
end Go.Proofs.Ytfgeoglegebncaa.Fr
namespace Go.Proofs.Ytfgeoglegebncaa.Fr
set_option maxRecDepth 100000
set_option maxHeartbeats 4000000
open Go.Rx
open Go.RowKit (Below)
set_option linter.unusedVariables false
def dfN : Con := fun vs bs K => match vs with
  | [va, vb] => parseRQ [.u64] 0 va bs fun na fa j0 bs0 => parseRQ [.u64] j0 vb bs0 fun nb fb j1 bs1 => bs1 = [] ∧ ((arE na fa = 0) ∧ (arE nb fb = 0) ∧ (na = nb) ∧ (eqF na fa fb)) ∧ (K (.tuple ⟨[.slice none 0 0, .int .i64 (0)]⟩) [])
  | _ => False

def dfN_rrA (ea na ca : Nat) (fa : RF) (eb nb cb : Nat) (fb : RF) : Ann := fun k tt ss => bif Nat.beq k 10 then some [{ α := Nat, T := fun k => ⟨tt.n, (8, .int .i64 (k : Int)) :: Rx.del tt.m 8⟩, S := fun _ => ss, I := fun k => k ≤ na ∧ eqF k fa fb, m := fun k => na - k, ρ0 := idR 2 ss.next, ρ1 := [idR 2 ss.next] }] else none
def dfR : Con := fun vs bs K => match vs with
  | [va, vb] => parseRQ [.u64] 0 va bs fun na fa j0 bs0 => parseRQ [.u64] j0 vb bs0 fun nb fb j1 bs1 => bs1 = [] ∧ ((arE na fa = 0) ∧ (arE nb fb = 0) ∧ (na = nb) ∧ (¬ eqF na fa fb)) ∧ (∀ (m : Nat) (l : RF), DifL na fa fb m l → ∀ cp, m ≤ cp → K (.tuple ⟨[rsl j1 0 m cp, .int .i64 0]⟩) [.row false [.i64] 3 m cp l])
  | _ => False

def dfR_rrA (ea na ca : Nat) (fa : RF) (eb nb cb : Nat) (fb : RF) : Ann := fun k tt ss => bif Nat.beq k 10 then some [{ α := Nat, T := fun k => ⟨tt.n, (8, .int .i64 (k : Int)) :: Rx.del tt.m 8⟩, S := fun _ => ss, I := fun k => k ≤ na ∧ eqF k fa fb, m := fun k => na - k, ρ0 := idR 2 ss.next, ρ1 := [idR 2 ss.next] }, { α := (Nat × Nat) × Nat × RF, T := fun k => ⟨tt.n, (7, rsl ss.next 0 k.1.2 (k.2.1 + 1)) :: (8, .int .i64 (k.1.1 : Int)) :: Rx.del (Rx.del tt.m 7) 8⟩, S := fun k => ⟨(ss.next, .row false [.i64] 3 k.1.2 (k.2.1 + 1) k.2.2) :: ss.h, ss.next + 1⟩, I := fun k => (k.1.1 ≤ na ∧ k.1.2 ≤ k.1.1 ∧ k.1.2 ≤ k.2.1 + 1) ∧ DifK k.1.1 na fa fb k.1.2 k.2.2, m := fun k => na - k.1.1, ρ0 := (idR 2 ss.next ++ [(ss.next, ss.next)]), ρ1 := [(idR 2 ss.next ++ [(ss.next, ss.next + 1)]), (idR 2 ss.next ++ [(ss.next, ss.next + 2)]), (idR 2 ss.next ++ [(ss.next, ss.next)])] }] else none
def dfN_rrV (ea na ca : Nat) (fa : RF) (eb nb cb : Nat) (fb : RF) (K : Value → List Blk → Prop) : Prop := let q0 := (25, Value.bool false); let q1 := (23, Value.bool false); let q2 := (17, Value.bool false); let q3 := (16, Value.bool false); let q4 := (12, Value.bool false); let q5 := (22, Value.bool false); let q6 := ((1 : Nat) ≤ (1 : Nat)); let q7 := eB; let q8 := (9223372036854775807 : Int); let q9 := ((1 : Nat) ≤ (100000 : Nat)); let q10 := (-9223372036854775808 : Int); let q11 := ((17 : Nat), Value.bool true); let q12 := ((16 : Nat), Value.bool true); let q13 := ((12 : Nat), Value.bool true); let q14 := ((25 : Nat), Value.bool false); let q15 := ((23 : Nat), Value.bool false); let q16 := ((17 : Nat), Value.bool false); let q17 := ((16 : Nat), Value.bool false); let q18 := ((12 : Nat), Value.bool false); let q19 := ((22 : Nat), Value.bool false); let q20 := (@Eq Nat ((0 : Nat)) ((0 : Nat))); let q21 := (9, rsl (0 : Nat) (0 : Nat) na ca); let q22 := (0, rsl (0 : Nat) (0 : Nat) na ca); let q23 := (1, rsl (1 : Nat) (0 : Nat) nb cb); let q24 := (20, rsl (1 : Nat) (0 : Nat) nb cb); let q25 := (18, rsl (0 : Nat) (0 : Nat) na ca); let q26 := (13, rsl (1 : Nat) (0 : Nat) nb cb); let q27 := (5, vi (0 : Int)); let q28 := (8, vi (0 : Int)); let q29 := (6, vi (arE na fa)); let q30 := (6, vi (arE nb fb)); let q31 := (24, vi (arE na fa)); let q32 := (15, vi (arE na fa)); let q33 := (11, vi (arE na fa)); let q34 := (10, vi (arE na fa)); let q35 := (21, vi (↑nb : Int)); let q36 := (19, vi (↑na : Int)); let q37 := (24, vi (arE nb fb)); let q38 := (15, vi (arE nb fb)); let q39 := (14, vi (arE nb fb)); let q40 := TS; let q41 := (4, vn); let q42 := (7, vn); let q43 := ((9 : Nat), rsl (0 : Nat) (0 : Nat) na ca); let q44 := ((0 : Nat), rsl (0 : Nat) (0 : Nat) na ca); let q45 := ((1 : Nat), rsl (1 : Nat) (0 : Nat) nb cb); let q46 := (0, Blk.row true [IntKind.u64] ea na ca fa); let q47 := (1, Blk.row true [IntKind.u64] eb nb cb fb); let q48 := ((20 : Nat), rsl (1 : Nat) (0 : Nat) nb cb); let q49 := ((18 : Nat), rsl (0 : Nat) (0 : Nat) na ca); let q50 := ((13 : Nat), rsl (1 : Nat) (0 : Nat) nb cb); let q51 := ((5 : Nat), vi (0 : Int)); let q52 := ((6 : Nat), vi (arE na fa)); let q53 := ((6 : Nat), vi (arE nb fb)); let q54 := ((24 : Nat), vi (arE na fa)); let q55 := ((15 : Nat), vi (arE na fa)); let q56 := ((11 : Nat), vi (arE na fa)); let q57 := ((10 : Nat), vi (arE na fa)); let q58 := ((21 : Nat), vi (↑nb : Int)); let q59 := ((19 : Nat), vi (↑na : Int)); let q60 := ((24 : Nat), vi (arE nb fb)); let q61 := ((15 : Nat), vi (arE nb fb)); let q62 := ((14 : Nat), vi (arE nb fb)); let q63 := ((7 : Nat), vn); let q64 := ((4 : Nat), vn); let q65 := (@Eq (List IntKind) ([IntKind.u64]) ([IntKind.u64])); let q66 := (q40 ∧ (@Eq Nat ((1 : Nat)) ((1 : Nat)))); let q67 := (∃ y1 : Value, (∃ y2 : List Blk, ((Go.Rx.Found 2 (Value.tuple { toList := [vn, vi (0 : Int)] }) ({ h := [((0 : Nat), Blk.row true [IntKind.u64] ea na ca fa), ((1 : Nat), Blk.row true [IntKind.u64] eb nb cb fb)], next := (2 : Nat) }) (y1) (y2)) ∧ (K y1 y2)))); let q68 := (∃ y0 : Value, (∃ y1 : List Blk, ((Go.Rx.Found 2 (Value.tuple { toList := [vn, vi (arE na fa)] }) ({ h := [((0 : Nat), Blk.row true [IntKind.u64] ea na ca fa), ((1 : Nat), Blk.row true [IntKind.u64] eb nb cb fb)], next := (2 : Nat) }) (y0) (y1)) ∧ (K y0 y1)))); let q69 := (∃ y0 : Value, (∃ y1 : List Blk, ((Go.Rx.Found 2 (Value.tuple { toList := [vn, vi (arE nb fb)] }) ({ h := [((0 : Nat), Blk.row true [IntKind.u64] ea na ca fa), ((1 : Nat), Blk.row true [IntKind.u64] eb nb cb fb)], next := (2 : Nat) }) (y0) (y1)) ∧ (K y0 y1)))); let q70 := (T0 ∧ (∃ y0 : Value, (∃ y1 : List Blk, ((Go.Rx.Found 2 (Value.tuple { toList := [vn, vi (6 : Int)] }) ({ h := [((0 : Nat), Blk.row true [IntKind.u64] ea na ca fa), ((1 : Nat), Blk.row true [IntKind.u64] eb nb cb fb)], next := (2 : Nat) }) (y0) (y1)) ∧ (K y0 y1))))); (T0 ∧ (((0 : Nat) + na ≤ na) ∧ ((q20 ∧ ((na ≤ (100000 : Nat)) ∧ (na ≤ ca))) ∧ ((q65 ∧ ((@Eq Nat (na) (na)) ∧ (@Eq Nat (ca) (ca)))) ∧ (q7 ∧ ((True) ∧ (T0 ∧ (if (@Eq Int (arE na fa) ((0 : Int))) then (((0 : Nat) + nb ≤ nb) ∧ ((q20 ∧ ((nb ≤ (100000 : Nat)) ∧ (nb ≤ cb))) ∧ ((q65 ∧ ((@Eq Nat (nb) (nb)) ∧ (@Eq Nat (cb) (cb)))) ∧ (q7 ∧ ((True) ∧ (T0 ∧ (if (@Eq Int (arE nb fb) ((0 : Int))) then (q40 ∧ (q40 ∧ (T0 ∧ (if (@Eq Int ((↑na : Int)) ((↑nb : Int))) then (T0 ∧ (if (@Eq Int (arE nb fb) ((0 : Int))) then ((∃ y0 : Nat, ((Go.Rx.Sub 2 [] ⟨47, [q28, q42, q0, q37, q1, q5, q35, q24, q36, q25, (17, Value.bool true), (16, Value.bool true), q38, q30, q39, q26, (12, Value.bool true), q33, q34, q21, q27, q41, q22, q23]⟩ ⟨[q46, q47], 2⟩ ({ n := (47 : Nat), m := [((8 : Nat), vi (↑y0 : Int)), q63, q14, q60, q15, q19, q58, q48, q59, q49, q11, q12, q61, q53, q62, q50, q13, q56, q57, q43, q51, q64, q44, q45] }) ({ h := [((0 : Nat), Blk.row true [IntKind.u64] ea na ca fa), ((1 : Nat), Blk.row true [IntKind.u64] eb nb cb fb)], next := (2 : Nat) })) ∧ ((y0 ≤ na) ∧ (∀ y1 : Nat, ((y1 < y0) → (@Eq Int (fa y1 (0 : Nat)) (fb y1 (0 : Nat)))))))) ∧ (∀ y0 : Nat, let q80 := ((0 : Int) ≤ (↑y0 : Int)); let q81 := (8, vi ((↑y0 : Int) + (1 : Int))); let q82 := ((q10 ≤ (↑y0 : Int) + (1 : Int)) ∧ ((↑y0 : Int) + (1 : Int) ≤ q8)); (((y0 ≤ na) ∧ (∀ y1 : Nat, ((y1 < y0) → (@Eq Int (fa y1 (0 : Nat)) (fb y1 (0 : Nat)))))) → (q40 ∧ (T0 ∧ (if ((↑y0 : Int) < (↑na : Int)) then (t4 (q66 ∧ ((q80 ∧ ((↑y0 : Int) < (↑na : Int))) ∧ (T0 ∧ ((y0 < na) ∧ (t3 (q66 ∧ ((q80 ∧ ((↑y0 : Int) < (↑nb : Int))) ∧ (T0 ∧ ((y0 < nb) ∧ (t2 (if (@Eq Int (fa y0 (0 : Nat)) (fb y0 (0 : Nat))) then (T0 ∧ (q82 ∧ (∃ y1 : Nat, ((Go.Rx.Sub 2 [] ⟨47, [q81, q42, q0, q37, q1, q5, q35, q24, q36, q25, (17, Value.bool true), (16, Value.bool true), q38, q30, q39, q26, (12, Value.bool true), q33, q34, q21, q27, q41, q22, q23]⟩ ⟨[q46, q47], 2⟩ ({ n := (47 : Nat), m := [((8 : Nat), vi (↑y1 : Int)), q63, q14, q60, q15, q19, q58, q48, q59, q49, q11, q12, q61, q53, q62, q50, q13, q56, q57, q43, q51, q64, q44, q45] }) ({ h := [((0 : Nat), Blk.row true [IntKind.u64] ea na ca fa), ((1 : Nat), Blk.row true [IntKind.u64] eb nb cb fb)], next := (2 : Nat) })) ∧ (((y1 ≤ na) ∧ (∀ y2 : Nat, ((y2 < y1) → (@Eq Int (fa y2 (0 : Nat)) (fb y2 (0 : Nat)))))) ∧ (na - y1 < na - y0)))))) else (q40 ∧ (t4 (q40 ∧ (q40 ∧ (t4 (q6 ∧ (q9 ∧ (∀ y1 : Nat, (((1 : Nat) ≤ y1) → (T0 ∧ (q82 ∧ (∃ y2 : Nat, ((Go.Rx.Sub 2 [] ⟨47, [q81, (7, rsl (3 : Nat) (0 : Nat) (1 : Nat) (y1 - (1 : Nat) + (1 : Nat))), q0, q37, q1, q5, q35, q24, q36, q25, (17, Value.bool true), (16, Value.bool true), q38, q30, q39, q26, (12, Value.bool true), q33, q34, q21, q27, q41, q22, q23]⟩ ⟨[q46, q47], 4⟩ ({ n := (47 : Nat), m := [((8 : Nat), vi (↑y2 : Int)), q63, q14, q60, q15, q19, q58, q48, q59, q49, q11, q12, q61, q53, q62, q50, q13, q56, q57, q43, q51, q64, q44, q45] }) ({ h := [((0 : Nat), Blk.row true [IntKind.u64] ea na ca fa), ((1 : Nat), Blk.row true [IntKind.u64] eb nb cb fb)], next := (2 : Nat) })) ∧ (((y2 ≤ na) ∧ (∀ y3 : Nat, ((y3 < y2) → (@Eq Int (fa y3 (0 : Nat)) (fb y3 (0 : Nat)))))) ∧ (na - y2 < na - y0))))))))))))))))))))))))))) else q67)))))) else q69)) else q70)))) else (T0 ∧ (if (@Eq Int (arE nb fb) ((0 : Int))) then ((∃ y0 : Nat, ((Go.Rx.Sub 2 [] ⟨47, [q28, q42, q0, q37, q1, (22, Value.tuple { toList := [] }), (21, Value.tuple { toList := [] }), (20, Value.tuple { toList := [] }), (19, Value.tuple { toList := [] }), (18, Value.tuple { toList := [] }), q2, q3, q38, q30, q39, q26, (12, Value.bool true), q33, q34, q21, q27, q41, q22, q23]⟩ ⟨[q46, q47], 2⟩ ({ n := (47 : Nat), m := [((8 : Nat), vi (↑y0 : Int)), q63, q14, q60, q15, ((22 : Nat), Value.tuple { toList := [] }), ((21 : Nat), Value.tuple { toList := [] }), ((20 : Nat), Value.tuple { toList := [] }), ((19 : Nat), Value.tuple { toList := [] }), ((18 : Nat), Value.tuple { toList := [] }), q16, q17, q61, q53, q62, q50, q13, q56, q57, q43, q51, q64, q44, q45] }) ({ h := [((0 : Nat), Blk.row true [IntKind.u64] ea na ca fa), ((1 : Nat), Blk.row true [IntKind.u64] eb nb cb fb)], next := (2 : Nat) })) ∧ ((y0 ≤ na) ∧ (∀ y1 : Nat, ((y1 < y0) → (@Eq Int (fa y1 (0 : Nat)) (fb y1 (0 : Nat)))))))) ∧ (∀ y0 : Nat, let q77 := ((0 : Int) ≤ (↑y0 : Int)); let q78 := (8, vi ((↑y0 : Int) + (1 : Int))); let q79 := ((q10 ≤ (↑y0 : Int) + (1 : Int)) ∧ ((↑y0 : Int) + (1 : Int) ≤ q8)); (((y0 ≤ na) ∧ (∀ y1 : Nat, ((y1 < y0) → (@Eq Int (fa y1 (0 : Nat)) (fb y1 (0 : Nat)))))) → (q40 ∧ (T0 ∧ (if ((↑y0 : Int) < (↑na : Int)) then (t4 (q66 ∧ ((q77 ∧ ((↑y0 : Int) < (↑na : Int))) ∧ (T0 ∧ ((y0 < na) ∧ (t3 (q66 ∧ ((q77 ∧ ((↑y0 : Int) < (↑nb : Int))) ∧ (T0 ∧ ((y0 < nb) ∧ (t2 (if (@Eq Int (fa y0 (0 : Nat)) (fb y0 (0 : Nat))) then (T0 ∧ (q79 ∧ (∃ y1 : Nat, ((Go.Rx.Sub 2 [] ⟨47, [q78, q42, q0, q37, q1, (22, Value.tuple { toList := [] }), (21, Value.tuple { toList := [] }), (20, Value.tuple { toList := [] }), (19, Value.tuple { toList := [] }), (18, Value.tuple { toList := [] }), q2, q3, q38, q30, q39, q26, (12, Value.bool true), q33, q34, q21, q27, q41, q22, q23]⟩ ⟨[q46, q47], 2⟩ ({ n := (47 : Nat), m := [((8 : Nat), vi (↑y1 : Int)), q63, q14, q60, q15, ((22 : Nat), Value.tuple { toList := [] }), ((21 : Nat), Value.tuple { toList := [] }), ((20 : Nat), Value.tuple { toList := [] }), ((19 : Nat), Value.tuple { toList := [] }), ((18 : Nat), Value.tuple { toList := [] }), q16, q17, q61, q53, q62, q50, q13, q56, q57, q43, q51, q64, q44, q45] }) ({ h := [((0 : Nat), Blk.row true [IntKind.u64] ea na ca fa), ((1 : Nat), Blk.row true [IntKind.u64] eb nb cb fb)], next := (2 : Nat) })) ∧ (((y1 ≤ na) ∧ (∀ y2 : Nat, ((y2 < y1) → (@Eq Int (fa y2 (0 : Nat)) (fb y2 (0 : Nat)))))) ∧ (na - y1 < na - y0)))))) else (q40 ∧ (t4 (q40 ∧ (q40 ∧ (t4 (q6 ∧ (q9 ∧ (∀ y1 : Nat, (((1 : Nat) ≤ y1) → (T0 ∧ (q79 ∧ (∃ y2 : Nat, ((Go.Rx.Sub 2 [] ⟨47, [q78, (7, rsl (3 : Nat) (0 : Nat) (1 : Nat) (y1 - (1 : Nat) + (1 : Nat))), q0, q37, q1, (22, Value.tuple { toList := [] }), (21, Value.tuple { toList := [] }), (20, Value.tuple { toList := [] }), (19, Value.tuple { toList := [] }), (18, Value.tuple { toList := [] }), q2, q3, q38, q30, q39, q26, (12, Value.bool true), q33, q34, q21, q27, q41, q22, q23]⟩ ⟨[q46, q47], 4⟩ ({ n := (47 : Nat), m := [((8 : Nat), vi (↑y2 : Int)), q63, q14, q60, q15, ((22 : Nat), Value.tuple { toList := [] }), ((21 : Nat), Value.tuple { toList := [] }), ((20 : Nat), Value.tuple { toList := [] }), ((19 : Nat), Value.tuple { toList := [] }), ((18 : Nat), Value.tuple { toList := [] }), q16, q17, q61, q53, q62, q50, q13, q56, q57, q43, q51, q64, q44, q45] }) ({ h := [((0 : Nat), Blk.row true [IntKind.u64] ea na ca fa), ((1 : Nat), Blk.row true [IntKind.u64] eb nb cb fb)], next := (2 : Nat) })) ∧ (((y2 ≤ na) ∧ (∀ y3 : Nat, ((y3 < y2) → (@Eq Int (fa y3 (0 : Nat)) (fb y3 (0 : Nat)))))) ∧ (na - y2 < na - y0))))))))))))))))))))))))))) else q67)))))) else q69))))))))) else (T0 ∧ (if (@Eq Int (arE na fa) ((0 : Int))) then (q40 ∧ (q40 ∧ (T0 ∧ (if (@Eq Int ((↑na : Int)) ((↑nb : Int))) then (T0 ∧ (if (@Eq Int (arE na fa) ((0 : Int))) then ((∃ y0 : Nat, ((Go.Rx.Sub 2 [] ⟨47, [q28, q42, q0, q31, q1, q5, q35, q24, q36, q25, (17, Value.bool true), (16, Value.bool true), q32, q4, q33, q29, q34, q21, q27, q41, q22, q23]⟩ ⟨[q46, q47], 2⟩ ({ n := (47 : Nat), m := [((8 : Nat), vi (↑y0 : Int)), q63, q14, q54, q15, q19, q58, q48, q59, q49, q11, q12, q55, q18, q56, q52, q57, q43, q51, q64, q44, q45] }) ({ h := [((0 : Nat), Blk.row true [IntKind.u64] ea na ca fa), ((1 : Nat), Blk.row true [IntKind.u64] eb nb cb fb)], next := (2 : Nat) })) ∧ ((y0 ≤ na) ∧ (∀ y1 : Nat, ((y1 < y0) → (@Eq Int (fa y1 (0 : Nat)) (fb y1 (0 : Nat)))))))) ∧ (∀ y0 : Nat, let q74 := ((0 : Int) ≤ (↑y0 : Int)); let q75 := (8, vi ((↑y0 : Int) + (1 : Int))); let q76 := ((q10 ≤ (↑y0 : Int) + (1 : Int)) ∧ ((↑y0 : Int) + (1 : Int) ≤ q8)); (((y0 ≤ na) ∧ (∀ y1 : Nat, ((y1 < y0) → (@Eq Int (fa y1 (0 : Nat)) (fb y1 (0 : Nat)))))) → (q40 ∧ (T0 ∧ (if ((↑y0 : Int) < (↑na : Int)) then (t4 (q66 ∧ ((q74 ∧ ((↑y0 : Int) < (↑na : Int))) ∧ (T0 ∧ ((y0 < na) ∧ (t3 (q66 ∧ ((q74 ∧ ((↑y0 : Int) < (↑nb : Int))) ∧ (T0 ∧ ((y0 < nb) ∧ (t2 (if (@Eq Int (fa y0 (0 : Nat)) (fb y0 (0 : Nat))) then (T0 ∧ (q76 ∧ (∃ y1 : Nat, ((Go.Rx.Sub 2 [] ⟨47, [q75, q42, q0, q31, q1, q5, q35, q24, q36, q25, (17, Value.bool true), (16, Value.bool true), q32, q4, q33, q29, q34, q21, q27, q41, q22, q23]⟩ ⟨[q46, q47], 2⟩ ({ n := (47 : Nat), m := [((8 : Nat), vi (↑y1 : Int)), q63, q14, q54, q15, q19, q58, q48, q59, q49, q11, q12, q55, q18, q56, q52, q57, q43, q51, q64, q44, q45] }) ({ h := [((0 : Nat), Blk.row true [IntKind.u64] ea na ca fa), ((1 : Nat), Blk.row true [IntKind.u64] eb nb cb fb)], next := (2 : Nat) })) ∧ (((y1 ≤ na) ∧ (∀ y2 : Nat, ((y2 < y1) → (@Eq Int (fa y2 (0 : Nat)) (fb y2 (0 : Nat)))))) ∧ (na - y1 < na - y0)))))) else (q40 ∧ (t4 (q40 ∧ (q40 ∧ (t4 (q6 ∧ (q9 ∧ (∀ y1 : Nat, (((1 : Nat) ≤ y1) → (T0 ∧ (q76 ∧ (∃ y2 : Nat, ((Go.Rx.Sub 2 [] ⟨47, [q75, (7, rsl (3 : Nat) (0 : Nat) (1 : Nat) (y1 - (1 : Nat) + (1 : Nat))), q0, q31, q1, q5, q35, q24, q36, q25, (17, Value.bool true), (16, Value.bool true), q32, q4, q33, q29, q34, q21, q27, q41, q22, q23]⟩ ⟨[q46, q47], 4⟩ ({ n := (47 : Nat), m := [((8 : Nat), vi (↑y2 : Int)), q63, q14, q54, q15, q19, q58, q48, q59, q49, q11, q12, q55, q18, q56, q52, q57, q43, q51, q64, q44, q45] }) ({ h := [((0 : Nat), Blk.row true [IntKind.u64] ea na ca fa), ((1 : Nat), Blk.row true [IntKind.u64] eb nb cb fb)], next := (2 : Nat) })) ∧ (((y2 ≤ na) ∧ (∀ y3 : Nat, ((y3 < y2) → (@Eq Int (fa y3 (0 : Nat)) (fb y3 (0 : Nat)))))) ∧ (na - y2 < na - y0))))))))))))))))))))))))))) else q67)))))) else q68)) else q70)))) else (T0 ∧ (if (@Eq Int (arE na fa) ((0 : Int))) then ((∃ y0 : Nat, ((Go.Rx.Sub 2 [] ⟨47, [q28, q42, q0, q31, q1, (22, Value.tuple { toList := [] }), (21, Value.tuple { toList := [] }), (20, Value.tuple { toList := [] }), (19, Value.tuple { toList := [] }), (18, Value.tuple { toList := [] }), q2, q3, q32, q4, q33, q29, q34, q21, q27, q41, q22, q23]⟩ ⟨[q46, q47], 2⟩ ({ n := (47 : Nat), m := [((8 : Nat), vi (↑y0 : Int)), q63, q14, q54, q15, ((22 : Nat), Value.tuple { toList := [] }), ((21 : Nat), Value.tuple { toList := [] }), ((20 : Nat), Value.tuple { toList := [] }), ((19 : Nat), Value.tuple { toList := [] }), ((18 : Nat), Value.tuple { toList := [] }), q16, q17, q55, q18, q56, q52, q57, q43, q51, q64, q44, q45] }) ({ h := [((0 : Nat), Blk.row true [IntKind.u64] ea na ca fa), ((1 : Nat), Blk.row true [IntKind.u64] eb nb cb fb)], next := (2 : Nat) })) ∧ ((y0 ≤ na) ∧ (∀ y1 : Nat, ((y1 < y0) → (@Eq Int (fa y1 (0 : Nat)) (fb y1 (0 : Nat)))))))) ∧ (∀ y0 : Nat, let q71 := ((0 : Int) ≤ (↑y0 : Int)); let q72 := (8, vi ((↑y0 : Int) + (1 : Int))); let q73 := ((q10 ≤ (↑y0 : Int) + (1 : Int)) ∧ ((↑y0 : Int) + (1 : Int) ≤ q8)); (((y0 ≤ na) ∧ (∀ y1 : Nat, ((y1 < y0) → (@Eq Int (fa y1 (0 : Nat)) (fb y1 (0 : Nat)))))) → (q40 ∧ (T0 ∧ (if ((↑y0 : Int) < (↑na : Int)) then (t4 (q66 ∧ ((q71 ∧ ((↑y0 : Int) < (↑na : Int))) ∧ (T0 ∧ ((y0 < na) ∧ (t3 (q66 ∧ ((q71 ∧ ((↑y0 : Int) < (↑nb : Int))) ∧ (T0 ∧ ((y0 < nb) ∧ (t2 (if (@Eq Int (fa y0 (0 : Nat)) (fb y0 (0 : Nat))) then (T0 ∧ (q73 ∧ (∃ y1 : Nat, ((Go.Rx.Sub 2 [] ⟨47, [q72, q42, q0, q31, q1, (22, Value.tuple { toList := [] }), (21, Value.tuple { toList := [] }), (20, Value.tuple { toList := [] }), (19, Value.tuple { toList := [] }), (18, Value.tuple { toList := [] }), q2, q3, q32, q4, q33, q29, q34, q21, q27, q41, q22, q23]⟩ ⟨[q46, q47], 2⟩ ({ n := (47 : Nat), m := [((8 : Nat), vi (↑y1 : Int)), q63, q14, q54, q15, ((22 : Nat), Value.tuple { toList := [] }), ((21 : Nat), Value.tuple { toList := [] }), ((20 : Nat), Value.tuple { toList := [] }), ((19 : Nat), Value.tuple { toList := [] }), ((18 : Nat), Value.tuple { toList := [] }), q16, q17, q55, q18, q56, q52, q57, q43, q51, q64, q44, q45] }) ({ h := [((0 : Nat), Blk.row true [IntKind.u64] ea na ca fa), ((1 : Nat), Blk.row true [IntKind.u64] eb nb cb fb)], next := (2 : Nat) })) ∧ (((y1 ≤ na) ∧ (∀ y2 : Nat, ((y2 < y1) → (@Eq Int (fa y2 (0 : Nat)) (fb y2 (0 : Nat)))))) ∧ (na - y1 < na - y0)))))) else (q40 ∧ (t4 (q40 ∧ (q40 ∧ (t4 (q6 ∧ (q9 ∧ (∀ y1 : Nat, (((1 : Nat) ≤ y1) → (T0 ∧ (q73 ∧ (∃ y2 : Nat, ((Go.Rx.Sub 2 [] ⟨47, [q72, (7, rsl (3 : Nat) (0 : Nat) (1 : Nat) (y1 - (1 : Nat) + (1 : Nat))), q0, q31, q1, (22, Value.tuple { toList := [] }), (21, Value.tuple { toList := [] }), (20, Value.tuple { toList := [] }), (19, Value.tuple { toList := [] }), (18, Value.tuple { toList := [] }), q2, q3, q32, q4, q33, q29, q34, q21, q27, q41, q22, q23]⟩ ⟨[q46, q47], 4⟩ ({ n := (47 : Nat), m := [((8 : Nat), vi (↑y2 : Int)), q63, q14, q54, q15, ((22 : Nat), Value.tuple { toList := [] }), ((21 : Nat), Value.tuple { toList := [] }), ((20 : Nat), Value.tuple { toList := [] }), ((19 : Nat), Value.tuple { toList := [] }), ((18 : Nat), Value.tuple { toList := [] }), q16, q17, q55, q18, q56, q52, q57, q43, q51, q64, q44, q45] }) ({ h := [((0 : Nat), Blk.row true [IntKind.u64] ea na ca fa), ((1 : Nat), Blk.row true [IntKind.u64] eb nb cb fb)], next := (2 : Nat) })) ∧ (((y2 ≤ na) ∧ (∀ y3 : Nat, ((y3 < y2) → (@Eq Int (fa y3 (0 : Nat)) (fb y3 (0 : Nat)))))) ∧ (na - y2 < na - y0))))))))))))))))))))))))))) else q67)))))) else q68))))))))))))
theorem dfN_rrE (ea na ca : Nat) (fa : RF) (eb nb cb : Nat) (fb : RF) (K : Value → List Blk → Prop) : dfN_rrV ea na ca fa eb nb cb fb K = bodyX (mk XK) (callN (mk XK) 6) (dfN_rrA ea na ca fa eb nb cb fb) Try.f37 [rsl 0 0 na ca, rsl 1 0 nb cb] (stOf [.row true [.u64] ea na ca fa, .row true [.u64] eb nb cb fb]) (Fd 2 K) := by kernel_rfl
set_option tactic.hygienic false in
theorem dfN_rrP (ea na ca : Nat) (fa : RF) (eb nb cb : Nat) (fb : RF) (K : Value → List Blk → Prop)  (hna : na ≤ 100000) (hca : na ≤ ca) (hnb : nb ≤ 100000) (hcb : nb ≤ cb) (h1 : arE na fa = 0) (h2 : arE nb fb = 0) (h3 : na = nb) (h4 : eqF na fa fb) (h : K (.tuple ⟨[.slice none 0 0, .int .i64 (0)]⟩) []) : dfN_rrV ea na ca fa eb nb cb fb K := by
  unfold dfN_rrV
  conv => zeta

  repeat' (first | (with_reducible exact rfl) | (with_reducible exact trivial) | (with_reducible refine And.intro ?_ ?_) | (intro) | (with_reducible refine br_d (fun hq => ?_) (fun hq => ?_)) | (with_reducible refine br_nd (fun hq => ?_) (fun hq => ?_)) | (with_reducible refine br_intro (fun hq => ?_) (fun hq => ?_)) | (with_reducible refine if_both (fun hz => ?_) (fun hz => ?_)) | fail)
  all_goals try (rename (Nat × Nat) × Nat × RF => k; rename _ ∧ DifK _ _ _ _ _ _ => I; obtain ⟨⟨k0, k1⟩, k2, k3⟩ := k; dsimp only at *; obtain ⟨⟨J1, J2, J3⟩, I2⟩ := I)
  all_goals try (rename _ ∧ eqF _ _ _ => I; obtain ⟨J1, I2⟩ := I)
  all_goals first
    | (with_reducible assumption)
    | (refine (id ?_ : ∃ (v1 : Value) (news : List Blk), _)
       first
        | contradiction
        | exact .inl ⟨0, (by (refine And.intro (And.intro rfl (And.intro rfl (And.intro rfl rfl))) ?_; (repeat' (first | exact trivial | exact rfl | exact fun _ _ _ _ => rfl | refine And.intro ?_ ?_ | omega | fail)); done)), Nat.zero_le _, fun i hi => absurd hi (Nat.not_lt_zero i)⟩
        | exact ⟨0, (by (refine And.intro (And.intro rfl (And.intro rfl (And.intro rfl rfl))) ?_; (repeat' (first | exact trivial | exact rfl | exact fun _ _ _ _ => rfl | refine And.intro ?_ ?_ | omega | fail)); done)), Nat.zero_le _, fun i hi => absurd hi (Nat.not_lt_zero i)⟩
        | exact .inl ⟨y0 + 1, (by (refine And.intro (And.intro rfl (And.intro rfl (And.intro rfl rfl))) ?_; (repeat' (first | exact trivial | exact rfl | exact fun _ _ _ _ => rfl | refine And.intro ?_ ?_ | omega | fail)); done)), ⟨by omega, eq_next I2 (by assumption)⟩, by omega⟩
        | exact ⟨y0 + 1, (by (refine And.intro (And.intro rfl (And.intro rfl (And.intro rfl rfl))) ?_; (repeat' (first | exact trivial | exact rfl | exact fun _ _ _ _ => rfl | refine And.intro ?_ ?_ | omega | fail)); done)), ⟨by omega, eq_next I2 (by assumption)⟩, by omega⟩
        | exact .inr (.inl ⟨((y0 + 1, 1), y1 - 1, appF (fun _ _ => 0) 0 (litF 1 [(y0 : Int)]) 0), (by (refine And.intro (And.intro rfl (And.intro rfl (And.intro rfl rfl))) ?_; (repeat' (first | exact trivial | exact rfl | exact fun _ _ _ _ => rfl | refine And.intro ?_ ?_ | omega | fail)); done)), ⟨⟨by show y0 + 1 ≤ na; omega, by show 1 ≤ y0 + 1; omega, by show 1 ≤ y1 - 1 + 1; omega⟩, DifK.one rfl (by assumption)⟩, by show na - (y0 + 1) < na - y0; omega⟩)
        | exact .inr (.inr (.inl ⟨((k0 + 1, k1 + 1), y1 - 1, appF k3 k1 (litF 1 [(k0 : Int)]) 0), (by (refine And.intro (And.intro rfl (And.intro rfl (And.intro rfl rfl))) ?_; (repeat' (first | exact trivial | exact rfl | exact fun _ _ _ _ => rfl | refine And.intro ?_ ?_ | omega | fail)); done)), ⟨⟨by show k0 + 1 ≤ na; omega, by show k1 + 1 ≤ k0 + 1; omega, by show k1 + 1 ≤ y1 - 1 + 1; omega⟩, I2.more rfl (by assumption)⟩, by show na - (k0 + 1) < na - k0; omega⟩))
        | exact .inr (.inr (.inr ⟨((k0 + 1, k1), k2, k3), (by (refine And.intro (And.intro rfl (And.intro rfl (And.intro rfl rfl))) ?_; (repeat' (first | exact trivial | exact rfl | exact fun _ _ _ _ => rfl | refine And.intro ?_ ?_ | omega | fail)); done)), ⟨⟨by show k0 + 1 ≤ na; omega, by show k1 ≤ k0 + 1; omega, J3⟩, I2.next⟩, by show na - (k0 + 1) < na - k0; omega⟩))
        | exact absurd (h4 y0 (by omega)) (by assumption)
        | exact fin0 (by kernel_rfl) (by kernel_rfl) h
        | (obtain rfl : y0 = na := (by omega)
           exact absurd I2 h4)
        | (obtain rfl : k0 = na := (by omega)
           exact fin1t rfl (fun _ _ _ _ => rfl) (by kernel_rfl) (by kernel_rfl) (h k1 k3 ⟨I2.pos, I2.mem, I2.asc⟩ _ (by omega)))
        | (exfalso; omega)
       )
    | omega
    | contradiction
    | exact .inl ⟨0, (by (refine And.intro (And.intro rfl (And.intro rfl (And.intro rfl rfl))) ?_; (repeat' (first | exact trivial | exact rfl | exact fun _ _ _ _ => rfl | refine And.intro ?_ ?_ | omega | fail)); done)), Nat.zero_le _, fun i hi => absurd hi (Nat.not_lt_zero i)⟩
    | exact ⟨0, (by (refine And.intro (And.intro rfl (And.intro rfl (And.intro rfl rfl))) ?_; (repeat' (first | exact trivial | exact rfl | exact fun _ _ _ _ => rfl | refine And.intro ?_ ?_ | omega | fail)); done)), Nat.zero_le _, fun i hi => absurd hi (Nat.not_lt_zero i)⟩
    | exact .inl ⟨y0 + 1, (by (refine And.intro (And.intro rfl (And.intro rfl (And.intro rfl rfl))) ?_; (repeat' (first | exact trivial | exact rfl | exact fun _ _ _ _ => rfl | refine And.intro ?_ ?_ | omega | fail)); done)), ⟨by omega, eq_next I2 (by assumption)⟩, by omega⟩
    | exact ⟨y0 + 1, (by (refine And.intro (And.intro rfl (And.intro rfl (And.intro rfl rfl))) ?_; (repeat' (first | exact trivial | exact rfl | exact fun _ _ _ _ => rfl | refine And.intro ?_ ?_ | omega | fail)); done)), ⟨by omega, eq_next I2 (by assumption)⟩, by omega⟩
    | exact .inr (.inl ⟨((y0 + 1, 1), y1 - 1, appF (fun _ _ => 0) 0 (litF 1 [(y0 : Int)]) 0), (by (refine And.intro (And.intro rfl (And.intro rfl (And.intro rfl rfl))) ?_; (repeat' (first | exact trivial | exact rfl | exact fun _ _ _ _ => rfl | refine And.intro ?_ ?_ | omega | fail)); done)), ⟨⟨by show y0 + 1 ≤ na; omega, by show 1 ≤ y0 + 1; omega, by show 1 ≤ y1 - 1 + 1; omega⟩, DifK.one rfl (by assumption)⟩, by show na - (y0 + 1) < na - y0; omega⟩)
    | exact .inr (.inr (.inl ⟨((k0 + 1, k1 + 1), y1 - 1, appF k3 k1 (litF 1 [(k0 : Int)]) 0), (by (refine And.intro (And.intro rfl (And.intro rfl (And.intro rfl rfl))) ?_; (repeat' (first | exact trivial | exact rfl | exact fun _ _ _ _ => rfl | refine And.intro ?_ ?_ | omega | fail)); done)), ⟨⟨by show k0 + 1 ≤ na; omega, by show k1 + 1 ≤ k0 + 1; omega, by show k1 + 1 ≤ y1 - 1 + 1; omega⟩, I2.more rfl (by assumption)⟩, by show na - (k0 + 1) < na - k0; omega⟩))
    | exact .inr (.inr (.inr ⟨((k0 + 1, k1), k2, k3), (by (refine And.intro (And.intro rfl (And.intro rfl (And.intro rfl rfl))) ?_; (repeat' (first | exact trivial | exact rfl | exact fun _ _ _ _ => rfl | refine And.intro ?_ ?_ | omega | fail)); done)), ⟨⟨by show k0 + 1 ≤ na; omega, by show k1 ≤ k0 + 1; omega, J3⟩, I2.next⟩, by show na - (k0 + 1) < na - k0; omega⟩))
    | exact absurd (h4 y0 (by omega)) (by assumption)
    | exact fin0 (by kernel_rfl) (by kernel_rfl) h
    | (obtain rfl : y0 = na := (by omega)
       exact absurd I2 h4)
    | (obtain rfl : k0 = na := (by omega)
       exact fin1t rfl (fun _ _ _ _ => rfl) (by kernel_rfl) (by kernel_rfl) (h k1 k3 ⟨I2.pos, I2.mem, I2.asc⟩ _ (by omega)))
    | (exfalso; omega)
theorem dfN_ok : BodyOk (mk XK) 6 Try.f37 dfN := by
  intro vs bs K hh hro
  clear hro
  unfold dfN at hh
  split at hh
  · rename_i va vb
    obtain ⟨ea, na, ca, fa, bta, rfl, hna, hca, rfl, hh0⟩ := parseRQ_inv hh
    obtain ⟨eb, nb, cb, fb, btb, rfl, hnb, hcb, rfl, hh1⟩ := parseRQ_inv hh0
    obtain ⟨rfl, ⟨h1, h2, h3, h4⟩, hc⟩ := hh1
    exact ⟨_, _, cast (dfN_rrE ea na ca fa eb nb cb fb  K) (dfN_rrP ea na ca fa eb nb cb fb  K hna hca hnb hcb h1 h2 h3 h4 hc)⟩
  · exact hh.elim
theorem dfN_told : Told 37 (specOf dfN) := told (X := XK) XK_told (by kernel_rfl) (by kernel_rfl) (by kernel_rfl) dfN_ok
def dfR_rrV (ea na ca : Nat) (fa : RF) (eb nb cb : Nat) (fb : RF) (K : Value → List Blk → Prop) : Prop := let q0 := ((2 : Nat), (2 : Nat)); let q1 := (25, Value.bool false); let q2 := (23, Value.bool false); let q3 := (17, Value.bool false); let q4 := (16, Value.bool false); let q5 := (12, Value.bool false); let q6 := ((2 : Nat), (4 : Nat)); let q7 := ((2 : Nat), (3 : Nat)); let q8 := (22, Value.bool false); let q9 := ((1 : Nat) ≤ (1 : Nat)); let q10 := eB; let q11 := (List.length [IntKind.i64]); let q12 := (9223372036854775807 : Int); let q13 := ((1 : Nat) ≤ (100000 : Nat)); let q14 := (-9223372036854775808 : Int); let q15 := ((17 : Nat), Value.bool true); let q16 := ((16 : Nat), Value.bool true); let q17 := ((12 : Nat), Value.bool true); let q18 := ((25 : Nat), Value.bool false); let q19 := ((23 : Nat), Value.bool false); let q20 := ((17 : Nat), Value.bool false); let q21 := ((16 : Nat), Value.bool false); let q22 := ((12 : Nat), Value.bool false); let q23 := ((22 : Nat), Value.bool false); let q24 := (@Eq Nat ((0 : Nat)) ((0 : Nat))); let q25 := (9, rsl (0 : Nat) (0 : Nat) na ca); let q26 := (0, rsl (0 : Nat) (0 : Nat) na ca); let q27 := (1, rsl (1 : Nat) (0 : Nat) nb cb); let q28 := (20, rsl (1 : Nat) (0 : Nat) nb cb); let q29 := (18, rsl (0 : Nat) (0 : Nat) na ca); let q30 := (13, rsl (1 : Nat) (0 : Nat) nb cb); let q31 := (5, vi (0 : Int)); let q32 := (8, vi (0 : Int)); let q33 := (6, vi (arE na fa)); let q34 := (6, vi (arE nb fb)); let q35 := (24, vi (arE na fa)); let q36 := (15, vi (arE na fa)); let q37 := (11, vi (arE na fa)); let q38 := (10, vi (arE na fa)); let q39 := (21, vi (↑nb : Int)); let q40 := (19, vi (↑na : Int)); let q41 := (24, vi (arE nb fb)); let q42 := (15, vi (arE nb fb)); let q43 := (14, vi (arE nb fb)); let q44 := TS; let q45 := (4, vn); let q46 := (7, vn); let q47 := ((9 : Nat), rsl (0 : Nat) (0 : Nat) na ca); let q48 := ((0 : Nat), rsl (0 : Nat) (0 : Nat) na ca); let q49 := ((1 : Nat), rsl (1 : Nat) (0 : Nat) nb cb); let q50 := (0, Blk.row true [IntKind.u64] ea na ca fa); let q51 := (1, Blk.row true [IntKind.u64] eb nb cb fb); let q52 := ((20 : Nat), rsl (1 : Nat) (0 : Nat) nb cb); let q53 := ((18 : Nat), rsl (0 : Nat) (0 : Nat) na ca); let q54 := ((13 : Nat), rsl (1 : Nat) (0 : Nat) nb cb); let q55 := ((5 : Nat), vi (0 : Int)); let q56 := ((6 : Nat), vi (arE na fa)); let q57 := ((6 : Nat), vi (arE nb fb)); let q58 := ((24 : Nat), vi (arE na fa)); let q59 := ((15 : Nat), vi (arE na fa)); let q60 := ((11 : Nat), vi (arE na fa)); let q61 := ((10 : Nat), vi (arE na fa)); let q62 := ((21 : Nat), vi (↑nb : Int)); let q63 := ((19 : Nat), vi (↑na : Int)); let q64 := ((24 : Nat), vi (arE nb fb)); let q65 := ((15 : Nat), vi (arE nb fb)); let q66 := ((14 : Nat), vi (arE nb fb)); let q67 := ((4 : Nat), vn); let q68 := ((7 : Nat), vn); let q69 := ((0 : Nat), Blk.row true [IntKind.u64] ea na ca fa); let q70 := ((1 : Nat), Blk.row true [IntKind.u64] eb nb cb fb); let q71 := (@Eq (List IntKind) ([IntKind.u64]) ([IntKind.u64])); let q72 := (q44 ∧ (@Eq Nat ((1 : Nat)) ((1 : Nat)))); let q73 := (∃ y1 : Value, (∃ y2 : List Blk, ((Go.Rx.Found 2 (Value.tuple { toList := [vn, vi (0 : Int)] }) ({ h := [q69, q70], next := (2 : Nat) }) (y1) (y2)) ∧ (K y1 y2)))); let q74 := (∃ y0 : Value, (∃ y1 : List Blk, ((Go.Rx.Found 2 (Value.tuple { toList := [vn, vi (arE na fa)] }) ({ h := [q69, q70], next := (2 : Nat) }) (y0) (y1)) ∧ (K y0 y1)))); let q75 := (∃ y0 : Value, (∃ y1 : List Blk, ((Go.Rx.Found 2 (Value.tuple { toList := [vn, vi (arE nb fb)] }) ({ h := [q69, q70], next := (2 : Nat) }) (y0) (y1)) ∧ (K y0 y1)))); let q76 := (T0 ∧ (∃ y0 : Value, (∃ y1 : List Blk, ((Go.Rx.Found 2 (Value.tuple { toList := [vn, vi (6 : Int)] }) ({ h := [q69, q70], next := (2 : Nat) }) (y0) (y1)) ∧ (K y0 y1))))); (T0 ∧ (((0 : Nat) + na ≤ na) ∧ ((q24 ∧ ((na ≤ (100000 : Nat)) ∧ (na ≤ ca))) ∧ ((q71 ∧ ((@Eq Nat (na) (na)) ∧ (@Eq Nat (ca) (ca)))) ∧ (q10 ∧ ((True) ∧ (T0 ∧ (if (@Eq Int (arE na fa) ((0 : Int))) then (((0 : Nat) + nb ≤ nb) ∧ ((q24 ∧ ((nb ≤ (100000 : Nat)) ∧ (nb ≤ cb))) ∧ ((q71 ∧ ((@Eq Nat (nb) (nb)) ∧ (@Eq Nat (cb) (cb)))) ∧ (q10 ∧ ((True) ∧ (T0 ∧ (if (@Eq Int (arE nb fb) ((0 : Int))) then (q44 ∧ (q44 ∧ (T0 ∧ (if (@Eq Int ((↑na : Int)) ((↑nb : Int))) then (T0 ∧ (if (@Eq Int (arE nb fb) ((0 : Int))) then (((∃ y0 : Nat, ((Go.Rx.Sub 2 [] ⟨47, [q32, q46, q1, q41, q2, q8, q39, q28, q40, q29, (17, Value.bool true), (16, Value.bool true), q42, q34, q43, q30, (12, Value.bool true), q37, q38, q25, q31, q45, q26, q27]⟩ ⟨[q50, q51], 2⟩ ({ n := (47 : Nat), m := [((8 : Nat), vi (↑y0 : Int)), q68, q18, q64, q19, q23, q62, q52, q63, q53, q15, q16, q65, q57, q66, q54, q17, q60, q61, q47, q55, q67, q48, q49] }) ({ h := [q69, q70], next := (2 : Nat) })) ∧ ((y0 ≤ na) ∧ (∀ y1 : Nat, ((y1 < y0) → (@Eq Int (fa y1 (0 : Nat)) (fb y1 (0 : Nat)))))))) ∨ (∃ y0 : (Nat × Nat) × Nat × RF, let q357 := (Prod.fst (Prod.fst y0)); let q358 := (Prod.snd (Prod.fst y0)); let q359 := (Prod.snd (Prod.snd y0)); let q360 := (Prod.fst (Prod.snd y0) + (1 : Nat)); ((Go.Rx.Sub 2 [q0] ⟨47, [q32, q46, q1, q41, q2, q8, q39, q28, q40, q29, (17, Value.bool true), (16, Value.bool true), q42, q34, q43, q30, (12, Value.bool true), q37, q38, q25, q31, q45, q26, q27]⟩ ⟨[q50, q51], 2⟩ ({ n := (47 : Nat), m := [((7 : Nat), rsl (2 : Nat) (0 : Nat) q358 q360), ((8 : Nat), vi (↑q357 : Int)), q18, q64, q19, q23, q62, q52, q63, q53, q15, q16, q65, q57, q66, q54, q17, q60, q61, q47, q55, q67, q48, q49] }) ({ h := [((2 : Nat), Blk.row false [IntKind.i64] (3 : Nat) q358 q360 q359), q69, q70], next := (3 : Nat) })) ∧ (((Prod.fst (Prod.fst y0) ≤ na) ∧ ((Prod.snd (Prod.fst y0) ≤ Prod.fst (Prod.fst y0)) ∧ (Prod.snd (Prod.fst y0) ≤ Prod.fst (Prod.snd y0) + (1 : Nat)))) ∧ (DifK q357 na fa fb q358 q359))))) ∧ ((∀ y0 : Nat, let q327 := ((0 : Int) ≤ (↑y0 : Int)); let q328 := (8, vi ((↑y0 : Int) + (1 : Int))); let q329 := (litF q11 ([(↑y0 : Int)] ++ [])); let q330 := ((q14 ≤ (↑y0 : Int) + (1 : Int)) ∧ ((↑y0 : Int) + (1 : Int) ≤ q12)); (((y0 ≤ na) ∧ (∀ y1 : Nat, ((y1 < y0) → (@Eq Int (fa y1 (0 : Nat)) (fb y1 (0 : Nat)))))) → (q44 ∧ (T0 ∧ (if ((↑y0 : Int) < (↑na : Int)) then (t4 (q72 ∧ ((q327 ∧ ((↑y0 : Int) < (↑na : Int))) ∧ (T0 ∧ ((y0 < na) ∧ (t3 (q72 ∧ ((q327 ∧ ((↑y0 : Int) < (↑nb : Int))) ∧ (T0 ∧ ((y0 < nb) ∧ (t2 (if (@Eq Int (fa y0 (0 : Nat)) (fb y0 (0 : Nat))) then (T0 ∧ (q330 ∧ ((∃ y1 : Nat, ((Go.Rx.Sub 2 [] ⟨47, [q328, q46, q1, q41, q2, q8, q39, q28, q40, q29, (17, Value.bool true), (16, Value.bool true), q42, q34, q43, q30, (12, Value.bool true), q37, q38, q25, q31, q45, q26, q27]⟩ ⟨[q50, q51], 2⟩ ({ n := (47 : Nat), m := [((8 : Nat), vi (↑y1 : Int)), q68, q18, q64, q19, q23, q62, q52, q63, q53, q15, q16, q65, q57, q66, q54, q17, q60, q61, q47, q55, q67, q48, q49] }) ({ h := [q69, q70], next := (2 : Nat) })) ∧ (((y1 ≤ na) ∧ (∀ y2 : Nat, ((y2 < y1) → (@Eq Int (fa y2 (0 : Nat)) (fb y2 (0 : Nat)))))) ∧ (na - y1 < na - y0)))) ∨ ((∃ y1 : (Nat × Nat) × Nat × RF, let q353 := (Prod.fst (Prod.fst y1)); let q354 := (Prod.snd (Prod.fst y1)); let q355 := (Prod.snd (Prod.snd y1)); let q356 := (Prod.fst (Prod.snd y1) + (1 : Nat)); ((Go.Rx.Sub 2 [q7] ⟨47, [q328, q46, q1, q41, q2, q8, q39, q28, q40, q29, (17, Value.bool true), (16, Value.bool true), q42, q34, q43, q30, (12, Value.bool true), q37, q38, q25, q31, q45, q26, q27]⟩ ⟨[q50, q51], 2⟩ ({ n := (47 : Nat), m := [((7 : Nat), rsl (2 : Nat) (0 : Nat) q354 q356), ((8 : Nat), vi (↑q353 : Int)), q18, q64, q19, q23, q62, q52, q63, q53, q15, q16, q65, q57, q66, q54, q17, q60, q61, q47, q55, q67, q48, q49] }) ({ h := [((2 : Nat), Blk.row false [IntKind.i64] (3 : Nat) q354 q356 q355), q69, q70], next := (3 : Nat) })) ∧ ((((Prod.fst (Prod.fst y1) ≤ na) ∧ ((Prod.snd (Prod.fst y1) ≤ Prod.fst (Prod.fst y1)) ∧ (Prod.snd (Prod.fst y1) ≤ Prod.fst (Prod.snd y1) + (1 : Nat)))) ∧ (DifK q353 na fa fb q354 q355)) ∧ (na - Prod.fst (Prod.fst y1) < na - y0)))) ∨ ((∃ y1 : (Nat × Nat) × Nat × RF, let q349 := (Prod.fst (Prod.fst y1)); let q350 := (Prod.snd (Prod.fst y1)); let q351 := (Prod.snd (Prod.snd y1)); let q352 := (Prod.fst (Prod.snd y1) + (1 : Nat)); ((Go.Rx.Sub 2 [q6] ⟨47, [q328, q46, q1, q41, q2, q8, q39, q28, q40, q29, (17, Value.bool true), (16, Value.bool true), q42, q34, q43, q30, (12, Value.bool true), q37, q38, q25, q31, q45, q26, q27]⟩ ⟨[q50, q51], 2⟩ ({ n := (47 : Nat), m := [((7 : Nat), rsl (2 : Nat) (0 : Nat) q350 q352), ((8 : Nat), vi (↑q349 : Int)), q18, q64, q19, q23, q62, q52, q63, q53, q15, q16, q65, q57, q66, q54, q17, q60, q61, q47, q55, q67, q48, q49] }) ({ h := [((2 : Nat), Blk.row false [IntKind.i64] (3 : Nat) q350 q352 q351), q69, q70], next := (3 : Nat) })) ∧ ((((Prod.fst (Prod.fst y1) ≤ na) ∧ ((Prod.snd (Prod.fst y1) ≤ Prod.fst (Prod.fst y1)) ∧ (Prod.snd (Prod.fst y1) ≤ Prod.fst (Prod.snd y1) + (1 : Nat)))) ∧ (DifK q349 na fa fb q350 q351)) ∧ (na - Prod.fst (Prod.fst y1) < na - y0)))) ∨ (∃ y1 : (Nat × Nat) × Nat × RF, let q345 := (Prod.fst (Prod.fst y1)); let q346 := (Prod.snd (Prod.fst y1)); let q347 := (Prod.snd (Prod.snd y1)); let q348 := (Prod.fst (Prod.snd y1) + (1 : Nat)); ((Go.Rx.Sub 2 [q0] ⟨47, [q328, q46, q1, q41, q2, q8, q39, q28, q40, q29, (17, Value.bool true), (16, Value.bool true), q42, q34, q43, q30, (12, Value.bool true), q37, q38, q25, q31, q45, q26, q27]⟩ ⟨[q50, q51], 2⟩ ({ n := (47 : Nat), m := [((7 : Nat), rsl (2 : Nat) (0 : Nat) q346 q348), ((8 : Nat), vi (↑q345 : Int)), q18, q64, q19, q23, q62, q52, q63, q53, q15, q16, q65, q57, q66, q54, q17, q60, q61, q47, q55, q67, q48, q49] }) ({ h := [((2 : Nat), Blk.row false [IntKind.i64] (3 : Nat) q346 q348 q347), q69, q70], next := (3 : Nat) })) ∧ ((((Prod.fst (Prod.fst y1) ≤ na) ∧ ((Prod.snd (Prod.fst y1) ≤ Prod.fst (Prod.fst y1)) ∧ (Prod.snd (Prod.fst y1) ≤ Prod.fst (Prod.snd y1) + (1 : Nat)))) ∧ (DifK q345 na fa fb q346 q347)) ∧ (na - Prod.fst (Prod.fst y1) < na - y0))))))))) else (q44 ∧ (t4 (q44 ∧ (q44 ∧ (t4 (q9 ∧ (q13 ∧ (∀ y1 : Nat, let q335 := (y1 - (1 : Nat) + (1 : Nat)); let q336 := (7, rsl (3 : Nat) (0 : Nat) (1 : Nat) q335); (((1 : Nat) ≤ y1) → (T0 ∧ (q330 ∧ ((∃ y2 : Nat, ((Go.Rx.Sub 2 [] ⟨47, [q328, q336, q1, q41, q2, q8, q39, q28, q40, q29, (17, Value.bool true), (16, Value.bool true), q42, q34, q43, q30, (12, Value.bool true), q37, q38, q25, q31, q45, q26, q27]⟩ ⟨[q50, q51], 4⟩ ({ n := (47 : Nat), m := [((8 : Nat), vi (↑y2 : Int)), q68, q18, q64, q19, q23, q62, q52, q63, q53, q15, q16, q65, q57, q66, q54, q17, q60, q61, q47, q55, q67, q48, q49] }) ({ h := [q69, q70], next := (2 : Nat) })) ∧ (((y2 ≤ na) ∧ (∀ y3 : Nat, ((y3 < y2) → (@Eq Int (fa y3 (0 : Nat)) (fb y3 (0 : Nat)))))) ∧ (na - y2 < na - y0)))) ∨ ((∃ y2 : (Nat × Nat) × Nat × RF, let q341 := (Prod.fst (Prod.fst y2)); let q342 := (Prod.snd (Prod.fst y2)); let q343 := (Prod.snd (Prod.snd y2)); let q344 := (Prod.fst (Prod.snd y2) + (1 : Nat)); ((Go.Rx.Sub 2 [q7] ⟨47, [q328, q336, q1, q41, q2, q8, q39, q28, q40, q29, (17, Value.bool true), (16, Value.bool true), q42, q34, q43, q30, (12, Value.bool true), q37, q38, q25, q31, q45, q26, q27]⟩ ⟨[(3, Blk.row false [IntKind.i64] (3 : Nat) (1 : Nat) q335 (appF (fun x x_1 ↦ (0 : Int)) (0 : Nat) q329 (0 : Nat))), q50, q51], 4⟩ ({ n := (47 : Nat), m := [((7 : Nat), rsl (2 : Nat) (0 : Nat) q342 q344), ((8 : Nat), vi (↑q341 : Int)), q18, q64, q19, q23, q62, q52, q63, q53, q15, q16, q65, q57, q66, q54, q17, q60, q61, q47, q55, q67, q48, q49] }) ({ h := [((2 : Nat), Blk.row false [IntKind.i64] (3 : Nat) q342 q344 q343), q69, q70], next := (3 : Nat) })) ∧ ((((Prod.fst (Prod.fst y2) ≤ na) ∧ ((Prod.snd (Prod.fst y2) ≤ Prod.fst (Prod.fst y2)) ∧ (Prod.snd (Prod.fst y2) ≤ Prod.fst (Prod.snd y2) + (1 : Nat)))) ∧ (DifK q341 na fa fb q342 q343)) ∧ (na - Prod.fst (Prod.fst y2) < na - y0)))) ∨ ((∃ y2 : (Nat × Nat) × Nat × RF, let q337 := (Prod.fst (Prod.fst y2)); let q338 := (Prod.snd (Prod.fst y2)); let q339 := (Prod.snd (Prod.snd y2)); let q340 := (Prod.fst (Prod.snd y2) + (1 : Nat)); ((Go.Rx.Sub 2 [q6] ⟨47, [q328, q336, q1, q41, q2, q8, q39, q28, q40, q29, (17, Value.bool true), (16, Value.bool true), q42, q34, q43, q30, (12, Value.bool true), q37, q38, q25, q31, q45, q26, q27]⟩ ⟨[q50, q51], 4⟩ ({ n := (47 : Nat), m := [((7 : Nat), rsl (2 : Nat) (0 : Nat) q338 q340), ((8 : Nat), vi (↑q337 : Int)), q18, q64, q19, q23, q62, q52, q63, q53, q15, q16, q65, q57, q66, q54, q17, q60, q61, q47, q55, q67, q48, q49] }) ({ h := [((2 : Nat), Blk.row false [IntKind.i64] (3 : Nat) q338 q340 q339), q69, q70], next := (3 : Nat) })) ∧ ((((Prod.fst (Prod.fst y2) ≤ na) ∧ ((Prod.snd (Prod.fst y2) ≤ Prod.fst (Prod.fst y2)) ∧ (Prod.snd (Prod.fst y2) ≤ Prod.fst (Prod.snd y2) + (1 : Nat)))) ∧ (DifK q337 na fa fb q338 q339)) ∧ (na - Prod.fst (Prod.fst y2) < na - y0)))) ∨ (∃ y2 : (Nat × Nat) × Nat × RF, let q331 := (Prod.fst (Prod.fst y2)); let q332 := (Prod.snd (Prod.fst y2)); let q333 := (Prod.snd (Prod.snd y2)); let q334 := (Prod.fst (Prod.snd y2) + (1 : Nat)); ((Go.Rx.Sub 2 [q0] ⟨47, [q328, q336, q1, q41, q2, q8, q39, q28, q40, q29, (17, Value.bool true), (16, Value.bool true), q42, q34, q43, q30, (12, Value.bool true), q37, q38, q25, q31, q45, q26, q27]⟩ ⟨[(2, Blk.row false [IntKind.i64] (3 : Nat) (1 : Nat) (1 : Nat) q329), q50, q51], 4⟩ ({ n := (47 : Nat), m := [((7 : Nat), rsl (2 : Nat) (0 : Nat) q332 q334), ((8 : Nat), vi (↑q331 : Int)), q18, q64, q19, q23, q62, q52, q63, q53, q15, q16, q65, q57, q66, q54, q17, q60, q61, q47, q55, q67, q48, q49] }) ({ h := [((2 : Nat), Blk.row false [IntKind.i64] (3 : Nat) q332 q334 q333), q69, q70], next := (3 : Nat) })) ∧ ((((Prod.fst (Prod.fst y2) ≤ na) ∧ ((Prod.snd (Prod.fst y2) ≤ Prod.fst (Prod.fst y2)) ∧ (Prod.snd (Prod.fst y2) ≤ Prod.fst (Prod.snd y2) + (1 : Nat)))) ∧ (DifK q331 na fa fb q332 q333)) ∧ (na - Prod.fst (Prod.fst y2) < na - y0)))))))))))))))))))))))))))))) else q73))))) ∧ (∀ y0 : (Nat × Nat) × Nat × RF, let q290 := (Prod.snd (Prod.fst y0)); let q291 := (Prod.snd (Prod.snd y0)); let q292 := (Prod.fst (Prod.fst y0)); let q293 := (↑q292 : Int); let q294 := (Prod.fst (Prod.snd y0) + (1 : Nat)); let q295 := (Prod.snd (Prod.fst y0) + (1 : Nat)); let q296 := ((0 : Int) ≤ q293); let q297 := (8, vi (q293 + (1 : Int))); let q298 := (litF q11 ([q293] ++ [])); let q299 := (7, rsl (2 : Nat) (0 : Nat) q290 q294); let q300 := ((q14 ≤ q293 + (1 : Int)) ∧ (q293 + (1 : Int) ≤ q12)); ((((Prod.fst (Prod.fst y0) ≤ na) ∧ ((Prod.snd (Prod.fst y0) ≤ Prod.fst (Prod.fst y0)) ∧ (Prod.snd (Prod.fst y0) ≤ Prod.fst (Prod.snd y0) + (1 : Nat)))) ∧ (DifK q292 na fa fb q290 q291)) → (q44 ∧ (T0 ∧ (if (q293 < (↑na : Int)) then (t4 (q72 ∧ ((q296 ∧ (q293 < (↑na : Int))) ∧ (T0 ∧ ((Prod.fst (Prod.fst y0) < na) ∧ (t3 (q72 ∧ ((q296 ∧ (q293 < (↑nb : Int))) ∧ (T0 ∧ ((Prod.fst (Prod.fst y0) < nb) ∧ (t2 (if (@Eq Int (fa q292 (0 : Nat)) (fb q292 (0 : Nat))) then (T0 ∧ (q300 ∧ ((∃ y1 : Nat, ((Go.Rx.Sub 2 [] ⟨47, [q297, q299, q1, q41, q2, q8, q39, q28, q40, q29, (17, Value.bool true), (16, Value.bool true), q42, q34, q43, q30, (12, Value.bool true), q37, q38, q25, q31, q45, q26, q27]⟩ ⟨[q50, q51], 3⟩ ({ n := (47 : Nat), m := [((8 : Nat), vi (↑y1 : Int)), q68, q18, q64, q19, q23, q62, q52, q63, q53, q15, q16, q65, q57, q66, q54, q17, q60, q61, q47, q55, q67, q48, q49] }) ({ h := [q69, q70], next := (2 : Nat) })) ∧ (((y1 ≤ na) ∧ (∀ y2 : Nat, ((y2 < y1) → (@Eq Int (fa y2 (0 : Nat)) (fb y2 (0 : Nat)))))) ∧ (na - y1 < na - Prod.fst (Prod.fst y0))))) ∨ ((∃ y1 : (Nat × Nat) × Nat × RF, let q323 := (Prod.fst (Prod.fst y1)); let q324 := (Prod.snd (Prod.fst y1)); let q325 := (Prod.snd (Prod.snd y1)); let q326 := (Prod.fst (Prod.snd y1) + (1 : Nat)); ((Go.Rx.Sub 2 [q7] ⟨47, [q297, q299, q1, q41, q2, q8, q39, q28, q40, q29, (17, Value.bool true), (16, Value.bool true), q42, q34, q43, q30, (12, Value.bool true), q37, q38, q25, q31, q45, q26, q27]⟩ ⟨[q50, q51], 3⟩ ({ n := (47 : Nat), m := [((7 : Nat), rsl (2 : Nat) (0 : Nat) q324 q326), ((8 : Nat), vi (↑q323 : Int)), q18, q64, q19, q23, q62, q52, q63, q53, q15, q16, q65, q57, q66, q54, q17, q60, q61, q47, q55, q67, q48, q49] }) ({ h := [((2 : Nat), Blk.row false [IntKind.i64] (3 : Nat) q324 q326 q325), q69, q70], next := (3 : Nat) })) ∧ ((((Prod.fst (Prod.fst y1) ≤ na) ∧ ((Prod.snd (Prod.fst y1) ≤ Prod.fst (Prod.fst y1)) ∧ (Prod.snd (Prod.fst y1) ≤ Prod.fst (Prod.snd y1) + (1 : Nat)))) ∧ (DifK q323 na fa fb q324 q325)) ∧ (na - Prod.fst (Prod.fst y1) < na - Prod.fst (Prod.fst y0))))) ∨ ((∃ y1 : (Nat × Nat) × Nat × RF, let q319 := (Prod.fst (Prod.fst y1)); let q320 := (Prod.snd (Prod.fst y1)); let q321 := (Prod.snd (Prod.snd y1)); let q322 := (Prod.fst (Prod.snd y1) + (1 : Nat)); ((Go.Rx.Sub 2 [q6] ⟨47, [q297, q299, q1, q41, q2, q8, q39, q28, q40, q29, (17, Value.bool true), (16, Value.bool true), q42, q34, q43, q30, (12, Value.bool true), q37, q38, q25, q31, q45, q26, q27]⟩ ⟨[q50, q51], 3⟩ ({ n := (47 : Nat), m := [((7 : Nat), rsl (2 : Nat) (0 : Nat) q320 q322), ((8 : Nat), vi (↑q319 : Int)), q18, q64, q19, q23, q62, q52, q63, q53, q15, q16, q65, q57, q66, q54, q17, q60, q61, q47, q55, q67, q48, q49] }) ({ h := [((2 : Nat), Blk.row false [IntKind.i64] (3 : Nat) q320 q322 q321), q69, q70], next := (3 : Nat) })) ∧ ((((Prod.fst (Prod.fst y1) ≤ na) ∧ ((Prod.snd (Prod.fst y1) ≤ Prod.fst (Prod.fst y1)) ∧ (Prod.snd (Prod.fst y1) ≤ Prod.fst (Prod.snd y1) + (1 : Nat)))) ∧ (DifK q319 na fa fb q320 q321)) ∧ (na - Prod.fst (Prod.fst y1) < na - Prod.fst (Prod.fst y0))))) ∨ (∃ y1 : (Nat × Nat) × Nat × RF, let q315 := (Prod.fst (Prod.fst y1)); let q316 := (Prod.snd (Prod.fst y1)); let q317 := (Prod.snd (Prod.snd y1)); let q318 := (Prod.fst (Prod.snd y1) + (1 : Nat)); ((Go.Rx.Sub 2 [q0] ⟨47, [q297, q299, q1, q41, q2, q8, q39, q28, q40, q29, (17, Value.bool true), (16, Value.bool true), q42, q34, q43, q30, (12, Value.bool true), q37, q38, q25, q31, q45, q26, q27]⟩ ⟨[(2, Blk.row false [IntKind.i64] (3 : Nat) q290 q294 q291), q50, q51], 3⟩ ({ n := (47 : Nat), m := [((7 : Nat), rsl (2 : Nat) (0 : Nat) q316 q318), ((8 : Nat), vi (↑q315 : Int)), q18, q64, q19, q23, q62, q52, q63, q53, q15, q16, q65, q57, q66, q54, q17, q60, q61, q47, q55, q67, q48, q49] }) ({ h := [((2 : Nat), Blk.row false [IntKind.i64] (3 : Nat) q316 q318 q317), q69, q70], next := (3 : Nat) })) ∧ ((((Prod.fst (Prod.fst y1) ≤ na) ∧ ((Prod.snd (Prod.fst y1) ≤ Prod.fst (Prod.fst y1)) ∧ (Prod.snd (Prod.fst y1) ≤ Prod.fst (Prod.snd y1) + (1 : Nat)))) ∧ (DifK q315 na fa fb q316 q317)) ∧ (na - Prod.fst (Prod.fst y1) < na - Prod.fst (Prod.fst y0)))))))))) else (q44 ∧ (t4 (q44 ∧ (q44 ∧ (t4 (q9 ∧ (q13 ∧ (T0 ∧ ((T0 ∧ ((false = false) ∧ (q24 ∧ ((@Eq Nat q290 q290) ∧ ((@Eq Nat q294 q294) ∧ (Prod.snd (Prod.fst y0) + (1 : Nat) ≤ (100000 : Nat))))))) ∧ (∀ y1 : Nat, let q305 := (y1 - (1 : Nat) + (1 : Nat)); let q306 := (7, rsl (4 : Nat) (0 : Nat) q295 q305); ((Prod.snd (Prod.fst y0) + (1 : Nat) ≤ y1) → (T0 ∧ (q300 ∧ ((∃ y2 : Nat, ((Go.Rx.Sub 2 [] ⟨47, [q297, q306, q1, q41, q2, q8, q39, q28, q40, q29, (17, Value.bool true), (16, Value.bool true), q42, q34, q43, q30, (12, Value.bool true), q37, q38, q25, q31, q45, q26, q27]⟩ ⟨[q50, q51], 5⟩ ({ n := (47 : Nat), m := [((8 : Nat), vi (↑y2 : Int)), q68, q18, q64, q19, q23, q62, q52, q63, q53, q15, q16, q65, q57, q66, q54, q17, q60, q61, q47, q55, q67, q48, q49] }) ({ h := [q69, q70], next := (2 : Nat) })) ∧ (((y2 ≤ na) ∧ (∀ y3 : Nat, ((y3 < y2) → (@Eq Int (fa y3 (0 : Nat)) (fb y3 (0 : Nat)))))) ∧ (na - y2 < na - Prod.fst (Prod.fst y0))))) ∨ ((∃ y2 : (Nat × Nat) × Nat × RF, let q311 := (Prod.fst (Prod.fst y2)); let q312 := (Prod.snd (Prod.fst y2)); let q313 := (Prod.snd (Prod.snd y2)); let q314 := (Prod.fst (Prod.snd y2) + (1 : Nat)); ((Go.Rx.Sub 2 [q7] ⟨47, [q297, q306, q1, q41, q2, q8, q39, q28, q40, q29, (17, Value.bool true), (16, Value.bool true), q42, q34, q43, q30, (12, Value.bool true), q37, q38, q25, q31, q45, q26, q27]⟩ ⟨[(3, Blk.row false [IntKind.i64] (3 : Nat) (1 : Nat) (1 : Nat) q298), q50, q51], 5⟩ ({ n := (47 : Nat), m := [((7 : Nat), rsl (2 : Nat) (0 : Nat) q312 q314), ((8 : Nat), vi (↑q311 : Int)), q18, q64, q19, q23, q62, q52, q63, q53, q15, q16, q65, q57, q66, q54, q17, q60, q61, q47, q55, q67, q48, q49] }) ({ h := [((2 : Nat), Blk.row false [IntKind.i64] (3 : Nat) q312 q314 q313), q69, q70], next := (3 : Nat) })) ∧ ((((Prod.fst (Prod.fst y2) ≤ na) ∧ ((Prod.snd (Prod.fst y2) ≤ Prod.fst (Prod.fst y2)) ∧ (Prod.snd (Prod.fst y2) ≤ Prod.fst (Prod.snd y2) + (1 : Nat)))) ∧ (DifK q311 na fa fb q312 q313)) ∧ (na - Prod.fst (Prod.fst y2) < na - Prod.fst (Prod.fst y0))))) ∨ ((∃ y2 : (Nat × Nat) × Nat × RF, let q307 := (Prod.fst (Prod.fst y2)); let q308 := (Prod.snd (Prod.fst y2)); let q309 := (Prod.snd (Prod.snd y2)); let q310 := (Prod.fst (Prod.snd y2) + (1 : Nat)); ((Go.Rx.Sub 2 [q6] ⟨47, [q297, q306, q1, q41, q2, q8, q39, q28, q40, q29, (17, Value.bool true), (16, Value.bool true), q42, q34, q43, q30, (12, Value.bool true), q37, q38, q25, q31, q45, q26, q27]⟩ ⟨[(4, Blk.row false [IntKind.i64] (3 : Nat) q295 q305 (appF q291 q290 q298 (0 : Nat))), q50, q51], 5⟩ ({ n := (47 : Nat), m := [((7 : Nat), rsl (2 : Nat) (0 : Nat) q308 q310), ((8 : Nat), vi (↑q307 : Int)), q18, q64, q19, q23, q62, q52, q63, q53, q15, q16, q65, q57, q66, q54, q17, q60, q61, q47, q55, q67, q48, q49] }) ({ h := [((2 : Nat), Blk.row false [IntKind.i64] (3 : Nat) q308 q310 q309), q69, q70], next := (3 : Nat) })) ∧ ((((Prod.fst (Prod.fst y2) ≤ na) ∧ ((Prod.snd (Prod.fst y2) ≤ Prod.fst (Prod.fst y2)) ∧ (Prod.snd (Prod.fst y2) ≤ Prod.fst (Prod.snd y2) + (1 : Nat)))) ∧ (DifK q307 na fa fb q308 q309)) ∧ (na - Prod.fst (Prod.fst y2) < na - Prod.fst (Prod.fst y0))))) ∨ (∃ y2 : (Nat × Nat) × Nat × RF, let q301 := (Prod.fst (Prod.fst y2)); let q302 := (Prod.snd (Prod.fst y2)); let q303 := (Prod.snd (Prod.snd y2)); let q304 := (Prod.fst (Prod.snd y2) + (1 : Nat)); ((Go.Rx.Sub 2 [q0] ⟨47, [q297, q306, q1, q41, q2, q8, q39, q28, q40, q29, (17, Value.bool true), (16, Value.bool true), q42, q34, q43, q30, (12, Value.bool true), q37, q38, q25, q31, q45, q26, q27]⟩ ⟨[q50, q51], 5⟩ ({ n := (47 : Nat), m := [((7 : Nat), rsl (2 : Nat) (0 : Nat) q302 q304), ((8 : Nat), vi (↑q301 : Int)), q18, q64, q19, q23, q62, q52, q63, q53, q15, q16, q65, q57, q66, q54, q17, q60, q61, q47, q55, q67, q48, q49] }) ({ h := [((2 : Nat), Blk.row false [IntKind.i64] (3 : Nat) q302 q304 q303), q69, q70], next := (3 : Nat) })) ∧ ((((Prod.fst (Prod.fst y2) ≤ na) ∧ ((Prod.snd (Prod.fst y2) ≤ Prod.fst (Prod.fst y2)) ∧ (Prod.snd (Prod.fst y2) ≤ Prod.fst (Prod.snd y2) + (1 : Nat)))) ∧ (DifK q301 na fa fb q302 q303)) ∧ (na - Prod.fst (Prod.fst y2) < na - Prod.fst (Prod.fst y0))))))))))))))))))))))))))))))))) else (∃ y1 : Value, (∃ y2 : List Blk, ((Go.Rx.Found 2 (Value.tuple { toList := [rsl (2 : Nat) (0 : Nat) q290 q294, vi (0 : Int)] }) ({ h := [((2 : Nat), Blk.row false [IntKind.i64] (3 : Nat) q290 q294 q291), q69, q70], next := (3 : Nat) }) (y1) (y2)) ∧ (K y1 y2))))))))))) else q75)) else q76)))) else (T0 ∧ (if (@Eq Int (arE nb fb) ((0 : Int))) then (((∃ y0 : Nat, ((Go.Rx.Sub 2 [] ⟨47, [q32, q46, q1, q41, q2, (22, Value.tuple { toList := [] }), (21, Value.tuple { toList := [] }), (20, Value.tuple { toList := [] }), (19, Value.tuple { toList := [] }), (18, Value.tuple { toList := [] }), q3, q4, q42, q34, q43, q30, (12, Value.bool true), q37, q38, q25, q31, q45, q26, q27]⟩ ⟨[q50, q51], 2⟩ ({ n := (47 : Nat), m := [((8 : Nat), vi (↑y0 : Int)), q68, q18, q64, q19, ((22 : Nat), Value.tuple { toList := [] }), ((21 : Nat), Value.tuple { toList := [] }), ((20 : Nat), Value.tuple { toList := [] }), ((19 : Nat), Value.tuple { toList := [] }), ((18 : Nat), Value.tuple { toList := [] }), q20, q21, q65, q57, q66, q54, q17, q60, q61, q47, q55, q67, q48, q49] }) ({ h := [q69, q70], next := (2 : Nat) })) ∧ ((y0 ≤ na) ∧ (∀ y1 : Nat, ((y1 < y0) → (@Eq Int (fa y1 (0 : Nat)) (fb y1 (0 : Nat)))))))) ∨ (∃ y0 : (Nat × Nat) × Nat × RF, let q286 := (Prod.fst (Prod.fst y0)); let q287 := (Prod.snd (Prod.fst y0)); let q288 := (Prod.snd (Prod.snd y0)); let q289 := (Prod.fst (Prod.snd y0) + (1 : Nat)); ((Go.Rx.Sub 2 [q0] ⟨47, [q32, q46, q1, q41, q2, (22, Value.tuple { toList := [] }), (21, Value.tuple { toList := [] }), (20, Value.tuple { toList := [] }), (19, Value.tuple { toList := [] }), (18, Value.tuple { toList := [] }), q3, q4, q42, q34, q43, q30, (12, Value.bool true), q37, q38, q25, q31, q45, q26, q27]⟩ ⟨[q50, q51], 2⟩ ({ n := (47 : Nat), m := [((7 : Nat), rsl (2 : Nat) (0 : Nat) q287 q289), ((8 : Nat), vi (↑q286 : Int)), q18, q64, q19, ((22 : Nat), Value.tuple { toList := [] }), ((21 : Nat), Value.tuple { toList := [] }), ((20 : Nat), Value.tuple { toList := [] }), ((19 : Nat), Value.tuple { toList := [] }), ((18 : Nat), Value.tuple { toList := [] }), q20, q21, q65, q57, q66, q54, q17, q60, q61, q47, q55, q67, q48, q49] }) ({ h := [((2 : Nat), Blk.row false [IntKind.i64] (3 : Nat) q287 q289 q288), q69, q70], next := (3 : Nat) })) ∧ (((Prod.fst (Prod.fst y0) ≤ na) ∧ ((Prod.snd (Prod.fst y0) ≤ Prod.fst (Prod.fst y0)) ∧ (Prod.snd (Prod.fst y0) ≤ Prod.fst (Prod.snd y0) + (1 : Nat)))) ∧ (DifK q286 na fa fb q287 q288))))) ∧ ((∀ y0 : Nat, let q256 := ((0 : Int) ≤ (↑y0 : Int)); let q257 := (8, vi ((↑y0 : Int) + (1 : Int))); let q258 := (litF q11 ([(↑y0 : Int)] ++ [])); let q259 := ((q14 ≤ (↑y0 : Int) + (1 : Int)) ∧ ((↑y0 : Int) + (1 : Int) ≤ q12)); (((y0 ≤ na) ∧ (∀ y1 : Nat, ((y1 < y0) → (@Eq Int (fa y1 (0 : Nat)) (fb y1 (0 : Nat)))))) → (q44 ∧ (T0 ∧ (if ((↑y0 : Int) < (↑na : Int)) then (t4 (q72 ∧ ((q256 ∧ ((↑y0 : Int) < (↑na : Int))) ∧ (T0 ∧ ((y0 < na) ∧ (t3 (q72 ∧ ((q256 ∧ ((↑y0 : Int) < (↑nb : Int))) ∧ (T0 ∧ ((y0 < nb) ∧ (t2 (if (@Eq Int (fa y0 (0 : Nat)) (fb y0 (0 : Nat))) then (T0 ∧ (q259 ∧ ((∃ y1 : Nat, ((Go.Rx.Sub 2 [] ⟨47, [q257, q46, q1, q41, q2, (22, Value.tuple { toList := [] }), (21, Value.tuple { toList := [] }), (20, Value.tuple { toList := [] }), (19, Value.tuple { toList := [] }), (18, Value.tuple { toList := [] }), q3, q4, q42, q34, q43, q30, (12, Value.bool true), q37, q38, q25, q31, q45, q26, q27]⟩ ⟨[q50, q51], 2⟩ ({ n := (47 : Nat), m := [((8 : Nat), vi (↑y1 : Int)), q68, q18, q64, q19, ((22 : Nat), Value.tuple { toList := [] }), ((21 : Nat), Value.tuple { toList := [] }), ((20 : Nat), Value.tuple { toList := [] }), ((19 : Nat), Value.tuple { toList := [] }), ((18 : Nat), Value.tuple { toList := [] }), q20, q21, q65, q57, q66, q54, q17, q60, q61, q47, q55, q67, q48, q49] }) ({ h := [q69, q70], next := (2 : Nat) })) ∧ (((y1 ≤ na) ∧ (∀ y2 : Nat, ((y2 < y1) → (@Eq Int (fa y2 (0 : Nat)) (fb y2 (0 : Nat)))))) ∧ (na - y1 < na - y0)))) ∨ ((∃ y1 : (Nat × Nat) × Nat × RF, let q282 := (Prod.fst (Prod.fst y1)); let q283 := (Prod.snd (Prod.fst y1)); let q284 := (Prod.snd (Prod.snd y1)); let q285 := (Prod.fst (Prod.snd y1) + (1 : Nat)); ((Go.Rx.Sub 2 [q7] ⟨47, [q257, q46, q1, q41, q2, (22, Value.tuple { toList := [] }), (21, Value.tuple { toList := [] }), (20, Value.tuple { toList := [] }), (19, Value.tuple { toList := [] }), (18, Value.tuple { toList := [] }), q3, q4, q42, q34, q43, q30, (12, Value.bool true), q37, q38, q25, q31, q45, q26, q27]⟩ ⟨[q50, q51], 2⟩ ({ n := (47 : Nat), m := [((7 : Nat), rsl (2 : Nat) (0 : Nat) q283 q285), ((8 : Nat), vi (↑q282 : Int)), q18, q64, q19, ((22 : Nat), Value.tuple { toList := [] }), ((21 : Nat), Value.tuple { toList := [] }), ((20 : Nat), Value.tuple { toList := [] }), ((19 : Nat), Value.tuple { toList := [] }), ((18 : Nat), Value.tuple { toList := [] }), q20, q21, q65, q57, q66, q54, q17, q60, q61, q47, q55, q67, q48, q49] }) ({ h := [((2 : Nat), Blk.row false [IntKind.i64] (3 : Nat) q283 q285 q284), q69, q70], next := (3 : Nat) })) ∧ ((((Prod.fst (Prod.fst y1) ≤ na) ∧ ((Prod.snd (Prod.fst y1) ≤ Prod.fst (Prod.fst y1)) ∧ (Prod.snd (Prod.fst y1) ≤ Prod.fst (Prod.snd y1) + (1 : Nat)))) ∧ (DifK q282 na fa fb q283 q284)) ∧ (na - Prod.fst (Prod.fst y1) < na - y0)))) ∨ ((∃ y1 : (Nat × Nat) × Nat × RF, let q278 := (Prod.fst (Prod.fst y1)); let q279 := (Prod.snd (Prod.fst y1)); let q280 := (Prod.snd (Prod.snd y1)); let q281 := (Prod.fst (Prod.snd y1) + (1 : Nat)); ((Go.Rx.Sub 2 [q6] ⟨47, [q257, q46, q1, q41, q2, (22, Value.tuple { toList := [] }), (21, Value.tuple { toList := [] }), (20, Value.tuple { toList := [] }), (19, Value.tuple { toList := [] }), (18, Value.tuple { toList := [] }), q3, q4, q42, q34, q43, q30, (12, Value.bool true), q37, q38, q25, q31, q45, q26, q27]⟩ ⟨[q50, q51], 2⟩ ({ n := (47 : Nat), m := [((7 : Nat), rsl (2 : Nat) (0 : Nat) q279 q281), ((8 : Nat), vi (↑q278 : Int)), q18, q64, q19, ((22 : Nat), Value.tuple { toList := [] }), ((21 : Nat), Value.tuple { toList := [] }), ((20 : Nat), Value.tuple { toList := [] }), ((19 : Nat), Value.tuple { toList := [] }), ((18 : Nat), Value.tuple { toList := [] }), q20, q21, q65, q57, q66, q54, q17, q60, q61, q47, q55, q67, q48, q49] }) ({ h := [((2 : Nat), Blk.row false [IntKind.i64] (3 : Nat) q279 q281 q280), q69, q70], next := (3 : Nat) })) ∧ ((((Prod.fst (Prod.fst y1) ≤ na) ∧ ((Prod.snd (Prod.fst y1) ≤ Prod.fst (Prod.fst y1)) ∧ (Prod.snd (Prod.fst y1) ≤ Prod.fst (Prod.snd y1) + (1 : Nat)))) ∧ (DifK q278 na fa fb q279 q280)) ∧ (na - Prod.fst (Prod.fst y1) < na - y0)))) ∨ (∃ y1 : (Nat × Nat) × Nat × RF, let q274 := (Prod.fst (Prod.fst y1)); let q275 := (Prod.snd (Prod.fst y1)); let q276 := (Prod.snd (Prod.snd y1)); let q277 := (Prod.fst (Prod.snd y1) + (1 : Nat)); ((Go.Rx.Sub 2 [q0] ⟨47, [q257, q46, q1, q41, q2, (22, Value.tuple { toList := [] }), (21, Value.tuple { toList := [] }), (20, Value.tuple { toList := [] }), (19, Value.tuple { toList := [] }), (18, Value.tuple { toList := [] }), q3, q4, q42, q34, q43, q30, (12, Value.bool true), q37, q38, q25, q31, q45, q26, q27]⟩ ⟨[q50, q51], 2⟩ ({ n := (47 : Nat), m := [((7 : Nat), rsl (2 : Nat) (0 : Nat) q275 q277), ((8 : Nat), vi (↑q274 : Int)), q18, q64, q19, ((22 : Nat), Value.tuple { toList := [] }), ((21 : Nat), Value.tuple { toList := [] }), ((20 : Nat), Value.tuple { toList := [] }), ((19 : Nat), Value.tuple { toList := [] }), ((18 : Nat), Value.tuple { toList := [] }), q20, q21, q65, q57, q66, q54, q17, q60, q61, q47, q55, q67, q48, q49] }) ({ h := [((2 : Nat), Blk.row false [IntKind.i64] (3 : Nat) q275 q277 q276), q69, q70], next := (3 : Nat) })) ∧ ((((Prod.fst (Prod.fst y1) ≤ na) ∧ ((Prod.snd (Prod.fst y1) ≤ Prod.fst (Prod.fst y1)) ∧ (Prod.snd (Prod.fst y1) ≤ Prod.fst (Prod.snd y1) + (1 : Nat)))) ∧ (DifK q274 na fa fb q275 q276)) ∧ (na - Prod.fst (Prod.fst y1) < na - y0))))))))) else (q44 ∧ (t4 (q44 ∧ (q44 ∧ (t4 (q9 ∧ (q13 ∧ (∀ y1 : Nat, let q264 := (y1 - (1 : Nat) + (1 : Nat)); let q265 := (7, rsl (3 : Nat) (0 : Nat) (1 : Nat) q264); (((1 : Nat) ≤ y1) → (T0 ∧ (q259 ∧ ((∃ y2 : Nat, ((Go.Rx.Sub 2 [] ⟨47, [q257, q265, q1, q41, q2, (22, Value.tuple { toList := [] }), (21, Value.tuple { toList := [] }), (20, Value.tuple { toList := [] }), (19, Value.tuple { toList := [] }), (18, Value.tuple { toList := [] }), q3, q4, q42, q34, q43, q30, (12, Value.bool true), q37, q38, q25, q31, q45, q26, q27]⟩ ⟨[q50, q51], 4⟩ ({ n := (47 : Nat), m := [((8 : Nat), vi (↑y2 : Int)), q68, q18, q64, q19, ((22 : Nat), Value.tuple { toList := [] }), ((21 : Nat), Value.tuple { toList := [] }), ((20 : Nat), Value.tuple { toList := [] }), ((19 : Nat), Value.tuple { toList := [] }), ((18 : Nat), Value.tuple { toList := [] }), q20, q21, q65, q57, q66, q54, q17, q60, q61, q47, q55, q67, q48, q49] }) ({ h := [q69, q70], next := (2 : Nat) })) ∧ (((y2 ≤ na) ∧ (∀ y3 : Nat, ((y3 < y2) → (@Eq Int (fa y3 (0 : Nat)) (fb y3 (0 : Nat)))))) ∧ (na - y2 < na - y0)))) ∨ ((∃ y2 : (Nat × Nat) × Nat × RF, let q270 := (Prod.fst (Prod.fst y2)); let q271 := (Prod.snd (Prod.fst y2)); let q272 := (Prod.snd (Prod.snd y2)); let q273 := (Prod.fst (Prod.snd y2) + (1 : Nat)); ((Go.Rx.Sub 2 [q7] ⟨47, [q257, q265, q1, q41, q2, (22, Value.tuple { toList := [] }), (21, Value.tuple { toList := [] }), (20, Value.tuple { toList := [] }), (19, Value.tuple { toList := [] }), (18, Value.tuple { toList := [] }), q3, q4, q42, q34, q43, q30, (12, Value.bool true), q37, q38, q25, q31, q45, q26, q27]⟩ ⟨[(3, Blk.row false [IntKind.i64] (3 : Nat) (1 : Nat) q264 (appF (fun x x_1 ↦ (0 : Int)) (0 : Nat) q258 (0 : Nat))), q50, q51], 4⟩ ({ n := (47 : Nat), m := [((7 : Nat), rsl (2 : Nat) (0 : Nat) q271 q273), ((8 : Nat), vi (↑q270 : Int)), q18, q64, q19, ((22 : Nat), Value.tuple { toList := [] }), ((21 : Nat), Value.tuple { toList := [] }), ((20 : Nat), Value.tuple { toList := [] }), ((19 : Nat), Value.tuple { toList := [] }), ((18 : Nat), Value.tuple { toList := [] }), q20, q21, q65, q57, q66, q54, q17, q60, q61, q47, q55, q67, q48, q49] }) ({ h := [((2 : Nat), Blk.row false [IntKind.i64] (3 : Nat) q271 q273 q272), q69, q70], next := (3 : Nat) })) ∧ ((((Prod.fst (Prod.fst y2) ≤ na) ∧ ((Prod.snd (Prod.fst y2) ≤ Prod.fst (Prod.fst y2)) ∧ (Prod.snd (Prod.fst y2) ≤ Prod.fst (Prod.snd y2) + (1 : Nat)))) ∧ (DifK q270 na fa fb q271 q272)) ∧ (na - Prod.fst (Prod.fst y2) < na - y0)))) ∨ ((∃ y2 : (Nat × Nat) × Nat × RF, let q266 := (Prod.fst (Prod.fst y2)); let q267 := (Prod.snd (Prod.fst y2)); let q268 := (Prod.snd (Prod.snd y2)); let q269 := (Prod.fst (Prod.snd y2) + (1 : Nat)); ((Go.Rx.Sub 2 [q6] ⟨47, [q257, q265, q1, q41, q2, (22, Value.tuple { toList := [] }), (21, Value.tuple { toList := [] }), (20, Value.tuple { toList := [] }), (19, Value.tuple { toList := [] }), (18, Value.tuple { toList := [] }), q3, q4, q42, q34, q43, q30, (12, Value.bool true), q37, q38, q25, q31, q45, q26, q27]⟩ ⟨[q50, q51], 4⟩ ({ n := (47 : Nat), m := [((7 : Nat), rsl (2 : Nat) (0 : Nat) q267 q269), ((8 : Nat), vi (↑q266 : Int)), q18, q64, q19, ((22 : Nat), Value.tuple { toList := [] }), ((21 : Nat), Value.tuple { toList := [] }), ((20 : Nat), Value.tuple { toList := [] }), ((19 : Nat), Value.tuple { toList := [] }), ((18 : Nat), Value.tuple { toList := [] }), q20, q21, q65, q57, q66, q54, q17, q60, q61, q47, q55, q67, q48, q49] }) ({ h := [((2 : Nat), Blk.row false [IntKind.i64] (3 : Nat) q267 q269 q268), q69, q70], next := (3 : Nat) })) ∧ ((((Prod.fst (Prod.fst y2) ≤ na) ∧ ((Prod.snd (Prod.fst y2) ≤ Prod.fst (Prod.fst y2)) ∧ (Prod.snd (Prod.fst y2) ≤ Prod.fst (Prod.snd y2) + (1 : Nat)))) ∧ (DifK q266 na fa fb q267 q268)) ∧ (na - Prod.fst (Prod.fst y2) < na - y0)))) ∨ (∃ y2 : (Nat × Nat) × Nat × RF, let q260 := (Prod.fst (Prod.fst y2)); let q261 := (Prod.snd (Prod.fst y2)); let q262 := (Prod.snd (Prod.snd y2)); let q263 := (Prod.fst (Prod.snd y2) + (1 : Nat)); ((Go.Rx.Sub 2 [q0] ⟨47, [q257, q265, q1, q41, q2, (22, Value.tuple { toList := [] }), (21, Value.tuple { toList := [] }), (20, Value.tuple { toList := [] }), (19, Value.tuple { toList := [] }), (18, Value.tuple { toList := [] }), q3, q4, q42, q34, q43, q30, (12, Value.bool true), q37, q38, q25, q31, q45, q26, q27]⟩ ⟨[(2, Blk.row false [IntKind.i64] (3 : Nat) (1 : Nat) (1 : Nat) q258), q50, q51], 4⟩ ({ n := (47 : Nat), m := [((7 : Nat), rsl (2 : Nat) (0 : Nat) q261 q263), ((8 : Nat), vi (↑q260 : Int)), q18, q64, q19, ((22 : Nat), Value.tuple { toList := [] }), ((21 : Nat), Value.tuple { toList := [] }), ((20 : Nat), Value.tuple { toList := [] }), ((19 : Nat), Value.tuple { toList := [] }), ((18 : Nat), Value.tuple { toList := [] }), q20, q21, q65, q57, q66, q54, q17, q60, q61, q47, q55, q67, q48, q49] }) ({ h := [((2 : Nat), Blk.row false [IntKind.i64] (3 : Nat) q261 q263 q262), q69, q70], next := (3 : Nat) })) ∧ ((((Prod.fst (Prod.fst y2) ≤ na) ∧ ((Prod.snd (Prod.fst y2) ≤ Prod.fst (Prod.fst y2)) ∧ (Prod.snd (Prod.fst y2) ≤ Prod.fst (Prod.snd y2) + (1 : Nat)))) ∧ (DifK q260 na fa fb q261 q262)) ∧ (na - Prod.fst (Prod.fst y2) < na - y0)))))))))))))))))))))))))))))) else q73))))) ∧ (∀ y0 : (Nat × Nat) × Nat × RF, let q219 := (Prod.snd (Prod.fst y0)); let q220 := (Prod.snd (Prod.snd y0)); let q221 := (Prod.fst (Prod.fst y0)); let q222 := (↑q221 : Int); let q223 := (Prod.fst (Prod.snd y0) + (1 : Nat)); let q224 := (Prod.snd (Prod.fst y0) + (1 : Nat)); let q225 := ((0 : Int) ≤ q222); let q226 := (8, vi (q222 + (1 : Int))); let q227 := (litF q11 ([q222] ++ [])); let q228 := (7, rsl (2 : Nat) (0 : Nat) q219 q223); let q229 := ((q14 ≤ q222 + (1 : Int)) ∧ (q222 + (1 : Int) ≤ q12)); ((((Prod.fst (Prod.fst y0) ≤ na) ∧ ((Prod.snd (Prod.fst y0) ≤ Prod.fst (Prod.fst y0)) ∧ (Prod.snd (Prod.fst y0) ≤ Prod.fst (Prod.snd y0) + (1 : Nat)))) ∧ (DifK q221 na fa fb q219 q220)) → (q44 ∧ (T0 ∧ (if (q222 < (↑na : Int)) then (t4 (q72 ∧ ((q225 ∧ (q222 < (↑na : Int))) ∧ (T0 ∧ ((Prod.fst (Prod.fst y0) < na) ∧ (t3 (q72 ∧ ((q225 ∧ (q222 < (↑nb : Int))) ∧ (T0 ∧ ((Prod.fst (Prod.fst y0) < nb) ∧ (t2 (if (@Eq Int (fa q221 (0 : Nat)) (fb q221 (0 : Nat))) then (T0 ∧ (q229 ∧ ((∃ y1 : Nat, ((Go.Rx.Sub 2 [] ⟨47, [q226, q228, q1, q41, q2, (22, Value.tuple { toList := [] }), (21, Value.tuple { toList := [] }), (20, Value.tuple { toList := [] }), (19, Value.tuple { toList := [] }), (18, Value.tuple { toList := [] }), q3, q4, q42, q34, q43, q30, (12, Value.bool true), q37, q38, q25, q31, q45, q26, q27]⟩ ⟨[q50, q51], 3⟩ ({ n := (47 : Nat), m := [((8 : Nat), vi (↑y1 : Int)), q68, q18, q64, q19, ((22 : Nat), Value.tuple { toList := [] }), ((21 : Nat), Value.tuple { toList := [] }), ((20 : Nat), Value.tuple { toList := [] }), ((19 : Nat), Value.tuple { toList := [] }), ((18 : Nat), Value.tuple { toList := [] }), q20, q21, q65, q57, q66, q54, q17, q60, q61, q47, q55, q67, q48, q49] }) ({ h := [q69, q70], next := (2 : Nat) })) ∧ (((y1 ≤ na) ∧ (∀ y2 : Nat, ((y2 < y1) → (@Eq Int (fa y2 (0 : Nat)) (fb y2 (0 : Nat)))))) ∧ (na - y1 < na - Prod.fst (Prod.fst y0))))) ∨ ((∃ y1 : (Nat × Nat) × Nat × RF, let q252 := (Prod.fst (Prod.fst y1)); let q253 := (Prod.snd (Prod.fst y1)); let q254 := (Prod.snd (Prod.snd y1)); let q255 := (Prod.fst (Prod.snd y1) + (1 : Nat)); ((Go.Rx.Sub 2 [q7] ⟨47, [q226, q228, q1, q41, q2, (22, Value.tuple { toList := [] }), (21, Value.tuple { toList := [] }), (20, Value.tuple { toList := [] }), (19, Value.tuple { toList := [] }), (18, Value.tuple { toList := [] }), q3, q4, q42, q34, q43, q30, (12, Value.bool true), q37, q38, q25, q31, q45, q26, q27]⟩ ⟨[q50, q51], 3⟩ ({ n := (47 : Nat), m := [((7 : Nat), rsl (2 : Nat) (0 : Nat) q253 q255), ((8 : Nat), vi (↑q252 : Int)), q18, q64, q19, ((22 : Nat), Value.tuple { toList := [] }), ((21 : Nat), Value.tuple { toList := [] }), ((20 : Nat), Value.tuple { toList := [] }), ((19 : Nat), Value.tuple { toList := [] }), ((18 : Nat), Value.tuple { toList := [] }), q20, q21, q65, q57, q66, q54, q17, q60, q61, q47, q55, q67, q48, q49] }) ({ h := [((2 : Nat), Blk.row false [IntKind.i64] (3 : Nat) q253 q255 q254), q69, q70], next := (3 : Nat) })) ∧ ((((Prod.fst (Prod.fst y1) ≤ na) ∧ ((Prod.snd (Prod.fst y1) ≤ Prod.fst (Prod.fst y1)) ∧ (Prod.snd (Prod.fst y1) ≤ Prod.fst (Prod.snd y1) + (1 : Nat)))) ∧ (DifK q252 na fa fb q253 q254)) ∧ (na - Prod.fst (Prod.fst y1) < na - Prod.fst (Prod.fst y0))))) ∨ ((∃ y1 : (Nat × Nat) × Nat × RF, let q248 := (Prod.fst (Prod.fst y1)); let q249 := (Prod.snd (Prod.fst y1)); let q250 := (Prod.snd (Prod.snd y1)); let q251 := (Prod.fst (Prod.snd y1) + (1 : Nat)); ((Go.Rx.Sub 2 [q6] ⟨47, [q226, q228, q1, q41, q2, (22, Value.tuple { toList := [] }), (21, Value.tuple { toList := [] }), (20, Value.tuple { toList := [] }), (19, Value.tuple { toList := [] }), (18, Value.tuple { toList := [] }), q3, q4, q42, q34, q43, q30, (12, Value.bool true), q37, q38, q25, q31, q45, q26, q27]⟩ ⟨[q50, q51], 3⟩ ({ n := (47 : Nat), m := [((7 : Nat), rsl (2 : Nat) (0 : Nat) q249 q251), ((8 : Nat), vi (↑q248 : Int)), q18, q64, q19, ((22 : Nat), Value.tuple { toList := [] }), ((21 : Nat), Value.tuple { toList := [] }), ((20 : Nat), Value.tuple { toList := [] }), ((19 : Nat), Value.tuple { toList := [] }), ((18 : Nat), Value.tuple { toList := [] }), q20, q21, q65, q57, q66, q54, q17, q60, q61, q47, q55, q67, q48, q49] }) ({ h := [((2 : Nat), Blk.row false [IntKind.i64] (3 : Nat) q249 q251 q250), q69, q70], next := (3 : Nat) })) ∧ ((((Prod.fst (Prod.fst y1) ≤ na) ∧ ((Prod.snd (Prod.fst y1) ≤ Prod.fst (Prod.fst y1)) ∧ (Prod.snd (Prod.fst y1) ≤ Prod.fst (Prod.snd y1) + (1 : Nat)))) ∧ (DifK q248 na fa fb q249 q250)) ∧ (na - Prod.fst (Prod.fst y1) < na - Prod.fst (Prod.fst y0))))) ∨ (∃ y1 : (Nat × Nat) × Nat × RF, let q244 := (Prod.fst (Prod.fst y1)); let q245 := (Prod.snd (Prod.fst y1)); let q246 := (Prod.snd (Prod.snd y1)); let q247 := (Prod.fst (Prod.snd y1) + (1 : Nat)); ((Go.Rx.Sub 2 [q0] ⟨47, [q226, q228, q1, q41, q2, (22, Value.tuple { toList := [] }), (21, Value.tuple { toList := [] }), (20, Value.tuple { toList := [] }), (19, Value.tuple { toList := [] }), (18, Value.tuple { toList := [] }), q3, q4, q42, q34, q43, q30, (12, Value.bool true), q37, q38, q25, q31, q45, q26, q27]⟩ ⟨[(2, Blk.row false [IntKind.i64] (3 : Nat) q219 q223 q220), q50, q51], 3⟩ ({ n := (47 : Nat), m := [((7 : Nat), rsl (2 : Nat) (0 : Nat) q245 q247), ((8 : Nat), vi (↑q244 : Int)), q18, q64, q19, ((22 : Nat), Value.tuple { toList := [] }), ((21 : Nat), Value.tuple { toList := [] }), ((20 : Nat), Value.tuple { toList := [] }), ((19 : Nat), Value.tuple { toList := [] }), ((18 : Nat), Value.tuple { toList := [] }), q20, q21, q65, q57, q66, q54, q17, q60, q61, q47, q55, q67, q48, q49] }) ({ h := [((2 : Nat), Blk.row false [IntKind.i64] (3 : Nat) q245 q247 q246), q69, q70], next := (3 : Nat) })) ∧ ((((Prod.fst (Prod.fst y1) ≤ na) ∧ ((Prod.snd (Prod.fst y1) ≤ Prod.fst (Prod.fst y1)) ∧ (Prod.snd (Prod.fst y1) ≤ Prod.fst (Prod.snd y1) + (1 : Nat)))) ∧ (DifK q244 na fa fb q245 q246)) ∧ (na - Prod.fst (Prod.fst y1) < na - Prod.fst (Prod.fst y0)))))))))) else (q44 ∧ (t4 (q44 ∧ (q44 ∧ (t4 (q9 ∧ (q13 ∧ (T0 ∧ ((T0 ∧ ((false = false) ∧ (q24 ∧ ((@Eq Nat q219 q219) ∧ ((@Eq Nat q223 q223) ∧ (Prod.snd (Prod.fst y0) + (1 : Nat) ≤ (100000 : Nat))))))) ∧ (∀ y1 : Nat, let q234 := (y1 - (1 : Nat) + (1 : Nat)); let q235 := (7, rsl (4 : Nat) (0 : Nat) q224 q234); ((Prod.snd (Prod.fst y0) + (1 : Nat) ≤ y1) → (T0 ∧ (q229 ∧ ((∃ y2 : Nat, ((Go.Rx.Sub 2 [] ⟨47, [q226, q235, q1, q41, q2, (22, Value.tuple { toList := [] }), (21, Value.tuple { toList := [] }), (20, Value.tuple { toList := [] }), (19, Value.tuple { toList := [] }), (18, Value.tuple { toList := [] }), q3, q4, q42, q34, q43, q30, (12, Value.bool true), q37, q38, q25, q31, q45, q26, q27]⟩ ⟨[q50, q51], 5⟩ ({ n := (47 : Nat), m := [((8 : Nat), vi (↑y2 : Int)), q68, q18, q64, q19, ((22 : Nat), Value.tuple { toList := [] }), ((21 : Nat), Value.tuple { toList := [] }), ((20 : Nat), Value.tuple { toList := [] }), ((19 : Nat), Value.tuple { toList := [] }), ((18 : Nat), Value.tuple { toList := [] }), q20, q21, q65, q57, q66, q54, q17, q60, q61, q47, q55, q67, q48, q49] }) ({ h := [q69, q70], next := (2 : Nat) })) ∧ (((y2 ≤ na) ∧ (∀ y3 : Nat, ((y3 < y2) → (@Eq Int (fa y3 (0 : Nat)) (fb y3 (0 : Nat)))))) ∧ (na - y2 < na - Prod.fst (Prod.fst y0))))) ∨ ((∃ y2 : (Nat × Nat) × Nat × RF, let q240 := (Prod.fst (Prod.fst y2)); let q241 := (Prod.snd (Prod.fst y2)); let q242 := (Prod.snd (Prod.snd y2)); let q243 := (Prod.fst (Prod.snd y2) + (1 : Nat)); ((Go.Rx.Sub 2 [q7] ⟨47, [q226, q235, q1, q41, q2, (22, Value.tuple { toList := [] }), (21, Value.tuple { toList := [] }), (20, Value.tuple { toList := [] }), (19, Value.tuple { toList := [] }), (18, Value.tuple { toList := [] }), q3, q4, q42, q34, q43, q30, (12, Value.bool true), q37, q38, q25, q31, q45, q26, q27]⟩ ⟨[(3, Blk.row false [IntKind.i64] (3 : Nat) (1 : Nat) (1 : Nat) q227), q50, q51], 5⟩ ({ n := (47 : Nat), m := [((7 : Nat), rsl (2 : Nat) (0 : Nat) q241 q243), ((8 : Nat), vi (↑q240 : Int)), q18, q64, q19, ((22 : Nat), Value.tuple { toList := [] }), ((21 : Nat), Value.tuple { toList := [] }), ((20 : Nat), Value.tuple { toList := [] }), ((19 : Nat), Value.tuple { toList := [] }), ((18 : Nat), Value.tuple { toList := [] }), q20, q21, q65, q57, q66, q54, q17, q60, q61, q47, q55, q67, q48, q49] }) ({ h := [((2 : Nat), Blk.row false [IntKind.i64] (3 : Nat) q241 q243 q242), q69, q70], next := (3 : Nat) })) ∧ ((((Prod.fst (Prod.fst y2) ≤ na) ∧ ((Prod.snd (Prod.fst y2) ≤ Prod.fst (Prod.fst y2)) ∧ (Prod.snd (Prod.fst y2) ≤ Prod.fst (Prod.snd y2) + (1 : Nat)))) ∧ (DifK q240 na fa fb q241 q242)) ∧ (na - Prod.fst (Prod.fst y2) < na - Prod.fst (Prod.fst y0))))) ∨ ((∃ y2 : (Nat × Nat) × Nat × RF, let q236 := (Prod.fst (Prod.fst y2)); let q237 := (Prod.snd (Prod.fst y2)); let q238 := (Prod.snd (Prod.snd y2)); let q239 := (Prod.fst (Prod.snd y2) + (1 : Nat)); ((Go.Rx.Sub 2 [q6] ⟨47, [q226, q235, q1, q41, q2, (22, Value.tuple { toList := [] }), (21, Value.tuple { toList := [] }), (20, Value.tuple { toList := [] }), (19, Value.tuple { toList := [] }), (18, Value.tuple { toList := [] }), q3, q4, q42, q34, q43, q30, (12, Value.bool true), q37, q38, q25, q31, q45, q26, q27]⟩ ⟨[(4, Blk.row false [IntKind.i64] (3 : Nat) q224 q234 (appF q220 q219 q227 (0 : Nat))), q50, q51], 5⟩ ({ n := (47 : Nat), m := [((7 : Nat), rsl (2 : Nat) (0 : Nat) q237 q239), ((8 : Nat), vi (↑q236 : Int)), q18, q64, q19, ((22 : Nat), Value.tuple { toList := [] }), ((21 : Nat), Value.tuple { toList := [] }), ((20 : Nat), Value.tuple { toList := [] }), ((19 : Nat), Value.tuple { toList := [] }), ((18 : Nat), Value.tuple { toList := [] }), q20, q21, q65, q57, q66, q54, q17, q60, q61, q47, q55, q67, q48, q49] }) ({ h := [((2 : Nat), Blk.row false [IntKind.i64] (3 : Nat) q237 q239 q238), q69, q70], next := (3 : Nat) })) ∧ ((((Prod.fst (Prod.fst y2) ≤ na) ∧ ((Prod.snd (Prod.fst y2) ≤ Prod.fst (Prod.fst y2)) ∧ (Prod.snd (Prod.fst y2) ≤ Prod.fst (Prod.snd y2) + (1 : Nat)))) ∧ (DifK q236 na fa fb q237 q238)) ∧ (na - Prod.fst (Prod.fst y2) < na - Prod.fst (Prod.fst y0))))) ∨ (∃ y2 : (Nat × Nat) × Nat × RF, let q230 := (Prod.fst (Prod.fst y2)); let q231 := (Prod.snd (Prod.fst y2)); let q232 := (Prod.snd (Prod.snd y2)); let q233 := (Prod.fst (Prod.snd y2) + (1 : Nat)); ((Go.Rx.Sub 2 [q0] ⟨47, [q226, q235, q1, q41, q2, (22, Value.tuple { toList := [] }), (21, Value.tuple { toList := [] }), (20, Value.tuple { toList := [] }), (19, Value.tuple { toList := [] }), (18, Value.tuple { toList := [] }), q3, q4, q42, q34, q43, q30, (12, Value.bool true), q37, q38, q25, q31, q45, q26, q27]⟩ ⟨[q50, q51], 5⟩ ({ n := (47 : Nat), m := [((7 : Nat), rsl (2 : Nat) (0 : Nat) q231 q233), ((8 : Nat), vi (↑q230 : Int)), q18, q64, q19, ((22 : Nat), Value.tuple { toList := [] }), ((21 : Nat), Value.tuple { toList := [] }), ((20 : Nat), Value.tuple { toList := [] }), ((19 : Nat), Value.tuple { toList := [] }), ((18 : Nat), Value.tuple { toList := [] }), q20, q21, q65, q57, q66, q54, q17, q60, q61, q47, q55, q67, q48, q49] }) ({ h := [((2 : Nat), Blk.row false [IntKind.i64] (3 : Nat) q231 q233 q232), q69, q70], next := (3 : Nat) })) ∧ ((((Prod.fst (Prod.fst y2) ≤ na) ∧ ((Prod.snd (Prod.fst y2) ≤ Prod.fst (Prod.fst y2)) ∧ (Prod.snd (Prod.fst y2) ≤ Prod.fst (Prod.snd y2) + (1 : Nat)))) ∧ (DifK q230 na fa fb q231 q232)) ∧ (na - Prod.fst (Prod.fst y2) < na - Prod.fst (Prod.fst y0))))))))))))))))))))))))))))))))) else (∃ y1 : Value, (∃ y2 : List Blk, ((Go.Rx.Found 2 (Value.tuple { toList := [rsl (2 : Nat) (0 : Nat) q219 q223, vi (0 : Int)] }) ({ h := [((2 : Nat), Blk.row false [IntKind.i64] (3 : Nat) q219 q223 q220), q69, q70], next := (3 : Nat) }) (y1) (y2)) ∧ (K y1 y2))))))))))) else q75))))))))) else (T0 ∧ (if (@Eq Int (arE na fa) ((0 : Int))) then (q44 ∧ (q44 ∧ (T0 ∧ (if (@Eq Int ((↑na : Int)) ((↑nb : Int))) then (T0 ∧ (if (@Eq Int (arE na fa) ((0 : Int))) then (((∃ y0 : Nat, ((Go.Rx.Sub 2 [] ⟨47, [q32, q46, q1, q35, q2, q8, q39, q28, q40, q29, (17, Value.bool true), (16, Value.bool true), q36, q5, q37, q33, q38, q25, q31, q45, q26, q27]⟩ ⟨[q50, q51], 2⟩ ({ n := (47 : Nat), m := [((8 : Nat), vi (↑y0 : Int)), q68, q18, q58, q19, q23, q62, q52, q63, q53, q15, q16, q59, q22, q60, q56, q61, q47, q55, q67, q48, q49] }) ({ h := [q69, q70], next := (2 : Nat) })) ∧ ((y0 ≤ na) ∧ (∀ y1 : Nat, ((y1 < y0) → (@Eq Int (fa y1 (0 : Nat)) (fb y1 (0 : Nat)))))))) ∨ (∃ y0 : (Nat × Nat) × Nat × RF, let q215 := (Prod.fst (Prod.fst y0)); let q216 := (Prod.snd (Prod.fst y0)); let q217 := (Prod.snd (Prod.snd y0)); let q218 := (Prod.fst (Prod.snd y0) + (1 : Nat)); ((Go.Rx.Sub 2 [q0] ⟨47, [q32, q46, q1, q35, q2, q8, q39, q28, q40, q29, (17, Value.bool true), (16, Value.bool true), q36, q5, q37, q33, q38, q25, q31, q45, q26, q27]⟩ ⟨[q50, q51], 2⟩ ({ n := (47 : Nat), m := [((7 : Nat), rsl (2 : Nat) (0 : Nat) q216 q218), ((8 : Nat), vi (↑q215 : Int)), q18, q58, q19, q23, q62, q52, q63, q53, q15, q16, q59, q22, q60, q56, q61, q47, q55, q67, q48, q49] }) ({ h := [((2 : Nat), Blk.row false [IntKind.i64] (3 : Nat) q216 q218 q217), q69, q70], next := (3 : Nat) })) ∧ (((Prod.fst (Prod.fst y0) ≤ na) ∧ ((Prod.snd (Prod.fst y0) ≤ Prod.fst (Prod.fst y0)) ∧ (Prod.snd (Prod.fst y0) ≤ Prod.fst (Prod.snd y0) + (1 : Nat)))) ∧ (DifK q215 na fa fb q216 q217))))) ∧ ((∀ y0 : Nat, let q185 := ((0 : Int) ≤ (↑y0 : Int)); let q186 := (8, vi ((↑y0 : Int) + (1 : Int))); let q187 := (litF q11 ([(↑y0 : Int)] ++ [])); let q188 := ((q14 ≤ (↑y0 : Int) + (1 : Int)) ∧ ((↑y0 : Int) + (1 : Int) ≤ q12)); (((y0 ≤ na) ∧ (∀ y1 : Nat, ((y1 < y0) → (@Eq Int (fa y1 (0 : Nat)) (fb y1 (0 : Nat)))))) → (q44 ∧ (T0 ∧ (if ((↑y0 : Int) < (↑na : Int)) then (t4 (q72 ∧ ((q185 ∧ ((↑y0 : Int) < (↑na : Int))) ∧ (T0 ∧ ((y0 < na) ∧ (t3 (q72 ∧ ((q185 ∧ ((↑y0 : Int) < (↑nb : Int))) ∧ (T0 ∧ ((y0 < nb) ∧ (t2 (if (@Eq Int (fa y0 (0 : Nat)) (fb y0 (0 : Nat))) then (T0 ∧ (q188 ∧ ((∃ y1 : Nat, ((Go.Rx.Sub 2 [] ⟨47, [q186, q46, q1, q35, q2, q8, q39, q28, q40, q29, (17, Value.bool true), (16, Value.bool true), q36, q5, q37, q33, q38, q25, q31, q45, q26, q27]⟩ ⟨[q50, q51], 2⟩ ({ n := (47 : Nat), m := [((8 : Nat), vi (↑y1 : Int)), q68, q18, q58, q19, q23, q62, q52, q63, q53, q15, q16, q59, q22, q60, q56, q61, q47, q55, q67, q48, q49] }) ({ h := [q69, q70], next := (2 : Nat) })) ∧ (((y1 ≤ na) ∧ (∀ y2 : Nat, ((y2 < y1) → (@Eq Int (fa y2 (0 : Nat)) (fb y2 (0 : Nat)))))) ∧ (na - y1 < na - y0)))) ∨ ((∃ y1 : (Nat × Nat) × Nat × RF, let q211 := (Prod.fst (Prod.fst y1)); let q212 := (Prod.snd (Prod.fst y1)); let q213 := (Prod.snd (Prod.snd y1)); let q214 := (Prod.fst (Prod.snd y1) + (1 : Nat)); ((Go.Rx.Sub 2 [q7] ⟨47, [q186, q46, q1, q35, q2, q8, q39, q28, q40, q29, (17, Value.bool true), (16, Value.bool true), q36, q5, q37, q33, q38, q25, q31, q45, q26, q27]⟩ ⟨[q50, q51], 2⟩ ({ n := (47 : Nat), m := [((7 : Nat), rsl (2 : Nat) (0 : Nat) q212 q214), ((8 : Nat), vi (↑q211 : Int)), q18, q58, q19, q23, q62, q52, q63, q53, q15, q16, q59, q22, q60, q56, q61, q47, q55, q67, q48, q49] }) ({ h := [((2 : Nat), Blk.row false [IntKind.i64] (3 : Nat) q212 q214 q213), q69, q70], next := (3 : Nat) })) ∧ ((((Prod.fst (Prod.fst y1) ≤ na) ∧ ((Prod.snd (Prod.fst y1) ≤ Prod.fst (Prod.fst y1)) ∧ (Prod.snd (Prod.fst y1) ≤ Prod.fst (Prod.snd y1) + (1 : Nat)))) ∧ (DifK q211 na fa fb q212 q213)) ∧ (na - Prod.fst (Prod.fst y1) < na - y0)))) ∨ ((∃ y1 : (Nat × Nat) × Nat × RF, let q207 := (Prod.fst (Prod.fst y1)); let q208 := (Prod.snd (Prod.fst y1)); let q209 := (Prod.snd (Prod.snd y1)); let q210 := (Prod.fst (Prod.snd y1) + (1 : Nat)); ((Go.Rx.Sub 2 [q6] ⟨47, [q186, q46, q1, q35, q2, q8, q39, q28, q40, q29, (17, Value.bool true), (16, Value.bool true), q36, q5, q37, q33, q38, q25, q31, q45, q26, q27]⟩ ⟨[q50, q51], 2⟩ ({ n := (47 : Nat), m := [((7 : Nat), rsl (2 : Nat) (0 : Nat) q208 q210), ((8 : Nat), vi (↑q207 : Int)), q18, q58, q19, q23, q62, q52, q63, q53, q15, q16, q59, q22, q60, q56, q61, q47, q55, q67, q48, q49] }) ({ h := [((2 : Nat), Blk.row false [IntKind.i64] (3 : Nat) q208 q210 q209), q69, q70], next := (3 : Nat) })) ∧ ((((Prod.fst (Prod.fst y1) ≤ na) ∧ ((Prod.snd (Prod.fst y1) ≤ Prod.fst (Prod.fst y1)) ∧ (Prod.snd (Prod.fst y1) ≤ Prod.fst (Prod.snd y1) + (1 : Nat)))) ∧ (DifK q207 na fa fb q208 q209)) ∧ (na - Prod.fst (Prod.fst y1) < na - y0)))) ∨ (∃ y1 : (Nat × Nat) × Nat × RF, let q203 := (Prod.fst (Prod.fst y1)); let q204 := (Prod.snd (Prod.fst y1)); let q205 := (Prod.snd (Prod.snd y1)); let q206 := (Prod.fst (Prod.snd y1) + (1 : Nat)); ((Go.Rx.Sub 2 [q0] ⟨47, [q186, q46, q1, q35, q2, q8, q39, q28, q40, q29, (17, Value.bool true), (16, Value.bool true), q36, q5, q37, q33, q38, q25, q31, q45, q26, q27]⟩ ⟨[q50, q51], 2⟩ ({ n := (47 : Nat), m := [((7 : Nat), rsl (2 : Nat) (0 : Nat) q204 q206), ((8 : Nat), vi (↑q203 : Int)), q18, q58, q19, q23, q62, q52, q63, q53, q15, q16, q59, q22, q60, q56, q61, q47, q55, q67, q48, q49] }) ({ h := [((2 : Nat), Blk.row false [IntKind.i64] (3 : Nat) q204 q206 q205), q69, q70], next := (3 : Nat) })) ∧ ((((Prod.fst (Prod.fst y1) ≤ na) ∧ ((Prod.snd (Prod.fst y1) ≤ Prod.fst (Prod.fst y1)) ∧ (Prod.snd (Prod.fst y1) ≤ Prod.fst (Prod.snd y1) + (1 : Nat)))) ∧ (DifK q203 na fa fb q204 q205)) ∧ (na - Prod.fst (Prod.fst y1) < na - y0))))))))) else (q44 ∧ (t4 (q44 ∧ (q44 ∧ (t4 (q9 ∧ (q13 ∧ (∀ y1 : Nat, let q193 := (y1 - (1 : Nat) + (1 : Nat)); let q194 := (7, rsl (3 : Nat) (0 : Nat) (1 : Nat) q193); (((1 : Nat) ≤ y1) → (T0 ∧ (q188 ∧ ((∃ y2 : Nat, ((Go.Rx.Sub 2 [] ⟨47, [q186, q194, q1, q35, q2, q8, q39, q28, q40, q29, (17, Value.bool true), (16, Value.bool true), q36, q5, q37, q33, q38, q25, q31, q45, q26, q27]⟩ ⟨[q50, q51], 4⟩ ({ n := (47 : Nat), m := [((8 : Nat), vi (↑y2 : Int)), q68, q18, q58, q19, q23, q62, q52, q63, q53, q15, q16, q59, q22, q60, q56, q61, q47, q55, q67, q48, q49] }) ({ h := [q69, q70], next := (2 : Nat) })) ∧ (((y2 ≤ na) ∧ (∀ y3 : Nat, ((y3 < y2) → (@Eq Int (fa y3 (0 : Nat)) (fb y3 (0 : Nat)))))) ∧ (na - y2 < na - y0)))) ∨ ((∃ y2 : (Nat × Nat) × Nat × RF, let q199 := (Prod.fst (Prod.fst y2)); let q200 := (Prod.snd (Prod.fst y2)); let q201 := (Prod.snd (Prod.snd y2)); let q202 := (Prod.fst (Prod.snd y2) + (1 : Nat)); ((Go.Rx.Sub 2 [q7] ⟨47, [q186, q194, q1, q35, q2, q8, q39, q28, q40, q29, (17, Value.bool true), (16, Value.bool true), q36, q5, q37, q33, q38, q25, q31, q45, q26, q27]⟩ ⟨[(3, Blk.row false [IntKind.i64] (3 : Nat) (1 : Nat) q193 (appF (fun x x_1 ↦ (0 : Int)) (0 : Nat) q187 (0 : Nat))), q50, q51], 4⟩ ({ n := (47 : Nat), m := [((7 : Nat), rsl (2 : Nat) (0 : Nat) q200 q202), ((8 : Nat), vi (↑q199 : Int)), q18, q58, q19, q23, q62, q52, q63, q53, q15, q16, q59, q22, q60, q56, q61, q47, q55, q67, q48, q49] }) ({ h := [((2 : Nat), Blk.row false [IntKind.i64] (3 : Nat) q200 q202 q201), q69, q70], next := (3 : Nat) })) ∧ ((((Prod.fst (Prod.fst y2) ≤ na) ∧ ((Prod.snd (Prod.fst y2) ≤ Prod.fst (Prod.fst y2)) ∧ (Prod.snd (Prod.fst y2) ≤ Prod.fst (Prod.snd y2) + (1 : Nat)))) ∧ (DifK q199 na fa fb q200 q201)) ∧ (na - Prod.fst (Prod.fst y2) < na - y0)))) ∨ ((∃ y2 : (Nat × Nat) × Nat × RF, let q195 := (Prod.fst (Prod.fst y2)); let q196 := (Prod.snd (Prod.fst y2)); let q197 := (Prod.snd (Prod.snd y2)); let q198 := (Prod.fst (Prod.snd y2) + (1 : Nat)); ((Go.Rx.Sub 2 [q6] ⟨47, [q186, q194, q1, q35, q2, q8, q39, q28, q40, q29, (17, Value.bool true), (16, Value.bool true), q36, q5, q37, q33, q38, q25, q31, q45, q26, q27]⟩ ⟨[q50, q51], 4⟩ ({ n := (47 : Nat), m := [((7 : Nat), rsl (2 : Nat) (0 : Nat) q196 q198), ((8 : Nat), vi (↑q195 : Int)), q18, q58, q19, q23, q62, q52, q63, q53, q15, q16, q59, q22, q60, q56, q61, q47, q55, q67, q48, q49] }) ({ h := [((2 : Nat), Blk.row false [IntKind.i64] (3 : Nat) q196 q198 q197), q69, q70], next := (3 : Nat) })) ∧ ((((Prod.fst (Prod.fst y2) ≤ na) ∧ ((Prod.snd (Prod.fst y2) ≤ Prod.fst (Prod.fst y2)) ∧ (Prod.snd (Prod.fst y2) ≤ Prod.fst (Prod.snd y2) + (1 : Nat)))) ∧ (DifK q195 na fa fb q196 q197)) ∧ (na - Prod.fst (Prod.fst y2) < na - y0)))) ∨ (∃ y2 : (Nat × Nat) × Nat × RF, let q189 := (Prod.fst (Prod.fst y2)); let q190 := (Prod.snd (Prod.fst y2)); let q191 := (Prod.snd (Prod.snd y2)); let q192 := (Prod.fst (Prod.snd y2) + (1 : Nat)); ((Go.Rx.Sub 2 [q0] ⟨47, [q186, q194, q1, q35, q2, q8, q39, q28, q40, q29, (17, Value.bool true), (16, Value.bool true), q36, q5, q37, q33, q38, q25, q31, q45, q26, q27]⟩ ⟨[(2, Blk.row false [IntKind.i64] (3 : Nat) (1 : Nat) (1 : Nat) q187), q50, q51], 4⟩ ({ n := (47 : Nat), m := [((7 : Nat), rsl (2 : Nat) (0 : Nat) q190 q192), ((8 : Nat), vi (↑q189 : Int)), q18, q58, q19, q23, q62, q52, q63, q53, q15, q16, q59, q22, q60, q56, q61, q47, q55, q67, q48, q49] }) ({ h := [((2 : Nat), Blk.row false [IntKind.i64] (3 : Nat) q190 q192 q191), q69, q70], next := (3 : Nat) })) ∧ ((((Prod.fst (Prod.fst y2) ≤ na) ∧ ((Prod.snd (Prod.fst y2) ≤ Prod.fst (Prod.fst y2)) ∧ (Prod.snd (Prod.fst y2) ≤ Prod.fst (Prod.snd y2) + (1 : Nat)))) ∧ (DifK q189 na fa fb q190 q191)) ∧ (na - Prod.fst (Prod.fst y2) < na - y0)))))))))))))))))))))))))))))) else q73))))) ∧ (∀ y0 : (Nat × Nat) × Nat × RF, let q148 := (Prod.snd (Prod.fst y0)); let q149 := (Prod.snd (Prod.snd y0)); let q150 := (Prod.fst (Prod.fst y0)); let q151 := (↑q150 : Int); let q152 := (Prod.fst (Prod.snd y0) + (1 : Nat)); let q153 := (Prod.snd (Prod.fst y0) + (1 : Nat)); let q154 := ((0 : Int) ≤ q151); let q155 := (8, vi (q151 + (1 : Int))); let q156 := (litF q11 ([q151] ++ [])); let q157 := (7, rsl (2 : Nat) (0 : Nat) q148 q152); let q158 := ((q14 ≤ q151 + (1 : Int)) ∧ (q151 + (1 : Int) ≤ q12)); ((((Prod.fst (Prod.fst y0) ≤ na) ∧ ((Prod.snd (Prod.fst y0) ≤ Prod.fst (Prod.fst y0)) ∧ (Prod.snd (Prod.fst y0) ≤ Prod.fst (Prod.snd y0) + (1 : Nat)))) ∧ (DifK q150 na fa fb q148 q149)) → (q44 ∧ (T0 ∧ (if (q151 < (↑na : Int)) then (t4 (q72 ∧ ((q154 ∧ (q151 < (↑na : Int))) ∧ (T0 ∧ ((Prod.fst (Prod.fst y0) < na) ∧ (t3 (q72 ∧ ((q154 ∧ (q151 < (↑nb : Int))) ∧ (T0 ∧ ((Prod.fst (Prod.fst y0) < nb) ∧ (t2 (if (@Eq Int (fa q150 (0 : Nat)) (fb q150 (0 : Nat))) then (T0 ∧ (q158 ∧ ((∃ y1 : Nat, ((Go.Rx.Sub 2 [] ⟨47, [q155, q157, q1, q35, q2, q8, q39, q28, q40, q29, (17, Value.bool true), (16, Value.bool true), q36, q5, q37, q33, q38, q25, q31, q45, q26, q27]⟩ ⟨[q50, q51], 3⟩ ({ n := (47 : Nat), m := [((8 : Nat), vi (↑y1 : Int)), q68, q18, q58, q19, q23, q62, q52, q63, q53, q15, q16, q59, q22, q60, q56, q61, q47, q55, q67, q48, q49] }) ({ h := [q69, q70], next := (2 : Nat) })) ∧ (((y1 ≤ na) ∧ (∀ y2 : Nat, ((y2 < y1) → (@Eq Int (fa y2 (0 : Nat)) (fb y2 (0 : Nat)))))) ∧ (na - y1 < na - Prod.fst (Prod.fst y0))))) ∨ ((∃ y1 : (Nat × Nat) × Nat × RF, let q181 := (Prod.fst (Prod.fst y1)); let q182 := (Prod.snd (Prod.fst y1)); let q183 := (Prod.snd (Prod.snd y1)); let q184 := (Prod.fst (Prod.snd y1) + (1 : Nat)); ((Go.Rx.Sub 2 [q7] ⟨47, [q155, q157, q1, q35, q2, q8, q39, q28, q40, q29, (17, Value.bool true), (16, Value.bool true), q36, q5, q37, q33, q38, q25, q31, q45, q26, q27]⟩ ⟨[q50, q51], 3⟩ ({ n := (47 : Nat), m := [((7 : Nat), rsl (2 : Nat) (0 : Nat) q182 q184), ((8 : Nat), vi (↑q181 : Int)), q18, q58, q19, q23, q62, q52, q63, q53, q15, q16, q59, q22, q60, q56, q61, q47, q55, q67, q48, q49] }) ({ h := [((2 : Nat), Blk.row false [IntKind.i64] (3 : Nat) q182 q184 q183), q69, q70], next := (3 : Nat) })) ∧ ((((Prod.fst (Prod.fst y1) ≤ na) ∧ ((Prod.snd (Prod.fst y1) ≤ Prod.fst (Prod.fst y1)) ∧ (Prod.snd (Prod.fst y1) ≤ Prod.fst (Prod.snd y1) + (1 : Nat)))) ∧ (DifK q181 na fa fb q182 q183)) ∧ (na - Prod.fst (Prod.fst y1) < na - Prod.fst (Prod.fst y0))))) ∨ ((∃ y1 : (Nat × Nat) × Nat × RF, let q177 := (Prod.fst (Prod.fst y1)); let q178 := (Prod.snd (Prod.fst y1)); let q179 := (Prod.snd (Prod.snd y1)); let q180 := (Prod.fst (Prod.snd y1) + (1 : Nat)); ((Go.Rx.Sub 2 [q6] ⟨47, [q155, q157, q1, q35, q2, q8, q39, q28, q40, q29, (17, Value.bool true), (16, Value.bool true), q36, q5, q37, q33, q38, q25, q31, q45, q26, q27]⟩ ⟨[q50, q51], 3⟩ ({ n := (47 : Nat), m := [((7 : Nat), rsl (2 : Nat) (0 : Nat) q178 q180), ((8 : Nat), vi (↑q177 : Int)), q18, q58, q19, q23, q62, q52, q63, q53, q15, q16, q59, q22, q60, q56, q61, q47, q55, q67, q48, q49] }) ({ h := [((2 : Nat), Blk.row false [IntKind.i64] (3 : Nat) q178 q180 q179), q69, q70], next := (3 : Nat) })) ∧ ((((Prod.fst (Prod.fst y1) ≤ na) ∧ ((Prod.snd (Prod.fst y1) ≤ Prod.fst (Prod.fst y1)) ∧ (Prod.snd (Prod.fst y1) ≤ Prod.fst (Prod.snd y1) + (1 : Nat)))) ∧ (DifK q177 na fa fb q178 q179)) ∧ (na - Prod.fst (Prod.fst y1) < na - Prod.fst (Prod.fst y0))))) ∨ (∃ y1 : (Nat × Nat) × Nat × RF, let q173 := (Prod.fst (Prod.fst y1)); let q174 := (Prod.snd (Prod.fst y1)); let q175 := (Prod.snd (Prod.snd y1)); let q176 := (Prod.fst (Prod.snd y1) + (1 : Nat)); ((Go.Rx.Sub 2 [q0] ⟨47, [q155, q157, q1, q35, q2, q8, q39, q28, q40, q29, (17, Value.bool true), (16, Value.bool true), q36, q5, q37, q33, q38, q25, q31, q45, q26, q27]⟩ ⟨[(2, Blk.row false [IntKind.i64] (3 : Nat) q148 q152 q149), q50, q51], 3⟩ ({ n := (47 : Nat), m := [((7 : Nat), rsl (2 : Nat) (0 : Nat) q174 q176), ((8 : Nat), vi (↑q173 : Int)), q18, q58, q19, q23, q62, q52, q63, q53, q15, q16, q59, q22, q60, q56, q61, q47, q55, q67, q48, q49] }) ({ h := [((2 : Nat), Blk.row false [IntKind.i64] (3 : Nat) q174 q176 q175), q69, q70], next := (3 : Nat) })) ∧ ((((Prod.fst (Prod.fst y1) ≤ na) ∧ ((Prod.snd (Prod.fst y1) ≤ Prod.fst (Prod.fst y1)) ∧ (Prod.snd (Prod.fst y1) ≤ Prod.fst (Prod.snd y1) + (1 : Nat)))) ∧ (DifK q173 na fa fb q174 q175)) ∧ (na - Prod.fst (Prod.fst y1) < na - Prod.fst (Prod.fst y0)))))))))) else (q44 ∧ (t4 (q44 ∧ (q44 ∧ (t4 (q9 ∧ (q13 ∧ (T0 ∧ ((T0 ∧ ((false = false) ∧ (q24 ∧ ((@Eq Nat q148 q148) ∧ ((@Eq Nat q152 q152) ∧ (Prod.snd (Prod.fst y0) + (1 : Nat) ≤ (100000 : Nat))))))) ∧ (∀ y1 : Nat, let q163 := (y1 - (1 : Nat) + (1 : Nat)); let q164 := (7, rsl (4 : Nat) (0 : Nat) q153 q163); ((Prod.snd (Prod.fst y0) + (1 : Nat) ≤ y1) → (T0 ∧ (q158 ∧ ((∃ y2 : Nat, ((Go.Rx.Sub 2 [] ⟨47, [q155, q164, q1, q35, q2, q8, q39, q28, q40, q29, (17, Value.bool true), (16, Value.bool true), q36, q5, q37, q33, q38, q25, q31, q45, q26, q27]⟩ ⟨[q50, q51], 5⟩ ({ n := (47 : Nat), m := [((8 : Nat), vi (↑y2 : Int)), q68, q18, q58, q19, q23, q62, q52, q63, q53, q15, q16, q59, q22, q60, q56, q61, q47, q55, q67, q48, q49] }) ({ h := [q69, q70], next := (2 : Nat) })) ∧ (((y2 ≤ na) ∧ (∀ y3 : Nat, ((y3 < y2) → (@Eq Int (fa y3 (0 : Nat)) (fb y3 (0 : Nat)))))) ∧ (na - y2 < na - Prod.fst (Prod.fst y0))))) ∨ ((∃ y2 : (Nat × Nat) × Nat × RF, let q169 := (Prod.fst (Prod.fst y2)); let q170 := (Prod.snd (Prod.fst y2)); let q171 := (Prod.snd (Prod.snd y2)); let q172 := (Prod.fst (Prod.snd y2) + (1 : Nat)); ((Go.Rx.Sub 2 [q7] ⟨47, [q155, q164, q1, q35, q2, q8, q39, q28, q40, q29, (17, Value.bool true), (16, Value.bool true), q36, q5, q37, q33, q38, q25, q31, q45, q26, q27]⟩ ⟨[(3, Blk.row false [IntKind.i64] (3 : Nat) (1 : Nat) (1 : Nat) q156), q50, q51], 5⟩ ({ n := (47 : Nat), m := [((7 : Nat), rsl (2 : Nat) (0 : Nat) q170 q172), ((8 : Nat), vi (↑q169 : Int)), q18, q58, q19, q23, q62, q52, q63, q53, q15, q16, q59, q22, q60, q56, q61, q47, q55, q67, q48, q49] }) ({ h := [((2 : Nat), Blk.row false [IntKind.i64] (3 : Nat) q170 q172 q171), q69, q70], next := (3 : Nat) })) ∧ ((((Prod.fst (Prod.fst y2) ≤ na) ∧ ((Prod.snd (Prod.fst y2) ≤ Prod.fst (Prod.fst y2)) ∧ (Prod.snd (Prod.fst y2) ≤ Prod.fst (Prod.snd y2) + (1 : Nat)))) ∧ (DifK q169 na fa fb q170 q171)) ∧ (na - Prod.fst (Prod.fst y2) < na - Prod.fst (Prod.fst y0))))) ∨ ((∃ y2 : (Nat × Nat) × Nat × RF, let q165 := (Prod.fst (Prod.fst y2)); let q166 := (Prod.snd (Prod.fst y2)); let q167 := (Prod.snd (Prod.snd y2)); let q168 := (Prod.fst (Prod.snd y2) + (1 : Nat)); ((Go.Rx.Sub 2 [q6] ⟨47, [q155, q164, q1, q35, q2, q8, q39, q28, q40, q29, (17, Value.bool true), (16, Value.bool true), q36, q5, q37, q33, q38, q25, q31, q45, q26, q27]⟩ ⟨[(4, Blk.row false [IntKind.i64] (3 : Nat) q153 q163 (appF q149 q148 q156 (0 : Nat))), q50, q51], 5⟩ ({ n := (47 : Nat), m := [((7 : Nat), rsl (2 : Nat) (0 : Nat) q166 q168), ((8 : Nat), vi (↑q165 : Int)), q18, q58, q19, q23, q62, q52, q63, q53, q15, q16, q59, q22, q60, q56, q61, q47, q55, q67, q48, q49] }) ({ h := [((2 : Nat), Blk.row false [IntKind.i64] (3 : Nat) q166 q168 q167), q69, q70], next := (3 : Nat) })) ∧ ((((Prod.fst (Prod.fst y2) ≤ na) ∧ ((Prod.snd (Prod.fst y2) ≤ Prod.fst (Prod.fst y2)) ∧ (Prod.snd (Prod.fst y2) ≤ Prod.fst (Prod.snd y2) + (1 : Nat)))) ∧ (DifK q165 na fa fb q166 q167)) ∧ (na - Prod.fst (Prod.fst y2) < na - Prod.fst (Prod.fst y0))))) ∨ (∃ y2 : (Nat × Nat) × Nat × RF, let q159 := (Prod.fst (Prod.fst y2)); let q160 := (Prod.snd (Prod.fst y2)); let q161 := (Prod.snd (Prod.snd y2)); let q162 := (Prod.fst (Prod.snd y2) + (1 : Nat)); ((Go.Rx.Sub 2 [q0] ⟨47, [q155, q164, q1, q35, q2, q8, q39, q28, q40, q29, (17, Value.bool true), (16, Value.bool true), q36, q5, q37, q33, q38, q25, q31, q45, q26, q27]⟩ ⟨[q50, q51], 5⟩ ({ n := (47 : Nat), m := [((7 : Nat), rsl (2 : Nat) (0 : Nat) q160 q162), ((8 : Nat), vi (↑q159 : Int)), q18, q58, q19, q23, q62, q52, q63, q53, q15, q16, q59, q22, q60, q56, q61, q47, q55, q67, q48, q49] }) ({ h := [((2 : Nat), Blk.row false [IntKind.i64] (3 : Nat) q160 q162 q161), q69, q70], next := (3 : Nat) })) ∧ ((((Prod.fst (Prod.fst y2) ≤ na) ∧ ((Prod.snd (Prod.fst y2) ≤ Prod.fst (Prod.fst y2)) ∧ (Prod.snd (Prod.fst y2) ≤ Prod.fst (Prod.snd y2) + (1 : Nat)))) ∧ (DifK q159 na fa fb q160 q161)) ∧ (na - Prod.fst (Prod.fst y2) < na - Prod.fst (Prod.fst y0))))))))))))))))))))))))))))))))) else (∃ y1 : Value, (∃ y2 : List Blk, ((Go.Rx.Found 2 (Value.tuple { toList := [rsl (2 : Nat) (0 : Nat) q148 q152, vi (0 : Int)] }) ({ h := [((2 : Nat), Blk.row false [IntKind.i64] (3 : Nat) q148 q152 q149), q69, q70], next := (3 : Nat) }) (y1) (y2)) ∧ (K y1 y2))))))))))) else q74)) else q76)))) else (T0 ∧ (if (@Eq Int (arE na fa) ((0 : Int))) then (((∃ y0 : Nat, ((Go.Rx.Sub 2 [] ⟨47, [q32, q46, q1, q35, q2, (22, Value.tuple { toList := [] }), (21, Value.tuple { toList := [] }), (20, Value.tuple { toList := [] }), (19, Value.tuple { toList := [] }), (18, Value.tuple { toList := [] }), q3, q4, q36, q5, q37, q33, q38, q25, q31, q45, q26, q27]⟩ ⟨[q50, q51], 2⟩ ({ n := (47 : Nat), m := [((8 : Nat), vi (↑y0 : Int)), q68, q18, q58, q19, ((22 : Nat), Value.tuple { toList := [] }), ((21 : Nat), Value.tuple { toList := [] }), ((20 : Nat), Value.tuple { toList := [] }), ((19 : Nat), Value.tuple { toList := [] }), ((18 : Nat), Value.tuple { toList := [] }), q20, q21, q59, q22, q60, q56, q61, q47, q55, q67, q48, q49] }) ({ h := [q69, q70], next := (2 : Nat) })) ∧ ((y0 ≤ na) ∧ (∀ y1 : Nat, ((y1 < y0) → (@Eq Int (fa y1 (0 : Nat)) (fb y1 (0 : Nat)))))))) ∨ (∃ y0 : (Nat × Nat) × Nat × RF, let q144 := (Prod.fst (Prod.fst y0)); let q145 := (Prod.snd (Prod.fst y0)); let q146 := (Prod.snd (Prod.snd y0)); let q147 := (Prod.fst (Prod.snd y0) + (1 : Nat)); ((Go.Rx.Sub 2 [q0] ⟨47, [q32, q46, q1, q35, q2, (22, Value.tuple { toList := [] }), (21, Value.tuple { toList := [] }), (20, Value.tuple { toList := [] }), (19, Value.tuple { toList := [] }), (18, Value.tuple { toList := [] }), q3, q4, q36, q5, q37, q33, q38, q25, q31, q45, q26, q27]⟩ ⟨[q50, q51], 2⟩ ({ n := (47 : Nat), m := [((7 : Nat), rsl (2 : Nat) (0 : Nat) q145 q147), ((8 : Nat), vi (↑q144 : Int)), q18, q58, q19, ((22 : Nat), Value.tuple { toList := [] }), ((21 : Nat), Value.tuple { toList := [] }), ((20 : Nat), Value.tuple { toList := [] }), ((19 : Nat), Value.tuple { toList := [] }), ((18 : Nat), Value.tuple { toList := [] }), q20, q21, q59, q22, q60, q56, q61, q47, q55, q67, q48, q49] }) ({ h := [((2 : Nat), Blk.row false [IntKind.i64] (3 : Nat) q145 q147 q146), q69, q70], next := (3 : Nat) })) ∧ (((Prod.fst (Prod.fst y0) ≤ na) ∧ ((Prod.snd (Prod.fst y0) ≤ Prod.fst (Prod.fst y0)) ∧ (Prod.snd (Prod.fst y0) ≤ Prod.fst (Prod.snd y0) + (1 : Nat)))) ∧ (DifK q144 na fa fb q145 q146))))) ∧ ((∀ y0 : Nat, let q114 := ((0 : Int) ≤ (↑y0 : Int)); let q115 := (8, vi ((↑y0 : Int) + (1 : Int))); let q116 := (litF q11 ([(↑y0 : Int)] ++ [])); let q117 := ((q14 ≤ (↑y0 : Int) + (1 : Int)) ∧ ((↑y0 : Int) + (1 : Int) ≤ q12)); (((y0 ≤ na) ∧ (∀ y1 : Nat, ((y1 < y0) → (@Eq Int (fa y1 (0 : Nat)) (fb y1 (0 : Nat)))))) → (q44 ∧ (T0 ∧ (if ((↑y0 : Int) < (↑na : Int)) then (t4 (q72 ∧ ((q114 ∧ ((↑y0 : Int) < (↑na : Int))) ∧ (T0 ∧ ((y0 < na) ∧ (t3 (q72 ∧ ((q114 ∧ ((↑y0 : Int) < (↑nb : Int))) ∧ (T0 ∧ ((y0 < nb) ∧ (t2 (if (@Eq Int (fa y0 (0 : Nat)) (fb y0 (0 : Nat))) then (T0 ∧ (q117 ∧ ((∃ y1 : Nat, ((Go.Rx.Sub 2 [] ⟨47, [q115, q46, q1, q35, q2, (22, Value.tuple { toList := [] }), (21, Value.tuple { toList := [] }), (20, Value.tuple { toList := [] }), (19, Value.tuple { toList := [] }), (18, Value.tuple { toList := [] }), q3, q4, q36, q5, q37, q33, q38, q25, q31, q45, q26, q27]⟩ ⟨[q50, q51], 2⟩ ({ n := (47 : Nat), m := [((8 : Nat), vi (↑y1 : Int)), q68, q18, q58, q19, ((22 : Nat), Value.tuple { toList := [] }), ((21 : Nat), Value.tuple { toList := [] }), ((20 : Nat), Value.tuple { toList := [] }), ((19 : Nat), Value.tuple { toList := [] }), ((18 : Nat), Value.tuple { toList := [] }), q20, q21, q59, q22, q60, q56, q61, q47, q55, q67, q48, q49] }) ({ h := [q69, q70], next := (2 : Nat) })) ∧ (((y1 ≤ na) ∧ (∀ y2 : Nat, ((y2 < y1) → (@Eq Int (fa y2 (0 : Nat)) (fb y2 (0 : Nat)))))) ∧ (na - y1 < na - y0)))) ∨ ((∃ y1 : (Nat × Nat) × Nat × RF, let q140 := (Prod.fst (Prod.fst y1)); let q141 := (Prod.snd (Prod.fst y1)); let q142 := (Prod.snd (Prod.snd y1)); let q143 := (Prod.fst (Prod.snd y1) + (1 : Nat)); ((Go.Rx.Sub 2 [q7] ⟨47, [q115, q46, q1, q35, q2, (22, Value.tuple { toList := [] }), (21, Value.tuple { toList := [] }), (20, Value.tuple { toList := [] }), (19, Value.tuple { toList := [] }), (18, Value.tuple { toList := [] }), q3, q4, q36, q5, q37, q33, q38, q25, q31, q45, q26, q27]⟩ ⟨[q50, q51], 2⟩ ({ n := (47 : Nat), m := [((7 : Nat), rsl (2 : Nat) (0 : Nat) q141 q143), ((8 : Nat), vi (↑q140 : Int)), q18, q58, q19, ((22 : Nat), Value.tuple { toList := [] }), ((21 : Nat), Value.tuple { toList := [] }), ((20 : Nat), Value.tuple { toList := [] }), ((19 : Nat), Value.tuple { toList := [] }), ((18 : Nat), Value.tuple { toList := [] }), q20, q21, q59, q22, q60, q56, q61, q47, q55, q67, q48, q49] }) ({ h := [((2 : Nat), Blk.row false [IntKind.i64] (3 : Nat) q141 q143 q142), q69, q70], next := (3 : Nat) })) ∧ ((((Prod.fst (Prod.fst y1) ≤ na) ∧ ((Prod.snd (Prod.fst y1) ≤ Prod.fst (Prod.fst y1)) ∧ (Prod.snd (Prod.fst y1) ≤ Prod.fst (Prod.snd y1) + (1 : Nat)))) ∧ (DifK q140 na fa fb q141 q142)) ∧ (na - Prod.fst (Prod.fst y1) < na - y0)))) ∨ ((∃ y1 : (Nat × Nat) × Nat × RF, let q136 := (Prod.fst (Prod.fst y1)); let q137 := (Prod.snd (Prod.fst y1)); let q138 := (Prod.snd (Prod.snd y1)); let q139 := (Prod.fst (Prod.snd y1) + (1 : Nat)); ((Go.Rx.Sub 2 [q6] ⟨47, [q115, q46, q1, q35, q2, (22, Value.tuple { toList := [] }), (21, Value.tuple { toList := [] }), (20, Value.tuple { toList := [] }), (19, Value.tuple { toList := [] }), (18, Value.tuple { toList := [] }), q3, q4, q36, q5, q37, q33, q38, q25, q31, q45, q26, q27]⟩ ⟨[q50, q51], 2⟩ ({ n := (47 : Nat), m := [((7 : Nat), rsl (2 : Nat) (0 : Nat) q137 q139), ((8 : Nat), vi (↑q136 : Int)), q18, q58, q19, ((22 : Nat), Value.tuple { toList := [] }), ((21 : Nat), Value.tuple { toList := [] }), ((20 : Nat), Value.tuple { toList := [] }), ((19 : Nat), Value.tuple { toList := [] }), ((18 : Nat), Value.tuple { toList := [] }), q20, q21, q59, q22, q60, q56, q61, q47, q55, q67, q48, q49] }) ({ h := [((2 : Nat), Blk.row false [IntKind.i64] (3 : Nat) q137 q139 q138), q69, q70], next := (3 : Nat) })) ∧ ((((Prod.fst (Prod.fst y1) ≤ na) ∧ ((Prod.snd (Prod.fst y1) ≤ Prod.fst (Prod.fst y1)) ∧ (Prod.snd (Prod.fst y1) ≤ Prod.fst (Prod.snd y1) + (1 : Nat)))) ∧ (DifK q136 na fa fb q137 q138)) ∧ (na - Prod.fst (Prod.fst y1) < na - y0)))) ∨ (∃ y1 : (Nat × Nat) × Nat × RF, let q132 := (Prod.fst (Prod.fst y1)); let q133 := (Prod.snd (Prod.fst y1)); let q134 := (Prod.snd (Prod.snd y1)); let q135 := (Prod.fst (Prod.snd y1) + (1 : Nat)); ((Go.Rx.Sub 2 [q0] ⟨47, [q115, q46, q1, q35, q2, (22, Value.tuple { toList := [] }), (21, Value.tuple { toList := [] }), (20, Value.tuple { toList := [] }), (19, Value.tuple { toList := [] }), (18, Value.tuple { toList := [] }), q3, q4, q36, q5, q37, q33, q38, q25, q31, q45, q26, q27]⟩ ⟨[q50, q51], 2⟩ ({ n := (47 : Nat), m := [((7 : Nat), rsl (2 : Nat) (0 : Nat) q133 q135), ((8 : Nat), vi (↑q132 : Int)), q18, q58, q19, ((22 : Nat), Value.tuple { toList := [] }), ((21 : Nat), Value.tuple { toList := [] }), ((20 : Nat), Value.tuple { toList := [] }), ((19 : Nat), Value.tuple { toList := [] }), ((18 : Nat), Value.tuple { toList := [] }), q20, q21, q59, q22, q60, q56, q61, q47, q55, q67, q48, q49] }) ({ h := [((2 : Nat), Blk.row false [IntKind.i64] (3 : Nat) q133 q135 q134), q69, q70], next := (3 : Nat) })) ∧ ((((Prod.fst (Prod.fst y1) ≤ na) ∧ ((Prod.snd (Prod.fst y1) ≤ Prod.fst (Prod.fst y1)) ∧ (Prod.snd (Prod.fst y1) ≤ Prod.fst (Prod.snd y1) + (1 : Nat)))) ∧ (DifK q132 na fa fb q133 q134)) ∧ (na - Prod.fst (Prod.fst y1) < na - y0))))))))) else (q44 ∧ (t4 (q44 ∧ (q44 ∧ (t4 (q9 ∧ (q13 ∧ (∀ y1 : Nat, let q122 := (y1 - (1 : Nat) + (1 : Nat)); let q123 := (7, rsl (3 : Nat) (0 : Nat) (1 : Nat) q122); (((1 : Nat) ≤ y1) → (T0 ∧ (q117 ∧ ((∃ y2 : Nat, ((Go.Rx.Sub 2 [] ⟨47, [q115, q123, q1, q35, q2, (22, Value.tuple { toList := [] }), (21, Value.tuple { toList := [] }), (20, Value.tuple { toList := [] }), (19, Value.tuple { toList := [] }), (18, Value.tuple { toList := [] }), q3, q4, q36, q5, q37, q33, q38, q25, q31, q45, q26, q27]⟩ ⟨[q50, q51], 4⟩ ({ n := (47 : Nat), m := [((8 : Nat), vi (↑y2 : Int)), q68, q18, q58, q19, ((22 : Nat), Value.tuple { toList := [] }), ((21 : Nat), Value.tuple { toList := [] }), ((20 : Nat), Value.tuple { toList := [] }), ((19 : Nat), Value.tuple { toList := [] }), ((18 : Nat), Value.tuple { toList := [] }), q20, q21, q59, q22, q60, q56, q61, q47, q55, q67, q48, q49] }) ({ h := [q69, q70], next := (2 : Nat) })) ∧ (((y2 ≤ na) ∧ (∀ y3 : Nat, ((y3 < y2) → (@Eq Int (fa y3 (0 : Nat)) (fb y3 (0 : Nat)))))) ∧ (na - y2 < na - y0)))) ∨ ((∃ y2 : (Nat × Nat) × Nat × RF, let q128 := (Prod.fst (Prod.fst y2)); let q129 := (Prod.snd (Prod.fst y2)); let q130 := (Prod.snd (Prod.snd y2)); let q131 := (Prod.fst (Prod.snd y2) + (1 : Nat)); ((Go.Rx.Sub 2 [q7] ⟨47, [q115, q123, q1, q35, q2, (22, Value.tuple { toList := [] }), (21, Value.tuple { toList := [] }), (20, Value.tuple { toList := [] }), (19, Value.tuple { toList := [] }), (18, Value.tuple { toList := [] }), q3, q4, q36, q5, q37, q33, q38, q25, q31, q45, q26, q27]⟩ ⟨[(3, Blk.row false [IntKind.i64] (3 : Nat) (1 : Nat) q122 (appF (fun x x_1 ↦ (0 : Int)) (0 : Nat) q116 (0 : Nat))), q50, q51], 4⟩ ({ n := (47 : Nat), m := [((7 : Nat), rsl (2 : Nat) (0 : Nat) q129 q131), ((8 : Nat), vi (↑q128 : Int)), q18, q58, q19, ((22 : Nat), Value.tuple { toList := [] }), ((21 : Nat), Value.tuple { toList := [] }), ((20 : Nat), Value.tuple { toList := [] }), ((19 : Nat), Value.tuple { toList := [] }), ((18 : Nat), Value.tuple { toList := [] }), q20, q21, q59, q22, q60, q56, q61, q47, q55, q67, q48, q49] }) ({ h := [((2 : Nat), Blk.row false [IntKind.i64] (3 : Nat) q129 q131 q130), q69, q70], next := (3 : Nat) })) ∧ ((((Prod.fst (Prod.fst y2) ≤ na) ∧ ((Prod.snd (Prod.fst y2) ≤ Prod.fst (Prod.fst y2)) ∧ (Prod.snd (Prod.fst y2) ≤ Prod.fst (Prod.snd y2) + (1 : Nat)))) ∧ (DifK q128 na fa fb q129 q130)) ∧ (na - Prod.fst (Prod.fst y2) < na - y0)))) ∨ ((∃ y2 : (Nat × Nat) × Nat × RF, let q124 := (Prod.fst (Prod.fst y2)); let q125 := (Prod.snd (Prod.fst y2)); let q126 := (Prod.snd (Prod.snd y2)); let q127 := (Prod.fst (Prod.snd y2) + (1 : Nat)); ((Go.Rx.Sub 2 [q6] ⟨47, [q115, q123, q1, q35, q2, (22, Value.tuple { toList := [] }), (21, Value.tuple { toList := [] }), (20, Value.tuple { toList := [] }), (19, Value.tuple { toList := [] }), (18, Value.tuple { toList := [] }), q3, q4, q36, q5, q37, q33, q38, q25, q31, q45, q26, q27]⟩ ⟨[q50, q51], 4⟩ ({ n := (47 : Nat), m := [((7 : Nat), rsl (2 : Nat) (0 : Nat) q125 q127), ((8 : Nat), vi (↑q124 : Int)), q18, q58, q19, ((22 : Nat), Value.tuple { toList := [] }), ((21 : Nat), Value.tuple { toList := [] }), ((20 : Nat), Value.tuple { toList := [] }), ((19 : Nat), Value.tuple { toList := [] }), ((18 : Nat), Value.tuple { toList := [] }), q20, q21, q59, q22, q60, q56, q61, q47, q55, q67, q48, q49] }) ({ h := [((2 : Nat), Blk.row false [IntKind.i64] (3 : Nat) q125 q127 q126), q69, q70], next := (3 : Nat) })) ∧ ((((Prod.fst (Prod.fst y2) ≤ na) ∧ ((Prod.snd (Prod.fst y2) ≤ Prod.fst (Prod.fst y2)) ∧ (Prod.snd (Prod.fst y2) ≤ Prod.fst (Prod.snd y2) + (1 : Nat)))) ∧ (DifK q124 na fa fb q125 q126)) ∧ (na - Prod.fst (Prod.fst y2) < na - y0)))) ∨ (∃ y2 : (Nat × Nat) × Nat × RF, let q118 := (Prod.fst (Prod.fst y2)); let q119 := (Prod.snd (Prod.fst y2)); let q120 := (Prod.snd (Prod.snd y2)); let q121 := (Prod.fst (Prod.snd y2) + (1 : Nat)); ((Go.Rx.Sub 2 [q0] ⟨47, [q115, q123, q1, q35, q2, (22, Value.tuple { toList := [] }), (21, Value.tuple { toList := [] }), (20, Value.tuple { toList := [] }), (19, Value.tuple { toList := [] }), (18, Value.tuple { toList := [] }), q3, q4, q36, q5, q37, q33, q38, q25, q31, q45, q26, q27]⟩ ⟨[(2, Blk.row false [IntKind.i64] (3 : Nat) (1 : Nat) (1 : Nat) q116), q50, q51], 4⟩ ({ n := (47 : Nat), m := [((7 : Nat), rsl (2 : Nat) (0 : Nat) q119 q121), ((8 : Nat), vi (↑q118 : Int)), q18, q58, q19, ((22 : Nat), Value.tuple { toList := [] }), ((21 : Nat), Value.tuple { toList := [] }), ((20 : Nat), Value.tuple { toList := [] }), ((19 : Nat), Value.tuple { toList := [] }), ((18 : Nat), Value.tuple { toList := [] }), q20, q21, q59, q22, q60, q56, q61, q47, q55, q67, q48, q49] }) ({ h := [((2 : Nat), Blk.row false [IntKind.i64] (3 : Nat) q119 q121 q120), q69, q70], next := (3 : Nat) })) ∧ ((((Prod.fst (Prod.fst y2) ≤ na) ∧ ((Prod.snd (Prod.fst y2) ≤ Prod.fst (Prod.fst y2)) ∧ (Prod.snd (Prod.fst y2) ≤ Prod.fst (Prod.snd y2) + (1 : Nat)))) ∧ (DifK q118 na fa fb q119 q120)) ∧ (na - Prod.fst (Prod.fst y2) < na - y0)))))))))))))))))))))))))))))) else q73))))) ∧ (∀ y0 : (Nat × Nat) × Nat × RF, let q77 := (Prod.snd (Prod.fst y0)); let q78 := (Prod.snd (Prod.snd y0)); let q79 := (Prod.fst (Prod.fst y0)); let q80 := (↑q79 : Int); let q81 := (Prod.fst (Prod.snd y0) + (1 : Nat)); let q82 := (Prod.snd (Prod.fst y0) + (1 : Nat)); let q83 := ((0 : Int) ≤ q80); let q84 := (8, vi (q80 + (1 : Int))); let q85 := (litF q11 ([q80] ++ [])); let q86 := (7, rsl (2 : Nat) (0 : Nat) q77 q81); let q87 := ((q14 ≤ q80 + (1 : Int)) ∧ (q80 + (1 : Int) ≤ q12)); ((((Prod.fst (Prod.fst y0) ≤ na) ∧ ((Prod.snd (Prod.fst y0) ≤ Prod.fst (Prod.fst y0)) ∧ (Prod.snd (Prod.fst y0) ≤ Prod.fst (Prod.snd y0) + (1 : Nat)))) ∧ (DifK q79 na fa fb q77 q78)) → (q44 ∧ (T0 ∧ (if (q80 < (↑na : Int)) then (t4 (q72 ∧ ((q83 ∧ (q80 < (↑na : Int))) ∧ (T0 ∧ ((Prod.fst (Prod.fst y0) < na) ∧ (t3 (q72 ∧ ((q83 ∧ (q80 < (↑nb : Int))) ∧ (T0 ∧ ((Prod.fst (Prod.fst y0) < nb) ∧ (t2 (if (@Eq Int (fa q79 (0 : Nat)) (fb q79 (0 : Nat))) then (T0 ∧ (q87 ∧ ((∃ y1 : Nat, ((Go.Rx.Sub 2 [] ⟨47, [q84, q86, q1, q35, q2, (22, Value.tuple { toList := [] }), (21, Value.tuple { toList := [] }), (20, Value.tuple { toList := [] }), (19, Value.tuple { toList := [] }), (18, Value.tuple { toList := [] }), q3, q4, q36, q5, q37, q33, q38, q25, q31, q45, q26, q27]⟩ ⟨[q50, q51], 3⟩ ({ n := (47 : Nat), m := [((8 : Nat), vi (↑y1 : Int)), q68, q18, q58, q19, ((22 : Nat), Value.tuple { toList := [] }), ((21 : Nat), Value.tuple { toList := [] }), ((20 : Nat), Value.tuple { toList := [] }), ((19 : Nat), Value.tuple { toList := [] }), ((18 : Nat), Value.tuple { toList := [] }), q20, q21, q59, q22, q60, q56, q61, q47, q55, q67, q48, q49] }) ({ h := [q69, q70], next := (2 : Nat) })) ∧ (((y1 ≤ na) ∧ (∀ y2 : Nat, ((y2 < y1) → (@Eq Int (fa y2 (0 : Nat)) (fb y2 (0 : Nat)))))) ∧ (na - y1 < na - Prod.fst (Prod.fst y0))))) ∨ ((∃ y1 : (Nat × Nat) × Nat × RF, let q110 := (Prod.fst (Prod.fst y1)); let q111 := (Prod.snd (Prod.fst y1)); let q112 := (Prod.snd (Prod.snd y1)); let q113 := (Prod.fst (Prod.snd y1) + (1 : Nat)); ((Go.Rx.Sub 2 [q7] ⟨47, [q84, q86, q1, q35, q2, (22, Value.tuple { toList := [] }), (21, Value.tuple { toList := [] }), (20, Value.tuple { toList := [] }), (19, Value.tuple { toList := [] }), (18, Value.tuple { toList := [] }), q3, q4, q36, q5, q37, q33, q38, q25, q31, q45, q26, q27]⟩ ⟨[q50, q51], 3⟩ ({ n := (47 : Nat), m := [((7 : Nat), rsl (2 : Nat) (0 : Nat) q111 q113), ((8 : Nat), vi (↑q110 : Int)), q18, q58, q19, ((22 : Nat), Value.tuple { toList := [] }), ((21 : Nat), Value.tuple { toList := [] }), ((20 : Nat), Value.tuple { toList := [] }), ((19 : Nat), Value.tuple { toList := [] }), ((18 : Nat), Value.tuple { toList := [] }), q20, q21, q59, q22, q60, q56, q61, q47, q55, q67, q48, q49] }) ({ h := [((2 : Nat), Blk.row false [IntKind.i64] (3 : Nat) q111 q113 q112), q69, q70], next := (3 : Nat) })) ∧ ((((Prod.fst (Prod.fst y1) ≤ na) ∧ ((Prod.snd (Prod.fst y1) ≤ Prod.fst (Prod.fst y1)) ∧ (Prod.snd (Prod.fst y1) ≤ Prod.fst (Prod.snd y1) + (1 : Nat)))) ∧ (DifK q110 na fa fb q111 q112)) ∧ (na - Prod.fst (Prod.fst y1) < na - Prod.fst (Prod.fst y0))))) ∨ ((∃ y1 : (Nat × Nat) × Nat × RF, let q106 := (Prod.fst (Prod.fst y1)); let q107 := (Prod.snd (Prod.fst y1)); let q108 := (Prod.snd (Prod.snd y1)); let q109 := (Prod.fst (Prod.snd y1) + (1 : Nat)); ((Go.Rx.Sub 2 [q6] ⟨47, [q84, q86, q1, q35, q2, (22, Value.tuple { toList := [] }), (21, Value.tuple { toList := [] }), (20, Value.tuple { toList := [] }), (19, Value.tuple { toList := [] }), (18, Value.tuple { toList := [] }), q3, q4, q36, q5, q37, q33, q38, q25, q31, q45, q26, q27]⟩ ⟨[q50, q51], 3⟩ ({ n := (47 : Nat), m := [((7 : Nat), rsl (2 : Nat) (0 : Nat) q107 q109), ((8 : Nat), vi (↑q106 : Int)), q18, q58, q19, ((22 : Nat), Value.tuple { toList := [] }), ((21 : Nat), Value.tuple { toList := [] }), ((20 : Nat), Value.tuple { toList := [] }), ((19 : Nat), Value.tuple { toList := [] }), ((18 : Nat), Value.tuple { toList := [] }), q20, q21, q59, q22, q60, q56, q61, q47, q55, q67, q48, q49] }) ({ h := [((2 : Nat), Blk.row false [IntKind.i64] (3 : Nat) q107 q109 q108), q69, q70], next := (3 : Nat) })) ∧ ((((Prod.fst (Prod.fst y1) ≤ na) ∧ ((Prod.snd (Prod.fst y1) ≤ Prod.fst (Prod.fst y1)) ∧ (Prod.snd (Prod.fst y1) ≤ Prod.fst (Prod.snd y1) + (1 : Nat)))) ∧ (DifK q106 na fa fb q107 q108)) ∧ (na - Prod.fst (Prod.fst y1) < na - Prod.fst (Prod.fst y0))))) ∨ (∃ y1 : (Nat × Nat) × Nat × RF, let q102 := (Prod.fst (Prod.fst y1)); let q103 := (Prod.snd (Prod.fst y1)); let q104 := (Prod.snd (Prod.snd y1)); let q105 := (Prod.fst (Prod.snd y1) + (1 : Nat)); ((Go.Rx.Sub 2 [q0] ⟨47, [q84, q86, q1, q35, q2, (22, Value.tuple { toList := [] }), (21, Value.tuple { toList := [] }), (20, Value.tuple { toList := [] }), (19, Value.tuple { toList := [] }), (18, Value.tuple { toList := [] }), q3, q4, q36, q5, q37, q33, q38, q25, q31, q45, q26, q27]⟩ ⟨[(2, Blk.row false [IntKind.i64] (3 : Nat) q77 q81 q78), q50, q51], 3⟩ ({ n := (47 : Nat), m := [((7 : Nat), rsl (2 : Nat) (0 : Nat) q103 q105), ((8 : Nat), vi (↑q102 : Int)), q18, q58, q19, ((22 : Nat), Value.tuple { toList := [] }), ((21 : Nat), Value.tuple { toList := [] }), ((20 : Nat), Value.tuple { toList := [] }), ((19 : Nat), Value.tuple { toList := [] }), ((18 : Nat), Value.tuple { toList := [] }), q20, q21, q59, q22, q60, q56, q61, q47, q55, q67, q48, q49] }) ({ h := [((2 : Nat), Blk.row false [IntKind.i64] (3 : Nat) q103 q105 q104), q69, q70], next := (3 : Nat) })) ∧ ((((Prod.fst (Prod.fst y1) ≤ na) ∧ ((Prod.snd (Prod.fst y1) ≤ Prod.fst (Prod.fst y1)) ∧ (Prod.snd (Prod.fst y1) ≤ Prod.fst (Prod.snd y1) + (1 : Nat)))) ∧ (DifK q102 na fa fb q103 q104)) ∧ (na - Prod.fst (Prod.fst y1) < na - Prod.fst (Prod.fst y0)))))))))) else (q44 ∧ (t4 (q44 ∧ (q44 ∧ (t4 (q9 ∧ (q13 ∧ (T0 ∧ ((T0 ∧ ((false = false) ∧ (q24 ∧ ((@Eq Nat q77 q77) ∧ ((@Eq Nat q81 q81) ∧ (Prod.snd (Prod.fst y0) + (1 : Nat) ≤ (100000 : Nat))))))) ∧ (∀ y1 : Nat, let q92 := (y1 - (1 : Nat) + (1 : Nat)); let q93 := (7, rsl (4 : Nat) (0 : Nat) q82 q92); ((Prod.snd (Prod.fst y0) + (1 : Nat) ≤ y1) → (T0 ∧ (q87 ∧ ((∃ y2 : Nat, ((Go.Rx.Sub 2 [] ⟨47, [q84, q93, q1, q35, q2, (22, Value.tuple { toList := [] }), (21, Value.tuple { toList := [] }), (20, Value.tuple { toList := [] }), (19, Value.tuple { toList := [] }), (18, Value.tuple { toList := [] }), q3, q4, q36, q5, q37, q33, q38, q25, q31, q45, q26, q27]⟩ ⟨[q50, q51], 5⟩ ({ n := (47 : Nat), m := [((8 : Nat), vi (↑y2 : Int)), q68, q18, q58, q19, ((22 : Nat), Value.tuple { toList := [] }), ((21 : Nat), Value.tuple { toList := [] }), ((20 : Nat), Value.tuple { toList := [] }), ((19 : Nat), Value.tuple { toList := [] }), ((18 : Nat), Value.tuple { toList := [] }), q20, q21, q59, q22, q60, q56, q61, q47, q55, q67, q48, q49] }) ({ h := [q69, q70], next := (2 : Nat) })) ∧ (((y2 ≤ na) ∧ (∀ y3 : Nat, ((y3 < y2) → (@Eq Int (fa y3 (0 : Nat)) (fb y3 (0 : Nat)))))) ∧ (na - y2 < na - Prod.fst (Prod.fst y0))))) ∨ ((∃ y2 : (Nat × Nat) × Nat × RF, let q98 := (Prod.fst (Prod.fst y2)); let q99 := (Prod.snd (Prod.fst y2)); let q100 := (Prod.snd (Prod.snd y2)); let q101 := (Prod.fst (Prod.snd y2) + (1 : Nat)); ((Go.Rx.Sub 2 [q7] ⟨47, [q84, q93, q1, q35, q2, (22, Value.tuple { toList := [] }), (21, Value.tuple { toList := [] }), (20, Value.tuple { toList := [] }), (19, Value.tuple { toList := [] }), (18, Value.tuple { toList := [] }), q3, q4, q36, q5, q37, q33, q38, q25, q31, q45, q26, q27]⟩ ⟨[(3, Blk.row false [IntKind.i64] (3 : Nat) (1 : Nat) (1 : Nat) q85), q50, q51], 5⟩ ({ n := (47 : Nat), m := [((7 : Nat), rsl (2 : Nat) (0 : Nat) q99 q101), ((8 : Nat), vi (↑q98 : Int)), q18, q58, q19, ((22 : Nat), Value.tuple { toList := [] }), ((21 : Nat), Value.tuple { toList := [] }), ((20 : Nat), Value.tuple { toList := [] }), ((19 : Nat), Value.tuple { toList := [] }), ((18 : Nat), Value.tuple { toList := [] }), q20, q21, q59, q22, q60, q56, q61, q47, q55, q67, q48, q49] }) ({ h := [((2 : Nat), Blk.row false [IntKind.i64] (3 : Nat) q99 q101 q100), q69, q70], next := (3 : Nat) })) ∧ ((((Prod.fst (Prod.fst y2) ≤ na) ∧ ((Prod.snd (Prod.fst y2) ≤ Prod.fst (Prod.fst y2)) ∧ (Prod.snd (Prod.fst y2) ≤ Prod.fst (Prod.snd y2) + (1 : Nat)))) ∧ (DifK q98 na fa fb q99 q100)) ∧ (na - Prod.fst (Prod.fst y2) < na - Prod.fst (Prod.fst y0))))) ∨ ((∃ y2 : (Nat × Nat) × Nat × RF, let q94 := (Prod.fst (Prod.fst y2)); let q95 := (Prod.snd (Prod.fst y2)); let q96 := (Prod.snd (Prod.snd y2)); let q97 := (Prod.fst (Prod.snd y2) + (1 : Nat)); ((Go.Rx.Sub 2 [q6] ⟨47, [q84, q93, q1, q35, q2, (22, Value.tuple { toList := [] }), (21, Value.tuple { toList := [] }), (20, Value.tuple { toList := [] }), (19, Value.tuple { toList := [] }), (18, Value.tuple { toList := [] }), q3, q4, q36, q5, q37, q33, q38, q25, q31, q45, q26, q27]⟩ ⟨[(4, Blk.row false [IntKind.i64] (3 : Nat) q82 q92 (appF q78 q77 q85 (0 : Nat))), q50, q51], 5⟩ ({ n := (47 : Nat), m := [((7 : Nat), rsl (2 : Nat) (0 : Nat) q95 q97), ((8 : Nat), vi (↑q94 : Int)), q18, q58, q19, ((22 : Nat), Value.tuple { toList := [] }), ((21 : Nat), Value.tuple { toList := [] }), ((20 : Nat), Value.tuple { toList := [] }), ((19 : Nat), Value.tuple { toList := [] }), ((18 : Nat), Value.tuple { toList := [] }), q20, q21, q59, q22, q60, q56, q61, q47, q55, q67, q48, q49] }) ({ h := [((2 : Nat), Blk.row false [IntKind.i64] (3 : Nat) q95 q97 q96), q69, q70], next := (3 : Nat) })) ∧ ((((Prod.fst (Prod.fst y2) ≤ na) ∧ ((Prod.snd (Prod.fst y2) ≤ Prod.fst (Prod.fst y2)) ∧ (Prod.snd (Prod.fst y2) ≤ Prod.fst (Prod.snd y2) + (1 : Nat)))) ∧ (DifK q94 na fa fb q95 q96)) ∧ (na - Prod.fst (Prod.fst y2) < na - Prod.fst (Prod.fst y0))))) ∨ (∃ y2 : (Nat × Nat) × Nat × RF, let q88 := (Prod.fst (Prod.fst y2)); let q89 := (Prod.snd (Prod.fst y2)); let q90 := (Prod.snd (Prod.snd y2)); let q91 := (Prod.fst (Prod.snd y2) + (1 : Nat)); ((Go.Rx.Sub 2 [q0] ⟨47, [q84, q93, q1, q35, q2, (22, Value.tuple { toList := [] }), (21, Value.tuple { toList := [] }), (20, Value.tuple { toList := [] }), (19, Value.tuple { toList := [] }), (18, Value.tuple { toList := [] }), q3, q4, q36, q5, q37, q33, q38, q25, q31, q45, q26, q27]⟩ ⟨[q50, q51], 5⟩ ({ n := (47 : Nat), m := [((7 : Nat), rsl (2 : Nat) (0 : Nat) q89 q91), ((8 : Nat), vi (↑q88 : Int)), q18, q58, q19, ((22 : Nat), Value.tuple { toList := [] }), ((21 : Nat), Value.tuple { toList := [] }), ((20 : Nat), Value.tuple { toList := [] }), ((19 : Nat), Value.tuple { toList := [] }), ((18 : Nat), Value.tuple { toList := [] }), q20, q21, q59, q22, q60, q56, q61, q47, q55, q67, q48, q49] }) ({ h := [((2 : Nat), Blk.row false [IntKind.i64] (3 : Nat) q89 q91 q90), q69, q70], next := (3 : Nat) })) ∧ ((((Prod.fst (Prod.fst y2) ≤ na) ∧ ((Prod.snd (Prod.fst y2) ≤ Prod.fst (Prod.fst y2)) ∧ (Prod.snd (Prod.fst y2) ≤ Prod.fst (Prod.snd y2) + (1 : Nat)))) ∧ (DifK q88 na fa fb q89 q90)) ∧ (na - Prod.fst (Prod.fst y2) < na - Prod.fst (Prod.fst y0))))))))))))))))))))))))))))))))) else (∃ y1 : Value, (∃ y2 : List Blk, ((Go.Rx.Found 2 (Value.tuple { toList := [rsl (2 : Nat) (0 : Nat) q77 q81, vi (0 : Int)] }) ({ h := [((2 : Nat), Blk.row false [IntKind.i64] (3 : Nat) q77 q81 q78), q69, q70], next := (3 : Nat) }) (y1) (y2)) ∧ (K y1 y2))))))))))) else q74))))))))))))
theorem dfR_rrE (ea na ca : Nat) (fa : RF) (eb nb cb : Nat) (fb : RF) (K : Value → List Blk → Prop) : dfR_rrV ea na ca fa eb nb cb fb K = bodyX (mk XK) (callN (mk XK) 6) (dfR_rrA ea na ca fa eb nb cb fb) Try.f37 [rsl 0 0 na ca, rsl 1 0 nb cb] (stOf [.row true [.u64] ea na ca fa, .row true [.u64] eb nb cb fb]) (Fd 2 K) := by kernel_rfl
set_option tactic.hygienic false in
theorem dfR_rrP (ea na ca : Nat) (fa : RF) (eb nb cb : Nat) (fb : RF) (K : Value → List Blk → Prop)  (hna : na ≤ 100000) (hca : na ≤ ca) (hnb : nb ≤ 100000) (hcb : nb ≤ cb) (h1 : arE na fa = 0) (h2 : arE nb fb = 0) (h3 : na = nb) (h4 : ¬ eqF na fa fb) (h : ∀ (m : Nat) (l : RF), DifL na fa fb m l → ∀ cp, m ≤ cp → K (.tuple ⟨[rsl 2 0 m cp, .int .i64 0]⟩) [.row false [.i64] 3 m cp l]) : dfR_rrV ea na ca fa eb nb cb fb K := by
  unfold dfR_rrV
  conv => zeta

  repeat' (first | (with_reducible exact rfl) | (with_reducible exact trivial) | (with_reducible refine And.intro ?_ ?_) | (intro) | (with_reducible refine br_d (fun hq => ?_) (fun hq => ?_)) | (with_reducible refine br_nd (fun hq => ?_) (fun hq => ?_)) | (with_reducible refine br_intro (fun hq => ?_) (fun hq => ?_)) | (with_reducible refine if_both (fun hz => ?_) (fun hz => ?_)) | fail)
  all_goals try (rename (Nat × Nat) × Nat × RF => k; rename _ ∧ DifK _ _ _ _ _ _ => I; obtain ⟨⟨k0, k1⟩, k2, k3⟩ := k; dsimp only at *; obtain ⟨⟨J1, J2, J3⟩, I2⟩ := I)
  all_goals try (rename _ ∧ eqF _ _ _ => I; obtain ⟨J1, I2⟩ := I)
  all_goals first
    | (with_reducible assumption)
    | (refine (id ?_ : ∃ (v1 : Value) (news : List Blk), _)
       first
        | contradiction
        | exact .inl ⟨0, (by (refine And.intro (And.intro rfl (And.intro rfl (And.intro rfl rfl))) ?_; (repeat' (first | exact trivial | exact rfl | exact fun _ _ _ _ => rfl | refine And.intro ?_ ?_ | omega | fail)); done)), Nat.zero_le _, fun i hi => absurd hi (Nat.not_lt_zero i)⟩
        | exact ⟨0, (by (refine And.intro (And.intro rfl (And.intro rfl (And.intro rfl rfl))) ?_; (repeat' (first | exact trivial | exact rfl | exact fun _ _ _ _ => rfl | refine And.intro ?_ ?_ | omega | fail)); done)), Nat.zero_le _, fun i hi => absurd hi (Nat.not_lt_zero i)⟩
        | exact .inl ⟨y0 + 1, (by (refine And.intro (And.intro rfl (And.intro rfl (And.intro rfl rfl))) ?_; (repeat' (first | exact trivial | exact rfl | exact fun _ _ _ _ => rfl | refine And.intro ?_ ?_ | omega | fail)); done)), ⟨by omega, eq_next I2 (by assumption)⟩, by omega⟩
        | exact ⟨y0 + 1, (by (refine And.intro (And.intro rfl (And.intro rfl (And.intro rfl rfl))) ?_; (repeat' (first | exact trivial | exact rfl | exact fun _ _ _ _ => rfl | refine And.intro ?_ ?_ | omega | fail)); done)), ⟨by omega, eq_next I2 (by assumption)⟩, by omega⟩
        | exact .inr (.inl ⟨((y0 + 1, 1), y1 - 1, appF (fun _ _ => 0) 0 (litF 1 [(y0 : Int)]) 0), (by (refine And.intro (And.intro rfl (And.intro rfl (And.intro rfl rfl))) ?_; (repeat' (first | exact trivial | exact rfl | exact fun _ _ _ _ => rfl | refine And.intro ?_ ?_ | omega | fail)); done)), ⟨⟨by show y0 + 1 ≤ na; omega, by show 1 ≤ y0 + 1; omega, by show 1 ≤ y1 - 1 + 1; omega⟩, DifK.one rfl (by assumption)⟩, by show na - (y0 + 1) < na - y0; omega⟩)
        | exact .inr (.inr (.inl ⟨((k0 + 1, k1 + 1), y1 - 1, appF k3 k1 (litF 1 [(k0 : Int)]) 0), (by (refine And.intro (And.intro rfl (And.intro rfl (And.intro rfl rfl))) ?_; (repeat' (first | exact trivial | exact rfl | exact fun _ _ _ _ => rfl | refine And.intro ?_ ?_ | omega | fail)); done)), ⟨⟨by show k0 + 1 ≤ na; omega, by show k1 + 1 ≤ k0 + 1; omega, by show k1 + 1 ≤ y1 - 1 + 1; omega⟩, I2.more rfl (by assumption)⟩, by show na - (k0 + 1) < na - k0; omega⟩))
        | exact .inr (.inr (.inr ⟨((k0 + 1, k1), k2, k3), (by (refine And.intro (And.intro rfl (And.intro rfl (And.intro rfl rfl))) ?_; (repeat' (first | exact trivial | exact rfl | exact fun _ _ _ _ => rfl | refine And.intro ?_ ?_ | omega | fail)); done)), ⟨⟨by show k0 + 1 ≤ na; omega, by show k1 ≤ k0 + 1; omega, J3⟩, I2.next⟩, by show na - (k0 + 1) < na - k0; omega⟩))
        | exact absurd (h4 y0 (by omega)) (by assumption)
        | exact fin0 (by kernel_rfl) (by kernel_rfl) h
        | (obtain rfl : y0 = na := (by omega)
           exact absurd I2 h4)
        | (obtain rfl : k0 = na := (by omega)
           exact fin1t rfl (fun _ _ _ _ => rfl) (by kernel_rfl) (by kernel_rfl) (h k1 k3 ⟨I2.pos, I2.mem, I2.asc⟩ _ (by omega)))
        | (exfalso; omega)
       )
    | omega
    | contradiction
    | exact .inl ⟨0, (by (refine And.intro (And.intro rfl (And.intro rfl (And.intro rfl rfl))) ?_; (repeat' (first | exact trivial | exact rfl | exact fun _ _ _ _ => rfl | refine And.intro ?_ ?_ | omega | fail)); done)), Nat.zero_le _, fun i hi => absurd hi (Nat.not_lt_zero i)⟩
    | exact ⟨0, (by (refine And.intro (And.intro rfl (And.intro rfl (And.intro rfl rfl))) ?_; (repeat' (first | exact trivial | exact rfl | exact fun _ _ _ _ => rfl | refine And.intro ?_ ?_ | omega | fail)); done)), Nat.zero_le _, fun i hi => absurd hi (Nat.not_lt_zero i)⟩
    | exact .inl ⟨y0 + 1, (by (refine And.intro (And.intro rfl (And.intro rfl (And.intro rfl rfl))) ?_; (repeat' (first | exact trivial | exact rfl | exact fun _ _ _ _ => rfl | refine And.intro ?_ ?_ | omega | fail)); done)), ⟨by omega, eq_next I2 (by assumption)⟩, by omega⟩
    | exact ⟨y0 + 1, (by (refine And.intro (And.intro rfl (And.intro rfl (And.intro rfl rfl))) ?_; (repeat' (first | exact trivial | exact rfl | exact fun _ _ _ _ => rfl | refine And.intro ?_ ?_ | omega | fail)); done)), ⟨by omega, eq_next I2 (by assumption)⟩, by omega⟩
    | exact .inr (.inl ⟨((y0 + 1, 1), y1 - 1, appF (fun _ _ => 0) 0 (litF 1 [(y0 : Int)]) 0), (by (refine And.intro (And.intro rfl (And.intro rfl (And.intro rfl rfl))) ?_; (repeat' (first | exact trivial | exact rfl | exact fun _ _ _ _ => rfl | refine And.intro ?_ ?_ | omega | fail)); done)), ⟨⟨by show y0 + 1 ≤ na; omega, by show 1 ≤ y0 + 1; omega, by show 1 ≤ y1 - 1 + 1; omega⟩, DifK.one rfl (by assumption)⟩, by show na - (y0 + 1) < na - y0; omega⟩)
    | exact .inr (.inr (.inl ⟨((k0 + 1, k1 + 1), y1 - 1, appF k3 k1 (litF 1 [(k0 : Int)]) 0), (by (refine And.intro (And.intro rfl (And.intro rfl (And.intro rfl rfl))) ?_; (repeat' (first | exact trivial | exact rfl | exact fun _ _ _ _ => rfl | refine And.intro ?_ ?_ | omega | fail)); done)), ⟨⟨by show k0 + 1 ≤ na; omega, by show k1 + 1 ≤ k0 + 1; omega, by show k1 + 1 ≤ y1 - 1 + 1; omega⟩, I2.more rfl (by assumption)⟩, by show na - (k0 + 1) < na - k0; omega⟩))
    | exact .inr (.inr (.inr ⟨((k0 + 1, k1), k2, k3), (by (refine And.intro (And.intro rfl (And.intro rfl (And.intro rfl rfl))) ?_; (repeat' (first | exact trivial | exact rfl | exact fun _ _ _ _ => rfl | refine And.intro ?_ ?_ | omega | fail)); done)), ⟨⟨by show k0 + 1 ≤ na; omega, by show k1 ≤ k0 + 1; omega, J3⟩, I2.next⟩, by show na - (k0 + 1) < na - k0; omega⟩))
    | exact absurd (h4 y0 (by omega)) (by assumption)
    | exact fin0 (by kernel_rfl) (by kernel_rfl) h
    | (obtain rfl : y0 = na := (by omega)
       exact absurd I2 h4)
    | (obtain rfl : k0 = na := (by omega)
       exact fin1t rfl (fun _ _ _ _ => rfl) (by kernel_rfl) (by kernel_rfl) (h k1 k3 ⟨I2.pos, I2.mem, I2.asc⟩ _ (by omega)))
    | (exfalso; omega)
theorem dfR_ok : BodyOk (mk XK) 6 Try.f37 dfR := by
  intro vs bs K hh hro
  clear hro
  unfold dfR at hh
  split at hh
  · rename_i va vb
    obtain ⟨ea, na, ca, fa, bta, rfl, hna, hca, rfl, hh0⟩ := parseRQ_inv hh
    obtain ⟨eb, nb, cb, fb, btb, rfl, hnb, hcb, rfl, hh1⟩ := parseRQ_inv hh0
    obtain ⟨rfl, ⟨h1, h2, h3, h4⟩, hc⟩ := hh1
    exact ⟨_, _, cast (dfR_rrE ea na ca fa eb nb cb fb  K) (dfR_rrP ea na ca fa eb nb cb fb  K hna hca hnb hcb h1 h2 h3 h4 hc)⟩
  · exact hh.elim
theorem dfR_told : Told 37 (specOf dfR) := told (X := XK) XK_told (by kernel_rfl) (by kernel_rfl) (by kernel_rfl) dfR_ok
end Go.Proofs.Ytfgeoglegebncaa.Fr
namespace Go.Proofs.Ytfgeoglegebncaa.Fr
set_option maxRecDepth 100000
set_option maxHeartbeats 4000000
open Go.Rx
open Go.RowKit (Below)
set_option linter.unusedVariables false
def obp : Con := fun vs bs K => match vs with
  | [vw, .int .i64 a, .int .i64 x] => parseQ [.u64] 0 vw bs fun nw fw j0 bs0 => bs0 = [] ∧ ((Ok64 nw fw)) ∧ (K (.tuple ⟨[.int .i64 (ptV nw fw a x), .int .i64 (ptE nw fw a x)]⟩) [])
  | _ => False

def obp_nA (a : Int) (x : Int) : Ann := fun _ _ _ => none
def obp_rA (ew nw cw : Nat) (fw : RF) (a : Int) (x : Int) : Ann := fun _ _ _ => none
def obp_nV (a : Int) (x : Int) (K : Value → List Blk → Prop) : Prop := (t3 (eB ∧ ((True) ∧ (t7 (∃ y0 : Value, (∃ y1 : List Blk, ((Go.Rx.Found 0 (Value.tuple { toList := [vi (0 : Int), vi (3 : Int)] }) ({ h := [((1 : Nat), Blk.cells [vi (0 : Int), vi (0 : Int), vn, vi (0 : Int), vn] (118 : Nat)), ((0 : Nat), Blk.cells [vi (0 : Int), vi (0 : Int), vn, vi (0 : Int), vn] (118 : Nat))], next := (2 : Nat) }) (y0) (y1)) ∧ (K y0 y1))))))))
theorem obp_nE (a : Int) (x : Int) (K : Value → List Blk → Prop) : obp_nV a x K = bodyX (mk XO) (callN (mk XO) 9) (obp_nA a x) Try.f52 [.slice none 0 0, .int .i64 a, .int .i64 x] (stOf []) (Fd 0 K) := by kernel_rfl
set_option tactic.hygienic false in
theorem obp_nP (a : Int) (x : Int) (K : Value → List Blk → Prop)  (hU : Ok64 0 zF) (h : K (.tuple ⟨[.int .i64 (ptV 0 zF a x), .int .i64 (ptE 0 zF a x)]⟩) []) : obp_nV a x K := by
  unfold obp_nV
  have z0 := ob_cases hU a
  have z1 := fun (h1 : 0 ≤ a) (h2 : a < 0) => hU.at h1 h2
  have z2 := fun (h1 : 0 ≤ a) (h2 : a < 0) => hs_bd (hU.at h1 h2).1
  have z3 := pt_cases 0 zF a x
  have z4 := fun (h1 : 0 ≤ a + 1) (h2 : 0 ≤ x) => congrArg (fun i => zF i 0) (toNat_add h1 h2)
  have z5 := fun (h1 : 0 ≤ a + 1 + x) (h2 : a + 1 + x < 0) => hU.at h1 h2
  repeat' (first | (with_reducible exact rfl) | (with_reducible exact trivial) | (with_reducible refine And.intro ?_ ?_) | (intro) | (with_reducible refine br_d (fun hq => ?_) (fun hq => ?_)) | (with_reducible refine br_nd (fun hq => ?_) (fun hq => ?_)) | (with_reducible refine br_intro (fun hq => ?_) (fun hq => ?_)) | (with_reducible refine if_both (fun hz => ?_) (fun hz => ?_)) | fail)

  all_goals first
    | (with_reducible assumption)
    | (refine (id ?_ : ∃ (v1 : Value) (news : List Blk), _)
       first
        | contradiction
        | exact fin0 (by kernel_rfl) (by kernel_rfl) h
        | exact fin0 (by kernel_rfl) (by kernel_rfl) (fin0i (by omega) h)
        | exact fin0 (by kernel_rfl) (by kernel_rfl) (fin0p (by omega) (by omega) h)
        | exact fin0 (by kernel_rfl) (by kernel_rfl) (fin0u (by omega) (by omega) h)
        | exact fin0 (by kernel_rfl) (by kernel_rfl) (fin0s (by omega) (by omega) (by omega) h)
        | exact fin0 (by kernel_rfl) (by kernel_rfl) (fin0n (by omega) h)
        | (exfalso; simp at hq; omega)
        | (exfalso; omega)
       )
    | omega
    | contradiction
    | exact fin0 (by kernel_rfl) (by kernel_rfl) h
    | exact fin0 (by kernel_rfl) (by kernel_rfl) (fin0i (by omega) h)
    | exact fin0 (by kernel_rfl) (by kernel_rfl) (fin0p (by omega) (by omega) h)
    | exact fin0 (by kernel_rfl) (by kernel_rfl) (fin0u (by omega) (by omega) h)
    | exact fin0 (by kernel_rfl) (by kernel_rfl) (fin0s (by omega) (by omega) (by omega) h)
    | exact fin0 (by kernel_rfl) (by kernel_rfl) (fin0n (by omega) h)
    | (exfalso; simp at hq; omega)
    | (exfalso; omega)
def obp_rV (ew nw cw : Nat) (fw : RF) (a : Int) (x : Int) (K : Value → List Blk → Prop) : Prop := let q0 := eB; let q1 := (9223372036854775807 : Int); let q2 := (fw (Int.toNat a) (0 : Nat)); let q3 := (-9223372036854775808 : Int); let q4 := (@Eq Nat ((1 : Nat)) ((1 : Nat))); let q5 := (hsP q2); let q6 := (hsR q2); let q7 := TS; let q8 := (Int.toNat (a + (1 : Int)) + Int.toNat x); let q9 := (a + (1 : Int) + hsP q2); let q10 := ((0 : Nat), Blk.row true [IntKind.u64] ew nw cw fw); let q11 := (q7 ∧ q4); let q12 := (Int.toNat (a + (1 : Int) + hsP q2 - (a + (1 : Int)))); let q13 := (a + (1 : Int) + hsP q2 + hsR q2); let q14 := ((3 : Nat), Blk.cells [vi q5, vi q6] (60 : Nat)); let q15 := (Int.toNat (a + (1 : Int) + hsP q2 + hsR q2 - q9)); let q16 := ((2 : Nat), Blk.cells [vi (0 : Int), vi (0 : Int), vn, vi (0 : Int), vn] (118 : Nat)); let q17 := ((1 : Nat), Blk.cells [vi (0 : Int), vi (0 : Int), vn, vi (0 : Int), vn] (118 : Nat)); let q18 := (T0 ∧ (∃ y0 : Value, (∃ y1 : List Blk, ((Go.Rx.Found 1 (Value.tuple { toList := [vi (0 : Int), vi (10 : Int)] }) ({ h := [((5 : Nat), Blk.cells [vn] (112 : Nat)), ((4 : Nat), Blk.cells [vn] (112 : Nat)), ((3 : Nat), Blk.cells [vn, vi (0 : Int)] (114 : Nat)), q16, q17, q10], next := (6 : Nat) }) (y0) (y1)) ∧ (K y0 y1))))); let q19 := (t9 (∃ y0 : Value, (∃ y1 : List Blk, ((Go.Rx.Found 1 (Value.tuple { toList := [vi (0 : Int), vi (7 : Int)] }) ({ h := [((3 : Nat), Blk.cells [vi (0 : Int), vi (0 : Int), vn, vi (0 : Int), vn] (118 : Nat)), q16, q17, q10], next := (4 : Nat) }) (y0) (y1)) ∧ (K y0 y1))))); let q20 := (t9 (∃ y0 : Value, (∃ y1 : List Blk, ((Go.Rx.Found 1 (Value.tuple { toList := [vi (0 : Int), vi (6 : Int)] }) ({ h := [((4 : Nat), Blk.cells [vi (0 : Int), vi (0 : Int), vn, vi (0 : Int), vn] (118 : Nat)), q14, q16, q17, q10], next := (5 : Nat) }) (y0) (y1)) ∧ (K y0 y1))))); let q21 := (T0 ∧ (∃ y0 : Value, (∃ y1 : List Blk, ((Go.Rx.Found 1 (Value.tuple { toList := [vi (0 : Int), vi (10 : Int)] }) ({ h := [((7 : Nat), Blk.cells [Value.slice (some { block := (0 : Nat), off := (0 : Nat), spot := some (Nat.succ (Nat.succ (Int.toNat (a + (1 : Int))))) }) q12 q12] (112 : Nat)), ((6 : Nat), Blk.cells [Value.slice (some { block := (0 : Nat), off := (0 : Nat), spot := some (Nat.succ (Nat.succ (Int.toNat (a + (1 : Int))))) }) q12 q12] (112 : Nat)), ((5 : Nat), Blk.cells [Value.slice (some { block := (0 : Nat), off := (0 : Nat), spot := some (Nat.succ (Nat.succ (Int.toNat (a + (1 : Int))))) }) q12 q12, vi (a + (1 : Int))] (114 : Nat)), ((4 : Nat), Blk.cells [vi q5, vi q6, Value.slice (some { block := (0 : Nat), off := (0 : Nat), spot := some (Nat.succ (Nat.succ (Int.toNat (a + (1 : Int))))) }) q12 q12, vi (a + (1 : Int)), Value.slice (some { block := (0 : Nat), off := (0 : Nat), spot := some (Nat.succ (Nat.succ (Int.toNat q9))) }) q15 q15] (118 : Nat)), q14, ((2 : Nat), Blk.cells [vi q5, vi q6, Value.slice (some { block := (0 : Nat), off := (0 : Nat), spot := some (Nat.succ (Nat.succ (Int.toNat (a + (1 : Int))))) }) q12 q12, vi (a + (1 : Int)), Value.slice (some { block := (0 : Nat), off := (0 : Nat), spot := some (Nat.succ (Nat.succ (Int.toNat q9))) }) q15 q15] (118 : Nat)), ((1 : Nat), Blk.cells [vi q5, vi q6, Value.slice (some { block := (0 : Nat), off := (0 : Nat), spot := some (Nat.succ (Nat.succ (Int.toNat (a + (1 : Int))))) }) q12 q12, vi (a + (1 : Int)), Value.slice (some { block := (0 : Nat), off := (0 : Nat), spot := some (Nat.succ (Nat.succ (Int.toNat q9))) }) q15 q15] (118 : Nat)), q10], next := (8 : Nat) }) (y0) (y1)) ∧ (K y0 y1))))); (t2 (((0 : Nat) + nw ≤ nw) ∧ (((@Eq Nat ((0 : Nat)) ((0 : Nat))) ∧ ((nw ≤ (100000 : Nat)) ∧ (nw ≤ cw))) ∧ (((@Eq (List IntKind) ([IntKind.u64]) ([IntKind.u64])) ∧ ((@Eq Nat (nw) (nw)) ∧ (@Eq Nat (cw) (cw)))) ∧ (q0 ∧ ((True) ∧ (T0 ∧ (if (@Eq Int (arE nw fw) ((0 : Int))) then (t2 (if (a < (1 : Int)) then q19 else (q7 ∧ (T0 ∧ (if ((↑nw : Int) ≤ a) then q19 else (q11 ∧ ((((0 : Int) ≤ a) ∧ (a < (↑nw : Int))) ∧ ((Int.toNat a < nw) ∧ (T0 ∧ (q0 ∧ ((((0 : Int) ≤ fw (Int.toNat a) (0 : Nat)) ∧ (fw (Int.toNat a) (0 : Nat) ≤ (18446744073709551615 : Int))) ∧ (t3 (if (@Eq Int (hsE q2) ((0 : Int))) then (t3 (((q3 ≤ hsP q2 + hsR q2) ∧ (hsP q2 + hsR q2 ≤ q1)) ∧ (q7 ∧ (T0 ∧ (((q3 ≤ (↑nw : Int) - a) ∧ ((↑nw : Int) - a ≤ q1)) ∧ (T0 ∧ (if ((↑nw : Int) - a ≤ hsP q2 + hsR q2) then q20 else (T0 ∧ (((q3 ≤ a + (1 : Int)) ∧ (a + (1 : Int) ≤ q1)) ∧ (t2 (((q3 ≤ a + (1 : Int) + hsP q2) ∧ (a + (1 : Int) + hsP q2 ≤ q1)) ∧ (t2 (((q3 ≤ a + (1 : Int) + hsP q2 + hsR q2) ∧ (a + (1 : Int) + hsP q2 + hsR q2 ≤ q1)) ∧ (t8 (q7 ∧ (t4 (q4 ∧ ((((0 : Int) ≤ a + (1 : Int)) ∧ ((a + (1 : Int) ≤ a + (1 : Int) + hsP q2) ∧ ((a + (1 : Int) + hsP q2 ≤ a + (1 : Int) + hsP q2) ∧ (a + (1 : Int) + hsP q2 ≤ (↑cw : Int))))) ∧ ((@Eq Int q9 q9) ∧ (t8 (q7 ∧ (t4 (q4 ∧ ((((0 : Int) ≤ a + (1 : Int) + hsP q2) ∧ ((a + (1 : Int) + hsP q2 ≤ a + (1 : Int) + hsP q2 + hsR q2) ∧ ((a + (1 : Int) + hsP q2 + hsR q2 ≤ a + (1 : Int) + hsP q2 + hsR q2) ∧ (a + (1 : Int) + hsP q2 + hsR q2 ≤ (↑cw : Int))))) ∧ ((@Eq Int q13 q13) ∧ (t9 (t9 (t3 (if ((0 : Int) ≤ x) then (T0 ∧ (q7 ∧ (T0 ∧ (if (x < (↑q12 : Int)) then (T0 ∧ (q11 ∧ ((((0 : Int) ≤ x) ∧ (x < (↑q12 : Int))) ∧ ((Int.toNat (a + (1 : Int)) + Int.toNat x < nw) ∧ (t2 (if ((1600 : Int) < fw q8 (0 : Nat)) then (∃ y0 : Value, (∃ y1 : List Blk, ((Go.Rx.Found 1 (Value.tuple { toList := [vi (0 : Int), vi (6 : Int)] }) ({ h := [((7 : Nat), Blk.cells [Value.slice (some { block := (0 : Nat), off := (0 : Nat), spot := some (Nat.succ (Nat.succ (Int.toNat (a + (1 : Int))))) }) q12 q12] (112 : Nat)), ((6 : Nat), Blk.cells [Value.slice (some { block := (0 : Nat), off := (0 : Nat), spot := some (Nat.succ (Nat.succ (Int.toNat (a + (1 : Int))))) }) q12 q12] (112 : Nat)), ((5 : Nat), Blk.cells [Value.slice (some { block := (0 : Nat), off := (0 : Nat), spot := some (Nat.succ (Nat.succ (Int.toNat (a + (1 : Int))))) }) q12 q12, vi (a + (1 : Int))] (114 : Nat)), ((4 : Nat), Blk.cells [vi q5, vi q6, Value.slice (some { block := (0 : Nat), off := (0 : Nat), spot := some (Nat.succ (Nat.succ (Int.toNat (a + (1 : Int))))) }) q12 q12, vi (a + (1 : Int)), Value.slice (some { block := (0 : Nat), off := (0 : Nat), spot := some (Nat.succ (Nat.succ (Int.toNat q9))) }) q15 q15] (118 : Nat)), q14, ((2 : Nat), Blk.cells [vi q5, vi q6, Value.slice (some { block := (0 : Nat), off := (0 : Nat), spot := some (Nat.succ (Nat.succ (Int.toNat (a + (1 : Int))))) }) q12 q12, vi (a + (1 : Int)), Value.slice (some { block := (0 : Nat), off := (0 : Nat), spot := some (Nat.succ (Nat.succ (Int.toNat q9))) }) q15 q15] (118 : Nat)), ((1 : Nat), Blk.cells [vi q5, vi q6, Value.slice (some { block := (0 : Nat), off := (0 : Nat), spot := some (Nat.succ (Nat.succ (Int.toNat (a + (1 : Int))))) }) q12 q12, vi (a + (1 : Int)), Value.slice (some { block := (0 : Nat), off := (0 : Nat), spot := some (Nat.succ (Nat.succ (Int.toNat q9))) }) q15 q15] (118 : Nat)), q10], next := (8 : Nat) }) (y0) (y1)) ∧ (K y0 y1)))) else (((q3 ≤ fw q8 (0 : Nat)) ∧ (fw q8 (0 : Nat) ≤ q1)) ∧ (∃ y0 : Value, (∃ y1 : List Blk, ((Go.Rx.Found 1 (Value.tuple { toList := [vi (fw q8 (0 : Nat)), vi (0 : Int)] }) ({ h := [((7 : Nat), Blk.cells [Value.slice (some { block := (0 : Nat), off := (0 : Nat), spot := some (Nat.succ (Nat.succ (Int.toNat (a + (1 : Int))))) }) q12 q12] (112 : Nat)), ((6 : Nat), Blk.cells [Value.slice (some { block := (0 : Nat), off := (0 : Nat), spot := some (Nat.succ (Nat.succ (Int.toNat (a + (1 : Int))))) }) q12 q12] (112 : Nat)), ((5 : Nat), Blk.cells [Value.slice (some { block := (0 : Nat), off := (0 : Nat), spot := some (Nat.succ (Nat.succ (Int.toNat (a + (1 : Int))))) }) q12 q12, vi (a + (1 : Int))] (114 : Nat)), ((4 : Nat), Blk.cells [vi q5, vi q6, Value.slice (some { block := (0 : Nat), off := (0 : Nat), spot := some (Nat.succ (Nat.succ (Int.toNat (a + (1 : Int))))) }) q12 q12, vi (a + (1 : Int)), Value.slice (some { block := (0 : Nat), off := (0 : Nat), spot := some (Nat.succ (Nat.succ (Int.toNat q9))) }) q15 q15] (118 : Nat)), q14, ((2 : Nat), Blk.cells [vi q5, vi q6, Value.slice (some { block := (0 : Nat), off := (0 : Nat), spot := some (Nat.succ (Nat.succ (Int.toNat (a + (1 : Int))))) }) q12 q12, vi (a + (1 : Int)), Value.slice (some { block := (0 : Nat), off := (0 : Nat), spot := some (Nat.succ (Nat.succ (Int.toNat q9))) }) q15 q15] (118 : Nat)), ((1 : Nat), Blk.cells [vi q5, vi q6, Value.slice (some { block := (0 : Nat), off := (0 : Nat), spot := some (Nat.succ (Nat.succ (Int.toNat (a + (1 : Int))))) }) q12 q12, vi (a + (1 : Int)), Value.slice (some { block := (0 : Nat), off := (0 : Nat), spot := some (Nat.succ (Nat.succ (Int.toNat q9))) }) q15 q15] (118 : Nat)), q10], next := (8 : Nat) }) (y0) (y1)) ∧ (K y0 y1))))))))))) else q21)))) else q21))))))))))))))))))))))))))))) else q20))))))))))))) else (t6 (if (@Eq Int (arE nw fw) ((0 : Int))) then (t9 (if ((0 : Int) ≤ x) then (T0 ∧ (q7 ∧ (T0 ∧ (if (x < (↑(0 : Nat) : Int)) then (T0 ∧ (False)) else q18)))) else q18)) else (∃ y0 : Value, (∃ y1 : List Blk, ((Go.Rx.Found 1 (Value.tuple { toList := [vi (0 : Int), vi (arE nw fw)] }) ({ h := [q16, q17, q10], next := (3 : Nat) }) (y0) (y1)) ∧ (K y0 y1))))))))))))))
theorem obp_rE (ew nw cw : Nat) (fw : RF) (a : Int) (x : Int) (K : Value → List Blk → Prop) : obp_rV ew nw cw fw a x K = bodyX (mk XO) (callN (mk XO) 9) (obp_rA ew nw cw fw a x) Try.f52 [rsl 0 0 nw cw, .int .i64 a, .int .i64 x] (stOf [.row true [.u64] ew nw cw fw]) (Fd 1 K) := by kernel_rfl
set_option tactic.hygienic false in
theorem obp_rP (ew nw cw : Nat) (fw : RF) (a : Int) (x : Int) (K : Value → List Blk → Prop)  (hnw : nw ≤ 100000) (hcw : nw ≤ cw) (hU : Ok64 nw fw) (h : K (.tuple ⟨[.int .i64 (ptV nw fw a x), .int .i64 (ptE nw fw a x)]⟩) []) : obp_rV ew nw cw fw a x K := by
  unfold obp_rV
  conv => zeta
  have z0 := ob_cases hU a
  have z1 := fun (h1 : 0 ≤ a) (h2 : a < nw) => hU.at h1 h2
  have z2 := fun (h1 : 0 ≤ a) (h2 : a < nw) => hs_bd (hU.at h1 h2).1
  have z3 := pt_cases nw fw a x
  have z4 := fun (h1 : 0 ≤ a + 1) (h2 : 0 ≤ x) => congrArg (fun i => fw i 0) (toNat_add h1 h2)
  have z5 := fun (h1 : 0 ≤ a + 1 + x) (h2 : a + 1 + x < nw) => hU.at h1 h2
  repeat' (first | (with_reducible exact rfl) | (with_reducible exact trivial) | (with_reducible refine And.intro ?_ ?_) | (intro) | (with_reducible refine br_d (fun hq => ?_) (fun hq => ?_)) | (with_reducible refine br_nd (fun hq => ?_) (fun hq => ?_)) | (with_reducible refine br_intro (fun hq => ?_) (fun hq => ?_)) | (with_reducible refine if_both (fun hz => ?_) (fun hz => ?_)) | fail)

  all_goals first
    | (with_reducible assumption)
    | (refine (id ?_ : ∃ (v1 : Value) (news : List Blk), _)
       first
        | contradiction
        | exact fin0 (by kernel_rfl) (by kernel_rfl) h
        | exact fin0 (by kernel_rfl) (by kernel_rfl) (fin0i (by omega) h)
        | exact fin0 (by kernel_rfl) (by kernel_rfl) (fin0p (by omega) (by omega) h)
        | exact fin0 (by kernel_rfl) (by kernel_rfl) (fin0u (by omega) (by omega) h)
        | exact fin0 (by kernel_rfl) (by kernel_rfl) (fin0s (by omega) (by omega) (by omega) h)
        | exact fin0 (by kernel_rfl) (by kernel_rfl) (fin0n (by omega) h)
        | (exfalso; simp at hq; omega)
        | (exfalso; omega)
       )
    | omega
    | contradiction
    | exact fin0 (by kernel_rfl) (by kernel_rfl) h
    | exact fin0 (by kernel_rfl) (by kernel_rfl) (fin0i (by omega) h)
    | exact fin0 (by kernel_rfl) (by kernel_rfl) (fin0p (by omega) (by omega) h)
    | exact fin0 (by kernel_rfl) (by kernel_rfl) (fin0u (by omega) (by omega) h)
    | exact fin0 (by kernel_rfl) (by kernel_rfl) (fin0s (by omega) (by omega) (by omega) h)
    | exact fin0 (by kernel_rfl) (by kernel_rfl) (fin0n (by omega) h)
    | (exfalso; simp at hq; omega)
    | (exfalso; omega)
theorem obp_ok : BodyOk (mk XO) 9 Try.f52 obp := by
  intro vs bs K hh hro
  clear hro
  unfold obp at hh
  split at hh
  · rename_i vw a x
    rcases parseQ_inv hh with ⟨rfl, hh0⟩ | ⟨ew, nw, cw, fw, btw, rfl, hnw, hcw, rfl, hh0⟩ <;> clear hh
    · obtain ⟨rfl, hU, hc⟩ := hh0
      exact ⟨_, _, cast (obp_nE  a x K) (obp_nP  a x K  hU hc)⟩
    · obtain ⟨rfl, hU, hc⟩ := hh0
      exact ⟨_, _, cast (obp_rE ew nw cw fw a x K) (obp_rP ew nw cw fw a x K hnw hcw hU hc)⟩
  · exact hh.elim
theorem obp_told : Told 52 (specOf obp) := told (X := XO) XO_told (by kernel_rfl) (by kernel_rfl) (by kernel_rfl) obp_ok
end Go.Proofs.Ytfgeoglegebncaa.Fr
namespace Go.Proofs.Ytfgeoglegebncaa.Fr
set_option maxRecDepth 100000
set_option maxHeartbeats 4000000
open Go.Rx
open Go.RowKit (Below)
set_option linter.unusedVariables false
def obr : Con := fun vs bs K => match vs with
  | [vw, .int .i64 a, .int .i64 x] => parseQ [.u64] 0 vw bs fun nw fw j0 bs0 => bs0 = [] ∧ ((Ok64 nw fw)) ∧ (K (.tuple ⟨[.int .u64 (rwV nw fw a x), .int .i64 (rwE nw fw a x)]⟩) [])
  | _ => False

def obr_nA (a : Int) (x : Int) : Ann := fun _ _ _ => none
def obr_rA (ew nw cw : Nat) (fw : RF) (a : Int) (x : Int) : Ann := fun _ _ _ => none
def obr_nV (a : Int) (x : Int) (K : Value → List Blk → Prop) : Prop := (t3 (eB ∧ ((True) ∧ (t7 (∃ y0 : Value, (∃ y1 : List Blk, ((Go.Rx.Found 0 (Value.tuple { toList := [Value.int IntKind.u64 (0 : Int), vi (3 : Int)] }) ({ h := [((1 : Nat), Blk.cells [vi (0 : Int), vi (0 : Int), vn, vi (0 : Int), vn] (118 : Nat)), ((0 : Nat), Blk.cells [vi (0 : Int), vi (0 : Int), vn, vi (0 : Int), vn] (118 : Nat))], next := (2 : Nat) }) (y0) (y1)) ∧ (K y0 y1))))))))
theorem obr_nE (a : Int) (x : Int) (K : Value → List Blk → Prop) : obr_nV a x K = bodyX (mk XO) (callN (mk XO) 9) (obr_nA a x) Try.f54 [.slice none 0 0, .int .i64 a, .int .i64 x] (stOf []) (Fd 0 K) := by kernel_rfl
set_option tactic.hygienic false in
theorem obr_nP (a : Int) (x : Int) (K : Value → List Blk → Prop)  (hU : Ok64 0 zF) (h : K (.tuple ⟨[.int .u64 (rwV 0 zF a x), .int .i64 (rwE 0 zF a x)]⟩) []) : obr_nV a x K := by
  unfold obr_nV
  have z0 := ob_cases hU a
  have z1 := fun (h1 : 0 ≤ a) (h2 : a < 0) => hU.at h1 h2
  have z2 := fun (h1 : 0 ≤ a) (h2 : a < 0) => hs_bd (hU.at h1 h2).1
  have z3 := rw_cases 0 zF a x
  have z4 := fun (h1 : 0 ≤ a + 1 + hsP (zF (Int.toNat a) 0)) (h2 : 0 ≤ x) => congrArg (fun i => zF i 0) (toNat_add h1 h2)
  have z5 := fun (h0 : obP 0 zF a = hsP (zF (Int.toNat a) 0)) => congrArg (fun y => zF (Int.toNat (a + 1 + y + x)) 0) h0
  repeat' (first | (with_reducible exact rfl) | (with_reducible exact trivial) | (with_reducible refine And.intro ?_ ?_) | (intro) | (with_reducible refine br_d (fun hq => ?_) (fun hq => ?_)) | (with_reducible refine br_nd (fun hq => ?_) (fun hq => ?_)) | (with_reducible refine br_intro (fun hq => ?_) (fun hq => ?_)) | (with_reducible refine if_both (fun hz => ?_) (fun hz => ?_)) | fail)

  all_goals first
    | (with_reducible assumption)
    | (refine (id ?_ : ∃ (v1 : Value) (news : List Blk), _)
       first
        | contradiction
        | exact fin0 (by kernel_rfl) (by kernel_rfl) h
        | exact fin0 (by kernel_rfl) (by kernel_rfl) (fin0i (by omega) h)
        | exact fin0 (by kernel_rfl) (by kernel_rfl) (fin0p (by omega) (by omega) h)
        | exact fin0 (by kernel_rfl) (by kernel_rfl) (fin0u (by omega) (by omega) h)
        | exact fin0 (by kernel_rfl) (by kernel_rfl) (fin0s (by omega) (by omega) (by omega) h)
        | exact fin0 (by kernel_rfl) (by kernel_rfl) (fin0n (by omega) h)
        | (exfalso; simp at hq; omega)
        | (exfalso; omega)
       )
    | omega
    | contradiction
    | exact fin0 (by kernel_rfl) (by kernel_rfl) h
    | exact fin0 (by kernel_rfl) (by kernel_rfl) (fin0i (by omega) h)
    | exact fin0 (by kernel_rfl) (by kernel_rfl) (fin0p (by omega) (by omega) h)
    | exact fin0 (by kernel_rfl) (by kernel_rfl) (fin0u (by omega) (by omega) h)
    | exact fin0 (by kernel_rfl) (by kernel_rfl) (fin0s (by omega) (by omega) (by omega) h)
    | exact fin0 (by kernel_rfl) (by kernel_rfl) (fin0n (by omega) h)
    | (exfalso; simp at hq; omega)
    | (exfalso; omega)
def obr_rV (ew nw cw : Nat) (fw : RF) (a : Int) (x : Int) (K : Value → List Blk → Prop) : Prop := let q0 := eB; let q1 := (9223372036854775807 : Int); let q2 := (fw (Int.toNat a) (0 : Nat)); let q3 := (-9223372036854775808 : Int); let q4 := (@Eq Nat ((1 : Nat)) ((1 : Nat))); let q5 := (hsP q2); let q6 := (hsR q2); let q7 := TS; let q8 := (a + (1 : Int) + hsP q2); let q9 := ((0 : Nat), Blk.row true [IntKind.u64] ew nw cw fw); let q10 := (q7 ∧ q4); let q11 := (Int.toNat (a + (1 : Int) + hsP q2 - (a + (1 : Int)))); let q12 := (a + (1 : Int) + hsP q2 + hsR q2); let q13 := ((3 : Nat), Blk.cells [vi q5, vi q6] (60 : Nat)); let q14 := (Int.toNat (a + (1 : Int) + hsP q2 + hsR q2 - q8)); let q15 := ((2 : Nat), Blk.cells [vi (0 : Int), vi (0 : Int), vn, vi (0 : Int), vn] (118 : Nat)); let q16 := ((1 : Nat), Blk.cells [vi (0 : Int), vi (0 : Int), vn, vi (0 : Int), vn] (118 : Nat)); let q17 := (∃ y0 : Value, (∃ y1 : List Blk, ((Go.Rx.Found 1 (Value.tuple { toList := [Value.int IntKind.u64 (0 : Int), vi (10 : Int)] }) ({ h := [((4 : Nat), Blk.cells [vn] (112 : Nat)), ((3 : Nat), Blk.cells [vn] (112 : Nat)), q15, q16, q9], next := (5 : Nat) }) (y0) (y1)) ∧ (K y0 y1)))); let q18 := (t9 (∃ y0 : Value, (∃ y1 : List Blk, ((Go.Rx.Found 1 (Value.tuple { toList := [Value.int IntKind.u64 (0 : Int), vi (7 : Int)] }) ({ h := [((3 : Nat), Blk.cells [vi (0 : Int), vi (0 : Int), vn, vi (0 : Int), vn] (118 : Nat)), q15, q16, q9], next := (4 : Nat) }) (y0) (y1)) ∧ (K y0 y1))))); let q19 := (t9 (∃ y0 : Value, (∃ y1 : List Blk, ((Go.Rx.Found 1 (Value.tuple { toList := [Value.int IntKind.u64 (0 : Int), vi (6 : Int)] }) ({ h := [((4 : Nat), Blk.cells [vi (0 : Int), vi (0 : Int), vn, vi (0 : Int), vn] (118 : Nat)), q13, q15, q16, q9], next := (5 : Nat) }) (y0) (y1)) ∧ (K y0 y1))))); let q20 := (∃ y0 : Value, (∃ y1 : List Blk, ((Go.Rx.Found 1 (Value.tuple { toList := [Value.int IntKind.u64 (0 : Int), vi (10 : Int)] }) ({ h := [((6 : Nat), Blk.cells [Value.slice (some { block := (0 : Nat), off := (0 : Nat), spot := some (Nat.succ (Nat.succ (Int.toNat q8))) }) q14 q14] (112 : Nat)), ((5 : Nat), Blk.cells [Value.slice (some { block := (0 : Nat), off := (0 : Nat), spot := some (Nat.succ (Nat.succ (Int.toNat q8))) }) q14 q14] (112 : Nat)), ((4 : Nat), Blk.cells [vi q5, vi q6, Value.slice (some { block := (0 : Nat), off := (0 : Nat), spot := some (Nat.succ (Nat.succ (Int.toNat (a + (1 : Int))))) }) q11 q11, vi (a + (1 : Int)), Value.slice (some { block := (0 : Nat), off := (0 : Nat), spot := some (Nat.succ (Nat.succ (Int.toNat q8))) }) q14 q14] (118 : Nat)), q13, ((2 : Nat), Blk.cells [vi q5, vi q6, Value.slice (some { block := (0 : Nat), off := (0 : Nat), spot := some (Nat.succ (Nat.succ (Int.toNat (a + (1 : Int))))) }) q11 q11, vi (a + (1 : Int)), Value.slice (some { block := (0 : Nat), off := (0 : Nat), spot := some (Nat.succ (Nat.succ (Int.toNat q8))) }) q14 q14] (118 : Nat)), ((1 : Nat), Blk.cells [vi q5, vi q6, Value.slice (some { block := (0 : Nat), off := (0 : Nat), spot := some (Nat.succ (Nat.succ (Int.toNat (a + (1 : Int))))) }) q11 q11, vi (a + (1 : Int)), Value.slice (some { block := (0 : Nat), off := (0 : Nat), spot := some (Nat.succ (Nat.succ (Int.toNat q8))) }) q14 q14] (118 : Nat)), q9], next := (7 : Nat) }) (y0) (y1)) ∧ (K y0 y1)))); (t2 (((0 : Nat) + nw ≤ nw) ∧ (((@Eq Nat ((0 : Nat)) ((0 : Nat))) ∧ ((nw ≤ (100000 : Nat)) ∧ (nw ≤ cw))) ∧ (((@Eq (List IntKind) ([IntKind.u64]) ([IntKind.u64])) ∧ ((@Eq Nat (nw) (nw)) ∧ (@Eq Nat (cw) (cw)))) ∧ (q0 ∧ ((True) ∧ (T0 ∧ (if (@Eq Int (arE nw fw) ((0 : Int))) then (t2 (if (a < (1 : Int)) then q18 else (q7 ∧ (T0 ∧ (if ((↑nw : Int) ≤ a) then q18 else (q10 ∧ ((((0 : Int) ≤ a) ∧ (a < (↑nw : Int))) ∧ ((Int.toNat a < nw) ∧ (T0 ∧ (q0 ∧ ((((0 : Int) ≤ fw (Int.toNat a) (0 : Nat)) ∧ (fw (Int.toNat a) (0 : Nat) ≤ (18446744073709551615 : Int))) ∧ (t3 (if (@Eq Int (hsE q2) ((0 : Int))) then (t3 (((q3 ≤ hsP q2 + hsR q2) ∧ (hsP q2 + hsR q2 ≤ q1)) ∧ (q7 ∧ (T0 ∧ (((q3 ≤ (↑nw : Int) - a) ∧ ((↑nw : Int) - a ≤ q1)) ∧ (T0 ∧ (if ((↑nw : Int) - a ≤ hsP q2 + hsR q2) then q19 else (T0 ∧ (((q3 ≤ a + (1 : Int)) ∧ (a + (1 : Int) ≤ q1)) ∧ (t2 (((q3 ≤ a + (1 : Int) + hsP q2) ∧ (a + (1 : Int) + hsP q2 ≤ q1)) ∧ (t2 (((q3 ≤ a + (1 : Int) + hsP q2 + hsR q2) ∧ (a + (1 : Int) + hsP q2 + hsR q2 ≤ q1)) ∧ (t8 (q7 ∧ (t4 (q4 ∧ ((((0 : Int) ≤ a + (1 : Int)) ∧ ((a + (1 : Int) ≤ a + (1 : Int) + hsP q2) ∧ ((a + (1 : Int) + hsP q2 ≤ a + (1 : Int) + hsP q2) ∧ (a + (1 : Int) + hsP q2 ≤ (↑cw : Int))))) ∧ ((@Eq Int q8 q8) ∧ (t8 (q7 ∧ (t4 (q4 ∧ ((((0 : Int) ≤ a + (1 : Int) + hsP q2) ∧ ((a + (1 : Int) + hsP q2 ≤ a + (1 : Int) + hsP q2 + hsR q2) ∧ ((a + (1 : Int) + hsP q2 + hsR q2 ≤ a + (1 : Int) + hsP q2 + hsR q2) ∧ (a + (1 : Int) + hsP q2 + hsR q2 ≤ (↑cw : Int))))) ∧ ((@Eq Int q12 q12) ∧ (t9 (t9 (T0 ∧ (if ((0 : Int) ≤ x) then (T0 ∧ (q7 ∧ (T0 ∧ (if (x < (↑q14 : Int)) then (T0 ∧ (q10 ∧ ((((0 : Int) ≤ x) ∧ (x < (↑q14 : Int))) ∧ ((Int.toNat q8 + Int.toNat x < nw) ∧ (∃ y0 : Value, (∃ y1 : List Blk, ((Go.Rx.Found 1 (Value.tuple { toList := [Value.int IntKind.u64 (fw (Int.toNat q8 + Int.toNat x) (0 : Nat)), vi (0 : Int)] }) ({ h := [((6 : Nat), Blk.cells [Value.slice (some { block := (0 : Nat), off := (0 : Nat), spot := some (Nat.succ (Nat.succ (Int.toNat q8))) }) q14 q14] (112 : Nat)), ((5 : Nat), Blk.cells [Value.slice (some { block := (0 : Nat), off := (0 : Nat), spot := some (Nat.succ (Nat.succ (Int.toNat q8))) }) q14 q14] (112 : Nat)), ((4 : Nat), Blk.cells [vi q5, vi q6, Value.slice (some { block := (0 : Nat), off := (0 : Nat), spot := some (Nat.succ (Nat.succ (Int.toNat (a + (1 : Int))))) }) q11 q11, vi (a + (1 : Int)), Value.slice (some { block := (0 : Nat), off := (0 : Nat), spot := some (Nat.succ (Nat.succ (Int.toNat q8))) }) q14 q14] (118 : Nat)), q13, ((2 : Nat), Blk.cells [vi q5, vi q6, Value.slice (some { block := (0 : Nat), off := (0 : Nat), spot := some (Nat.succ (Nat.succ (Int.toNat (a + (1 : Int))))) }) q11 q11, vi (a + (1 : Int)), Value.slice (some { block := (0 : Nat), off := (0 : Nat), spot := some (Nat.succ (Nat.succ (Int.toNat q8))) }) q14 q14] (118 : Nat)), ((1 : Nat), Blk.cells [vi q5, vi q6, Value.slice (some { block := (0 : Nat), off := (0 : Nat), spot := some (Nat.succ (Nat.succ (Int.toNat (a + (1 : Int))))) }) q11 q11, vi (a + (1 : Int)), Value.slice (some { block := (0 : Nat), off := (0 : Nat), spot := some (Nat.succ (Nat.succ (Int.toNat q8))) }) q14 q14] (118 : Nat)), q9], next := (7 : Nat) }) (y0) (y1)) ∧ (K y0 y1)))))))) else q20)))) else q20))))))))))))))))))))))))))))) else q19))))))))))))) else (t6 (if (@Eq Int (arE nw fw) ((0 : Int))) then (t7 (if ((0 : Int) ≤ x) then (T0 ∧ (q7 ∧ (T0 ∧ (if (x < (↑(0 : Nat) : Int)) then (T0 ∧ (False)) else q17)))) else q17)) else (∃ y0 : Value, (∃ y1 : List Blk, ((Go.Rx.Found 1 (Value.tuple { toList := [Value.int IntKind.u64 (0 : Int), vi (arE nw fw)] }) ({ h := [q15, q16, q9], next := (3 : Nat) }) (y0) (y1)) ∧ (K y0 y1))))))))))))))
theorem obr_rE (ew nw cw : Nat) (fw : RF) (a : Int) (x : Int) (K : Value → List Blk → Prop) : obr_rV ew nw cw fw a x K = bodyX (mk XO) (callN (mk XO) 9) (obr_rA ew nw cw fw a x) Try.f54 [rsl 0 0 nw cw, .int .i64 a, .int .i64 x] (stOf [.row true [.u64] ew nw cw fw]) (Fd 1 K) := by kernel_rfl
set_option tactic.hygienic false in
theorem obr_rP (ew nw cw : Nat) (fw : RF) (a : Int) (x : Int) (K : Value → List Blk → Prop)  (hnw : nw ≤ 100000) (hcw : nw ≤ cw) (hU : Ok64 nw fw) (h : K (.tuple ⟨[.int .u64 (rwV nw fw a x), .int .i64 (rwE nw fw a x)]⟩) []) : obr_rV ew nw cw fw a x K := by
  unfold obr_rV
  conv => zeta
  have z0 := ob_cases hU a
  have z1 := fun (h1 : 0 ≤ a) (h2 : a < nw) => hU.at h1 h2
  have z2 := fun (h1 : 0 ≤ a) (h2 : a < nw) => hs_bd (hU.at h1 h2).1
  have z3 := rw_cases nw fw a x
  have z4 := fun (h1 : 0 ≤ a + 1 + hsP (fw (Int.toNat a) 0)) (h2 : 0 ≤ x) => congrArg (fun i => fw i 0) (toNat_add h1 h2)
  have z5 := fun (h0 : obP nw fw a = hsP (fw (Int.toNat a) 0)) => congrArg (fun y => fw (Int.toNat (a + 1 + y + x)) 0) h0
  repeat' (first | (with_reducible exact rfl) | (with_reducible exact trivial) | (with_reducible refine And.intro ?_ ?_) | (intro) | (with_reducible refine br_d (fun hq => ?_) (fun hq => ?_)) | (with_reducible refine br_nd (fun hq => ?_) (fun hq => ?_)) | (with_reducible refine br_intro (fun hq => ?_) (fun hq => ?_)) | (with_reducible refine if_both (fun hz => ?_) (fun hz => ?_)) | fail)

  all_goals first
    | (with_reducible assumption)
    | (refine (id ?_ : ∃ (v1 : Value) (news : List Blk), _)
       first
        | contradiction
        | exact fin0 (by kernel_rfl) (by kernel_rfl) h
        | exact fin0 (by kernel_rfl) (by kernel_rfl) (fin0i (by omega) h)
        | exact fin0 (by kernel_rfl) (by kernel_rfl) (fin0p (by omega) (by omega) h)
        | exact fin0 (by kernel_rfl) (by kernel_rfl) (fin0u (by omega) (by omega) h)
        | exact fin0 (by kernel_rfl) (by kernel_rfl) (fin0s (by omega) (by omega) (by omega) h)
        | exact fin0 (by kernel_rfl) (by kernel_rfl) (fin0n (by omega) h)
        | (exfalso; simp at hq; omega)
        | (exfalso; omega)
       )
    | omega
    | contradiction
    | exact fin0 (by kernel_rfl) (by kernel_rfl) h
    | exact fin0 (by kernel_rfl) (by kernel_rfl) (fin0i (by omega) h)
    | exact fin0 (by kernel_rfl) (by kernel_rfl) (fin0p (by omega) (by omega) h)
    | exact fin0 (by kernel_rfl) (by kernel_rfl) (fin0u (by omega) (by omega) h)
    | exact fin0 (by kernel_rfl) (by kernel_rfl) (fin0s (by omega) (by omega) (by omega) h)
    | exact fin0 (by kernel_rfl) (by kernel_rfl) (fin0n (by omega) h)
    | (exfalso; simp at hq; omega)
    | (exfalso; omega)
theorem obr_ok : BodyOk (mk XO) 9 Try.f54 obr := by
  intro vs bs K hh hro
  clear hro
  unfold obr at hh
  split at hh
  · rename_i vw a x
    rcases parseQ_inv hh with ⟨rfl, hh0⟩ | ⟨ew, nw, cw, fw, btw, rfl, hnw, hcw, rfl, hh0⟩ <;> clear hh
    · obtain ⟨rfl, hU, hc⟩ := hh0
      exact ⟨_, _, cast (obr_nE  a x K) (obr_nP  a x K  hU hc)⟩
    · obtain ⟨rfl, hU, hc⟩ := hh0
      exact ⟨_, _, cast (obr_rE ew nw cw fw a x K) (obr_rP ew nw cw fw a x K hnw hcw hU hc)⟩
  · exact hh.elim
theorem obr_told : Told 54 (specOf obr) := told (X := XO) XO_told (by kernel_rfl) (by kernel_rfl) (by kernel_rfl) obr_ok
end Go.Proofs.Ytfgeoglegebncaa.Fr
