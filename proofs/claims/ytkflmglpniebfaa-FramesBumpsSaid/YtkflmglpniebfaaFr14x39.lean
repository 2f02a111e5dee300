/-
  Frames: bump. No project text.
-/
import Derived.Test.YtkflmglpniebfaaFr14b
namespace Go.Proofs.Ytkflmglpniebfaa.Fr
open Go.Rx
open Go.RowKit (Below)
set_option linter.unusedVariables false
def con39F : Con := fun vs bs K => match vs with
  | [u, vl, .int .i64 x, .int .i64 y] => five u fun a b c d e => parseR [.i64, .i64] 0 vl bs fun nl fl j0 bs0 => bs0 = [] ∧ ((askF a b c d e nl fl x = 0) ∧ (1 ≤ y) ∧ (¬ fl x.toNat 0 = 0) ∧ (a - fl x.toNat 1 < y)) ∧ (K (.tuple ⟨[.slice none 0 0, .int .i64 0, .int .i64 (5)]⟩) [])
  | _ => False

def con39F_rA (a b c d e : Int) (el nl cl : Nat) (fl : RF) (x : Int) (y : Int) : Ann := fun _ => none
def con39G : Con := fun vs bs K => match vs with
  | [u, vl, .int .i64 x, .int .i64 y] => five u fun a b c d e => parseR [.i64, .i64] 0 vl bs fun nl fl j0 bs0 => bs0 = [] ∧ ((askF a b c d e nl fl x = 0) ∧ (1 ≤ y) ∧ (¬ fl x.toNat 0 = 0) ∧ (y ≤ a - fl x.toNat 1)) ∧ (∀ cp, nl ≤ cp → K (.tuple ⟨[rsl j0 0 nl cp, .int .i64 (1 + c + x * a + fl x.toNat 1), .int .i64 0]⟩) [.row false [.i64, .i64] 54 nl cp (putF fl x.toNat 1 (fl x.toNat 1 + y))])
  | _ => False

def con39G_rA (a b c d e : Int) (el nl cl : Nat) (fl : RF) (x : Int) (y : Int) : Ann := fun _ => none
def con39F_rV (a b c d e : Int) (el nl cl : Nat) (fl : RF) (x : Int) (y : Int) (K : Value → List Blk → Prop) : Prop := ((true = true) ∧ ((true = true) ∧ ((true = true) ∧ (((0 : Nat) + nl ≤ nl) ∧ ((true = true) ∧ ((InC a b c d e) ∧ ((@Eq Nat ((0 : Nat)) ((0 : Nat))) ∧ ((nl ≤ (100000 : Nat)) ∧ (((@Eq (List IntKind) ([IntKind.i64, IntKind.i64]) ([IntKind.i64, IntKind.i64])) ∧ ((@Eq Nat (nl) (nl)) ∧ (@Eq Nat (cl) (cl)))) ∧ ((@Eq (List Blk) ([]) ([])) ∧ ((@Eq Int (askF a b c d e nl fl x) ((0 : Int))) ∧ ((true = true) ∧ ((true = true) ∧ (if (y < (1 : Int)) then (∃ y0 : Value, (∃ y1 : List Blk, ((Go.Rx.Found 1 (Value.tuple { toList := [Value.slice none (0 : Nat) (0 : Nat), Value.int IntKind.i64 (0 : Int), Value.int IntKind.i64 (7 : Int)] }) ({ h := [((2 : Nat), Blk.cells [Value.int IntKind.i64 y] (3 : Nat)), ((1 : Nat), Blk.cells [Value.int IntKind.i64 a, Value.int IntKind.i64 b, Value.int IntKind.i64 c, Value.int IntKind.i64 d, Value.int IntKind.i64 e] (23 : Nat)), ((0 : Nat), Blk.row true [IntKind.i64, IntKind.i64] el nl cl fl)], next := (3 : Nat) }) (y0) (y1)) ∧ (K y0 y1)))) else ((true = true) ∧ ((true = true) ∧ (((0 : Nat) + nl ≤ nl) ∧ ((true = true) ∧ ((InC a b c d e) ∧ ((@Eq Nat ((0 : Nat)) ((0 : Nat))) ∧ ((nl ≤ (100000 : Nat)) ∧ (((@Eq (List IntKind) ([IntKind.i64, IntKind.i64]) ([IntKind.i64, IntKind.i64])) ∧ ((@Eq Nat (nl) (nl)) ∧ (@Eq Nat (cl) (cl)))) ∧ ((@Eq (List Blk) ([]) ([])) ∧ (((@Eq Int (askF a b c d e nl fl x) ((0 : Int))) ∧ (¬fl (Int.toNat x) (0 : Nat) = (0 : Int))) ∧ ((true = true) ∧ ((true = true) ∧ (if (a - fl (Int.toNat x) (1 : Nat) < y) then (∃ y0 : Value, (∃ y1 : List Blk, ((Go.Rx.Found 1 (Value.tuple { toList := [Value.slice none (0 : Nat) (0 : Nat), Value.int IntKind.i64 (0 : Int), Value.int IntKind.i64 (5 : Int)] }) ({ h := [((2 : Nat), Blk.cells [Value.int IntKind.i64 y] (3 : Nat)), ((1 : Nat), Blk.cells [Value.int IntKind.i64 a, Value.int IntKind.i64 b, Value.int IntKind.i64 c, Value.int IntKind.i64 d, Value.int IntKind.i64 e] (23 : Nat)), ((0 : Nat), Blk.row true [IntKind.i64, IntKind.i64] el nl cl fl)], next := (3 : Nat) }) (y0) (y1)) ∧ (K y0 y1)))) else ((true = true) ∧ ((@Eq (Ev.TK) (Ev.TK.slice) (Ev.TK.slice)) ∧ ((@Eq (Ev.TK) (Ev.TK.slice) (Ev.TK.slice)) ∧ ((true = true) ∧ ((true = true) ∧ ((true = true) ∧ ((((0 : Int) ≤ (↑nl : Int)) ∧ (((↑nl : Int) ≤ (↑nl : Int)) ∧ ((↑nl : Int) ≤ (100000 : Int)))) ∧ ((@Eq (Ev.TK) (Ev.TK.slice) (Ev.TK.slice)) ∧ ((@Eq (Ev.TK) (Ev.TK.slice) (Ev.TK.slice)) ∧ ((true = true) ∧ ((true = true) ∧ ((true = true) ∧ ((true = true) ∧ (((0 : Nat) + nl ≤ nl) ∧ (((false = false) ∧ ((true = true) ∧ ((0 : Nat) + nl ≤ nl))) ∧ (((@Eq (Ev.TK) (Ev.TK.slice) (Ev.TK.slice)) ∧ (@Eq Nat ((2 : Nat)) ((2 : Nat)))) ∧ ((((0 : Int) ≤ x) ∧ (x < (↑nl : Int))) ∧ ((true = true) ∧ ((true = true) ∧ ((true = true) ∧ ((true = true) ∧ ((true = true) ∧ ((true = true) ∧ ((true = true) ∧ ((Int.toNat x < nl) ∧ ((true = true) ∧ ((true = true) ∧ ((true = true) ∧ ((((-9223372036854775808 : Int) ≤ cpyF (fun x x_1 ↦ (0 : Int)) (0 : Nat) (Nat.min nl nl) fl (0 : Nat) (Int.toNat x) (1 : Nat) + y) ∧ (cpyF (fun x x_1 ↦ (0 : Int)) (0 : Nat) (Nat.min nl nl) fl (0 : Nat) (Int.toNat x) (1 : Nat) + y ≤ (9223372036854775807 : Int))) ∧ ((true = true) ∧ ((true = true) ∧ ((true = true) ∧ ((false = false) ∧ ((Int.toNat x < nl) ∧ ((true = true) ∧ ((true = true) ∧ (∃ y0 : Value, (∃ y1 : List Blk, ((Go.Rx.Found 1 (Value.tuple { toList := [rsl (3 : Nat) (0 : Nat) nl nl, Value.int IntKind.i64 ((1 : Int) + c + x * a + fl (Int.toNat x) (1 : Nat)), Value.int IntKind.i64 (0 : Int)] }) ({ h := [((3 : Nat), Blk.row false [IntKind.i64, IntKind.i64] (54 : Nat) nl nl (putF (cpyF (fun x x_1 ↦ (0 : Int)) (0 : Nat) (Nat.min nl nl) fl (0 : Nat)) (Int.toNat x) (1 : Nat) (cpyF (fun x x_1 ↦ (0 : Int)) (0 : Nat) (Nat.min nl nl) fl (0 : Nat) (Int.toNat x) (1 : Nat) + y))), ((2 : Nat), Blk.cells [Value.int IntKind.i64 y] (3 : Nat)), ((1 : Nat), Blk.cells [Value.int IntKind.i64 a, Value.int IntKind.i64 b, Value.int IntKind.i64 c, Value.int IntKind.i64 d, Value.int IntKind.i64 e] (23 : Nat)), ((0 : Nat), Blk.row true [IntKind.i64, IntKind.i64] el nl cl fl)], next := (4 : Nat) }) (y0) (y1)) ∧ (K y0 y1)))))))))))))))))))))))))))))))))))))))))))))))))))))))))))))))))))
theorem con39F_rE (a b c d e : Int) (el nl cl : Nat) (fl : RF) (x : Int) (y : Int) (K : Value → List Blk → Prop) : con39F_rV a b c d e el nl cl fl x y K = bodyX (mk X39F) (callN (mk X39F) 4) (con39F_rA a b c d e el nl cl fl x y) Try.f39 [.agg ⟨[.int .i64 a, .int .i64 b, .int .i64 c, .int .i64 d, .int .i64 e]⟩, rsl 0 0 nl cl, .int .i64 x, .int .i64 y] (stOf [.row true [.i64, .i64] el nl cl fl]) fun v s' => ∃ v1 news, Rx.Found 1 v s' v1 news ∧ K v1 news := by kernel_rfl
set_option maxHeartbeats 4000000 in
set_option tactic.hygienic false in
theorem con39F_rP (a b c d e : Int) (el nl cl : Nat) (fl : RF) (x : Int) (y : Int) (K : Value → List Blk → Prop)  (hI : InC a b c d e) (hnl : nl ≤ 100000) (h1 : askF a b c d e nl fl x = 0) (h2 : 1 ≤ y) (h3 : ¬ fl x.toNat 0 = 0) (h4 : a - fl x.toNat 1 < y) (h : K (.tuple ⟨[.slice none 0 0, .int .i64 0, .int .i64 (5)]⟩) []) : con39F_rV a b c d e el nl cl fl x y K := by
  unfold con39F_rV
  obtain ⟨g1, g2, g3, g4, g5, g6, g7, g8⟩ := bumpy h1
  unfold fok at g8
  have gm := mul_bd ⟨g2.1, g2.2.1⟩ (x := x) (b := b) (by omega) (by omega) (by omega)
  repeat' (first | (with_reducible exact rfl) | (with_reducible exact trivial) | (with_reducible refine And.intro ?_ ?_) | (intro) | (with_reducible refine br_intro (fun hq => ?_) (fun hq => ?_)) | (with_reducible refine if_both (fun hz => ?_) (fun hz => ?_)) | fail)
  all_goals first
    | omega
    | assumption
    | contradiction
    | exact fin0 (by kernel_rfl) (by kernel_rfl) (by first | exact h | simpa using h)
    | (refine fin1t rfl ?_ (by kernel_rfl) (by kernel_rfl) (h _ (by omega)); (intro i j hi hj; have hj' : j = 0 ∨ j = 1 := (by simp at hj; omega); simp only [putE, putF, cpyF, appF, shiftF, zF, Nat.min_self, Nat.sub_zero, Nat.add_zero, Nat.zero_add, Int.toNat_natCast, Int.toNat_zero]; rcases hj' with rfl | rfl <;> (repeat' split) <;> first | rfl | omega | (simp_all; done) | (simp_all; omega)))
    | (exfalso; simp at hq; omega)
    | (simp only [cpyF, Nat.min_self, Nat.zero_add, Nat.sub_zero, Nat.add_zero]; split <;> omega)
theorem con39F_ok : BodyOk (mk X39F) 4 Try.f39 con39F := by
  intro vs bs K hh hro
  clear hro
  unfold con39F at hh
  split at hh
  · rename_i u vl x y
    obtain ⟨a, b, c, d, e, rfl, hI, hh0⟩ := five_inv hh
    obtain ⟨el, nl, cl, fl, btl, rfl, hnl, rfl, hh1⟩ := parseR_inv hh0
    obtain ⟨rfl, ⟨h1, h2, h3, h4⟩, hc⟩ := hh1
    exact ⟨_, cast (con39F_rE a b c d e el nl cl fl x y K) (con39F_rP a b c d e el nl cl fl x y K hI hnl h1 h2 h3 h4 hc)⟩
  · exact hh.elim
theorem con39F_told : Told 39 (specOf con39F) := told (X := X39F) X39F_told (by kernel_rfl) (by kernel_rfl) (by kernel_rfl) con39F_ok
def con39G_rV (a b c d e : Int) (el nl cl : Nat) (fl : RF) (x : Int) (y : Int) (K : Value → List Blk → Prop) : Prop := ((true = true) ∧ ((true = true) ∧ ((true = true) ∧ (((0 : Nat) + nl ≤ nl) ∧ ((true = true) ∧ ((InC a b c d e) ∧ ((@Eq Nat ((0 : Nat)) ((0 : Nat))) ∧ ((nl ≤ (100000 : Nat)) ∧ (((@Eq (List IntKind) ([IntKind.i64, IntKind.i64]) ([IntKind.i64, IntKind.i64])) ∧ ((@Eq Nat (nl) (nl)) ∧ (@Eq Nat (cl) (cl)))) ∧ ((@Eq (List Blk) ([]) ([])) ∧ ((@Eq Int (askF a b c d e nl fl x) ((0 : Int))) ∧ ((true = true) ∧ ((true = true) ∧ (if (y < (1 : Int)) then (∃ y0 : Value, (∃ y1 : List Blk, ((Go.Rx.Found 1 (Value.tuple { toList := [Value.slice none (0 : Nat) (0 : Nat), Value.int IntKind.i64 (0 : Int), Value.int IntKind.i64 (7 : Int)] }) ({ h := [((2 : Nat), Blk.cells [Value.int IntKind.i64 y] (3 : Nat)), ((1 : Nat), Blk.cells [Value.int IntKind.i64 a, Value.int IntKind.i64 b, Value.int IntKind.i64 c, Value.int IntKind.i64 d, Value.int IntKind.i64 e] (23 : Nat)), ((0 : Nat), Blk.row true [IntKind.i64, IntKind.i64] el nl cl fl)], next := (3 : Nat) }) (y0) (y1)) ∧ (K y0 y1)))) else ((true = true) ∧ ((true = true) ∧ (((0 : Nat) + nl ≤ nl) ∧ ((true = true) ∧ ((InC a b c d e) ∧ ((@Eq Nat ((0 : Nat)) ((0 : Nat))) ∧ ((nl ≤ (100000 : Nat)) ∧ (((@Eq (List IntKind) ([IntKind.i64, IntKind.i64]) ([IntKind.i64, IntKind.i64])) ∧ ((@Eq Nat (nl) (nl)) ∧ (@Eq Nat (cl) (cl)))) ∧ ((@Eq (List Blk) ([]) ([])) ∧ (((@Eq Int (askF a b c d e nl fl x) ((0 : Int))) ∧ (¬fl (Int.toNat x) (0 : Nat) = (0 : Int))) ∧ ((true = true) ∧ ((true = true) ∧ (if (a - fl (Int.toNat x) (1 : Nat) < y) then (∃ y0 : Value, (∃ y1 : List Blk, ((Go.Rx.Found 1 (Value.tuple { toList := [Value.slice none (0 : Nat) (0 : Nat), Value.int IntKind.i64 (0 : Int), Value.int IntKind.i64 (5 : Int)] }) ({ h := [((2 : Nat), Blk.cells [Value.int IntKind.i64 y] (3 : Nat)), ((1 : Nat), Blk.cells [Value.int IntKind.i64 a, Value.int IntKind.i64 b, Value.int IntKind.i64 c, Value.int IntKind.i64 d, Value.int IntKind.i64 e] (23 : Nat)), ((0 : Nat), Blk.row true [IntKind.i64, IntKind.i64] el nl cl fl)], next := (3 : Nat) }) (y0) (y1)) ∧ (K y0 y1)))) else ((true = true) ∧ ((@Eq (Ev.TK) (Ev.TK.slice) (Ev.TK.slice)) ∧ ((@Eq (Ev.TK) (Ev.TK.slice) (Ev.TK.slice)) ∧ ((true = true) ∧ ((true = true) ∧ ((true = true) ∧ ((((0 : Int) ≤ (↑nl : Int)) ∧ (((↑nl : Int) ≤ (↑nl : Int)) ∧ ((↑nl : Int) ≤ (100000 : Int)))) ∧ ((@Eq (Ev.TK) (Ev.TK.slice) (Ev.TK.slice)) ∧ ((@Eq (Ev.TK) (Ev.TK.slice) (Ev.TK.slice)) ∧ ((true = true) ∧ ((true = true) ∧ ((true = true) ∧ ((true = true) ∧ (((0 : Nat) + nl ≤ nl) ∧ (((false = false) ∧ ((true = true) ∧ ((0 : Nat) + nl ≤ nl))) ∧ (((@Eq (Ev.TK) (Ev.TK.slice) (Ev.TK.slice)) ∧ (@Eq Nat ((2 : Nat)) ((2 : Nat)))) ∧ ((((0 : Int) ≤ x) ∧ (x < (↑nl : Int))) ∧ ((true = true) ∧ ((true = true) ∧ ((true = true) ∧ ((true = true) ∧ ((true = true) ∧ ((true = true) ∧ ((true = true) ∧ ((Int.toNat x < nl) ∧ ((true = true) ∧ ((true = true) ∧ ((true = true) ∧ ((((-9223372036854775808 : Int) ≤ cpyF (fun x x_1 ↦ (0 : Int)) (0 : Nat) (Nat.min nl nl) fl (0 : Nat) (Int.toNat x) (1 : Nat) + y) ∧ (cpyF (fun x x_1 ↦ (0 : Int)) (0 : Nat) (Nat.min nl nl) fl (0 : Nat) (Int.toNat x) (1 : Nat) + y ≤ (9223372036854775807 : Int))) ∧ ((true = true) ∧ ((true = true) ∧ ((true = true) ∧ ((false = false) ∧ ((Int.toNat x < nl) ∧ ((true = true) ∧ ((true = true) ∧ (∃ y0 : Value, (∃ y1 : List Blk, ((Go.Rx.Found 1 (Value.tuple { toList := [rsl (3 : Nat) (0 : Nat) nl nl, Value.int IntKind.i64 ((1 : Int) + c + x * a + fl (Int.toNat x) (1 : Nat)), Value.int IntKind.i64 (0 : Int)] }) ({ h := [((3 : Nat), Blk.row false [IntKind.i64, IntKind.i64] (54 : Nat) nl nl (putF (cpyF (fun x x_1 ↦ (0 : Int)) (0 : Nat) (Nat.min nl nl) fl (0 : Nat)) (Int.toNat x) (1 : Nat) (cpyF (fun x x_1 ↦ (0 : Int)) (0 : Nat) (Nat.min nl nl) fl (0 : Nat) (Int.toNat x) (1 : Nat) + y))), ((2 : Nat), Blk.cells [Value.int IntKind.i64 y] (3 : Nat)), ((1 : Nat), Blk.cells [Value.int IntKind.i64 a, Value.int IntKind.i64 b, Value.int IntKind.i64 c, Value.int IntKind.i64 d, Value.int IntKind.i64 e] (23 : Nat)), ((0 : Nat), Blk.row true [IntKind.i64, IntKind.i64] el nl cl fl)], next := (4 : Nat) }) (y0) (y1)) ∧ (K y0 y1)))))))))))))))))))))))))))))))))))))))))))))))))))))))))))))))))))
theorem con39G_rE (a b c d e : Int) (el nl cl : Nat) (fl : RF) (x : Int) (y : Int) (K : Value → List Blk → Prop) : con39G_rV a b c d e el nl cl fl x y K = bodyX (mk X39G) (callN (mk X39G) 4) (con39G_rA a b c d e el nl cl fl x y) Try.f39 [.agg ⟨[.int .i64 a, .int .i64 b, .int .i64 c, .int .i64 d, .int .i64 e]⟩, rsl 0 0 nl cl, .int .i64 x, .int .i64 y] (stOf [.row true [.i64, .i64] el nl cl fl]) fun v s' => ∃ v1 news, Rx.Found 1 v s' v1 news ∧ K v1 news := by kernel_rfl
set_option maxHeartbeats 4000000 in
set_option tactic.hygienic false in
theorem con39G_rP (a b c d e : Int) (el nl cl : Nat) (fl : RF) (x : Int) (y : Int) (K : Value → List Blk → Prop)  (hI : InC a b c d e) (hnl : nl ≤ 100000) (h1 : askF a b c d e nl fl x = 0) (h2 : 1 ≤ y) (h3 : ¬ fl x.toNat 0 = 0) (h4 : y ≤ a - fl x.toNat 1) (h : ∀ cp, nl ≤ cp → K (.tuple ⟨[rsl 1 0 nl cp, .int .i64 (1 + c + x * a + fl x.toNat 1), .int .i64 0]⟩) [.row false [.i64, .i64] 54 nl cp (putF fl x.toNat 1 (fl x.toNat 1 + y))]) : con39G_rV a b c d e el nl cl fl x y K := by
  unfold con39G_rV
  obtain ⟨g1, g2, g3, g4, g5, g6, g7, g8⟩ := bumpy h1
  unfold fok at g8
  have gm := mul_bd ⟨g2.1, g2.2.1⟩ (x := x) (b := b) (by omega) (by omega) (by omega)
  repeat' (first | (with_reducible exact rfl) | (with_reducible exact trivial) | (with_reducible refine And.intro ?_ ?_) | (intro) | (with_reducible refine br_intro (fun hq => ?_) (fun hq => ?_)) | (with_reducible refine if_both (fun hz => ?_) (fun hz => ?_)) | fail)
  all_goals first
    | omega
    | assumption
    | contradiction
    | exact fin0 (by kernel_rfl) (by kernel_rfl) (by first | exact h | simpa using h)
    | (refine fin1t rfl ?_ (by kernel_rfl) (by kernel_rfl) (h _ (by omega)); (intro i j hi hj; have hj' : j = 0 ∨ j = 1 := (by simp at hj; omega); simp only [putE, putF, cpyF, appF, shiftF, zF, Nat.min_self, Nat.sub_zero, Nat.add_zero, Nat.zero_add, Int.toNat_natCast, Int.toNat_zero]; rcases hj' with rfl | rfl <;> (repeat' split) <;> first | rfl | omega | (simp_all; done) | (simp_all; omega)))
    | (exfalso; simp at hq; omega)
    | (simp only [cpyF, Nat.min_self, Nat.zero_add, Nat.sub_zero, Nat.add_zero]; split <;> omega)
theorem con39G_ok : BodyOk (mk X39G) 4 Try.f39 con39G := by
  intro vs bs K hh hro
  clear hro
  unfold con39G at hh
  split at hh
  · rename_i u vl x y
    obtain ⟨a, b, c, d, e, rfl, hI, hh0⟩ := five_inv hh
    obtain ⟨el, nl, cl, fl, btl, rfl, hnl, rfl, hh1⟩ := parseR_inv hh0
    obtain ⟨rfl, ⟨h1, h2, h3, h4⟩, hc⟩ := hh1
    exact ⟨_, cast (con39G_rE a b c d e el nl cl fl x y K) (con39G_rP a b c d e el nl cl fl x y K hI hnl h1 h2 h3 h4 hc)⟩
  · exact hh.elim
theorem con39G_told : Told 39 (specOf con39G) := told (X := X39G) X39G_told (by kernel_rfl) (by kernel_rfl) (by kernel_rfl) con39G_ok
end Go.Proofs.Ytkflmglpniebfaa.Fr
