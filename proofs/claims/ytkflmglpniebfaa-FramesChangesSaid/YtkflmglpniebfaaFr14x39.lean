/-
  Frames: bump. No project text.
-/
import Derived.Test.YtkflmglpniebfaaFr14b
namespace Go.Proofs.Ytkflmglpniebfaa.Fr
open Go.Rx
open Go.RowKit (Below)
set_option linter.unusedVariables false
def con39B : Con := fun vs bs K => match vs with
  | [u, vl, .int .i64 x, .int .i64 y] => five u fun a b c d e => parse [.i64, .i64] 0 vl bs fun nl fl j0 bs0 => bs0 = [] ∧ ((¬ askF a b c d e nl fl x = 0)) ∧ (K (.tuple ⟨[.slice none 0 0, .int .i64 0, .int .i64 (askF a b c d e nl fl x)]⟩) [])
  | _ => False

def con39B_nA (a b c d e : Int) (x : Int) (y : Int) : Ann := fun _ => none
def con39B_rA (a b c d e : Int) (el nl cl : Nat) (fl : RF) (x : Int) (y : Int) : Ann := fun _ => none
def con39Y : Con := fun vs bs K => match vs with
  | [u, vl, .int .i64 x, .int .i64 y] => five u fun a b c d e => parseR [.i64, .i64] 0 vl bs fun nl fl j0 bs0 => bs0 = [] ∧ ((askF a b c d e nl fl x = 0) ∧ (y < 1)) ∧ (K (.tuple ⟨[.slice none 0 0, .int .i64 0, .int .i64 (7)]⟩) [])
  | _ => False

def con39Y_rA (a b c d e : Int) (el nl cl : Nat) (fl : RF) (x : Int) (y : Int) : Ann := fun _ => none
def con39D : Con := fun vs bs K => match vs with
  | [u, vl, .int .i64 x, .int .i64 y] => five u fun a b c d e => parseR [.i64, .i64] 0 vl bs fun nl fl j0 bs0 => bs0 = [] ∧ ((askF a b c d e nl fl x = 0) ∧ (1 ≤ y) ∧ (fl x.toNat 0 = 0)) ∧ (K (.tuple ⟨[.slice none 0 0, .int .i64 0, .int .i64 (9)]⟩) [])
  | _ => False

def con39D_rA (a b c d e : Int) (el nl cl : Nat) (fl : RF) (x : Int) (y : Int) : Ann := fun _ => none
def con39F : Con := fun vs bs K => match vs with
  | [u, vl, .int .i64 x, .int .i64 y] => five u fun a b c d e => parseR [.i64, .i64] 0 vl bs fun nl fl j0 bs0 => bs0 = [] ∧ ((askF a b c d e nl fl x = 0) ∧ (1 ≤ y) ∧ (¬ fl x.toNat 0 = 0) ∧ (a - fl x.toNat 1 < y)) ∧ (K (.tuple ⟨[.slice none 0 0, .int .i64 0, .int .i64 (5)]⟩) [])
  | _ => False

def con39F_rA (a b c d e : Int) (el nl cl : Nat) (fl : RF) (x : Int) (y : Int) : Ann := fun _ => none
def con39G : Con := fun vs bs K => match vs with
  | [u, vl, .int .i64 x, .int .i64 y] => five u fun a b c d e => parseR [.i64, .i64] 0 vl bs fun nl fl j0 bs0 => bs0 = [] ∧ ((askF a b c d e nl fl x = 0) ∧ (1 ≤ y) ∧ (¬ fl x.toNat 0 = 0) ∧ (y ≤ a - fl x.toNat 1)) ∧ (∀ cp, nl ≤ cp → K (.tuple ⟨[rsl j0 0 nl cp, .int .i64 (1 + c + x * a + fl x.toNat 1), .int .i64 0]⟩) [.row false [.i64, .i64] 54 nl cp (putF fl x.toNat 1 (fl x.toNat 1 + y))])
  | _ => False

def con39G_rA (a b c d e : Int) (el nl cl : Nat) (fl : RF) (x : Int) (y : Int) : Ann := fun _ => none
def con39B_nV (a b c d e : Int) (x : Int) (y : Int) (K : Value → List Blk → Prop) : Prop := (T0 ∧ (T0 ∧ (T0 ∧ (T0 ∧ (T0 ∧ ((InC a b c d e) ∧ (eB ∧ ((¬askF a b c d e 0 zF x = 0) ∧ (T0 ∧ (if (@Eq Int (askF a b c d e 0 zF x) (0)) then (T0 ∧ (if (y < 1) then (∃ y0 : Value, (∃ y1 : List Blk, ((Go.Rx.Found 0 (vt [vn, vi 0, vi 7]) ({ h := [(1, Blk.cells [vi y] 3), (0, CB a b c d e)], next := 2 }) (y0) (y1)) ∧ (K y0 y1)))) else (T0 ∧ (T0 ∧ (T0 ∧ (T0 ∧ ((InC a b c d e) ∧ (eB ∧ ((¬askF a b c d e 0 zF x = 0) ∧ (T0 ∧ (if (@Eq Int (askF a b c d e 0 zF x) (0)) then (T0 ∧ (if (0 < y) then (∃ y0 : Value, (∃ y1 : List Blk, ((Go.Rx.Found 0 (vt [vn, vi 0, vi 5]) ({ h := [(1, Blk.cells [vi y] 3), (0, CB a b c d e)], next := 2 }) (y0) (y1)) ∧ (K y0 y1)))) else (T0 ∧ (TS ∧ (TS ∧ (T0 ∧ (T0 ∧ (T0 ∧ (((0 ≤ (↑0 : Int)) ∧ (((↑0 : Int) ≤ (↑0 : Int)) ∧ ((↑0 : Int) ≤ 100000))) ∧ (TS ∧ (TS ∧ (T0 ∧ (T0 ∧ (T0 ∧ (((false = false) ∧ (T0 ∧ (0 ≤ 0))) ∧ ((TS ∧ (eN 2)) ∧ (((0 ≤ x) ∧ (x < (↑0 : Int))) ∧ (T0 ∧ (T0 ∧ (T0 ∧ (T0 ∧ (T0 ∧ (T0 ∧ (T0 ∧ ((Int.toNat x < 0) ∧ (T0 ∧ (T0 ∧ (T0 ∧ ((((-9223372036854775808 : Int) ≤ cpyF (fun x x_1 ↦ 0) 0 (Nat.min 0 0) (fun x x_1 ↦ 0) 0 (Int.toNat x) 1 + y) ∧ (cpyF (fun x x_1 ↦ 0) 0 (Nat.min 0 0) (fun x x_1 ↦ 0) 0 (Int.toNat x) 1 + y ≤ 9223372036854775807)) ∧ (T0 ∧ (T0 ∧ (T0 ∧ ((false = false) ∧ ((Int.toNat x < 0) ∧ (T0 ∧ (T0 ∧ (∃ y0 : Value, (∃ y1 : List Blk, ((Go.Rx.Found 0 (vt [rsl 2 0 0 0, vi 0, vi 0]) ({ h := [(2, rF 54 0 0 (putF (cpyF (fun x x_1 ↦ 0) 0 (Nat.min 0 0) (fun x x_1 ↦ 0) 0) (Int.toNat x) 1 (cpyF (fun x x_1 ↦ 0) 0 (Nat.min 0 0) (fun x x_1 ↦ 0) 0 (Int.toNat x) 1 + y))), (1, Blk.cells [vi y] 3), (0, CB a b c d e)], next := 3 }) (y0) (y1)) ∧ (K y0 y1)))))))))))))))))))))))))))))))))))))))) else (∃ y0 : Value, (∃ y1 : List Blk, ((Go.Rx.Found 0 (vt [vn, vi 0, vi (askF a b c d e 0 zF x)]) ({ h := [(1, Blk.cells [vi y] 3), (0, CB a b c d e)], next := 2 }) (y0) (y1)) ∧ (K y0 y1))))))))))))))) else (∃ y0 : Value, (∃ y1 : List Blk, ((Go.Rx.Found 0 (vt [vn, vi 0, vi (askF a b c d e 0 zF x)]) ({ h := [(1, Blk.cells [vi y] 3), (0, CB a b c d e)], next := 2 }) (y0) (y1)) ∧ (K y0 y1))))))))))))))
theorem con39B_nE (a b c d e : Int) (x : Int) (y : Int) (K : Value → List Blk → Prop) : con39B_nV a b c d e x y K = bodyX (mk X39B) (callN (mk X39B) 4) (con39B_nA a b c d e x y) Try.f39 [.agg ⟨[.int .i64 a, .int .i64 b, .int .i64 c, .int .i64 d, .int .i64 e]⟩, .slice none 0 0, .int .i64 x, .int .i64 y] (stOf []) fun v s' => ∃ v1 news, Rx.Found 0 v s' v1 news ∧ K v1 news := by kernel_rfl
set_option maxHeartbeats 4000000 in
set_option tactic.hygienic false in
theorem con39B_nP (a b c d e : Int) (x : Int) (y : Int) (K : Value → List Blk → Prop)  (hI : InC a b c d e) (h1 : ¬ askF a b c d e 0 zF x = 0) (h : K (.tuple ⟨[.slice none 0 0, .int .i64 0, .int .i64 (askF a b c d e 0 zF x)]⟩) []) : con39B_nV a b c d e x y K := by
  unfold con39B_nV

  repeat' (first | (with_reducible exact rfl) | (with_reducible exact trivial) | (with_reducible refine And.intro ?_ ?_) | (intro) | (with_reducible refine br_intro (fun hq => ?_) (fun hq => ?_)) | (with_reducible refine if_both (fun hz => ?_) (fun hz => ?_)) | fail)
  all_goals first
    | omega
    | assumption
    | contradiction
    | exact fin0 (by kernel_rfl) (by kernel_rfl) (by first | exact h | simpa using h)
    | (refine fin1t rfl ?_ (by kernel_rfl) (by kernel_rfl) (h _ (by omega)); (intro i j hi hj; have hj' : j = 0 ∨ j = 1 := (by simp at hj; omega); simp only [putE, putF, cpyF, appF, shiftF, zF, Nat.min_self, Nat.sub_zero, Nat.add_zero, Nat.zero_add, Int.toNat_natCast, Int.toNat_zero]; rcases hj' with rfl | rfl <;> (repeat' split) <;> first | rfl | omega | (simp_all; done) | (simp_all; omega)))
    | (exfalso; simp at hq; omega)
    | (simp only [cpyF, Nat.min_self, Nat.zero_add, Nat.sub_zero, Nat.add_zero]; split <;> omega)
def con39B_rV (a b c d e : Int) (el nl cl : Nat) (fl : RF) (x : Int) (y : Int) (K : Value → List Blk → Prop) : Prop := (T0 ∧ (T0 ∧ (T0 ∧ ((0 + nl ≤ nl) ∧ (T0 ∧ ((InC a b c d e) ∧ ((eN 0) ∧ ((nl ≤ 100000) ∧ ((eK ∧ ((eN nl) ∧ (eN cl))) ∧ (eB ∧ ((¬askF a b c d e nl fl x = 0) ∧ (T0 ∧ (if (@Eq Int (askF a b c d e nl fl x) (0)) then (T0 ∧ (if (y < 1) then (∃ y0 : Value, (∃ y1 : List Blk, ((Go.Rx.Found 1 (vt [vn, vi 0, vi 7]) ({ h := [(2, Blk.cells [vi y] 3), (1, CB a b c d e), (0, rT el nl cl fl)], next := 3 }) (y0) (y1)) ∧ (K y0 y1)))) else (T0 ∧ (T0 ∧ ((0 + nl ≤ nl) ∧ (T0 ∧ ((InC a b c d e) ∧ ((eN 0) ∧ ((nl ≤ 100000) ∧ ((eK ∧ ((eN nl) ∧ (eN cl))) ∧ (eB ∧ ((¬askF a b c d e nl fl x = 0) ∧ (T0 ∧ (if (@Eq Int (askF a b c d e nl fl x) (0)) then (T0 ∧ (if (0 < y) then (∃ y0 : Value, (∃ y1 : List Blk, ((Go.Rx.Found 1 (vt [vn, vi 0, vi 5]) ({ h := [(2, Blk.cells [vi y] 3), (1, CB a b c d e), (0, rT el nl cl fl)], next := 3 }) (y0) (y1)) ∧ (K y0 y1)))) else (T0 ∧ (TS ∧ (TS ∧ (T0 ∧ (T0 ∧ (T0 ∧ (((0 ≤ (↑nl : Int)) ∧ (((↑nl : Int) ≤ (↑nl : Int)) ∧ ((↑nl : Int) ≤ 100000))) ∧ (TS ∧ (TS ∧ (T0 ∧ (T0 ∧ (T0 ∧ (T0 ∧ ((0 + nl ≤ nl) ∧ (((false = false) ∧ (T0 ∧ (0 + nl ≤ nl))) ∧ ((TS ∧ (eN 2)) ∧ (((0 ≤ x) ∧ (x < (↑nl : Int))) ∧ (T0 ∧ (T0 ∧ (T0 ∧ (T0 ∧ (T0 ∧ (T0 ∧ (T0 ∧ ((Int.toNat x < nl) ∧ (T0 ∧ (T0 ∧ (T0 ∧ ((((-9223372036854775808 : Int) ≤ cpyF (fun x x_1 ↦ 0) 0 (Nat.min nl nl) fl 0 (Int.toNat x) 1 + y) ∧ (cpyF (fun x x_1 ↦ 0) 0 (Nat.min nl nl) fl 0 (Int.toNat x) 1 + y ≤ 9223372036854775807)) ∧ (T0 ∧ (T0 ∧ (T0 ∧ ((false = false) ∧ ((Int.toNat x < nl) ∧ (T0 ∧ (T0 ∧ (∃ y0 : Value, (∃ y1 : List Blk, ((Go.Rx.Found 1 (vt [rsl 3 0 nl nl, vi 0, vi 0]) ({ h := [(3, rF 54 nl nl (putF (cpyF (fun x x_1 ↦ 0) 0 (Nat.min nl nl) fl 0) (Int.toNat x) 1 (cpyF (fun x x_1 ↦ 0) 0 (Nat.min nl nl) fl 0 (Int.toNat x) 1 + y))), (2, Blk.cells [vi y] 3), (1, CB a b c d e), (0, rT el nl cl fl)], next := 4 }) (y0) (y1)) ∧ (K y0 y1)))))))))))))))))))))))))))))))))))))))))) else (∃ y0 : Value, (∃ y1 : List Blk, ((Go.Rx.Found 1 (vt [vn, vi 0, vi (askF a b c d e nl fl x)]) ({ h := [(2, Blk.cells [vi y] 3), (1, CB a b c d e), (0, rT el nl cl fl)], next := 3 }) (y0) (y1)) ∧ (K y0 y1)))))))))))))))))) else (∃ y0 : Value, (∃ y1 : List Blk, ((Go.Rx.Found 1 (vt [vn, vi 0, vi (askF a b c d e nl fl x)]) ({ h := [(2, Blk.cells [vi y] 3), (1, CB a b c d e), (0, rT el nl cl fl)], next := 3 }) (y0) (y1)) ∧ (K y0 y1)))))))))))))))))
theorem con39B_rE (a b c d e : Int) (el nl cl : Nat) (fl : RF) (x : Int) (y : Int) (K : Value → List Blk → Prop) : con39B_rV a b c d e el nl cl fl x y K = bodyX (mk X39B) (callN (mk X39B) 4) (con39B_rA a b c d e el nl cl fl x y) Try.f39 [.agg ⟨[.int .i64 a, .int .i64 b, .int .i64 c, .int .i64 d, .int .i64 e]⟩, rsl 0 0 nl cl, .int .i64 x, .int .i64 y] (stOf [.row true [.i64, .i64] el nl cl fl]) fun v s' => ∃ v1 news, Rx.Found 1 v s' v1 news ∧ K v1 news := by kernel_rfl
set_option maxHeartbeats 4000000 in
set_option tactic.hygienic false in
theorem con39B_rP (a b c d e : Int) (el nl cl : Nat) (fl : RF) (x : Int) (y : Int) (K : Value → List Blk → Prop)  (hI : InC a b c d e) (hnl : nl ≤ 100000) (h1 : ¬ askF a b c d e nl fl x = 0) (h : K (.tuple ⟨[.slice none 0 0, .int .i64 0, .int .i64 (askF a b c d e nl fl x)]⟩) []) : con39B_rV a b c d e el nl cl fl x y K := by
  unfold con39B_rV

  repeat' (first | (with_reducible exact rfl) | (with_reducible exact trivial) | (with_reducible refine And.intro ?_ ?_) | (intro) | (with_reducible refine br_intro (fun hq => ?_) (fun hq => ?_)) | (with_reducible refine if_both (fun hz => ?_) (fun hz => ?_)) | fail)
  all_goals first
    | omega
    | assumption
    | contradiction
    | exact fin0 (by kernel_rfl) (by kernel_rfl) (by first | exact h | simpa using h)
    | (refine fin1t rfl ?_ (by kernel_rfl) (by kernel_rfl) (h _ (by omega)); (intro i j hi hj; have hj' : j = 0 ∨ j = 1 := (by simp at hj; omega); simp only [putE, putF, cpyF, appF, shiftF, zF, Nat.min_self, Nat.sub_zero, Nat.add_zero, Nat.zero_add, Int.toNat_natCast, Int.toNat_zero]; rcases hj' with rfl | rfl <;> (repeat' split) <;> first | rfl | omega | (simp_all; done) | (simp_all; omega)))
    | (exfalso; simp at hq; omega)
    | (simp only [cpyF, Nat.min_self, Nat.zero_add, Nat.sub_zero, Nat.add_zero]; split <;> omega)
theorem con39B_ok : BodyOk (mk X39B) 4 Try.f39 con39B := by
  intro vs bs K hh hro
  clear hro
  unfold con39B at hh
  split at hh
  · rename_i u vl x y
    obtain ⟨a, b, c, d, e, rfl, hI, hh0⟩ := five_inv hh
    rcases parse_inv hh0 with ⟨rfl, hh1⟩ | ⟨el, nl, cl, fl, btl, rfl, hnl, rfl, hh1⟩ <;> clear hh0
    · obtain ⟨rfl, h1, hc⟩ := hh1
      exact ⟨_, cast (con39B_nE a b c d e  x y K) (con39B_nP a b c d e  x y K hI  h1 hc)⟩
    · obtain ⟨rfl, h1, hc⟩ := hh1
      exact ⟨_, cast (con39B_rE a b c d e el nl cl fl x y K) (con39B_rP a b c d e el nl cl fl x y K hI hnl h1 hc)⟩
  · exact hh.elim
theorem con39B_told : Told 39 (specOf con39B) := told (X := X39B) X39B_told (by kernel_rfl) (by kernel_rfl) (by kernel_rfl) con39B_ok
def con39Y_rV (a b c d e : Int) (el nl cl : Nat) (fl : RF) (x : Int) (y : Int) (K : Value → List Blk → Prop) : Prop := (T0 ∧ (T0 ∧ (T0 ∧ ((0 + nl ≤ nl) ∧ (T0 ∧ ((InC a b c d e) ∧ ((eN 0) ∧ ((nl ≤ 100000) ∧ ((eK ∧ ((eN nl) ∧ (eN cl))) ∧ (eB ∧ ((@Eq Int (askF a b c d e nl fl x) (0)) ∧ (T0 ∧ (T0 ∧ (if (y < 1) then (∃ y0 : Value, (∃ y1 : List Blk, ((Go.Rx.Found 1 (vt [vn, vi 0, vi 7]) ({ h := [(2, Blk.cells [vi y] 3), (1, CB a b c d e), (0, rT el nl cl fl)], next := 3 }) (y0) (y1)) ∧ (K y0 y1)))) else (T0 ∧ (T0 ∧ ((0 + nl ≤ nl) ∧ (T0 ∧ ((InC a b c d e) ∧ ((eN 0) ∧ ((nl ≤ 100000) ∧ ((eK ∧ ((eN nl) ∧ (eN cl))) ∧ (eB ∧ (((@Eq Int (askF a b c d e nl fl x) (0)) ∧ (¬fl (Int.toNat x) 0 = 0)) ∧ (T0 ∧ (T0 ∧ (if (a - fl (Int.toNat x) 1 < y) then (∃ y0 : Value, (∃ y1 : List Blk, ((Go.Rx.Found 1 (vt [vn, vi 0, vi 5]) ({ h := [(2, Blk.cells [vi y] 3), (1, CB a b c d e), (0, rT el nl cl fl)], next := 3 }) (y0) (y1)) ∧ (K y0 y1)))) else (T0 ∧ (TS ∧ (TS ∧ (T0 ∧ (T0 ∧ (T0 ∧ (((0 ≤ (↑nl : Int)) ∧ (((↑nl : Int) ≤ (↑nl : Int)) ∧ ((↑nl : Int) ≤ 100000))) ∧ (TS ∧ (TS ∧ (T0 ∧ (T0 ∧ (T0 ∧ (T0 ∧ ((0 + nl ≤ nl) ∧ (((false = false) ∧ (T0 ∧ (0 + nl ≤ nl))) ∧ ((TS ∧ (eN 2)) ∧ (((0 ≤ x) ∧ (x < (↑nl : Int))) ∧ (T0 ∧ (T0 ∧ (T0 ∧ (T0 ∧ (T0 ∧ (T0 ∧ (T0 ∧ ((Int.toNat x < nl) ∧ (T0 ∧ (T0 ∧ (T0 ∧ ((((-9223372036854775808 : Int) ≤ cpyF (fun x x_1 ↦ 0) 0 (Nat.min nl nl) fl 0 (Int.toNat x) 1 + y) ∧ (cpyF (fun x x_1 ↦ 0) 0 (Nat.min nl nl) fl 0 (Int.toNat x) 1 + y ≤ 9223372036854775807)) ∧ (T0 ∧ (T0 ∧ (T0 ∧ ((false = false) ∧ ((Int.toNat x < nl) ∧ (T0 ∧ (T0 ∧ (∃ y0 : Value, (∃ y1 : List Blk, ((Go.Rx.Found 1 (vt [rsl 3 0 nl nl, vi (1 + c + x * a + fl (Int.toNat x) 1), vi 0]) ({ h := [(3, rF 54 nl nl (putF (cpyF (fun x x_1 ↦ 0) 0 (Nat.min nl nl) fl 0) (Int.toNat x) 1 (cpyF (fun x x_1 ↦ 0) 0 (Nat.min nl nl) fl 0 (Int.toNat x) 1 + y))), (2, Blk.cells [vi y] 3), (1, CB a b c d e), (0, rT el nl cl fl)], next := 4 }) (y0) (y1)) ∧ (K y0 y1)))))))))))))))))))))))))))))))))))))))))))))))))))))))))))))))))))
theorem con39Y_rE (a b c d e : Int) (el nl cl : Nat) (fl : RF) (x : Int) (y : Int) (K : Value → List Blk → Prop) : con39Y_rV a b c d e el nl cl fl x y K = bodyX (mk X39Y) (callN (mk X39Y) 4) (con39Y_rA a b c d e el nl cl fl x y) Try.f39 [.agg ⟨[.int .i64 a, .int .i64 b, .int .i64 c, .int .i64 d, .int .i64 e]⟩, rsl 0 0 nl cl, .int .i64 x, .int .i64 y] (stOf [.row true [.i64, .i64] el nl cl fl]) fun v s' => ∃ v1 news, Rx.Found 1 v s' v1 news ∧ K v1 news := by kernel_rfl
set_option maxHeartbeats 4000000 in
set_option tactic.hygienic false in
theorem con39Y_rP (a b c d e : Int) (el nl cl : Nat) (fl : RF) (x : Int) (y : Int) (K : Value → List Blk → Prop)  (hI : InC a b c d e) (hnl : nl ≤ 100000) (h1 : askF a b c d e nl fl x = 0) (h2 : y < 1) (h : K (.tuple ⟨[.slice none 0 0, .int .i64 0, .int .i64 (7)]⟩) []) : con39Y_rV a b c d e el nl cl fl x y K := by
  unfold con39Y_rV
  obtain ⟨g1, g2, g3, g4, g5, g6, g7, g8⟩ := bumpy h1
  unfold fok at g8
  have gm := mul_bd ⟨g2.1, g2.2.1⟩ (x := x) (b := b) (by omega) (by omega) (by omega)
  repeat' (first | (with_reducible exact rfl) | (with_reducible exact trivial) | (with_reducible refine And.intro ?_ ?_) | (intro) | (with_reducible refine br_intro (fun hq => ?_) (fun hq => ?_)) | (with_reducible refine if_both (fun hz => ?_) (fun hz => ?_)) | fail)
  all_goals first
    | omega
    | assumption
    | contradiction
    | exact fin0 (by kernel_rfl) (by kernel_rfl) (by first | exact h | simpa using h)
    | (refine fin1t rfl ?_ (by kernel_rfl) (by kernel_rfl) (h _ (by omega)); (intro i j hi hj; have hj' : j = 0 ∨ j = 1 := (by simp at hj; omega); simp only [putE, putF, cpyF, appF, shiftF, zF, Nat.min_self, Nat.sub_zero, Nat.add_zero, Nat.zero_add, Int.toNat_natCast, Int.toNat_zero]; rcases hj' with rfl | rfl <;> (repeat' split) <;> first | rfl | omega | (simp_all; done) | (simp_all; omega)))
    | (exfalso; simp at hq; omega)
    | (simp only [cpyF, Nat.min_self, Nat.zero_add, Nat.sub_zero, Nat.add_zero]; split <;> omega)
theorem con39Y_ok : BodyOk (mk X39Y) 4 Try.f39 con39Y := by
  intro vs bs K hh hro
  clear hro
  unfold con39Y at hh
  split at hh
  · rename_i u vl x y
    obtain ⟨a, b, c, d, e, rfl, hI, hh0⟩ := five_inv hh
    obtain ⟨el, nl, cl, fl, btl, rfl, hnl, rfl, hh1⟩ := parseR_inv hh0
    obtain ⟨rfl, ⟨h1, h2⟩, hc⟩ := hh1
    exact ⟨_, cast (con39Y_rE a b c d e el nl cl fl x y K) (con39Y_rP a b c d e el nl cl fl x y K hI hnl h1 h2 hc)⟩
  · exact hh.elim
theorem con39Y_told : Told 39 (specOf con39Y) := told (X := X39Y) X39Y_told (by kernel_rfl) (by kernel_rfl) (by kernel_rfl) con39Y_ok
def con39D_rV (a b c d e : Int) (el nl cl : Nat) (fl : RF) (x : Int) (y : Int) (K : Value → List Blk → Prop) : Prop := (T0 ∧ (T0 ∧ (T0 ∧ ((0 + nl ≤ nl) ∧ (T0 ∧ ((InC a b c d e) ∧ ((eN 0) ∧ ((nl ≤ 100000) ∧ ((eK ∧ ((eN nl) ∧ (eN cl))) ∧ (eB ∧ ((@Eq Int (askF a b c d e nl fl x) (0)) ∧ (T0 ∧ (T0 ∧ (if (y < 1) then (∃ y0 : Value, (∃ y1 : List Blk, ((Go.Rx.Found 1 (vt [vn, vi 0, vi 7]) ({ h := [(2, Blk.cells [vi y] 3), (1, CB a b c d e), (0, rT el nl cl fl)], next := 3 }) (y0) (y1)) ∧ (K y0 y1)))) else (T0 ∧ (T0 ∧ ((0 + nl ≤ nl) ∧ (T0 ∧ ((InC a b c d e) ∧ ((eN 0) ∧ ((nl ≤ 100000) ∧ ((eK ∧ ((eN nl) ∧ (eN cl))) ∧ (eB ∧ (((@Eq Int (askF a b c d e nl fl x) (0)) ∧ (@Eq Int (fl (Int.toNat x) 0) (0))) ∧ (T0 ∧ (∃ y0 : Value, (∃ y1 : List Blk, ((Go.Rx.Found 1 (vt [vn, vi 0, vi 9]) ({ h := [(2, Blk.cells [vi y] 3), (1, CB a b c d e), (0, rT el nl cl fl)], next := 3 }) (y0) (y1)) ∧ (K y0 y1)))))))))))))))))))))))))))))
theorem con39D_rE (a b c d e : Int) (el nl cl : Nat) (fl : RF) (x : Int) (y : Int) (K : Value → List Blk → Prop) : con39D_rV a b c d e el nl cl fl x y K = bodyX (mk X39D) (callN (mk X39D) 4) (con39D_rA a b c d e el nl cl fl x y) Try.f39 [.agg ⟨[.int .i64 a, .int .i64 b, .int .i64 c, .int .i64 d, .int .i64 e]⟩, rsl 0 0 nl cl, .int .i64 x, .int .i64 y] (stOf [.row true [.i64, .i64] el nl cl fl]) fun v s' => ∃ v1 news, Rx.Found 1 v s' v1 news ∧ K v1 news := by kernel_rfl
set_option maxHeartbeats 4000000 in
set_option tactic.hygienic false in
theorem con39D_rP (a b c d e : Int) (el nl cl : Nat) (fl : RF) (x : Int) (y : Int) (K : Value → List Blk → Prop)  (hI : InC a b c d e) (hnl : nl ≤ 100000) (h1 : askF a b c d e nl fl x = 0) (h2 : 1 ≤ y) (h3 : fl x.toNat 0 = 0) (h : K (.tuple ⟨[.slice none 0 0, .int .i64 0, .int .i64 (9)]⟩) []) : con39D_rV a b c d e el nl cl fl x y K := by
  unfold con39D_rV
  obtain ⟨g1, g2, g3, g4, g5, g6, g7, g8⟩ := bumpy h1
  unfold fok at g8
  have gm := mul_bd ⟨g2.1, g2.2.1⟩ (x := x) (b := b) (by omega) (by omega) (by omega)
  repeat' (first | (with_reducible exact rfl) | (with_reducible exact trivial) | (with_reducible refine And.intro ?_ ?_) | (intro) | (with_reducible refine br_intro (fun hq => ?_) (fun hq => ?_)) | (with_reducible refine if_both (fun hz => ?_) (fun hz => ?_)) | fail)
  all_goals first
    | omega
    | assumption
    | contradiction
    | exact fin0 (by kernel_rfl) (by kernel_rfl) (by first | exact h | simpa using h)
    | (refine fin1t rfl ?_ (by kernel_rfl) (by kernel_rfl) (h _ (by omega)); (intro i j hi hj; have hj' : j = 0 ∨ j = 1 := (by simp at hj; omega); simp only [putE, putF, cpyF, appF, shiftF, zF, Nat.min_self, Nat.sub_zero, Nat.add_zero, Nat.zero_add, Int.toNat_natCast, Int.toNat_zero]; rcases hj' with rfl | rfl <;> (repeat' split) <;> first | rfl | omega | (simp_all; done) | (simp_all; omega)))
    | (exfalso; simp at hq; omega)
    | (simp only [cpyF, Nat.min_self, Nat.zero_add, Nat.sub_zero, Nat.add_zero]; split <;> omega)
theorem con39D_ok : BodyOk (mk X39D) 4 Try.f39 con39D := by
  intro vs bs K hh hro
  clear hro
  unfold con39D at hh
  split at hh
  · rename_i u vl x y
    obtain ⟨a, b, c, d, e, rfl, hI, hh0⟩ := five_inv hh
    obtain ⟨el, nl, cl, fl, btl, rfl, hnl, rfl, hh1⟩ := parseR_inv hh0
    obtain ⟨rfl, ⟨h1, h2, h3⟩, hc⟩ := hh1
    exact ⟨_, cast (con39D_rE a b c d e el nl cl fl x y K) (con39D_rP a b c d e el nl cl fl x y K hI hnl h1 h2 h3 hc)⟩
  · exact hh.elim
theorem con39D_told : Told 39 (specOf con39D) := told (X := X39D) X39D_told (by kernel_rfl) (by kernel_rfl) (by kernel_rfl) con39D_ok
def con39F_rV (a b c d e : Int) (el nl cl : Nat) (fl : RF) (x : Int) (y : Int) (K : Value → List Blk → Prop) : Prop := (T0 ∧ (T0 ∧ (T0 ∧ ((0 + nl ≤ nl) ∧ (T0 ∧ ((InC a b c d e) ∧ ((eN 0) ∧ ((nl ≤ 100000) ∧ ((eK ∧ ((eN nl) ∧ (eN cl))) ∧ (eB ∧ ((@Eq Int (askF a b c d e nl fl x) (0)) ∧ (T0 ∧ (T0 ∧ (if (y < 1) then (∃ y0 : Value, (∃ y1 : List Blk, ((Go.Rx.Found 1 (vt [vn, vi 0, vi 7]) ({ h := [(2, Blk.cells [vi y] 3), (1, CB a b c d e), (0, rT el nl cl fl)], next := 3 }) (y0) (y1)) ∧ (K y0 y1)))) else (T0 ∧ (T0 ∧ ((0 + nl ≤ nl) ∧ (T0 ∧ ((InC a b c d e) ∧ ((eN 0) ∧ ((nl ≤ 100000) ∧ ((eK ∧ ((eN nl) ∧ (eN cl))) ∧ (eB ∧ (((@Eq Int (askF a b c d e nl fl x) (0)) ∧ (¬fl (Int.toNat x) 0 = 0)) ∧ (T0 ∧ (T0 ∧ (if (a - fl (Int.toNat x) 1 < y) then (∃ y0 : Value, (∃ y1 : List Blk, ((Go.Rx.Found 1 (vt [vn, vi 0, vi 5]) ({ h := [(2, Blk.cells [vi y] 3), (1, CB a b c d e), (0, rT el nl cl fl)], next := 3 }) (y0) (y1)) ∧ (K y0 y1)))) else (T0 ∧ (TS ∧ (TS ∧ (T0 ∧ (T0 ∧ (T0 ∧ (((0 ≤ (↑nl : Int)) ∧ (((↑nl : Int) ≤ (↑nl : Int)) ∧ ((↑nl : Int) ≤ 100000))) ∧ (TS ∧ (TS ∧ (T0 ∧ (T0 ∧ (T0 ∧ (T0 ∧ ((0 + nl ≤ nl) ∧ (((false = false) ∧ (T0 ∧ (0 + nl ≤ nl))) ∧ ((TS ∧ (eN 2)) ∧ (((0 ≤ x) ∧ (x < (↑nl : Int))) ∧ (T0 ∧ (T0 ∧ (T0 ∧ (T0 ∧ (T0 ∧ (T0 ∧ (T0 ∧ ((Int.toNat x < nl) ∧ (T0 ∧ (T0 ∧ (T0 ∧ ((((-9223372036854775808 : Int) ≤ cpyF (fun x x_1 ↦ 0) 0 (Nat.min nl nl) fl 0 (Int.toNat x) 1 + y) ∧ (cpyF (fun x x_1 ↦ 0) 0 (Nat.min nl nl) fl 0 (Int.toNat x) 1 + y ≤ 9223372036854775807)) ∧ (T0 ∧ (T0 ∧ (T0 ∧ ((false = false) ∧ ((Int.toNat x < nl) ∧ (T0 ∧ (T0 ∧ (∃ y0 : Value, (∃ y1 : List Blk, ((Go.Rx.Found 1 (vt [rsl 3 0 nl nl, vi (1 + c + x * a + fl (Int.toNat x) 1), vi 0]) ({ h := [(3, rF 54 nl nl (putF (cpyF (fun x x_1 ↦ 0) 0 (Nat.min nl nl) fl 0) (Int.toNat x) 1 (cpyF (fun x x_1 ↦ 0) 0 (Nat.min nl nl) fl 0 (Int.toNat x) 1 + y))), (2, Blk.cells [vi y] 3), (1, CB a b c d e), (0, rT el nl cl fl)], next := 4 }) (y0) (y1)) ∧ (K y0 y1)))))))))))))))))))))))))))))))))))))))))))))))))))))))))))))))))))
theorem con39F_rE (a b c d e : Int) (el nl cl : Nat) (fl : RF) (x : Int) (y : Int) (K : Value → List Blk → Prop) : con39F_rV a b c d e el nl cl fl x y K = bodyX (mk X39F) (callN (mk X39F) 4) (con39F_rA a b c d e el nl cl fl x y) Try.f39 [.agg ⟨[.int .i64 a, .int .i64 b, .int .i64 c, .int .i64 d, .int .i64 e]⟩, rsl 0 0 nl cl, .int .i64 x, .int .i64 y] (stOf [.row true [.i64, .i64] el nl cl fl]) fun v s' => ∃ v1 news, Rx.Found 1 v s' v1 news ∧ K v1 news := by kernel_rfl
set_option maxHeartbeats 4000000 in
set_option tactic.hygienic false in
theorem con39F_rP (a b c d e : Int) (el nl cl : Nat) (fl : RF) (x : Int) (y : Int) (K : Value → List Blk → Prop)  (hI : InC a b c d e) (hnl : nl ≤ 100000) (h1 : askF a b c d e nl fl x = 0) (h2 : 1 ≤ y) (h3 : ¬ fl x.toNat 0 = 0) (h4 : a - fl x.toNat 1 < y) (h : K (.tuple ⟨[.slice none 0 0, .int .i64 0, .int .i64 (5)]⟩) []) : con39F_rV a b c d e el nl cl fl x y K := by
  unfold con39F_rV
  obtain ⟨g1, g2, g3, g4, g5, g6, g7, g8⟩ := bumpy h1
  unfold fok at g8
  have gm := mul_bd ⟨g2.1, g2.2.1⟩ (x := x) (b := b) (by omega) (by omega) (by omega)
  repeat' (first | (with_reducible exact rfl) | (with_reducible exact trivial) | (with_reducible refine And.intro ?_ ?_) | (intro) | (with_reducible refine br_intro (fun hq => ?_) (fun hq => ?_)) | (with_reducible refine if_both (fun hz => ?_) (fun hz => ?_)) | fail)
  all_goals first
    | omega
    | assumption
    | contradiction
    | exact fin0 (by kernel_rfl) (by kernel_rfl) (by first | exact h | simpa using h)
    | (refine fin1t rfl ?_ (by kernel_rfl) (by kernel_rfl) (h _ (by omega)); (intro i j hi hj; have hj' : j = 0 ∨ j = 1 := (by simp at hj; omega); simp only [putE, putF, cpyF, appF, shiftF, zF, Nat.min_self, Nat.sub_zero, Nat.add_zero, Nat.zero_add, Int.toNat_natCast, Int.toNat_zero]; rcases hj' with rfl | rfl <;> (repeat' split) <;> first | rfl | omega | (simp_all; done) | (simp_all; omega)))
    | (exfalso; simp at hq; omega)
    | (simp only [cpyF, Nat.min_self, Nat.zero_add, Nat.sub_zero, Nat.add_zero]; split <;> omega)
theorem con39F_ok : BodyOk (mk X39F) 4 Try.f39 con39F := by
  intro vs bs K hh hro
  clear hro
  unfold con39F at hh
  split at hh
  · rename_i u vl x y
    obtain ⟨a, b, c, d, e, rfl, hI, hh0⟩ := five_inv hh
    obtain ⟨el, nl, cl, fl, btl, rfl, hnl, rfl, hh1⟩ := parseR_inv hh0
    obtain ⟨rfl, ⟨h1, h2, h3, h4⟩, hc⟩ := hh1
    exact ⟨_, cast (con39F_rE a b c d e el nl cl fl x y K) (con39F_rP a b c d e el nl cl fl x y K hI hnl h1 h2 h3 h4 hc)⟩
  · exact hh.elim
theorem con39F_told : Told 39 (specOf con39F) := told (X := X39F) X39F_told (by kernel_rfl) (by kernel_rfl) (by kernel_rfl) con39F_ok
def con39G_rV (a b c d e : Int) (el nl cl : Nat) (fl : RF) (x : Int) (y : Int) (K : Value → List Blk → Prop) : Prop := (T0 ∧ (T0 ∧ (T0 ∧ ((0 + nl ≤ nl) ∧ (T0 ∧ ((InC a b c d e) ∧ ((eN 0) ∧ ((nl ≤ 100000) ∧ ((eK ∧ ((eN nl) ∧ (eN cl))) ∧ (eB ∧ ((@Eq Int (askF a b c d e nl fl x) (0)) ∧ (T0 ∧ (T0 ∧ (if (y < 1) then (∃ y0 : Value, (∃ y1 : List Blk, ((Go.Rx.Found 1 (vt [vn, vi 0, vi 7]) ({ h := [(2, Blk.cells [vi y] 3), (1, CB a b c d e), (0, rT el nl cl fl)], next := 3 }) (y0) (y1)) ∧ (K y0 y1)))) else (T0 ∧ (T0 ∧ ((0 + nl ≤ nl) ∧ (T0 ∧ ((InC a b c d e) ∧ ((eN 0) ∧ ((nl ≤ 100000) ∧ ((eK ∧ ((eN nl) ∧ (eN cl))) ∧ (eB ∧ (((@Eq Int (askF a b c d e nl fl x) (0)) ∧ (¬fl (Int.toNat x) 0 = 0)) ∧ (T0 ∧ (T0 ∧ (if (a - fl (Int.toNat x) 1 < y) then (∃ y0 : Value, (∃ y1 : List Blk, ((Go.Rx.Found 1 (vt [vn, vi 0, vi 5]) ({ h := [(2, Blk.cells [vi y] 3), (1, CB a b c d e), (0, rT el nl cl fl)], next := 3 }) (y0) (y1)) ∧ (K y0 y1)))) else (T0 ∧ (TS ∧ (TS ∧ (T0 ∧ (T0 ∧ (T0 ∧ (((0 ≤ (↑nl : Int)) ∧ (((↑nl : Int) ≤ (↑nl : Int)) ∧ ((↑nl : Int) ≤ 100000))) ∧ (TS ∧ (TS ∧ (T0 ∧ (T0 ∧ (T0 ∧ (T0 ∧ ((0 + nl ≤ nl) ∧ (((false = false) ∧ (T0 ∧ (0 + nl ≤ nl))) ∧ ((TS ∧ (eN 2)) ∧ (((0 ≤ x) ∧ (x < (↑nl : Int))) ∧ (T0 ∧ (T0 ∧ (T0 ∧ (T0 ∧ (T0 ∧ (T0 ∧ (T0 ∧ ((Int.toNat x < nl) ∧ (T0 ∧ (T0 ∧ (T0 ∧ ((((-9223372036854775808 : Int) ≤ cpyF (fun x x_1 ↦ 0) 0 (Nat.min nl nl) fl 0 (Int.toNat x) 1 + y) ∧ (cpyF (fun x x_1 ↦ 0) 0 (Nat.min nl nl) fl 0 (Int.toNat x) 1 + y ≤ 9223372036854775807)) ∧ (T0 ∧ (T0 ∧ (T0 ∧ ((false = false) ∧ ((Int.toNat x < nl) ∧ (T0 ∧ (T0 ∧ (∃ y0 : Value, (∃ y1 : List Blk, ((Go.Rx.Found 1 (vt [rsl 3 0 nl nl, vi (1 + c + x * a + fl (Int.toNat x) 1), vi 0]) ({ h := [(3, rF 54 nl nl (putF (cpyF (fun x x_1 ↦ 0) 0 (Nat.min nl nl) fl 0) (Int.toNat x) 1 (cpyF (fun x x_1 ↦ 0) 0 (Nat.min nl nl) fl 0 (Int.toNat x) 1 + y))), (2, Blk.cells [vi y] 3), (1, CB a b c d e), (0, rT el nl cl fl)], next := 4 }) (y0) (y1)) ∧ (K y0 y1)))))))))))))))))))))))))))))))))))))))))))))))))))))))))))))))))))
theorem con39G_rE (a b c d e : Int) (el nl cl : Nat) (fl : RF) (x : Int) (y : Int) (K : Value → List Blk → Prop) : con39G_rV a b c d e el nl cl fl x y K = bodyX (mk X39G) (callN (mk X39G) 4) (con39G_rA a b c d e el nl cl fl x y) Try.f39 [.agg ⟨[.int .i64 a, .int .i64 b, .int .i64 c, .int .i64 d, .int .i64 e]⟩, rsl 0 0 nl cl, .int .i64 x, .int .i64 y] (stOf [.row true [.i64, .i64] el nl cl fl]) fun v s' => ∃ v1 news, Rx.Found 1 v s' v1 news ∧ K v1 news := by kernel_rfl
set_option maxHeartbeats 4000000 in
set_option tactic.hygienic false in
theorem con39G_rP (a b c d e : Int) (el nl cl : Nat) (fl : RF) (x : Int) (y : Int) (K : Value → List Blk → Prop)  (hI : InC a b c d e) (hnl : nl ≤ 100000) (h1 : askF a b c d e nl fl x = 0) (h2 : 1 ≤ y) (h3 : ¬ fl x.toNat 0 = 0) (h4 : y ≤ a - fl x.toNat 1) (h : ∀ cp, nl ≤ cp → K (.tuple ⟨[rsl 1 0 nl cp, .int .i64 (1 + c + x * a + fl x.toNat 1), .int .i64 0]⟩) [.row false [.i64, .i64] 54 nl cp (putF fl x.toNat 1 (fl x.toNat 1 + y))]) : con39G_rV a b c d e el nl cl fl x y K := by
  unfold con39G_rV
  obtain ⟨g1, g2, g3, g4, g5, g6, g7, g8⟩ := bumpy h1
  unfold fok at g8
  have gm := mul_bd ⟨g2.1, g2.2.1⟩ (x := x) (b := b) (by omega) (by omega) (by omega)
  repeat' (first | (with_reducible exact rfl) | (with_reducible exact trivial) | (with_reducible refine And.intro ?_ ?_) | (intro) | (with_reducible refine br_intro (fun hq => ?_) (fun hq => ?_)) | (with_reducible refine if_both (fun hz => ?_) (fun hz => ?_)) | fail)
  all_goals first
    | omega
    | assumption
    | contradiction
    | exact fin0 (by kernel_rfl) (by kernel_rfl) (by first | exact h | simpa using h)
    | (refine fin1t rfl ?_ (by kernel_rfl) (by kernel_rfl) (h _ (by omega)); (intro i j hi hj; have hj' : j = 0 ∨ j = 1 := (by simp at hj; omega); simp only [putE, putF, cpyF, appF, shiftF, zF, Nat.min_self, Nat.sub_zero, Nat.add_zero, Nat.zero_add, Int.toNat_natCast, Int.toNat_zero]; rcases hj' with rfl | rfl <;> (repeat' split) <;> first | rfl | omega | (simp_all; done) | (simp_all; omega)))
    | (exfalso; simp at hq; omega)
    | (simp only [cpyF, Nat.min_self, Nat.zero_add, Nat.sub_zero, Nat.add_zero]; split <;> omega)
theorem con39G_ok : BodyOk (mk X39G) 4 Try.f39 con39G := by
  intro vs bs K hh hro
  clear hro
  unfold con39G at hh
  split at hh
  · rename_i u vl x y
    obtain ⟨a, b, c, d, e, rfl, hI, hh0⟩ := five_inv hh
    obtain ⟨el, nl, cl, fl, btl, rfl, hnl, rfl, hh1⟩ := parseR_inv hh0
    obtain ⟨rfl, ⟨h1, h2, h3, h4⟩, hc⟩ := hh1
    exact ⟨_, cast (con39G_rE a b c d e el nl cl fl x y K) (con39G_rP a b c d e el nl cl fl x y K hI hnl h1 h2 h3 h4 hc)⟩
  · exact hh.elim
theorem con39G_told : Told 39 (specOf con39G) := told (X := X39G) X39G_told (by kernel_rfl) (by kernel_rfl) (by kernel_rfl) con39G_ok
end Go.Proofs.Ytkflmglpniebfaa.Fr
