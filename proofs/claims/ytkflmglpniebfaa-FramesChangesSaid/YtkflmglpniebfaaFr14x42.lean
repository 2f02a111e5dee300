/-
  Frames: empty. No project text.
-/
import Derived.Test.YtkflmglpniebfaaFr14b
namespace Go.Proofs.Ytkflmglpniebfaa.Fr
open Go.Rx
open Go.RowKit (Below)
set_option linter.unusedVariables false
def con42B : Con := fun vs bs K => match vs with
  | [u, vl, .int .i64 x] => five u fun a b c d e => parse [.i64, .i64] 0 vl bs fun nl fl j0 bs0 => bs0 = [] ∧ ((¬ askF a b c d e nl fl x = 0)) ∧ (K (.tuple ⟨[.slice none 0 0, .int .i64 (askF a b c d e nl fl x)]⟩) [])
  | _ => False

def con42B_nA (a b c d e : Int) (x : Int) : Ann := fun _ => none
def con42B_rA (a b c d e : Int) (el nl cl : Nat) (fl : RF) (x : Int) : Ann := fun _ => none
def con42D : Con := fun vs bs K => match vs with
  | [u, vl, .int .i64 x] => five u fun a b c d e => parseR [.i64, .i64] 0 vl bs fun nl fl j0 bs0 => bs0 = [] ∧ ((askF a b c d e nl fl x = 0) ∧ (fl x.toNat 0 = 0)) ∧ (K (.tuple ⟨[.slice none 0 0, .int .i64 (9)]⟩) [])
  | _ => False

def con42D_rA (a b c d e : Int) (el nl cl : Nat) (fl : RF) (x : Int) : Ann := fun _ => none
def con42G : Con := fun vs bs K => match vs with
  | [u, vl, .int .i64 x] => five u fun a b c d e => parseR [.i64, .i64] 0 vl bs fun nl fl j0 bs0 => bs0 = [] ∧ ((askF a b c d e nl fl x = 0) ∧ (¬ fl x.toNat 0 = 0)) ∧ (∀ cp, nl ≤ cp → K (.tuple ⟨[rsl j0 0 nl cp, .int .i64 0]⟩) [.row false [.i64, .i64] 54 nl cp (putE fl x.toNat [0, 0])])
  | _ => False

def con42G_rA (a b c d e : Int) (el nl cl : Nat) (fl : RF) (x : Int) : Ann := fun _ => none
def con42B_nV (a b c d e : Int) (x : Int) (K : Value → List Blk → Prop) : Prop := (T0 ∧ (T0 ∧ (T0 ∧ (T0 ∧ (T0 ∧ ((InC a b c d e) ∧ (eB ∧ ((True) ∧ (T0 ∧ (if (@Eq Int (askF a b c d e 0 zF x) (0)) then (False) else (T0 ∧ (if (@Eq Int (askF a b c d e 0 zF x) (0)) then (T0 ∧ (TS ∧ (T0 ∧ (T0 ∧ (T0 ∧ (T0 ∧ (TS ∧ (TS ∧ (T0 ∧ (T0 ∧ (T0 ∧ ((0 ≤ 100000) ∧ (T0 ∧ ((eN 0) ∧ (T0 ∧ ((TS ∧ (eN 2)) ∧ (((0 ≤ x) ∧ (x < (↑0 : Int))) ∧ ((false = false) ∧ ((Int.toNat x < 0) ∧ (((eN 0) ∧ (eN 2)) ∧ (∃ y0 : Value, (∃ y1 : List Blk, ((Go.Rx.Found 0 (vt [rsl 2 0 0 0, vi 0]) ({ h := [(2, rF 54 0 0 (putE (litF (List.length [IntKind.i64, IntKind.i64]) []) (Int.toNat x) [Int.ofNat 0, Int.ofNat 0])), (1, Blk.cells [vi 0, vi 0] 54), (0, CB a b c d e)], next := 3 }) (y0) (y1)) ∧ (K y0 y1)))))))))))))))))))))))) else (∃ y0 : Value, (∃ y1 : List Blk, ((Go.Rx.Found 0 (vt [vn, vi (askF a b c d e 0 zF x)]) ({ h := [(0, CB a b c d e)], next := 1 }) (y0) (y1)) ∧ (K y0 y1))))))))))))))))
theorem con42B_nE (a b c d e : Int) (x : Int) (K : Value → List Blk → Prop) : con42B_nV a b c d e x K = bodyX (mk X42B) (callN (mk X42B) 4) (con42B_nA a b c d e x) Try.f42 [.agg ⟨[.int .i64 a, .int .i64 b, .int .i64 c, .int .i64 d, .int .i64 e]⟩, .slice none 0 0, .int .i64 x] (stOf []) fun v s' => ∃ v1 news, Rx.Found 0 v s' v1 news ∧ K v1 news := by kernel_rfl
set_option maxHeartbeats 4000000 in
set_option tactic.hygienic false in
theorem con42B_nP (a b c d e : Int) (x : Int) (K : Value → List Blk → Prop)  (hI : InC a b c d e) (h1 : ¬ askF a b c d e 0 zF x = 0) (h : K (.tuple ⟨[.slice none 0 0, .int .i64 (askF a b c d e 0 zF x)]⟩) []) : con42B_nV a b c d e x K := by
  unfold con42B_nV

  repeat' (first | (with_reducible exact rfl) | (with_reducible exact trivial) | (with_reducible refine And.intro ?_ ?_) | (intro) | (with_reducible refine br_intro (fun hq => ?_) (fun hq => ?_)) | (with_reducible refine if_both (fun hz => ?_) (fun hz => ?_)) | fail)
  all_goals first
    | omega
    | assumption
    | contradiction
    | exact fin0 (by kernel_rfl) (by kernel_rfl) (by first | exact h | simpa using h)
    | (refine fin1t rfl ?_ (by kernel_rfl) (by kernel_rfl) (h _ (by omega)); (intro i j hi hj; have hj' : j = 0 ∨ j = 1 := (by simp at hj; omega); simp only [putE, putF, cpyF, appF, shiftF, zF, Nat.min_self, Nat.sub_zero, Nat.add_zero, Nat.zero_add, Int.toNat_natCast, Int.toNat_zero]; rcases hj' with rfl | rfl <;> (repeat' split) <;> first | rfl | omega | (simp_all; done) | (simp_all; omega)))
    | (exfalso; simp at hq; omega)
def con42B_rV (a b c d e : Int) (el nl cl : Nat) (fl : RF) (x : Int) (K : Value → List Blk → Prop) : Prop := (T0 ∧ (T0 ∧ (T0 ∧ ((0 + nl ≤ nl) ∧ (T0 ∧ ((InC a b c d e) ∧ ((eN 0) ∧ ((nl ≤ 100000) ∧ ((eK ∧ ((eN nl) ∧ (eN cl))) ∧ (eB ∧ ((True) ∧ (T0 ∧ (if (@Eq Int (askF a b c d e nl fl x) (0)) then ((TS ∧ (eN 2)) ∧ (((0 ≤ x) ∧ (x < (↑nl : Int))) ∧ (T0 ∧ ((Int.toNat x < nl) ∧ (T0 ∧ (if (@Eq Int (fl (Int.toNat x) 0) (0)) then (T0 ∧ (∃ y0 : Value, (∃ y1 : List Blk, ((Go.Rx.Found 1 (vt [vn, vi 9]) ({ h := [(1, CB a b c d e), (0, rT el nl cl fl)], next := 2 }) (y0) (y1)) ∧ (K y0 y1))))) else (T0 ∧ (if (@Eq Int (askF a b c d e nl fl x) (0)) then (T0 ∧ (TS ∧ (T0 ∧ (T0 ∧ (T0 ∧ (T0 ∧ (TS ∧ (TS ∧ (T0 ∧ (T0 ∧ (T0 ∧ (T0 ∧ ((0 + nl ≤ nl) ∧ ((nl ≤ 100000) ∧ (T0 ∧ ((eN 0) ∧ (Go.Rx.br (decide (0 < nl)) (∀ y0 : Nat, ((nl ≤ y0) → (T0 ∧ ((TS ∧ (eN 2)) ∧ (((0 ≤ x) ∧ (x < (↑nl : Int))) ∧ ((false = false) ∧ ((Int.toNat x < nl) ∧ (((eN 0) ∧ (eN 2)) ∧ (∃ y1 : Value, (∃ y2 : List Blk, ((Go.Rx.Found 1 (vt [rsl 4 0 nl y0, vi 0]) ({ h := [(4, rF 54 nl y0 (putE (appF (fun x x_1 ↦ 0) 0 fl 0) (Int.toNat x) [Int.ofNat 0, Int.ofNat 0])), (3, rF 54 0 0 (litF (List.length [IntKind.i64, IntKind.i64]) [])), (2, Blk.cells [vi 0, vi 0] 54), (1, CB a b c d e), (0, rT el nl cl fl)], next := 5 }) (y1) (y2)) ∧ (K y1 y2)))))))))))) (T0 ∧ ((TS ∧ (eN 2)) ∧ (((0 ≤ x) ∧ (x < (↑0 : Int))) ∧ ((false = false) ∧ ((Int.toNat x < 0) ∧ (((eN 0) ∧ (eN 2)) ∧ (∃ y0 : Value, (∃ y1 : List Blk, ((Go.Rx.Found 1 (vt [rsl 3 0 0 0, vi 0]) ({ h := [(3, rF 54 0 0 (putE (litF (List.length [IntKind.i64, IntKind.i64]) []) (Int.toNat x) [Int.ofNat 0, Int.ofNat 0])), (2, Blk.cells [vi 0, vi 0] 54), (1, CB a b c d e), (0, rT el nl cl fl)], next := 4 }) (y0) (y1)) ∧ (K y0 y1))))))))))))))))))))))))))) else (∃ y0 : Value, (∃ y1 : List Blk, ((Go.Rx.Found 1 (vt [vn, vi (askF a b c d e nl fl x)]) ({ h := [(1, CB a b c d e), (0, rT el nl cl fl)], next := 2 }) (y0) (y1)) ∧ (K y0 y1)))))))))))) else (T0 ∧ (if (@Eq Int (askF a b c d e nl fl x) (0)) then (T0 ∧ (TS ∧ (T0 ∧ (T0 ∧ (T0 ∧ (T0 ∧ (TS ∧ (TS ∧ (T0 ∧ (T0 ∧ (T0 ∧ (T0 ∧ ((0 + nl ≤ nl) ∧ ((nl ≤ 100000) ∧ (T0 ∧ ((eN 0) ∧ (Go.Rx.br (decide (0 < nl)) (∀ y0 : Nat, ((nl ≤ y0) → (T0 ∧ ((TS ∧ (eN 2)) ∧ (((0 ≤ x) ∧ (x < (↑nl : Int))) ∧ ((false = false) ∧ ((Int.toNat x < nl) ∧ (((eN 0) ∧ (eN 2)) ∧ (∃ y1 : Value, (∃ y2 : List Blk, ((Go.Rx.Found 1 (vt [rsl 4 0 nl y0, vi 0]) ({ h := [(4, rF 54 nl y0 (putE (appF (fun x x_1 ↦ 0) 0 fl 0) (Int.toNat x) [Int.ofNat 0, Int.ofNat 0])), (3, rF 54 0 0 (litF (List.length [IntKind.i64, IntKind.i64]) [])), (2, Blk.cells [vi 0, vi 0] 54), (1, CB a b c d e), (0, rT el nl cl fl)], next := 5 }) (y1) (y2)) ∧ (K y1 y2)))))))))))) (T0 ∧ ((TS ∧ (eN 2)) ∧ (((0 ≤ x) ∧ (x < (↑0 : Int))) ∧ ((false = false) ∧ ((Int.toNat x < 0) ∧ (((eN 0) ∧ (eN 2)) ∧ (∃ y0 : Value, (∃ y1 : List Blk, ((Go.Rx.Found 1 (vt [rsl 3 0 0 0, vi 0]) ({ h := [(3, rF 54 0 0 (putE (litF (List.length [IntKind.i64, IntKind.i64]) []) (Int.toNat x) [Int.ofNat 0, Int.ofNat 0])), (2, Blk.cells [vi 0, vi 0] 54), (1, CB a b c d e), (0, rT el nl cl fl)], next := 4 }) (y0) (y1)) ∧ (K y0 y1))))))))))))))))))))))))))) else (∃ y0 : Value, (∃ y1 : List Blk, ((Go.Rx.Found 1 (vt [vn, vi (askF a b c d e nl fl x)]) ({ h := [(1, CB a b c d e), (0, rT el nl cl fl)], next := 2 }) (y0) (y1)) ∧ (K y0 y1)))))))))))))))))))
theorem con42B_rE (a b c d e : Int) (el nl cl : Nat) (fl : RF) (x : Int) (K : Value → List Blk → Prop) : con42B_rV a b c d e el nl cl fl x K = bodyX (mk X42B) (callN (mk X42B) 4) (con42B_rA a b c d e el nl cl fl x) Try.f42 [.agg ⟨[.int .i64 a, .int .i64 b, .int .i64 c, .int .i64 d, .int .i64 e]⟩, rsl 0 0 nl cl, .int .i64 x] (stOf [.row true [.i64, .i64] el nl cl fl]) fun v s' => ∃ v1 news, Rx.Found 1 v s' v1 news ∧ K v1 news := by kernel_rfl
set_option maxHeartbeats 4000000 in
set_option tactic.hygienic false in
theorem con42B_rP (a b c d e : Int) (el nl cl : Nat) (fl : RF) (x : Int) (K : Value → List Blk → Prop)  (hI : InC a b c d e) (hnl : nl ≤ 100000) (h1 : ¬ askF a b c d e nl fl x = 0) (h : K (.tuple ⟨[.slice none 0 0, .int .i64 (askF a b c d e nl fl x)]⟩) []) : con42B_rV a b c d e el nl cl fl x K := by
  unfold con42B_rV

  repeat' (first | (with_reducible exact rfl) | (with_reducible exact trivial) | (with_reducible refine And.intro ?_ ?_) | (intro) | (with_reducible refine br_intro (fun hq => ?_) (fun hq => ?_)) | (with_reducible refine if_both (fun hz => ?_) (fun hz => ?_)) | fail)
  all_goals first
    | omega
    | assumption
    | contradiction
    | exact fin0 (by kernel_rfl) (by kernel_rfl) (by first | exact h | simpa using h)
    | (refine fin1t rfl ?_ (by kernel_rfl) (by kernel_rfl) (h _ (by omega)); (intro i j hi hj; have hj' : j = 0 ∨ j = 1 := (by simp at hj; omega); simp only [putE, putF, cpyF, appF, shiftF, zF, Nat.min_self, Nat.sub_zero, Nat.add_zero, Nat.zero_add, Int.toNat_natCast, Int.toNat_zero]; rcases hj' with rfl | rfl <;> (repeat' split) <;> first | rfl | omega | (simp_all; done) | (simp_all; omega)))
    | (exfalso; simp at hq; omega)
theorem con42B_ok : BodyOk (mk X42B) 4 Try.f42 con42B := by
  intro vs bs K hh hro
  clear hro
  unfold con42B at hh
  split at hh
  · rename_i u vl x
    obtain ⟨a, b, c, d, e, rfl, hI, hh0⟩ := five_inv hh
    rcases parse_inv hh0 with ⟨rfl, hh1⟩ | ⟨el, nl, cl, fl, btl, rfl, hnl, rfl, hh1⟩ <;> clear hh0
    · obtain ⟨rfl, h1, hc⟩ := hh1
      exact ⟨_, cast (con42B_nE a b c d e  x K) (con42B_nP a b c d e  x K hI  h1 hc)⟩
    · obtain ⟨rfl, h1, hc⟩ := hh1
      exact ⟨_, cast (con42B_rE a b c d e el nl cl fl x K) (con42B_rP a b c d e el nl cl fl x K hI hnl h1 hc)⟩
  · exact hh.elim
theorem con42B_told : Told 42 (specOf con42B) := told (X := X42B) X42B_told (by kernel_rfl) (by kernel_rfl) (by kernel_rfl) con42B_ok
def con42D_rV (a b c d e : Int) (el nl cl : Nat) (fl : RF) (x : Int) (K : Value → List Blk → Prop) : Prop := (T0 ∧ (T0 ∧ (T0 ∧ ((0 + nl ≤ nl) ∧ (T0 ∧ ((InC a b c d e) ∧ ((eN 0) ∧ ((nl ≤ 100000) ∧ ((eK ∧ ((eN nl) ∧ (eN cl))) ∧ (eB ∧ ((True) ∧ (T0 ∧ (if (@Eq Int (askF a b c d e nl fl x) (0)) then ((TS ∧ (eN 2)) ∧ (((0 ≤ x) ∧ (x < (↑nl : Int))) ∧ (T0 ∧ ((Int.toNat x < nl) ∧ (T0 ∧ (if (@Eq Int (fl (Int.toNat x) 0) (0)) then (T0 ∧ (∃ y0 : Value, (∃ y1 : List Blk, ((Go.Rx.Found 1 (vt [vn, vi 9]) ({ h := [(1, CB a b c d e), (0, rT el nl cl fl)], next := 2 }) (y0) (y1)) ∧ (K y0 y1))))) else (T0 ∧ (if (@Eq Int (askF a b c d e nl fl x) (0)) then (T0 ∧ (TS ∧ (T0 ∧ (T0 ∧ (T0 ∧ (T0 ∧ (TS ∧ (TS ∧ (T0 ∧ (T0 ∧ (T0 ∧ (T0 ∧ ((0 + nl ≤ nl) ∧ ((nl ≤ 100000) ∧ (T0 ∧ ((eN 0) ∧ (Go.Rx.br (decide (0 < nl)) (∀ y0 : Nat, ((nl ≤ y0) → (T0 ∧ ((TS ∧ (eN 2)) ∧ (((0 ≤ x) ∧ (x < (↑nl : Int))) ∧ ((false = false) ∧ ((Int.toNat x < nl) ∧ (((eN 0) ∧ (eN 2)) ∧ (∃ y1 : Value, (∃ y2 : List Blk, ((Go.Rx.Found 1 (vt [rsl 4 0 nl y0, vi 0]) ({ h := [(4, rF 54 nl y0 (putE (appF (fun x x_1 ↦ 0) 0 fl 0) (Int.toNat x) [Int.ofNat 0, Int.ofNat 0])), (3, rF 54 0 0 (litF (List.length [IntKind.i64, IntKind.i64]) [])), (2, Blk.cells [vi 0, vi 0] 54), (1, CB a b c d e), (0, rT el nl cl fl)], next := 5 }) (y1) (y2)) ∧ (K y1 y2)))))))))))) (T0 ∧ ((TS ∧ (eN 2)) ∧ (((0 ≤ x) ∧ (x < (↑0 : Int))) ∧ ((false = false) ∧ ((Int.toNat x < 0) ∧ (((eN 0) ∧ (eN 2)) ∧ (∃ y0 : Value, (∃ y1 : List Blk, ((Go.Rx.Found 1 (vt [rsl 3 0 0 0, vi 0]) ({ h := [(3, rF 54 0 0 (putE (litF (List.length [IntKind.i64, IntKind.i64]) []) (Int.toNat x) [Int.ofNat 0, Int.ofNat 0])), (2, Blk.cells [vi 0, vi 0] 54), (1, CB a b c d e), (0, rT el nl cl fl)], next := 4 }) (y0) (y1)) ∧ (K y0 y1))))))))))))))))))))))))))) else (∃ y0 : Value, (∃ y1 : List Blk, ((Go.Rx.Found 1 (vt [vn, vi (askF a b c d e nl fl x)]) ({ h := [(1, CB a b c d e), (0, rT el nl cl fl)], next := 2 }) (y0) (y1)) ∧ (K y0 y1)))))))))))) else (T0 ∧ (if (@Eq Int (askF a b c d e nl fl x) (0)) then (T0 ∧ (TS ∧ (T0 ∧ (T0 ∧ (T0 ∧ (T0 ∧ (TS ∧ (TS ∧ (T0 ∧ (T0 ∧ (T0 ∧ (T0 ∧ ((0 + nl ≤ nl) ∧ ((nl ≤ 100000) ∧ (T0 ∧ ((eN 0) ∧ (Go.Rx.br (decide (0 < nl)) (∀ y0 : Nat, ((nl ≤ y0) → (T0 ∧ ((TS ∧ (eN 2)) ∧ (((0 ≤ x) ∧ (x < (↑nl : Int))) ∧ ((false = false) ∧ ((Int.toNat x < nl) ∧ (((eN 0) ∧ (eN 2)) ∧ (∃ y1 : Value, (∃ y2 : List Blk, ((Go.Rx.Found 1 (vt [rsl 4 0 nl y0, vi 0]) ({ h := [(4, rF 54 nl y0 (putE (appF (fun x x_1 ↦ 0) 0 fl 0) (Int.toNat x) [Int.ofNat 0, Int.ofNat 0])), (3, rF 54 0 0 (litF (List.length [IntKind.i64, IntKind.i64]) [])), (2, Blk.cells [vi 0, vi 0] 54), (1, CB a b c d e), (0, rT el nl cl fl)], next := 5 }) (y1) (y2)) ∧ (K y1 y2)))))))))))) (T0 ∧ ((TS ∧ (eN 2)) ∧ (((0 ≤ x) ∧ (x < (↑0 : Int))) ∧ ((false = false) ∧ ((Int.toNat x < 0) ∧ (((eN 0) ∧ (eN 2)) ∧ (∃ y0 : Value, (∃ y1 : List Blk, ((Go.Rx.Found 1 (vt [rsl 3 0 0 0, vi 0]) ({ h := [(3, rF 54 0 0 (putE (litF (List.length [IntKind.i64, IntKind.i64]) []) (Int.toNat x) [Int.ofNat 0, Int.ofNat 0])), (2, Blk.cells [vi 0, vi 0] 54), (1, CB a b c d e), (0, rT el nl cl fl)], next := 4 }) (y0) (y1)) ∧ (K y0 y1))))))))))))))))))))))))))) else (∃ y0 : Value, (∃ y1 : List Blk, ((Go.Rx.Found 1 (vt [vn, vi (askF a b c d e nl fl x)]) ({ h := [(1, CB a b c d e), (0, rT el nl cl fl)], next := 2 }) (y0) (y1)) ∧ (K y0 y1)))))))))))))))))))
theorem con42D_rE (a b c d e : Int) (el nl cl : Nat) (fl : RF) (x : Int) (K : Value → List Blk → Prop) : con42D_rV a b c d e el nl cl fl x K = bodyX (mk X42D) (callN (mk X42D) 4) (con42D_rA a b c d e el nl cl fl x) Try.f42 [.agg ⟨[.int .i64 a, .int .i64 b, .int .i64 c, .int .i64 d, .int .i64 e]⟩, rsl 0 0 nl cl, .int .i64 x] (stOf [.row true [.i64, .i64] el nl cl fl]) fun v s' => ∃ v1 news, Rx.Found 1 v s' v1 news ∧ K v1 news := by kernel_rfl
set_option maxHeartbeats 4000000 in
set_option tactic.hygienic false in
theorem con42D_rP (a b c d e : Int) (el nl cl : Nat) (fl : RF) (x : Int) (K : Value → List Blk → Prop)  (hI : InC a b c d e) (hnl : nl ≤ 100000) (h1 : askF a b c d e nl fl x = 0) (h3 : fl x.toNat 0 = 0) (h : K (.tuple ⟨[.slice none 0 0, .int .i64 (9)]⟩) []) : con42D_rV a b c d e el nl cl fl x K := by
  unfold con42D_rV
  obtain ⟨g1, g2, g3, g4, g5, g6, g7, g8⟩ := bumpy h1
  unfold fok at g8
  have gm := mul_bd ⟨g2.1, g2.2.1⟩ (x := x) (b := b) (by omega) (by omega) (by omega)
  repeat' (first | (with_reducible exact rfl) | (with_reducible exact trivial) | (with_reducible refine And.intro ?_ ?_) | (intro) | (with_reducible refine br_intro (fun hq => ?_) (fun hq => ?_)) | (with_reducible refine if_both (fun hz => ?_) (fun hz => ?_)) | fail)
  all_goals first
    | omega
    | assumption
    | contradiction
    | exact fin0 (by kernel_rfl) (by kernel_rfl) (by first | exact h | simpa using h)
    | (refine fin1t rfl ?_ (by kernel_rfl) (by kernel_rfl) (h _ (by omega)); (intro i j hi hj; have hj' : j = 0 ∨ j = 1 := (by simp at hj; omega); simp only [putE, putF, cpyF, appF, shiftF, zF, Nat.min_self, Nat.sub_zero, Nat.add_zero, Nat.zero_add, Int.toNat_natCast, Int.toNat_zero]; rcases hj' with rfl | rfl <;> (repeat' split) <;> first | rfl | omega | (simp_all; done) | (simp_all; omega)))
    | (exfalso; simp at hq; omega)
theorem con42D_ok : BodyOk (mk X42D) 4 Try.f42 con42D := by
  intro vs bs K hh hro
  clear hro
  unfold con42D at hh
  split at hh
  · rename_i u vl x
    obtain ⟨a, b, c, d, e, rfl, hI, hh0⟩ := five_inv hh
    obtain ⟨el, nl, cl, fl, btl, rfl, hnl, rfl, hh1⟩ := parseR_inv hh0
    obtain ⟨rfl, ⟨h1, h3⟩, hc⟩ := hh1
    exact ⟨_, cast (con42D_rE a b c d e el nl cl fl x K) (con42D_rP a b c d e el nl cl fl x K hI hnl h1 h3 hc)⟩
  · exact hh.elim
theorem con42D_told : Told 42 (specOf con42D) := told (X := X42D) X42D_told (by kernel_rfl) (by kernel_rfl) (by kernel_rfl) con42D_ok
def con42G_rV (a b c d e : Int) (el nl cl : Nat) (fl : RF) (x : Int) (K : Value → List Blk → Prop) : Prop := (T0 ∧ (T0 ∧ (T0 ∧ ((0 + nl ≤ nl) ∧ (T0 ∧ ((InC a b c d e) ∧ ((eN 0) ∧ ((nl ≤ 100000) ∧ ((eK ∧ ((eN nl) ∧ (eN cl))) ∧ (eB ∧ ((True) ∧ (T0 ∧ (if (@Eq Int (askF a b c d e nl fl x) (0)) then ((TS ∧ (eN 2)) ∧ (((0 ≤ x) ∧ (x < (↑nl : Int))) ∧ (T0 ∧ ((Int.toNat x < nl) ∧ (T0 ∧ (if (@Eq Int (fl (Int.toNat x) 0) (0)) then (T0 ∧ (∃ y0 : Value, (∃ y1 : List Blk, ((Go.Rx.Found 1 (vt [vn, vi 9]) ({ h := [(1, CB a b c d e), (0, rT el nl cl fl)], next := 2 }) (y0) (y1)) ∧ (K y0 y1))))) else (T0 ∧ (if (@Eq Int (askF a b c d e nl fl x) (0)) then (T0 ∧ (TS ∧ (T0 ∧ (T0 ∧ (T0 ∧ (T0 ∧ (TS ∧ (TS ∧ (T0 ∧ (T0 ∧ (T0 ∧ (T0 ∧ ((0 + nl ≤ nl) ∧ ((nl ≤ 100000) ∧ (T0 ∧ ((eN 0) ∧ (Go.Rx.br (decide (0 < nl)) (∀ y0 : Nat, ((nl ≤ y0) → (T0 ∧ ((TS ∧ (eN 2)) ∧ (((0 ≤ x) ∧ (x < (↑nl : Int))) ∧ ((false = false) ∧ ((Int.toNat x < nl) ∧ (((eN 0) ∧ (eN 2)) ∧ (∃ y1 : Value, (∃ y2 : List Blk, ((Go.Rx.Found 1 (vt [rsl 4 0 nl y0, vi 0]) ({ h := [(4, rF 54 nl y0 (putE (appF (fun x x_1 ↦ 0) 0 fl 0) (Int.toNat x) [Int.ofNat 0, Int.ofNat 0])), (3, rF 54 0 0 (litF (List.length [IntKind.i64, IntKind.i64]) [])), (2, Blk.cells [vi 0, vi 0] 54), (1, CB a b c d e), (0, rT el nl cl fl)], next := 5 }) (y1) (y2)) ∧ (K y1 y2)))))))))))) (T0 ∧ ((TS ∧ (eN 2)) ∧ (((0 ≤ x) ∧ (x < (↑0 : Int))) ∧ ((false = false) ∧ ((Int.toNat x < 0) ∧ (((eN 0) ∧ (eN 2)) ∧ (∃ y0 : Value, (∃ y1 : List Blk, ((Go.Rx.Found 1 (vt [rsl 3 0 0 0, vi 0]) ({ h := [(3, rF 54 0 0 (putE (litF (List.length [IntKind.i64, IntKind.i64]) []) (Int.toNat x) [Int.ofNat 0, Int.ofNat 0])), (2, Blk.cells [vi 0, vi 0] 54), (1, CB a b c d e), (0, rT el nl cl fl)], next := 4 }) (y0) (y1)) ∧ (K y0 y1))))))))))))))))))))))))))) else (∃ y0 : Value, (∃ y1 : List Blk, ((Go.Rx.Found 1 (vt [vn, vi (askF a b c d e nl fl x)]) ({ h := [(1, CB a b c d e), (0, rT el nl cl fl)], next := 2 }) (y0) (y1)) ∧ (K y0 y1)))))))))))) else (T0 ∧ (if (@Eq Int (askF a b c d e nl fl x) (0)) then (T0 ∧ (TS ∧ (T0 ∧ (T0 ∧ (T0 ∧ (T0 ∧ (TS ∧ (TS ∧ (T0 ∧ (T0 ∧ (T0 ∧ (T0 ∧ ((0 + nl ≤ nl) ∧ ((nl ≤ 100000) ∧ (T0 ∧ ((eN 0) ∧ (Go.Rx.br (decide (0 < nl)) (∀ y0 : Nat, ((nl ≤ y0) → (T0 ∧ ((TS ∧ (eN 2)) ∧ (((0 ≤ x) ∧ (x < (↑nl : Int))) ∧ ((false = false) ∧ ((Int.toNat x < nl) ∧ (((eN 0) ∧ (eN 2)) ∧ (∃ y1 : Value, (∃ y2 : List Blk, ((Go.Rx.Found 1 (vt [rsl 4 0 nl y0, vi 0]) ({ h := [(4, rF 54 nl y0 (putE (appF (fun x x_1 ↦ 0) 0 fl 0) (Int.toNat x) [Int.ofNat 0, Int.ofNat 0])), (3, rF 54 0 0 (litF (List.length [IntKind.i64, IntKind.i64]) [])), (2, Blk.cells [vi 0, vi 0] 54), (1, CB a b c d e), (0, rT el nl cl fl)], next := 5 }) (y1) (y2)) ∧ (K y1 y2)))))))))))) (T0 ∧ ((TS ∧ (eN 2)) ∧ (((0 ≤ x) ∧ (x < (↑0 : Int))) ∧ ((false = false) ∧ ((Int.toNat x < 0) ∧ (((eN 0) ∧ (eN 2)) ∧ (∃ y0 : Value, (∃ y1 : List Blk, ((Go.Rx.Found 1 (vt [rsl 3 0 0 0, vi 0]) ({ h := [(3, rF 54 0 0 (putE (litF (List.length [IntKind.i64, IntKind.i64]) []) (Int.toNat x) [Int.ofNat 0, Int.ofNat 0])), (2, Blk.cells [vi 0, vi 0] 54), (1, CB a b c d e), (0, rT el nl cl fl)], next := 4 }) (y0) (y1)) ∧ (K y0 y1))))))))))))))))))))))))))) else (∃ y0 : Value, (∃ y1 : List Blk, ((Go.Rx.Found 1 (vt [vn, vi (askF a b c d e nl fl x)]) ({ h := [(1, CB a b c d e), (0, rT el nl cl fl)], next := 2 }) (y0) (y1)) ∧ (K y0 y1)))))))))))))))))))
theorem con42G_rE (a b c d e : Int) (el nl cl : Nat) (fl : RF) (x : Int) (K : Value → List Blk → Prop) : con42G_rV a b c d e el nl cl fl x K = bodyX (mk X42G) (callN (mk X42G) 4) (con42G_rA a b c d e el nl cl fl x) Try.f42 [.agg ⟨[.int .i64 a, .int .i64 b, .int .i64 c, .int .i64 d, .int .i64 e]⟩, rsl 0 0 nl cl, .int .i64 x] (stOf [.row true [.i64, .i64] el nl cl fl]) fun v s' => ∃ v1 news, Rx.Found 1 v s' v1 news ∧ K v1 news := by kernel_rfl
set_option maxHeartbeats 4000000 in
set_option tactic.hygienic false in
theorem con42G_rP (a b c d e : Int) (el nl cl : Nat) (fl : RF) (x : Int) (K : Value → List Blk → Prop)  (hI : InC a b c d e) (hnl : nl ≤ 100000) (h1 : askF a b c d e nl fl x = 0) (h3 : ¬ fl x.toNat 0 = 0) (h : ∀ cp, nl ≤ cp → K (.tuple ⟨[rsl 1 0 nl cp, .int .i64 0]⟩) [.row false [.i64, .i64] 54 nl cp (putE fl x.toNat [0, 0])]) : con42G_rV a b c d e el nl cl fl x K := by
  unfold con42G_rV
  obtain ⟨g1, g2, g3, g4, g5, g6, g7, g8⟩ := bumpy h1
  unfold fok at g8
  have gm := mul_bd ⟨g2.1, g2.2.1⟩ (x := x) (b := b) (by omega) (by omega) (by omega)
  repeat' (first | (with_reducible exact rfl) | (with_reducible exact trivial) | (with_reducible refine And.intro ?_ ?_) | (intro) | (with_reducible refine br_intro (fun hq => ?_) (fun hq => ?_)) | (with_reducible refine if_both (fun hz => ?_) (fun hz => ?_)) | fail)
  all_goals first
    | omega
    | assumption
    | contradiction
    | exact fin0 (by kernel_rfl) (by kernel_rfl) (by first | exact h | simpa using h)
    | (refine fin1t rfl ?_ (by kernel_rfl) (by kernel_rfl) (h _ (by omega)); (intro i j hi hj; have hj' : j = 0 ∨ j = 1 := (by simp at hj; omega); simp only [putE, putF, cpyF, appF, shiftF, zF, Nat.min_self, Nat.sub_zero, Nat.add_zero, Nat.zero_add, Int.toNat_natCast, Int.toNat_zero]; rcases hj' with rfl | rfl <;> (repeat' split) <;> first | rfl | omega | (simp_all; done) | (simp_all; omega)))
    | (exfalso; simp at hq; omega)
theorem con42G_ok : BodyOk (mk X42G) 4 Try.f42 con42G := by
  intro vs bs K hh hro
  clear hro
  unfold con42G at hh
  split at hh
  · rename_i u vl x
    obtain ⟨a, b, c, d, e, rfl, hI, hh0⟩ := five_inv hh
    obtain ⟨el, nl, cl, fl, btl, rfl, hnl, rfl, hh1⟩ := parseR_inv hh0
    obtain ⟨rfl, ⟨h1, h3⟩, hc⟩ := hh1
    exact ⟨_, cast (con42G_rE a b c d e el nl cl fl x K) (con42G_rP a b c d e el nl cl fl x K hI hnl h1 h3 hc)⟩
  · exact hh.elim
theorem con42G_told : Told 42 (specOf con42G) := told (X := X42G) X42G_told (by kernel_rfl) (by kernel_rfl) (by kernel_rfl) con42G_ok
end Go.Proofs.Ytkflmglpniebfaa.Fr
