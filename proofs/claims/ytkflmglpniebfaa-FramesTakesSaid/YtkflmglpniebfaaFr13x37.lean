/-
  Frames: take. No project text.
-/
import Derived.Test.YtkflmglpniebfaaFr13
namespace Go.Proofs.Ytkflmglpniebfaa.Fr
open Go.Rx
open Go.RowKit (Below)
set_option linter.unusedVariables false
def con37EF : Con := fun vs bs K => match vs with
  | [u, vl, .bool false] => five u fun a b c d e => parseR [.i64, .i64] 0 vl bs fun nl fl j0 bs0 => bs0 = [] ∧ (((ckF a b c d e nl fl).2 = 0) ∧ (sel (selE fl 0) nl = [])) ∧ (K (.tuple ⟨[.slice none 0 0, .int .i64 0, .int .i64 5]⟩) [])
  | _ => False

def con37EF_rA (a b c d e : Int) (el nl cl : Nat) (fl : RF) : Ann := fun _ => none
def con37ET : Con := fun vs bs K => match vs with
  | [u, vl, .bool true] => five u fun a b c d e => parseR [.i64, .i64] 0 vl bs fun nl fl j0 bs0 => bs0 = [] ∧ (((ckF a b c d e nl fl).2 = 0) ∧ (sel (selE fl 0) nl = [])) ∧ (K (.tuple ⟨[.slice none 0 0, .int .i64 0, .int .i64 5]⟩) [])
  | _ => False

def con37ET_rA (a b c d e : Int) (el nl cl : Nat) (fl : RF) : Ann := fun _ => none
def con37GF : Con := fun vs bs K => match vs with
  | [u, vl, .bool false] => five u fun a b c d e => parseR [.i64, .i64] 0 vl bs fun nl fl j0 bs0 => bs0 = [] ∧ (((ckF a b c d e nl fl).2 = 0) ∧ (¬ sel (selE fl 0) nl = [])) ∧ (∀ cp, nl ≤ cp → K (.tuple ⟨[rsl j0 0 nl cp, .int .i64 (lF (sel (selE fl 0) nl) 0 0), .int .i64 0]⟩) [.row false [.i64, .i64] 54 nl cp (putE fl (lF (sel (selE fl 0) nl) 0 0).toNat [1, 0])])
  | _ => False

def con37GF_rA (a b c d e : Int) (el nl cl : Nat) (fl : RF) : Ann := fun _ => none
def con37FT : Con := fun vs bs K => match vs with
  | [u, vl, .bool true] => five u fun a b c d e => parseR [.i64, .i64] 0 vl bs fun nl fl j0 bs0 => bs0 = [] ∧ (((ckF a b c d e nl fl).2 = 0) ∧ (¬ sel (selE fl 0) nl = []) ∧ (¬ sel (selE fl 2) nl = []) ∧ (List.length (sel (selE fl 2) nl) = 2)) ∧ (K (.tuple ⟨[.slice none 0 0, .int .i64 0, .int .i64 5]⟩) [])
  | _ => False

def con37FT_rA (a b c d e : Int) (el nl cl : Nat) (fl : RF) : Ann := fun _ => none
def con37GT : Con := fun vs bs K => match vs with
  | [u, vl, .bool true] => five u fun a b c d e => parseR [.i64, .i64] 0 vl bs fun nl fl j0 bs0 => bs0 = [] ∧ (((ckF a b c d e nl fl).2 = 0) ∧ (¬ sel (selE fl 0) nl = []) ∧ (¬ sel (selE fl 2) nl = []) ∧ (¬ List.length (sel (selE fl 2) nl) = 2)) ∧ (∀ cp, nl ≤ cp → K (.tuple ⟨[rsl j0 0 nl cp, .int .i64 (lF (sel (selE fl 0) nl) 0 0), .int .i64 0]⟩) [.row false [.i64, .i64] 54 nl cp (putE fl (lF (sel (selE fl 0) nl) 0 0).toNat [2, 0])])
  | _ => False

def con37GT_rA (a b c d e : Int) (el nl cl : Nat) (fl : RF) : Ann := fun _ => none
def con37HT : Con := fun vs bs K => match vs with
  | [u, vl, .bool true] => five u fun a b c d e => parseR [.i64, .i64] 0 vl bs fun nl fl j0 bs0 => bs0 = [] ∧ (((ckF a b c d e nl fl).2 = 0) ∧ (¬ sel (selE fl 0) nl = []) ∧ (sel (selE fl 2) nl = [])) ∧ (∀ cp, nl ≤ cp → K (.tuple ⟨[rsl j0 0 nl cp, .int .i64 (lF (sel (selE fl 0) nl) 0 0), .int .i64 0]⟩) [.row false [.i64, .i64] 54 nl cp (putE fl (lF (sel (selE fl 0) nl) 0 0).toNat [2, 0])])
  | _ => False

def con37HT_rA (a b c d e : Int) (el nl cl : Nat) (fl : RF) : Ann := fun _ => none
def con37EF_rV (a b c d e : Int) (el nl cl : Nat) (fl : RF) (K : Value → List Blk → Prop) : Prop := (T0 ∧ (T0 ∧ (T0 ∧ ((0 + nl ≤ nl) ∧ ((InC a b c d e) ∧ ((eN 0) ∧ ((nl ≤ 100000) ∧ ((eK ∧ ((eN nl) ∧ (eN cl))) ∧ (eB ∧ (T0 ∧ (if (@Eq Int (Prod.snd (ckF a b c d e nl fl)) (0)) then (T0 ∧ (T0 ∧ (TS ∧ (T0 ∧ (T0 ∧ (T0 ∧ (T0 ∧ ((0 + nl ≤ nl) ∧ ((1 ≤ 1) ∧ ((eN 0) ∧ ((nl ≤ 100000) ∧ ((eK ∧ ((eN nl) ∧ (eN cl))) ∧ ((eN 1) ∧ ((1 ≤ 100000) ∧ (((@Eq (List IntKind) ([IntKind.i64]) ([IntKind.i64])) ∧ ((eN 1) ∧ (eN 1))) ∧ ((eB ∧ (eN 1)) ∧ ((sel (selE fl 0) nl = []) ∧ (TS ∧ (T0 ∧ (∃ y0 : Value, (∃ y1 : List Blk, ((Go.Rx.Found 1 (vt [vn, vi 0, vi 5]) ({ h := [(3, Blk.row false [IntKind.i64] 3 1 1 (litF (List.length [IntKind.i64]) ([0] ++ []))), (2, Blk.cells [vi 1] 3), (1, CB a b c d e), (0, rT el nl cl fl)], next := 4 }) (y0) (y1)) ∧ (K y0 y1))))))))))))))))))))))) else (∃ y0 : Value, (∃ y1 : List Blk, ((Go.Rx.Found 1 (vt [vn, vi 0, vi (Prod.snd (ckF a b c d e nl fl))]) ({ h := [(1, CB a b c d e), (0, rT el nl cl fl)], next := 2 }) (y0) (y1)) ∧ (K y0 y1)))))))))))))))
theorem con37EF_rE (a b c d e : Int) (el nl cl : Nat) (fl : RF) (K : Value → List Blk → Prop) : con37EF_rV a b c d e el nl cl fl K = bodyX (mk X37EF) (callN (mk X37EF) 4) (con37EF_rA a b c d e el nl cl fl) Try.f37 [.agg ⟨[.int .i64 a, .int .i64 b, .int .i64 c, .int .i64 d, .int .i64 e]⟩, rsl 0 0 nl cl, .bool false] (stOf [.row true [.i64, .i64] el nl cl fl]) fun v s' => ∃ v1 news, Rx.Found 1 v s' v1 news ∧ K v1 news := by kernel_rfl
set_option maxHeartbeats 4000000 in
set_option tactic.hygienic false in
theorem con37EF_rP (a b c d e : Int) (el nl cl : Nat) (fl : RF) (K : Value → List Blk → Prop)  (hI : InC a b c d e) (hnl : nl ≤ 100000) (h1 : (ckF a b c d e nl fl).2 = 0) (h2 : sel (selE fl 0) nl = []) (h : K (.tuple ⟨[.slice none 0 0, .int .i64 0, .int .i64 5]⟩) []) : con37EF_rV a b c d e el nl cl fl K := by
  unfold con37EF_rV
  have G : (ckF a b c d e nl fl).2 = 0 → good a b c d e ∧ ((nl : Nat) : Int) = b ∧ ∀ i, i < nl → fok a fl i := ckF_zero
  have SL0 := sel_len (p := selE fl 0) (n := nl)
  have SL2 := sel_len (p := selE fl 2) (n := nl)
  repeat' (first | (with_reducible exact rfl) | (with_reducible exact trivial) | (with_reducible refine And.intro ?_ ?_) | (intro) | (with_reducible refine br_intro (fun hq => ?_) (fun hq => ?_)) | (with_reducible refine if_both (fun hz => ?_) (fun hz => ?_)) | fail)
  all_goals first
    | omega
    | assumption
    | contradiction
    | exact fin0 (by kernel_rfl) (by kernel_rfl) (by first | exact h | simpa using h)
    | (simp only [Int.toNat_zero, hi4, hi2]; first | done | omega | rfl)
    | (refine fin1t rfl ?_ (by kernel_rfl) (by kernel_rfl) (h _ (by omega)); (intro i j hi hj; have hj' : j = 0 ∨ j = 1 := (by simp at hj; omega); simp only [putE, putF, cpyF, appF, shiftF, zF, Nat.min_self, Nat.sub_zero, Nat.add_zero, Nat.zero_add, Int.toNat_natCast, Int.toNat_zero]; rcases hj' with rfl | rfl <;> (repeat' split) <;> first | rfl | omega | (simp_all; done) | (simp_all; omega)))
    | (exfalso; simp at hq; omega)
theorem con37EF_ok : BodyOk (mk X37EF) 4 Try.f37 con37EF := by
  intro vs bs K hh hro
  clear hro
  unfold con37EF at hh
  split at hh
  · rename_i u vl
    obtain ⟨a, b, c, d, e, rfl, hI, hh0⟩ := five_inv hh
    obtain ⟨el, nl, cl, fl, btl, rfl, hnl, rfl, hh1⟩ := parseR_inv hh0
    obtain ⟨rfl, ⟨h1, h2⟩, hc⟩ := hh1
    exact ⟨_, cast (con37EF_rE a b c d e el nl cl fl  K) (con37EF_rP a b c d e el nl cl fl  K hI hnl h1 h2 hc)⟩
  · exact hh.elim
theorem con37EF_told : Told 37 (specOf con37EF) := told (X := X37EF) X37EF_told (by kernel_rfl) (by kernel_rfl) (by kernel_rfl) con37EF_ok
def con37ET_rV (a b c d e : Int) (el nl cl : Nat) (fl : RF) (K : Value → List Blk → Prop) : Prop := (T0 ∧ (T0 ∧ (T0 ∧ ((0 + nl ≤ nl) ∧ ((InC a b c d e) ∧ ((eN 0) ∧ ((nl ≤ 100000) ∧ ((eK ∧ ((eN nl) ∧ (eN cl))) ∧ (eB ∧ (T0 ∧ (if (@Eq Int (Prod.snd (ckF a b c d e nl fl)) (0)) then (T0 ∧ (T0 ∧ (T0 ∧ (T0 ∧ (TS ∧ (T0 ∧ (T0 ∧ (T0 ∧ (T0 ∧ ((0 + nl ≤ nl) ∧ ((1 ≤ 1) ∧ ((eN 0) ∧ ((nl ≤ 100000) ∧ ((eK ∧ ((eN nl) ∧ (eN cl))) ∧ ((eN 1) ∧ ((1 ≤ 100000) ∧ (((@Eq (List IntKind) ([IntKind.i64]) ([IntKind.i64])) ∧ ((eN 1) ∧ (eN 1))) ∧ ((eB ∧ (eN 1)) ∧ ((sel (selE fl 0) nl = []) ∧ (TS ∧ (T0 ∧ (∃ y0 : Value, (∃ y1 : List Blk, ((Go.Rx.Found 1 (vt [vn, vi 0, vi 5]) ({ h := [(3, Blk.row false [IntKind.i64] 3 1 1 (litF (List.length [IntKind.i64]) ([0] ++ []))), (2, Blk.cells [vi 2] 3), (1, CB a b c d e), (0, rT el nl cl fl)], next := 4 }) (y0) (y1)) ∧ (K y0 y1))))))))))))))))))))))))) else (∃ y0 : Value, (∃ y1 : List Blk, ((Go.Rx.Found 1 (vt [vn, vi 0, vi (Prod.snd (ckF a b c d e nl fl))]) ({ h := [(1, CB a b c d e), (0, rT el nl cl fl)], next := 2 }) (y0) (y1)) ∧ (K y0 y1)))))))))))))))
theorem con37ET_rE (a b c d e : Int) (el nl cl : Nat) (fl : RF) (K : Value → List Blk → Prop) : con37ET_rV a b c d e el nl cl fl K = bodyX (mk X37ET) (callN (mk X37ET) 4) (con37ET_rA a b c d e el nl cl fl) Try.f37 [.agg ⟨[.int .i64 a, .int .i64 b, .int .i64 c, .int .i64 d, .int .i64 e]⟩, rsl 0 0 nl cl, .bool true] (stOf [.row true [.i64, .i64] el nl cl fl]) fun v s' => ∃ v1 news, Rx.Found 1 v s' v1 news ∧ K v1 news := by kernel_rfl
set_option maxHeartbeats 4000000 in
set_option tactic.hygienic false in
theorem con37ET_rP (a b c d e : Int) (el nl cl : Nat) (fl : RF) (K : Value → List Blk → Prop)  (hI : InC a b c d e) (hnl : nl ≤ 100000) (h1 : (ckF a b c d e nl fl).2 = 0) (h2 : sel (selE fl 0) nl = []) (h : K (.tuple ⟨[.slice none 0 0, .int .i64 0, .int .i64 5]⟩) []) : con37ET_rV a b c d e el nl cl fl K := by
  unfold con37ET_rV
  have G : (ckF a b c d e nl fl).2 = 0 → good a b c d e ∧ ((nl : Nat) : Int) = b ∧ ∀ i, i < nl → fok a fl i := ckF_zero
  have SL0 := sel_len (p := selE fl 0) (n := nl)
  have SL2 := sel_len (p := selE fl 2) (n := nl)
  repeat' (first | (with_reducible exact rfl) | (with_reducible exact trivial) | (with_reducible refine And.intro ?_ ?_) | (intro) | (with_reducible refine br_intro (fun hq => ?_) (fun hq => ?_)) | (with_reducible refine if_both (fun hz => ?_) (fun hz => ?_)) | fail)
  all_goals first
    | omega
    | assumption
    | contradiction
    | exact fin0 (by kernel_rfl) (by kernel_rfl) (by first | exact h | simpa using h)
    | (simp only [Int.toNat_zero, hi4, hi2]; first | done | omega | rfl)
    | (refine fin1t rfl ?_ (by kernel_rfl) (by kernel_rfl) (h _ (by omega)); (intro i j hi hj; have hj' : j = 0 ∨ j = 1 := (by simp at hj; omega); simp only [putE, putF, cpyF, appF, shiftF, zF, Nat.min_self, Nat.sub_zero, Nat.add_zero, Nat.zero_add, Int.toNat_natCast, Int.toNat_zero]; rcases hj' with rfl | rfl <;> (repeat' split) <;> first | rfl | omega | (simp_all; done) | (simp_all; omega)))
    | (exfalso; simp at hq; omega)
theorem con37ET_ok : BodyOk (mk X37ET) 4 Try.f37 con37ET := by
  intro vs bs K hh hro
  clear hro
  unfold con37ET at hh
  split at hh
  · rename_i u vl
    obtain ⟨a, b, c, d, e, rfl, hI, hh0⟩ := five_inv hh
    obtain ⟨el, nl, cl, fl, btl, rfl, hnl, rfl, hh1⟩ := parseR_inv hh0
    obtain ⟨rfl, ⟨h1, h2⟩, hc⟩ := hh1
    exact ⟨_, cast (con37ET_rE a b c d e el nl cl fl  K) (con37ET_rP a b c d e el nl cl fl  K hI hnl h1 h2 hc)⟩
  · exact hh.elim
theorem con37ET_told : Told 37 (specOf con37ET) := told (X := X37ET) X37ET_told (by kernel_rfl) (by kernel_rfl) (by kernel_rfl) con37ET_ok
def con37GF_rV (a b c d e : Int) (el nl cl : Nat) (fl : RF) (K : Value → List Blk → Prop) : Prop := (T0 ∧ (T0 ∧ (T0 ∧ ((0 + nl ≤ nl) ∧ ((InC a b c d e) ∧ ((eN 0) ∧ ((nl ≤ 100000) ∧ ((eK ∧ ((eN nl) ∧ (eN cl))) ∧ (eB ∧ (T0 ∧ (if (@Eq Int (Prod.snd (ckF a b c d e nl fl)) (0)) then (T0 ∧ (T0 ∧ (TS ∧ (T0 ∧ (T0 ∧ (T0 ∧ (T0 ∧ ((0 + nl ≤ nl) ∧ ((1 ≤ 1) ∧ ((eN 0) ∧ ((nl ≤ 100000) ∧ ((eK ∧ ((eN nl) ∧ (eN cl))) ∧ ((eN 1) ∧ ((1 ≤ 100000) ∧ (((@Eq (List IntKind) ([IntKind.i64]) ([IntKind.i64])) ∧ ((eN 1) ∧ (eN 1))) ∧ ((eB ∧ (eN 1)) ∧ ((¬sel (selE fl 0) nl = []) ∧ (∀ y0 : Nat, ((List.length (sel (selE fl 0) nl) ≤ y0) → (TS ∧ (T0 ∧ (if (@Eq Int ((↑(List.length (sel (selE fl 0) nl)) : Int)) (0)) then (∃ y1 : Value, (∃ y2 : List Blk, ((Go.Rx.Found 1 (vt [vn, vi 0, vi 5]) ({ h := [(4, Blk.row false [IntKind.i64] 3 (List.length (sel (selE fl 0) nl)) y0 (lF (sel (selE fl 0) nl))), (3, Blk.row false [IntKind.i64] 3 1 1 (litF (List.length [IntKind.i64]) ([0] ++ []))), (2, Blk.cells [vi 1] 3), (1, CB a b c d e), (0, rT el nl cl fl)], next := 5 }) (y1) (y2)) ∧ (K y1 y2)))) else (T0 ∧ (T0 ∧ (T0 ∧ (T0 ∧ ((TS ∧ (eN 1)) ∧ ((((0 : Int) ≤ 0) ∧ (0 < (↑(List.length (sel (selE fl 0) nl)) : Int))) ∧ (T0 ∧ ((Int.toNat 0 < List.length (sel (selE fl 0) nl)) ∧ (T0 ∧ (T0 ∧ (T0 ∧ ((TS ∧ (eN 1)) ∧ ((((0 : Int) ≤ 0) ∧ (0 < (↑(List.length (sel (selE fl 0) nl)) : Int))) ∧ (T0 ∧ ((Int.toNat 0 < List.length (sel (selE fl 0) nl)) ∧ (T0 ∧ (TS ∧ (TS ∧ (T0 ∧ (T0 ∧ (T0 ∧ (((0 ≤ (↑nl : Int)) ∧ (((↑nl : Int) ≤ (↑nl : Int)) ∧ ((↑nl : Int) ≤ 100000))) ∧ (TS ∧ (TS ∧ (T0 ∧ (T0 ∧ (T0 ∧ (T0 ∧ ((0 + nl ≤ nl) ∧ (((false = false) ∧ (T0 ∧ (0 + nl ≤ nl))) ∧ ((TS ∧ (eN 2)) ∧ (((0 ≤ lF (sel (selE fl 0) nl) (Int.toNat 0) 0) ∧ (lF (sel (selE fl 0) nl) (Int.toNat 0) 0 < (↑nl : Int))) ∧ (T0 ∧ ((false = false) ∧ ((Int.toNat (lF (sel (selE fl 0) nl) (Int.toNat 0) 0) < nl) ∧ (((eN 0) ∧ (eN 2)) ∧ (((@Eq (Option Blk) (some (Blk.row false [IntKind.i64] 3 (List.length (sel (selE fl 0) nl)) y0 (lF (sel (selE fl 0) nl)))) (some (Blk.row false [IntKind.i64] 3 (List.length (sel (selE fl 0) nl)) y0 (lF (sel (selE fl 0) nl))))) ∧ ((@Eq (Option Blk) (some (Blk.row false [IntKind.i64] 3 1 1 (litF (List.length [IntKind.i64]) ([0] ++ [])))) (some (Blk.row false [IntKind.i64] 3 1 1 (litF (List.length [IntKind.i64]) ([0] ++ []))))) ∧ ((@Eq (Option Blk) (some (Blk.cells [vi 1] 3)) (some (Blk.cells [vi 1] 3))) ∧ ((@Eq (Option Blk) (some (CB a b c d e)) (some (CB a b c d e))) ∧ ((@Eq (Option Blk) (some (rT el nl cl fl)) (some (rT el nl cl fl))) ∧ (True)))))) ∧ (∃ y1 : Value, (∃ y2 : List Blk, ((Go.Rx.Found 1 (vt [rsl 5 0 nl nl, vi (lF (sel (selE fl 0) nl) (Int.toNat 0) 0), vi 0]) ({ h := [(5, rF 54 nl nl (putE (cpyF (fun x x_1 ↦ 0) 0 (Nat.min nl nl) fl 0) (Int.toNat (lF (sel (selE fl 0) nl) (Int.toNat 0) 0)) [1, Int.ofNat 0])), (4, Blk.row false [IntKind.i64] 3 (List.length (sel (selE fl 0) nl)) y0 (lF (sel (selE fl 0) nl))), (3, Blk.row false [IntKind.i64] 3 1 1 (litF (List.length [IntKind.i64]) ([0] ++ []))), (2, Blk.cells [vi 1] 3), (1, CB a b c d e), (0, rT el nl cl fl)], next := 6 }) (y1) (y2)) ∧ (K y1 y2))))))))))))))))))))))))))))))))))))))))))))))))))))))))))))))) else (∃ y0 : Value, (∃ y1 : List Blk, ((Go.Rx.Found 1 (vt [vn, vi 0, vi (Prod.snd (ckF a b c d e nl fl))]) ({ h := [(1, CB a b c d e), (0, rT el nl cl fl)], next := 2 }) (y0) (y1)) ∧ (K y0 y1)))))))))))))))
theorem con37GF_rE (a b c d e : Int) (el nl cl : Nat) (fl : RF) (K : Value → List Blk → Prop) : con37GF_rV a b c d e el nl cl fl K = bodyX (mk X37GF) (callN (mk X37GF) 4) (con37GF_rA a b c d e el nl cl fl) Try.f37 [.agg ⟨[.int .i64 a, .int .i64 b, .int .i64 c, .int .i64 d, .int .i64 e]⟩, rsl 0 0 nl cl, .bool false] (stOf [.row true [.i64, .i64] el nl cl fl]) fun v s' => ∃ v1 news, Rx.Found 1 v s' v1 news ∧ K v1 news := by kernel_rfl
set_option maxHeartbeats 4000000 in
set_option tactic.hygienic false in
theorem con37GF_rP (a b c d e : Int) (el nl cl : Nat) (fl : RF) (K : Value → List Blk → Prop)  (hI : InC a b c d e) (hnl : nl ≤ 100000) (h1 : (ckF a b c d e nl fl).2 = 0) (h2 : ¬ sel (selE fl 0) nl = []) (h : ∀ cp, nl ≤ cp → K (.tuple ⟨[rsl 1 0 nl cp, .int .i64 (lF (sel (selE fl 0) nl) 0 0), .int .i64 0]⟩) [.row false [.i64, .i64] 54 nl cp (putE fl (lF (sel (selE fl 0) nl) 0 0).toNat [1, 0])]) : con37GF_rV a b c d e el nl cl fl K := by
  unfold con37GF_rV
  have G : (ckF a b c d e nl fl).2 = 0 → good a b c d e ∧ ((nl : Nat) : Int) = b ∧ ∀ i, i < nl → fok a fl i := ckF_zero
  have SL0 := sel_len (p := selE fl 0) (n := nl)
  have SL2 := sel_len (p := selE fl 2) (n := nl)
  obtain ⟨i0, hi1, hi2, hi3⟩ := sel0_mem h2
  have hi4 : (lF (sel (selE fl 0) nl) 0 0).toNat = i0 := (by rw [hi2]; rfl)
  have L0 : 0 < List.length (sel (selE fl 0) nl) := List.length_pos_iff.2 h2
  repeat' (first | (with_reducible exact rfl) | (with_reducible exact trivial) | (with_reducible refine And.intro ?_ ?_) | (intro) | (with_reducible refine br_intro (fun hq => ?_) (fun hq => ?_)) | (with_reducible refine if_both (fun hz => ?_) (fun hz => ?_)) | fail)
  all_goals first
    | omega
    | assumption
    | contradiction
    | exact fin0 (by kernel_rfl) (by kernel_rfl) (by first | exact h | simpa using h)
    | (simp only [Int.toNat_zero, hi4, hi2]; first | done | omega | rfl)
    | (refine fin1t rfl ?_ (by kernel_rfl) (by kernel_rfl) (h _ (by omega)); (intro i j hi hj; have hj' : j = 0 ∨ j = 1 := (by simp at hj; omega); simp only [putE, putF, cpyF, appF, shiftF, zF, Nat.min_self, Nat.sub_zero, Nat.add_zero, Nat.zero_add, Int.toNat_natCast, Int.toNat_zero]; rcases hj' with rfl | rfl <;> (repeat' split) <;> first | rfl | omega | (simp_all; done) | (simp_all; omega)))
    | (exfalso; simp at hq; omega)
theorem con37GF_ok : BodyOk (mk X37GF) 4 Try.f37 con37GF := by
  intro vs bs K hh hro
  clear hro
  unfold con37GF at hh
  split at hh
  · rename_i u vl
    obtain ⟨a, b, c, d, e, rfl, hI, hh0⟩ := five_inv hh
    obtain ⟨el, nl, cl, fl, btl, rfl, hnl, rfl, hh1⟩ := parseR_inv hh0
    obtain ⟨rfl, ⟨h1, h2⟩, hc⟩ := hh1
    exact ⟨_, cast (con37GF_rE a b c d e el nl cl fl  K) (con37GF_rP a b c d e el nl cl fl  K hI hnl h1 h2 hc)⟩
  · exact hh.elim
theorem con37GF_told : Told 37 (specOf con37GF) := told (X := X37GF) X37GF_told (by kernel_rfl) (by kernel_rfl) (by kernel_rfl) con37GF_ok
def con37FT_rV (a b c d e : Int) (el nl cl : Nat) (fl : RF) (K : Value → List Blk → Prop) : Prop := (T0 ∧ (T0 ∧ (T0 ∧ ((0 + nl ≤ nl) ∧ ((InC a b c d e) ∧ ((eN 0) ∧ ((nl ≤ 100000) ∧ ((eK ∧ ((eN nl) ∧ (eN cl))) ∧ (eB ∧ (T0 ∧ (if (@Eq Int (Prod.snd (ckF a b c d e nl fl)) (0)) then (T0 ∧ (T0 ∧ (T0 ∧ (T0 ∧ (TS ∧ (T0 ∧ (T0 ∧ (T0 ∧ (T0 ∧ ((0 + nl ≤ nl) ∧ ((1 ≤ 1) ∧ ((eN 0) ∧ ((nl ≤ 100000) ∧ ((eK ∧ ((eN nl) ∧ (eN cl))) ∧ ((eN 1) ∧ ((1 ≤ 100000) ∧ (((@Eq (List IntKind) ([IntKind.i64]) ([IntKind.i64])) ∧ ((eN 1) ∧ (eN 1))) ∧ ((eB ∧ (eN 1)) ∧ ((¬sel (selE fl 0) nl = []) ∧ (∀ y0 : Nat, ((List.length (sel (selE fl 0) nl) ≤ y0) → (TS ∧ (T0 ∧ (if (@Eq Int ((↑(List.length (sel (selE fl 0) nl)) : Int)) (0)) then (∃ y1 : Value, (∃ y2 : List Blk, ((Go.Rx.Found 1 (vt [vn, vi 0, vi 5]) ({ h := [(4, Blk.row false [IntKind.i64] 3 (List.length (sel (selE fl 0) nl)) y0 (lF (sel (selE fl 0) nl))), (3, Blk.row false [IntKind.i64] 3 1 1 (litF (List.length [IntKind.i64]) ([0] ++ []))), (2, Blk.cells [vi 2] 3), (1, CB a b c d e), (0, rT el nl cl fl)], next := 5 }) (y1) (y2)) ∧ (K y1 y2)))) else (TS ∧ (T0 ∧ (T0 ∧ (T0 ∧ (T0 ∧ ((0 + nl ≤ nl) ∧ ((1 ≤ 1) ∧ ((eN 0) ∧ ((nl ≤ 100000) ∧ ((eK ∧ ((eN nl) ∧ (eN cl))) ∧ ((eN 1) ∧ ((1 ≤ 100000) ∧ (((@Eq (List IntKind) ([IntKind.i64]) ([IntKind.i64])) ∧ ((eN 1) ∧ (eN 1))) ∧ ((eB ∧ (eN 1)) ∧ ((¬sel (selE fl 2) nl = []) ∧ (∀ y1 : Nat, ((List.length (sel (selE fl 2) nl) ≤ y1) → (TS ∧ (T0 ∧ (if (@Eq Int ((↑(List.length (sel (selE fl 2) nl)) : Int)) (2)) then (∃ y2 : Value, (∃ y3 : List Blk, ((Go.Rx.Found 1 (vt [vn, vi 0, vi 5]) ({ h := [(6, Blk.row false [IntKind.i64] 3 (List.length (sel (selE fl 2) nl)) y1 (lF (sel (selE fl 2) nl))), (5, Blk.row false [IntKind.i64] 3 1 1 (litF (List.length [IntKind.i64]) ([2] ++ []))), (4, Blk.row false [IntKind.i64] 3 (List.length (sel (selE fl 0) nl)) y0 (lF (sel (selE fl 0) nl))), (3, Blk.row false [IntKind.i64] 3 1 1 (litF (List.length [IntKind.i64]) ([0] ++ []))), (2, Blk.cells [vi 2] 3), (1, CB a b c d e), (0, rT el nl cl fl)], next := 7 }) (y2) (y3)) ∧ (K y2 y3)))) else (T0 ∧ (T0 ∧ (T0 ∧ (T0 ∧ ((TS ∧ (eN 1)) ∧ ((((0 : Int) ≤ 0) ∧ (0 < (↑(List.length (sel (selE fl 0) nl)) : Int))) ∧ (T0 ∧ ((Int.toNat 0 < List.length (sel (selE fl 0) nl)) ∧ (T0 ∧ (T0 ∧ (T0 ∧ ((TS ∧ (eN 1)) ∧ ((((0 : Int) ≤ 0) ∧ (0 < (↑(List.length (sel (selE fl 0) nl)) : Int))) ∧ (T0 ∧ ((Int.toNat 0 < List.length (sel (selE fl 0) nl)) ∧ (T0 ∧ (TS ∧ (TS ∧ (T0 ∧ (T0 ∧ (T0 ∧ (((0 ≤ (↑nl : Int)) ∧ (((↑nl : Int) ≤ (↑nl : Int)) ∧ ((↑nl : Int) ≤ 100000))) ∧ (TS ∧ (TS ∧ (T0 ∧ (T0 ∧ (T0 ∧ (T0 ∧ ((0 + nl ≤ nl) ∧ (((false = false) ∧ (T0 ∧ (0 + nl ≤ nl))) ∧ ((TS ∧ (eN 2)) ∧ (((0 ≤ lF (sel (selE fl 0) nl) (Int.toNat 0) 0) ∧ (lF (sel (selE fl 0) nl) (Int.toNat 0) 0 < (↑nl : Int))) ∧ (T0 ∧ ((false = false) ∧ ((Int.toNat (lF (sel (selE fl 0) nl) (Int.toNat 0) 0) < nl) ∧ (((eN 0) ∧ (eN 2)) ∧ (((@Eq (Option Blk) (some (Blk.row false [IntKind.i64] 3 (List.length (sel (selE fl 2) nl)) y1 (lF (sel (selE fl 2) nl)))) (some (Blk.row false [IntKind.i64] 3 (List.length (sel (selE fl 2) nl)) y1 (lF (sel (selE fl 2) nl))))) ∧ ((@Eq (Option Blk) (some (Blk.row false [IntKind.i64] 3 1 1 (litF (List.length [IntKind.i64]) ([2] ++ [])))) (some (Blk.row false [IntKind.i64] 3 1 1 (litF (List.length [IntKind.i64]) ([2] ++ []))))) ∧ ((@Eq (Option Blk) (some (Blk.row false [IntKind.i64] 3 (List.length (sel (selE fl 0) nl)) y0 (lF (sel (selE fl 0) nl)))) (some (Blk.row false [IntKind.i64] 3 (List.length (sel (selE fl 0) nl)) y0 (lF (sel (selE fl 0) nl))))) ∧ ((@Eq (Option Blk) (some (Blk.row false [IntKind.i64] 3 1 1 (litF (List.length [IntKind.i64]) ([0] ++ [])))) (some (Blk.row false [IntKind.i64] 3 1 1 (litF (List.length [IntKind.i64]) ([0] ++ []))))) ∧ ((@Eq (Option Blk) (some (Blk.cells [vi 2] 3)) (some (Blk.cells [vi 2] 3))) ∧ ((@Eq (Option Blk) (some (CB a b c d e)) (some (CB a b c d e))) ∧ ((@Eq (Option Blk) (some (rT el nl cl fl)) (some (rT el nl cl fl))) ∧ (True)))))))) ∧ (∃ y2 : Value, (∃ y3 : List Blk, ((Go.Rx.Found 1 (vt [rsl 7 0 nl nl, vi (lF (sel (selE fl 0) nl) (Int.toNat 0) 0), vi 0]) ({ h := [(7, rF 54 nl nl (putE (cpyF (fun x x_1 ↦ 0) 0 (Nat.min nl nl) fl 0) (Int.toNat (lF (sel (selE fl 0) nl) (Int.toNat 0) 0)) [2, Int.ofNat 0])), (6, Blk.row false [IntKind.i64] 3 (List.length (sel (selE fl 2) nl)) y1 (lF (sel (selE fl 2) nl))), (5, Blk.row false [IntKind.i64] 3 1 1 (litF (List.length [IntKind.i64]) ([2] ++ []))), (4, Blk.row false [IntKind.i64] 3 (List.length (sel (selE fl 0) nl)) y0 (lF (sel (selE fl 0) nl))), (3, Blk.row false [IntKind.i64] 3 1 1 (litF (List.length [IntKind.i64]) ([0] ++ []))), (2, Blk.cells [vi 2] 3), (1, CB a b c d e), (0, rT el nl cl fl)], next := 8 }) (y2) (y3)) ∧ (K y2 y3))))))))))))))))))))))))))))))))))))))))))))))))))))))))))))))))))))))))))))))))))))) else (∃ y0 : Value, (∃ y1 : List Blk, ((Go.Rx.Found 1 (vt [vn, vi 0, vi (Prod.snd (ckF a b c d e nl fl))]) ({ h := [(1, CB a b c d e), (0, rT el nl cl fl)], next := 2 }) (y0) (y1)) ∧ (K y0 y1)))))))))))))))
theorem con37FT_rE (a b c d e : Int) (el nl cl : Nat) (fl : RF) (K : Value → List Blk → Prop) : con37FT_rV a b c d e el nl cl fl K = bodyX (mk X37FT) (callN (mk X37FT) 4) (con37FT_rA a b c d e el nl cl fl) Try.f37 [.agg ⟨[.int .i64 a, .int .i64 b, .int .i64 c, .int .i64 d, .int .i64 e]⟩, rsl 0 0 nl cl, .bool true] (stOf [.row true [.i64, .i64] el nl cl fl]) fun v s' => ∃ v1 news, Rx.Found 1 v s' v1 news ∧ K v1 news := by kernel_rfl
set_option maxHeartbeats 4000000 in
set_option tactic.hygienic false in
theorem con37FT_rP (a b c d e : Int) (el nl cl : Nat) (fl : RF) (K : Value → List Blk → Prop)  (hI : InC a b c d e) (hnl : nl ≤ 100000) (h1 : (ckF a b c d e nl fl).2 = 0) (h2 : ¬ sel (selE fl 0) nl = []) (h3 : ¬ sel (selE fl 2) nl = []) (h4 : List.length (sel (selE fl 2) nl) = 2) (h : K (.tuple ⟨[.slice none 0 0, .int .i64 0, .int .i64 5]⟩) []) : con37FT_rV a b c d e el nl cl fl K := by
  unfold con37FT_rV
  have G : (ckF a b c d e nl fl).2 = 0 → good a b c d e ∧ ((nl : Nat) : Int) = b ∧ ∀ i, i < nl → fok a fl i := ckF_zero
  have SL0 := sel_len (p := selE fl 0) (n := nl)
  have SL2 := sel_len (p := selE fl 2) (n := nl)
  obtain ⟨i0, hi1, hi2, hi3⟩ := sel0_mem h2
  have hi4 : (lF (sel (selE fl 0) nl) 0 0).toNat = i0 := (by rw [hi2]; rfl)
  have L0 : 0 < List.length (sel (selE fl 0) nl) := List.length_pos_iff.2 h2
  repeat' (first | (with_reducible exact rfl) | (with_reducible exact trivial) | (with_reducible refine And.intro ?_ ?_) | (intro) | (with_reducible refine br_intro (fun hq => ?_) (fun hq => ?_)) | (with_reducible refine if_both (fun hz => ?_) (fun hz => ?_)) | fail)
  all_goals first
    | omega
    | assumption
    | contradiction
    | exact fin0 (by kernel_rfl) (by kernel_rfl) (by first | exact h | simpa using h)
    | (simp only [Int.toNat_zero, hi4, hi2]; first | done | omega | rfl)
    | (refine fin1t rfl ?_ (by kernel_rfl) (by kernel_rfl) (h _ (by omega)); (intro i j hi hj; have hj' : j = 0 ∨ j = 1 := (by simp at hj; omega); simp only [putE, putF, cpyF, appF, shiftF, zF, Nat.min_self, Nat.sub_zero, Nat.add_zero, Nat.zero_add, Int.toNat_natCast, Int.toNat_zero]; rcases hj' with rfl | rfl <;> (repeat' split) <;> first | rfl | omega | (simp_all; done) | (simp_all; omega)))
    | (exfalso; simp at hq; omega)
theorem con37FT_ok : BodyOk (mk X37FT) 4 Try.f37 con37FT := by
  intro vs bs K hh hro
  clear hro
  unfold con37FT at hh
  split at hh
  · rename_i u vl
    obtain ⟨a, b, c, d, e, rfl, hI, hh0⟩ := five_inv hh
    obtain ⟨el, nl, cl, fl, btl, rfl, hnl, rfl, hh1⟩ := parseR_inv hh0
    obtain ⟨rfl, ⟨h1, h2, h3, h4⟩, hc⟩ := hh1
    exact ⟨_, cast (con37FT_rE a b c d e el nl cl fl  K) (con37FT_rP a b c d e el nl cl fl  K hI hnl h1 h2 h3 h4 hc)⟩
  · exact hh.elim
theorem con37FT_told : Told 37 (specOf con37FT) := told (X := X37FT) X37FT_told (by kernel_rfl) (by kernel_rfl) (by kernel_rfl) con37FT_ok
def con37GT_rV (a b c d e : Int) (el nl cl : Nat) (fl : RF) (K : Value → List Blk → Prop) : Prop := (T0 ∧ (T0 ∧ (T0 ∧ ((0 + nl ≤ nl) ∧ ((InC a b c d e) ∧ ((eN 0) ∧ ((nl ≤ 100000) ∧ ((eK ∧ ((eN nl) ∧ (eN cl))) ∧ (eB ∧ (T0 ∧ (if (@Eq Int (Prod.snd (ckF a b c d e nl fl)) (0)) then (T0 ∧ (T0 ∧ (T0 ∧ (T0 ∧ (TS ∧ (T0 ∧ (T0 ∧ (T0 ∧ (T0 ∧ ((0 + nl ≤ nl) ∧ ((1 ≤ 1) ∧ ((eN 0) ∧ ((nl ≤ 100000) ∧ ((eK ∧ ((eN nl) ∧ (eN cl))) ∧ ((eN 1) ∧ ((1 ≤ 100000) ∧ (((@Eq (List IntKind) ([IntKind.i64]) ([IntKind.i64])) ∧ ((eN 1) ∧ (eN 1))) ∧ ((eB ∧ (eN 1)) ∧ ((¬sel (selE fl 0) nl = []) ∧ (∀ y0 : Nat, ((List.length (sel (selE fl 0) nl) ≤ y0) → (TS ∧ (T0 ∧ (if (@Eq Int ((↑(List.length (sel (selE fl 0) nl)) : Int)) (0)) then (∃ y1 : Value, (∃ y2 : List Blk, ((Go.Rx.Found 1 (vt [vn, vi 0, vi 5]) ({ h := [(4, Blk.row false [IntKind.i64] 3 (List.length (sel (selE fl 0) nl)) y0 (lF (sel (selE fl 0) nl))), (3, Blk.row false [IntKind.i64] 3 1 1 (litF (List.length [IntKind.i64]) ([0] ++ []))), (2, Blk.cells [vi 2] 3), (1, CB a b c d e), (0, rT el nl cl fl)], next := 5 }) (y1) (y2)) ∧ (K y1 y2)))) else (TS ∧ (T0 ∧ (T0 ∧ (T0 ∧ (T0 ∧ ((0 + nl ≤ nl) ∧ ((1 ≤ 1) ∧ ((eN 0) ∧ ((nl ≤ 100000) ∧ ((eK ∧ ((eN nl) ∧ (eN cl))) ∧ ((eN 1) ∧ ((1 ≤ 100000) ∧ (((@Eq (List IntKind) ([IntKind.i64]) ([IntKind.i64])) ∧ ((eN 1) ∧ (eN 1))) ∧ ((eB ∧ (eN 1)) ∧ ((¬sel (selE fl 2) nl = []) ∧ (∀ y1 : Nat, ((List.length (sel (selE fl 2) nl) ≤ y1) → (TS ∧ (T0 ∧ (if (@Eq Int ((↑(List.length (sel (selE fl 2) nl)) : Int)) (2)) then (∃ y2 : Value, (∃ y3 : List Blk, ((Go.Rx.Found 1 (vt [vn, vi 0, vi 5]) ({ h := [(6, Blk.row false [IntKind.i64] 3 (List.length (sel (selE fl 2) nl)) y1 (lF (sel (selE fl 2) nl))), (5, Blk.row false [IntKind.i64] 3 1 1 (litF (List.length [IntKind.i64]) ([2] ++ []))), (4, Blk.row false [IntKind.i64] 3 (List.length (sel (selE fl 0) nl)) y0 (lF (sel (selE fl 0) nl))), (3, Blk.row false [IntKind.i64] 3 1 1 (litF (List.length [IntKind.i64]) ([0] ++ []))), (2, Blk.cells [vi 2] 3), (1, CB a b c d e), (0, rT el nl cl fl)], next := 7 }) (y2) (y3)) ∧ (K y2 y3)))) else (T0 ∧ (T0 ∧ (T0 ∧ (T0 ∧ ((TS ∧ (eN 1)) ∧ ((((0 : Int) ≤ 0) ∧ (0 < (↑(List.length (sel (selE fl 0) nl)) : Int))) ∧ (T0 ∧ ((Int.toNat 0 < List.length (sel (selE fl 0) nl)) ∧ (T0 ∧ (T0 ∧ (T0 ∧ ((TS ∧ (eN 1)) ∧ ((((0 : Int) ≤ 0) ∧ (0 < (↑(List.length (sel (selE fl 0) nl)) : Int))) ∧ (T0 ∧ ((Int.toNat 0 < List.length (sel (selE fl 0) nl)) ∧ (T0 ∧ (TS ∧ (TS ∧ (T0 ∧ (T0 ∧ (T0 ∧ (((0 ≤ (↑nl : Int)) ∧ (((↑nl : Int) ≤ (↑nl : Int)) ∧ ((↑nl : Int) ≤ 100000))) ∧ (TS ∧ (TS ∧ (T0 ∧ (T0 ∧ (T0 ∧ (T0 ∧ ((0 + nl ≤ nl) ∧ (((false = false) ∧ (T0 ∧ (0 + nl ≤ nl))) ∧ ((TS ∧ (eN 2)) ∧ (((0 ≤ lF (sel (selE fl 0) nl) (Int.toNat 0) 0) ∧ (lF (sel (selE fl 0) nl) (Int.toNat 0) 0 < (↑nl : Int))) ∧ (T0 ∧ ((false = false) ∧ ((Int.toNat (lF (sel (selE fl 0) nl) (Int.toNat 0) 0) < nl) ∧ (((eN 0) ∧ (eN 2)) ∧ (((@Eq (Option Blk) (some (Blk.row false [IntKind.i64] 3 (List.length (sel (selE fl 2) nl)) y1 (lF (sel (selE fl 2) nl)))) (some (Blk.row false [IntKind.i64] 3 (List.length (sel (selE fl 2) nl)) y1 (lF (sel (selE fl 2) nl))))) ∧ ((@Eq (Option Blk) (some (Blk.row false [IntKind.i64] 3 1 1 (litF (List.length [IntKind.i64]) ([2] ++ [])))) (some (Blk.row false [IntKind.i64] 3 1 1 (litF (List.length [IntKind.i64]) ([2] ++ []))))) ∧ ((@Eq (Option Blk) (some (Blk.row false [IntKind.i64] 3 (List.length (sel (selE fl 0) nl)) y0 (lF (sel (selE fl 0) nl)))) (some (Blk.row false [IntKind.i64] 3 (List.length (sel (selE fl 0) nl)) y0 (lF (sel (selE fl 0) nl))))) ∧ ((@Eq (Option Blk) (some (Blk.row false [IntKind.i64] 3 1 1 (litF (List.length [IntKind.i64]) ([0] ++ [])))) (some (Blk.row false [IntKind.i64] 3 1 1 (litF (List.length [IntKind.i64]) ([0] ++ []))))) ∧ ((@Eq (Option Blk) (some (Blk.cells [vi 2] 3)) (some (Blk.cells [vi 2] 3))) ∧ ((@Eq (Option Blk) (some (CB a b c d e)) (some (CB a b c d e))) ∧ ((@Eq (Option Blk) (some (rT el nl cl fl)) (some (rT el nl cl fl))) ∧ (True)))))))) ∧ (∃ y2 : Value, (∃ y3 : List Blk, ((Go.Rx.Found 1 (vt [rsl 7 0 nl nl, vi (lF (sel (selE fl 0) nl) (Int.toNat 0) 0), vi 0]) ({ h := [(7, rF 54 nl nl (putE (cpyF (fun x x_1 ↦ 0) 0 (Nat.min nl nl) fl 0) (Int.toNat (lF (sel (selE fl 0) nl) (Int.toNat 0) 0)) [2, Int.ofNat 0])), (6, Blk.row false [IntKind.i64] 3 (List.length (sel (selE fl 2) nl)) y1 (lF (sel (selE fl 2) nl))), (5, Blk.row false [IntKind.i64] 3 1 1 (litF (List.length [IntKind.i64]) ([2] ++ []))), (4, Blk.row false [IntKind.i64] 3 (List.length (sel (selE fl 0) nl)) y0 (lF (sel (selE fl 0) nl))), (3, Blk.row false [IntKind.i64] 3 1 1 (litF (List.length [IntKind.i64]) ([0] ++ []))), (2, Blk.cells [vi 2] 3), (1, CB a b c d e), (0, rT el nl cl fl)], next := 8 }) (y2) (y3)) ∧ (K y2 y3))))))))))))))))))))))))))))))))))))))))))))))))))))))))))))))))))))))))))))))))))))) else (∃ y0 : Value, (∃ y1 : List Blk, ((Go.Rx.Found 1 (vt [vn, vi 0, vi (Prod.snd (ckF a b c d e nl fl))]) ({ h := [(1, CB a b c d e), (0, rT el nl cl fl)], next := 2 }) (y0) (y1)) ∧ (K y0 y1)))))))))))))))
theorem con37GT_rE (a b c d e : Int) (el nl cl : Nat) (fl : RF) (K : Value → List Blk → Prop) : con37GT_rV a b c d e el nl cl fl K = bodyX (mk X37GT) (callN (mk X37GT) 4) (con37GT_rA a b c d e el nl cl fl) Try.f37 [.agg ⟨[.int .i64 a, .int .i64 b, .int .i64 c, .int .i64 d, .int .i64 e]⟩, rsl 0 0 nl cl, .bool true] (stOf [.row true [.i64, .i64] el nl cl fl]) fun v s' => ∃ v1 news, Rx.Found 1 v s' v1 news ∧ K v1 news := by kernel_rfl
set_option maxHeartbeats 4000000 in
set_option tactic.hygienic false in
theorem con37GT_rP (a b c d e : Int) (el nl cl : Nat) (fl : RF) (K : Value → List Blk → Prop)  (hI : InC a b c d e) (hnl : nl ≤ 100000) (h1 : (ckF a b c d e nl fl).2 = 0) (h2 : ¬ sel (selE fl 0) nl = []) (h3 : ¬ sel (selE fl 2) nl = []) (h4 : ¬ List.length (sel (selE fl 2) nl) = 2) (h : ∀ cp, nl ≤ cp → K (.tuple ⟨[rsl 1 0 nl cp, .int .i64 (lF (sel (selE fl 0) nl) 0 0), .int .i64 0]⟩) [.row false [.i64, .i64] 54 nl cp (putE fl (lF (sel (selE fl 0) nl) 0 0).toNat [2, 0])]) : con37GT_rV a b c d e el nl cl fl K := by
  unfold con37GT_rV
  have G : (ckF a b c d e nl fl).2 = 0 → good a b c d e ∧ ((nl : Nat) : Int) = b ∧ ∀ i, i < nl → fok a fl i := ckF_zero
  have SL0 := sel_len (p := selE fl 0) (n := nl)
  have SL2 := sel_len (p := selE fl 2) (n := nl)
  obtain ⟨i0, hi1, hi2, hi3⟩ := sel0_mem h2
  have hi4 : (lF (sel (selE fl 0) nl) 0 0).toNat = i0 := (by rw [hi2]; rfl)
  have L0 : 0 < List.length (sel (selE fl 0) nl) := List.length_pos_iff.2 h2
  repeat' (first | (with_reducible exact rfl) | (with_reducible exact trivial) | (with_reducible refine And.intro ?_ ?_) | (intro) | (with_reducible refine br_intro (fun hq => ?_) (fun hq => ?_)) | (with_reducible refine if_both (fun hz => ?_) (fun hz => ?_)) | fail)
  all_goals first
    | omega
    | assumption
    | contradiction
    | exact fin0 (by kernel_rfl) (by kernel_rfl) (by first | exact h | simpa using h)
    | (simp only [Int.toNat_zero, hi4, hi2]; first | done | omega | rfl)
    | (refine fin1t rfl ?_ (by kernel_rfl) (by kernel_rfl) (h _ (by omega)); (intro i j hi hj; have hj' : j = 0 ∨ j = 1 := (by simp at hj; omega); simp only [putE, putF, cpyF, appF, shiftF, zF, Nat.min_self, Nat.sub_zero, Nat.add_zero, Nat.zero_add, Int.toNat_natCast, Int.toNat_zero]; rcases hj' with rfl | rfl <;> (repeat' split) <;> first | rfl | omega | (simp_all; done) | (simp_all; omega)))
    | (exfalso; simp at hq; omega)
theorem con37GT_ok : BodyOk (mk X37GT) 4 Try.f37 con37GT := by
  intro vs bs K hh hro
  clear hro
  unfold con37GT at hh
  split at hh
  · rename_i u vl
    obtain ⟨a, b, c, d, e, rfl, hI, hh0⟩ := five_inv hh
    obtain ⟨el, nl, cl, fl, btl, rfl, hnl, rfl, hh1⟩ := parseR_inv hh0
    obtain ⟨rfl, ⟨h1, h2, h3, h4⟩, hc⟩ := hh1
    exact ⟨_, cast (con37GT_rE a b c d e el nl cl fl  K) (con37GT_rP a b c d e el nl cl fl  K hI hnl h1 h2 h3 h4 hc)⟩
  · exact hh.elim
theorem con37GT_told : Told 37 (specOf con37GT) := told (X := X37GT) X37GT_told (by kernel_rfl) (by kernel_rfl) (by kernel_rfl) con37GT_ok
def con37HT_rV (a b c d e : Int) (el nl cl : Nat) (fl : RF) (K : Value → List Blk → Prop) : Prop := (T0 ∧ (T0 ∧ (T0 ∧ ((0 + nl ≤ nl) ∧ ((InC a b c d e) ∧ ((eN 0) ∧ ((nl ≤ 100000) ∧ ((eK ∧ ((eN nl) ∧ (eN cl))) ∧ (eB ∧ (T0 ∧ (if (@Eq Int (Prod.snd (ckF a b c d e nl fl)) (0)) then (T0 ∧ (T0 ∧ (T0 ∧ (T0 ∧ (TS ∧ (T0 ∧ (T0 ∧ (T0 ∧ (T0 ∧ ((0 + nl ≤ nl) ∧ ((1 ≤ 1) ∧ ((eN 0) ∧ ((nl ≤ 100000) ∧ ((eK ∧ ((eN nl) ∧ (eN cl))) ∧ ((eN 1) ∧ ((1 ≤ 100000) ∧ (((@Eq (List IntKind) ([IntKind.i64]) ([IntKind.i64])) ∧ ((eN 1) ∧ (eN 1))) ∧ ((eB ∧ (eN 1)) ∧ ((¬sel (selE fl 0) nl = []) ∧ (∀ y0 : Nat, ((List.length (sel (selE fl 0) nl) ≤ y0) → (TS ∧ (T0 ∧ (if (@Eq Int ((↑(List.length (sel (selE fl 0) nl)) : Int)) (0)) then (∃ y1 : Value, (∃ y2 : List Blk, ((Go.Rx.Found 1 (vt [vn, vi 0, vi 5]) ({ h := [(4, Blk.row false [IntKind.i64] 3 (List.length (sel (selE fl 0) nl)) y0 (lF (sel (selE fl 0) nl))), (3, Blk.row false [IntKind.i64] 3 1 1 (litF (List.length [IntKind.i64]) ([0] ++ []))), (2, Blk.cells [vi 2] 3), (1, CB a b c d e), (0, rT el nl cl fl)], next := 5 }) (y1) (y2)) ∧ (K y1 y2)))) else (TS ∧ (T0 ∧ (T0 ∧ (T0 ∧ (T0 ∧ ((0 + nl ≤ nl) ∧ ((1 ≤ 1) ∧ ((eN 0) ∧ ((nl ≤ 100000) ∧ ((eK ∧ ((eN nl) ∧ (eN cl))) ∧ ((eN 1) ∧ ((1 ≤ 100000) ∧ (((@Eq (List IntKind) ([IntKind.i64]) ([IntKind.i64])) ∧ ((eN 1) ∧ (eN 1))) ∧ ((eB ∧ (eN 1)) ∧ ((sel (selE fl 2) nl = []) ∧ (TS ∧ (T0 ∧ (T0 ∧ (T0 ∧ (T0 ∧ (T0 ∧ ((TS ∧ (eN 1)) ∧ ((((0 : Int) ≤ 0) ∧ (0 < (↑(List.length (sel (selE fl 0) nl)) : Int))) ∧ (T0 ∧ ((Int.toNat 0 < List.length (sel (selE fl 0) nl)) ∧ (T0 ∧ (T0 ∧ (T0 ∧ ((TS ∧ (eN 1)) ∧ ((((0 : Int) ≤ 0) ∧ (0 < (↑(List.length (sel (selE fl 0) nl)) : Int))) ∧ (T0 ∧ ((Int.toNat 0 < List.length (sel (selE fl 0) nl)) ∧ (T0 ∧ (TS ∧ (TS ∧ (T0 ∧ (T0 ∧ (T0 ∧ (((0 ≤ (↑nl : Int)) ∧ (((↑nl : Int) ≤ (↑nl : Int)) ∧ ((↑nl : Int) ≤ 100000))) ∧ (TS ∧ (TS ∧ (T0 ∧ (T0 ∧ (T0 ∧ (T0 ∧ ((0 + nl ≤ nl) ∧ (((false = false) ∧ (T0 ∧ (0 + nl ≤ nl))) ∧ ((TS ∧ (eN 2)) ∧ (((0 ≤ lF (sel (selE fl 0) nl) (Int.toNat 0) 0) ∧ (lF (sel (selE fl 0) nl) (Int.toNat 0) 0 < (↑nl : Int))) ∧ (T0 ∧ ((false = false) ∧ ((Int.toNat (lF (sel (selE fl 0) nl) (Int.toNat 0) 0) < nl) ∧ (((eN 0) ∧ (eN 2)) ∧ (((@Eq (Option Blk) (some (Blk.row false [IntKind.i64] 3 1 1 (litF (List.length [IntKind.i64]) ([2] ++ [])))) (some (Blk.row false [IntKind.i64] 3 1 1 (litF (List.length [IntKind.i64]) ([2] ++ []))))) ∧ ((@Eq (Option Blk) (some (Blk.row false [IntKind.i64] 3 (List.length (sel (selE fl 0) nl)) y0 (lF (sel (selE fl 0) nl)))) (some (Blk.row false [IntKind.i64] 3 (List.length (sel (selE fl 0) nl)) y0 (lF (sel (selE fl 0) nl))))) ∧ ((@Eq (Option Blk) (some (Blk.row false [IntKind.i64] 3 1 1 (litF (List.length [IntKind.i64]) ([0] ++ [])))) (some (Blk.row false [IntKind.i64] 3 1 1 (litF (List.length [IntKind.i64]) ([0] ++ []))))) ∧ ((@Eq (Option Blk) (some (Blk.cells [vi 2] 3)) (some (Blk.cells [vi 2] 3))) ∧ ((@Eq (Option Blk) (some (CB a b c d e)) (some (CB a b c d e))) ∧ ((@Eq (Option Blk) (some (rT el nl cl fl)) (some (rT el nl cl fl))) ∧ (True))))))) ∧ (∃ y1 : Value, (∃ y2 : List Blk, ((Go.Rx.Found 1 (vt [rsl 6 0 nl nl, vi (lF (sel (selE fl 0) nl) (Int.toNat 0) 0), vi 0]) ({ h := [(6, rF 54 nl nl (putE (cpyF (fun x x_1 ↦ 0) 0 (Nat.min nl nl) fl 0) (Int.toNat (lF (sel (selE fl 0) nl) (Int.toNat 0) 0)) [2, Int.ofNat 0])), (5, Blk.row false [IntKind.i64] 3 1 1 (litF (List.length [IntKind.i64]) ([2] ++ []))), (4, Blk.row false [IntKind.i64] 3 (List.length (sel (selE fl 0) nl)) y0 (lF (sel (selE fl 0) nl))), (3, Blk.row false [IntKind.i64] 3 1 1 (litF (List.length [IntKind.i64]) ([0] ++ []))), (2, Blk.cells [vi 2] 3), (1, CB a b c d e), (0, rT el nl cl fl)], next := 7 }) (y1) (y2)) ∧ (K y1 y2)))))))))))))))))))))))))))))))))))))))))))))))))))))))))))))))))))))))))))))))))) else (∃ y0 : Value, (∃ y1 : List Blk, ((Go.Rx.Found 1 (vt [vn, vi 0, vi (Prod.snd (ckF a b c d e nl fl))]) ({ h := [(1, CB a b c d e), (0, rT el nl cl fl)], next := 2 }) (y0) (y1)) ∧ (K y0 y1)))))))))))))))
theorem con37HT_rE (a b c d e : Int) (el nl cl : Nat) (fl : RF) (K : Value → List Blk → Prop) : con37HT_rV a b c d e el nl cl fl K = bodyX (mk X37HT) (callN (mk X37HT) 4) (con37HT_rA a b c d e el nl cl fl) Try.f37 [.agg ⟨[.int .i64 a, .int .i64 b, .int .i64 c, .int .i64 d, .int .i64 e]⟩, rsl 0 0 nl cl, .bool true] (stOf [.row true [.i64, .i64] el nl cl fl]) fun v s' => ∃ v1 news, Rx.Found 1 v s' v1 news ∧ K v1 news := by kernel_rfl
set_option maxHeartbeats 4000000 in
set_option tactic.hygienic false in
theorem con37HT_rP (a b c d e : Int) (el nl cl : Nat) (fl : RF) (K : Value → List Blk → Prop)  (hI : InC a b c d e) (hnl : nl ≤ 100000) (h1 : (ckF a b c d e nl fl).2 = 0) (h2 : ¬ sel (selE fl 0) nl = []) (h3 : sel (selE fl 2) nl = []) (h : ∀ cp, nl ≤ cp → K (.tuple ⟨[rsl 1 0 nl cp, .int .i64 (lF (sel (selE fl 0) nl) 0 0), .int .i64 0]⟩) [.row false [.i64, .i64] 54 nl cp (putE fl (lF (sel (selE fl 0) nl) 0 0).toNat [2, 0])]) : con37HT_rV a b c d e el nl cl fl K := by
  unfold con37HT_rV
  have G : (ckF a b c d e nl fl).2 = 0 → good a b c d e ∧ ((nl : Nat) : Int) = b ∧ ∀ i, i < nl → fok a fl i := ckF_zero
  have SL0 := sel_len (p := selE fl 0) (n := nl)
  have SL2 := sel_len (p := selE fl 2) (n := nl)
  obtain ⟨i0, hi1, hi2, hi3⟩ := sel0_mem h2
  have hi4 : (lF (sel (selE fl 0) nl) 0 0).toNat = i0 := (by rw [hi2]; rfl)
  have L0 : 0 < List.length (sel (selE fl 0) nl) := List.length_pos_iff.2 h2
  repeat' (first | (with_reducible exact rfl) | (with_reducible exact trivial) | (with_reducible refine And.intro ?_ ?_) | (intro) | (with_reducible refine br_intro (fun hq => ?_) (fun hq => ?_)) | (with_reducible refine if_both (fun hz => ?_) (fun hz => ?_)) | fail)
  all_goals first
    | omega
    | assumption
    | contradiction
    | exact fin0 (by kernel_rfl) (by kernel_rfl) (by first | exact h | simpa using h)
    | (simp only [Int.toNat_zero, hi4, hi2]; first | done | omega | rfl)
    | (refine fin1t rfl ?_ (by kernel_rfl) (by kernel_rfl) (h _ (by omega)); (intro i j hi hj; have hj' : j = 0 ∨ j = 1 := (by simp at hj; omega); simp only [putE, putF, cpyF, appF, shiftF, zF, Nat.min_self, Nat.sub_zero, Nat.add_zero, Nat.zero_add, Int.toNat_natCast, Int.toNat_zero]; rcases hj' with rfl | rfl <;> (repeat' split) <;> first | rfl | omega | (simp_all; done) | (simp_all; omega)))
    | (exfalso; simp at hq; omega)
theorem con37HT_ok : BodyOk (mk X37HT) 4 Try.f37 con37HT := by
  intro vs bs K hh hro
  clear hro
  unfold con37HT at hh
  split at hh
  · rename_i u vl
    obtain ⟨a, b, c, d, e, rfl, hI, hh0⟩ := five_inv hh
    obtain ⟨el, nl, cl, fl, btl, rfl, hnl, rfl, hh1⟩ := parseR_inv hh0
    obtain ⟨rfl, ⟨h1, h2, h3⟩, hc⟩ := hh1
    exact ⟨_, cast (con37HT_rE a b c d e el nl cl fl  K) (con37HT_rP a b c d e el nl cl fl  K hI hnl h1 h2 h3 hc)⟩
  · exact hh.elim
theorem con37HT_told : Told 37 (specOf con37HT) := told (X := X37HT) X37HT_told (by kernel_rfl) (by kernel_rfl) (by kernel_rfl) con37HT_ok
end Go.Proofs.Ytkflmglpniebfaa.Fr
