/-
  Frames: take, the reference. No project text.
-/
import Derived.Test.YtkflmglpniebfaaZ3
import Derived.Test.YtkflmglpniebfaaZ1
namespace Go.Proofs.Ytkflmglpniebfaa.Fr
set_option maxRecDepth 100000
set_option maxHeartbeats 4000000
open Go.Rx
open Go.RowKit (Below)
set_option linter.unusedVariables false
def con38EF : Con := fun vs bs K => match vs with
  | [u, vl, .bool false] => five u fun a b c d e => parseR [.i64, .i64] 0 vl bs fun nl fl j0 bs0 => bs0 = [] ∧ (((ckF a b c d e nl fl).2 = 0) ∧ (sel (selE fl 0) nl = [])) ∧ (K (.tuple ⟨[.slice none 0 0, .int .i64 0, .int .i64 5]⟩) [])
  | _ => False

def con38EF_rA (a b c d e : Int) (el nl cl : Nat) (fl : RF) : Ann := fun _ _ _ => none
def con38ET : Con := fun vs bs K => match vs with
  | [u, vl, .bool true] => five u fun a b c d e => parseR [.i64, .i64] 0 vl bs fun nl fl j0 bs0 => bs0 = [] ∧ (((ckF a b c d e nl fl).2 = 0) ∧ (sel (selE fl 0) nl = [])) ∧ (K (.tuple ⟨[.slice none 0 0, .int .i64 0, .int .i64 5]⟩) [])
  | _ => False

def con38ET_rA (a b c d e : Int) (el nl cl : Nat) (fl : RF) : Ann := fun _ _ _ => none
def con38GF : Con := fun vs bs K => match vs with
  | [u, vl, .bool false] => five u fun a b c d e => parseR [.i64, .i64] 0 vl bs fun nl fl j0 bs0 => bs0 = [] ∧ (((ckF a b c d e nl fl).2 = 0) ∧ (¬ sel (selE fl 0) nl = [])) ∧ (∀ cp, nl ≤ cp → K (.tuple ⟨[rsl j0 0 nl cp, .int .i64 (lF (sel (selE fl 0) nl) 0 0), .int .i64 0]⟩) [.row false [.i64, .i64] 54 nl cp (putE fl (lF (sel (selE fl 0) nl) 0 0).toNat [1, 0])])
  | _ => False

def con38GF_rA (a b c d e : Int) (el nl cl : Nat) (fl : RF) : Ann := fun _ _ _ => none
def con38FT : Con := fun vs bs K => match vs with
  | [u, vl, .bool true] => five u fun a b c d e => parseR [.i64, .i64] 0 vl bs fun nl fl j0 bs0 => bs0 = [] ∧ (((ckF a b c d e nl fl).2 = 0) ∧ (¬ sel (selE fl 0) nl = []) ∧ (¬ sel (selE fl 2) nl = []) ∧ (List.length (sel (selE fl 2) nl) = 2)) ∧ (K (.tuple ⟨[.slice none 0 0, .int .i64 0, .int .i64 5]⟩) [])
  | _ => False

def con38FT_rA (a b c d e : Int) (el nl cl : Nat) (fl : RF) : Ann := fun _ _ _ => none
def con38GT : Con := fun vs bs K => match vs with
  | [u, vl, .bool true] => five u fun a b c d e => parseR [.i64, .i64] 0 vl bs fun nl fl j0 bs0 => bs0 = [] ∧ (((ckF a b c d e nl fl).2 = 0) ∧ (¬ sel (selE fl 0) nl = []) ∧ (¬ sel (selE fl 2) nl = []) ∧ (¬ List.length (sel (selE fl 2) nl) = 2)) ∧ (∀ cp, nl ≤ cp → K (.tuple ⟨[rsl j0 0 nl cp, .int .i64 (lF (sel (selE fl 0) nl) 0 0), .int .i64 0]⟩) [.row false [.i64, .i64] 54 nl cp (putE fl (lF (sel (selE fl 0) nl) 0 0).toNat [2, 0])])
  | _ => False

def con38GT_rA (a b c d e : Int) (el nl cl : Nat) (fl : RF) : Ann := fun _ _ _ => none
def con38HT : Con := fun vs bs K => match vs with
  | [u, vl, .bool true] => five u fun a b c d e => parseR [.i64, .i64] 0 vl bs fun nl fl j0 bs0 => bs0 = [] ∧ (((ckF a b c d e nl fl).2 = 0) ∧ (¬ sel (selE fl 0) nl = []) ∧ (sel (selE fl 2) nl = [])) ∧ (∀ cp, nl ≤ cp → K (.tuple ⟨[rsl j0 0 nl cp, .int .i64 (lF (sel (selE fl 0) nl) 0 0), .int .i64 0]⟩) [.row false [.i64, .i64] 54 nl cp (putE fl (lF (sel (selE fl 0) nl) 0 0).toNat [2, 0])])
  | _ => False

def con38HT_rA (a b c d e : Int) (el nl cl : Nat) (fl : RF) : Ann := fun _ _ _ => none
def con38EF_rV (a b c d e : Int) (el nl cl : Nat) (fl : RF) (K : Value → List Blk → Prop) : Prop := let q0 := ((0 : Nat) + nl ≤ nl); let q1 := (nl ≤ (100000 : Nat)); let q2 := eB; let q3 := (sel (selE fl (2 : Int)) nl); let q4 := (@Eq Nat ((0 : Nat)) ((0 : Nat))); let q5 := TS; let q6 := (@Eq Int (Prod.snd (ckF a b c d e nl fl)) ((0 : Int))); let q7 := ((0 : Nat), rT el nl cl fl); let q8 := (eK ∧ ((@Eq Nat (nl) (nl)) ∧ (@Eq Nat (cl) (cl)))); let q9 := ((1 : Nat), Blk.cells [vi a, vi b, vi c, vi d, vi e] (23 : Nat)); (t3 (q0 ∧ ((InC a b c d e) ∧ (q4 ∧ (q1 ∧ (q8 ∧ (q2 ∧ ((q6 ∧ (sel (selE fl (0 : Int)) nl = [])) ∧ (t3 (q0 ∧ ((InC a b c d e) ∧ (q4 ∧ (q1 ∧ (q8 ∧ (q2 ∧ (q6 ∧ (((sel (selE fl (2 : Int)) nl = []) → (q5 ∧ (T0 ∧ (∃ y0 : Value, (∃ y1 : List Blk, ((Go.Rx.Found 1 (Value.tuple { toList := [vn, vi (0 : Int), vi (5 : Int)] }) ({ h := [q9, q7], next := (2 : Nat) }) (y0) (y1)) ∧ (K y0 y1))))))) ∧ ((¬sel (selE fl (2 : Int)) nl = []) → (∀ y0 : Nat, ((List.length q3 ≤ y0) → (q5 ∧ (T0 ∧ (∃ y1 : Value, (∃ y2 : List Blk, ((Go.Rx.Found 1 (Value.tuple { toList := [vn, vi (0 : Int), vi (5 : Int)] }) ({ h := [((2 : Nat), Blk.row false [IntKind.i64] (3 : Nat) (List.length q3) y0 (lF q3)), q9, q7], next := (3 : Nat) }) (y1) (y2)) ∧ (K y1 y2))))))))))))))))))))))))))
theorem con38EF_rE (a b c d e : Int) (el nl cl : Nat) (fl : RF) (K : Value → List Blk → Prop) : con38EF_rV a b c d e el nl cl fl K = bodyX (mk X38EF) (callN (mk X38EF) 4) (con38EF_rA a b c d e el nl cl fl) Try.f38 [five' a b c d e, rsl 0 0 nl cl, .bool false] (stOf [.row true [.i64, .i64] el nl cl fl]) (Fd 1 K) := by kernel_rfl
set_option tactic.hygienic false in
theorem con38EF_rP (a b c d e : Int) (el nl cl : Nat) (fl : RF) (K : Value → List Blk → Prop)  (hI : InC a b c d e) (hnl : nl ≤ 100000) (h1 : (ckF a b c d e nl fl).2 = 0) (h2 : sel (selE fl 0) nl = []) (h : K (.tuple ⟨[.slice none 0 0, .int .i64 0, .int .i64 5]⟩) []) : con38EF_rV a b c d e el nl cl fl K := by
  unfold con38EF_rV
  conv => zeta
  have G : (ckF a b c d e nl fl).2 = 0 → good a b c d e ∧ ((nl : Nat) : Int) = b ∧ ∀ i, i < nl → fok a fl i := ckF_zero
  have SL0 := sel_len (p := selE fl 0) (n := nl)
  have SL2 := sel_len (p := selE fl 2) (n := nl)
  repeat' (first | (with_reducible first | exact rfl | exact trivial | refine And.intro ?_ ?_ | refine br_intro (fun hq => ?_) fun hq => ?_ | refine if_both (fun hz => ?_) fun hz => ?_) | (intro) | fail)

  all_goals first
    | omega
    | assumption
    | contradiction
    | exact fin0 (by kernel_rfl) (by kernel_rfl) (by first | exact h | simpa using h)
    | (simp only [Int.toNat_zero, hi4, hi2]; first | done | omega | rfl)
    | (refine fin1t rfl ?_ (by kernel_rfl) (by kernel_rfl) (h _ (by omega)); (intro i j hi hj; have hj' : j = 0 ∨ j = 1 := (by simp at hj; omega); simp only [putE, putF, cpyF, appF, shiftF, zF, Nat.min_self, Nat.sub_zero, Nat.add_zero, Nat.zero_add, Int.toNat_natCast, Int.toNat_zero]; rcases hj' with rfl | rfl <;> (repeat' split) <;> first | rfl | omega | (simp_all; done) | (simp_all; omega)))
    | (exfalso; simp at hq; omega)
theorem con38EF_ok : BodyOk (mk X38EF) 4 Try.f38 con38EF := by
  intro vs bs K hh hro
  clear hro
  unfold con38EF at hh
  split at hh
  · rename_i u vl
    obtain ⟨a, b, c, d, e, rfl, hI, hh0⟩ := five_inv hh
    obtain ⟨el, nl, cl, fl, btl, rfl, hnl, rfl, hh1⟩ := parseR_inv hh0
    obtain ⟨rfl, ⟨h1, h2⟩, hc⟩ := hh1
    exact ⟨_, _, cast (con38EF_rE a b c d e el nl cl fl  K) (con38EF_rP a b c d e el nl cl fl  K hI hnl h1 h2 hc)⟩
  · exact hh.elim
theorem con38EF_told : Told 38 (specOf con38EF) := told (X := X38EF) X38EF_told (by kernel_rfl) (by kernel_rfl) (by kernel_rfl) con38EF_ok
def con38ET_rV (a b c d e : Int) (el nl cl : Nat) (fl : RF) (K : Value → List Blk → Prop) : Prop := let q0 := ((0 : Nat) + nl ≤ nl); let q1 := (nl ≤ (100000 : Nat)); let q2 := eB; let q3 := (sel (selE fl (2 : Int)) nl); let q4 := (@Eq Nat ((0 : Nat)) ((0 : Nat))); let q5 := TS; let q6 := (@Eq Int (Prod.snd (ckF a b c d e nl fl)) ((0 : Int))); let q7 := ((0 : Nat), rT el nl cl fl); let q8 := (eK ∧ ((@Eq Nat (nl) (nl)) ∧ (@Eq Nat (cl) (cl)))); let q9 := ((1 : Nat), Blk.cells [vi a, vi b, vi c, vi d, vi e] (23 : Nat)); (t3 (q0 ∧ ((InC a b c d e) ∧ (q4 ∧ (q1 ∧ (q8 ∧ (q2 ∧ ((q6 ∧ (sel (selE fl (0 : Int)) nl = [])) ∧ (t3 (q0 ∧ ((InC a b c d e) ∧ (q4 ∧ (q1 ∧ (q8 ∧ (q2 ∧ (q6 ∧ (((sel (selE fl (2 : Int)) nl = []) → (q5 ∧ (T0 ∧ (∃ y0 : Value, (∃ y1 : List Blk, ((Go.Rx.Found 1 (Value.tuple { toList := [vn, vi (0 : Int), vi (5 : Int)] }) ({ h := [q9, q7], next := (2 : Nat) }) (y0) (y1)) ∧ (K y0 y1))))))) ∧ ((¬sel (selE fl (2 : Int)) nl = []) → (∀ y0 : Nat, ((List.length q3 ≤ y0) → (q5 ∧ (T0 ∧ (∃ y1 : Value, (∃ y2 : List Blk, ((Go.Rx.Found 1 (Value.tuple { toList := [vn, vi (0 : Int), vi (5 : Int)] }) ({ h := [((2 : Nat), Blk.row false [IntKind.i64] (3 : Nat) (List.length q3) y0 (lF q3)), q9, q7], next := (3 : Nat) }) (y1) (y2)) ∧ (K y1 y2))))))))))))))))))))))))))
theorem con38ET_rE (a b c d e : Int) (el nl cl : Nat) (fl : RF) (K : Value → List Blk → Prop) : con38ET_rV a b c d e el nl cl fl K = bodyX (mk X38ET) (callN (mk X38ET) 4) (con38ET_rA a b c d e el nl cl fl) Try.f38 [five' a b c d e, rsl 0 0 nl cl, .bool true] (stOf [.row true [.i64, .i64] el nl cl fl]) (Fd 1 K) := by kernel_rfl
set_option tactic.hygienic false in
theorem con38ET_rP (a b c d e : Int) (el nl cl : Nat) (fl : RF) (K : Value → List Blk → Prop)  (hI : InC a b c d e) (hnl : nl ≤ 100000) (h1 : (ckF a b c d e nl fl).2 = 0) (h2 : sel (selE fl 0) nl = []) (h : K (.tuple ⟨[.slice none 0 0, .int .i64 0, .int .i64 5]⟩) []) : con38ET_rV a b c d e el nl cl fl K := by
  unfold con38ET_rV
  conv => zeta
  have G : (ckF a b c d e nl fl).2 = 0 → good a b c d e ∧ ((nl : Nat) : Int) = b ∧ ∀ i, i < nl → fok a fl i := ckF_zero
  have SL0 := sel_len (p := selE fl 0) (n := nl)
  have SL2 := sel_len (p := selE fl 2) (n := nl)
  repeat' (first | (with_reducible first | exact rfl | exact trivial | refine And.intro ?_ ?_ | refine br_intro (fun hq => ?_) fun hq => ?_ | refine if_both (fun hz => ?_) fun hz => ?_) | (intro) | fail)

  all_goals first
    | omega
    | assumption
    | contradiction
    | exact fin0 (by kernel_rfl) (by kernel_rfl) (by first | exact h | simpa using h)
    | (simp only [Int.toNat_zero, hi4, hi2]; first | done | omega | rfl)
    | (refine fin1t rfl ?_ (by kernel_rfl) (by kernel_rfl) (h _ (by omega)); (intro i j hi hj; have hj' : j = 0 ∨ j = 1 := (by simp at hj; omega); simp only [putE, putF, cpyF, appF, shiftF, zF, Nat.min_self, Nat.sub_zero, Nat.add_zero, Nat.zero_add, Int.toNat_natCast, Int.toNat_zero]; rcases hj' with rfl | rfl <;> (repeat' split) <;> first | rfl | omega | (simp_all; done) | (simp_all; omega)))
    | (exfalso; simp at hq; omega)
theorem con38ET_ok : BodyOk (mk X38ET) 4 Try.f38 con38ET := by
  intro vs bs K hh hro
  clear hro
  unfold con38ET at hh
  split at hh
  · rename_i u vl
    obtain ⟨a, b, c, d, e, rfl, hI, hh0⟩ := five_inv hh
    obtain ⟨el, nl, cl, fl, btl, rfl, hnl, rfl, hh1⟩ := parseR_inv hh0
    obtain ⟨rfl, ⟨h1, h2⟩, hc⟩ := hh1
    exact ⟨_, _, cast (con38ET_rE a b c d e el nl cl fl  K) (con38ET_rP a b c d e el nl cl fl  K hI hnl h1 h2 hc)⟩
  · exact hh.elim
theorem con38ET_told : Told 38 (specOf con38ET) := told (X := X38ET) X38ET_told (by kernel_rfl) (by kernel_rfl) (by kernel_rfl) con38ET_ok
def con38GF_rV (a b c d e : Int) (el nl cl : Nat) (fl : RF) (K : Value → List Blk → Prop) : Prop := let q0 := ((0 : Nat) + nl ≤ nl); let q1 := (nl ≤ (100000 : Nat)); let q2 := (decide ((0 : Nat) < nl)); let q3 := eB; let q4 := (sel (selE fl (0 : Int)) nl); let q5 := (sel (selE fl (2 : Int)) nl); let q6 := (@Eq Nat ((0 : Nat)) ((0 : Nat))); let q7 := (lF q4); let q8 := (lF q5); let q9 := (@Eq Nat ((2 : Nat)) ((2 : Nat))); let q10 := TS; let q11 := (List.length q4); let q12 := (List.length q5); let q13 := (litF (List.length [IntKind.i64, IntKind.i64]) []); let q14 := (↑q11 : Int); let q15 := (@Eq Int (Prod.snd (ckF a b c d e nl fl)) ((0 : Int))); let q16 := (some (rT el nl cl fl)); let q17 := (Int.toNat (0 : Int) < List.length q4); let q18 := ((0 : Nat), rT el nl cl fl); let q19 := (lF q4 (Int.toNat (0 : Int)) (0 : Nat)); let q20 := (q6 ∧ q9); let q21 := (Int.toNat q19); let q22 := ((0 : Int) ≤ lF q4 (Int.toNat (0 : Int)) (0 : Nat)); let q23 := (q10 ∧ (@Eq Nat ((1 : Nat)) ((1 : Nat)))); let q24 := (q10 ∧ q9); let q25 := (Int.toNat q19 < nl); let q26 := (Int.toNat q19 < (0 : Nat)); let q27 := (((0 : Int) ≤ (0 : Int)) ∧ ((0 : Int) < q14)); let q28 := (some (Blk.cells [vi (1 : Int), vi (0 : Int)] (54 : Nat))); let q29 := ((5 : Nat), Blk.cells [vi (1 : Int), vi (0 : Int)] (54 : Nat)); let q30 := ((4 : Nat), Blk.cells [vi (1 : Int), vi (0 : Int)] (54 : Nat)); let q31 := ((3 : Nat), Blk.cells [vi (1 : Int), vi (0 : Int)] (54 : Nat)); let q32 := (eK ∧ ((@Eq Nat (nl) (nl)) ∧ (@Eq Nat (cl) (cl)))); let q33 := (some (Blk.cells [vi a, vi b, vi c, vi d, vi e] (23 : Nat))); let q34 := ((1 : Nat), Blk.cells [vi a, vi b, vi c, vi d, vi e] (23 : Nat)); let q35 := (q22 ∧ (lF q4 (Int.toNat (0 : Int)) (0 : Nat) < (↑nl : Int))); let q36 := (q22 ∧ (lF q4 (Int.toNat (0 : Int)) (0 : Nat) < (↑(0 : Nat) : Int))); let q37 := (putE q13 q21 [(1 : Int), Int.ofNat (0 : Nat)]); let q38 := (putE (appF (fun x x_1 ↦ (0 : Int)) (0 : Nat) fl (0 : Nat)) q21 [(1 : Int), Int.ofNat (0 : Nat)]); let q39 := (@Eq (Option Blk) q28 q28); (t3 (q0 ∧ ((InC a b c d e) ∧ (q6 ∧ (q1 ∧ (q32 ∧ (q3 ∧ ((q15 ∧ (¬sel (selE fl (0 : Int)) nl = [])) ∧ (∀ y0 : Nat, let q43 := (some (Blk.row false [IntKind.i64] (3 : Nat) q11 y0 q7)); let q44 := ((2 : Nat), Blk.row false [IntKind.i64] (3 : Nat) q11 y0 q7); let q45 := ((@Eq (Option Blk) q43 q43) ∧ ((@Eq (Option Blk) q33 q33) ∧ ((@Eq (Option Blk) q16 q16) ∧ (True)))); let q46 := (q39 ∧ q45); ((List.length q4 ≤ y0) → (t3 (q0 ∧ ((InC a b c d e) ∧ (q6 ∧ (q1 ∧ (q32 ∧ (q3 ∧ (q15 ∧ (((sel (selE fl (2 : Int)) nl = []) → (q10 ∧ (T0 ∧ (if (@Eq Int (q14) ((0 : Int))) then (∃ y1 : Value, (∃ y2 : List Blk, ((Go.Rx.Found 1 (Value.tuple { toList := [vn, vi (0 : Int), vi (5 : Int)] }) ({ h := [q44, q34, q18], next := (3 : Nat) }) (y1) (y2)) ∧ (K y1 y2)))) else (t6 (q23 ∧ (q27 ∧ (T0 ∧ (q17 ∧ (t4 (q23 ∧ (q27 ∧ (T0 ∧ (q17 ∧ (T0 ∧ (q10 ∧ (t4 (q10 ∧ (q10 ∧ (t4 (q0 ∧ (q1 ∧ (T0 ∧ (q6 ∧ (Go.Rx.br q2 (∀ y1 : Nat, let q48 := (y1 - (1 : Nat) + (1 : Nat)); ((nl ≤ y1) → (T0 ∧ (q24 ∧ (q35 ∧ ((false = false) ∧ (q25 ∧ (q20 ∧ (q46 ∧ (T0 ∧ (∃ y2 : Value, (∃ y3 : List Blk, ((Go.Rx.Found 1 (Value.tuple { toList := [rsl (6 : Nat) (0 : Nat) nl q48, vi q19, vi (0 : Int)] }) ({ h := [((6 : Nat), rF (54 : Nat) nl q48 q38), ((5 : Nat), rF (54 : Nat) (0 : Nat) (0 : Nat) q13), q30, q31, q44, q34, q18], next := (7 : Nat) }) (y2) (y3)) ∧ (K y2 y3)))))))))))))) (T0 ∧ (q24 ∧ (q36 ∧ ((false = false) ∧ (q26 ∧ (q20 ∧ (q46 ∧ (T0 ∧ (∃ y1 : Value, (∃ y2 : List Blk, ((Go.Rx.Found 1 (Value.tuple { toList := [rsl (5 : Nat) (0 : Nat) (0 : Nat) (0 : Nat), vi q19, vi (0 : Int)] }) ({ h := [((5 : Nat), rF (54 : Nat) (0 : Nat) (0 : Nat) q37), q30, q31, q44, q34, q18], next := (6 : Nat) }) (y1) (y2)) ∧ (K y1 y2))))))))))))))))))))))))))))))))))))) ∧ ((¬sel (selE fl (2 : Int)) nl = []) → (∀ y1 : Nat, let q40 := (some (Blk.row false [IntKind.i64] (3 : Nat) q12 y1 q8)); let q41 := ((3 : Nat), Blk.row false [IntKind.i64] (3 : Nat) q12 y1 q8); let q42 := (q39 ∧ ((@Eq (Option Blk) q40 q40) ∧ q45)); ((List.length q5 ≤ y1) → (q10 ∧ (T0 ∧ (if (@Eq Int (q14) ((0 : Int))) then (∃ y2 : Value, (∃ y3 : List Blk, ((Go.Rx.Found 1 (Value.tuple { toList := [vn, vi (0 : Int), vi (5 : Int)] }) ({ h := [q41, q44, q34, q18], next := (4 : Nat) }) (y2) (y3)) ∧ (K y2 y3)))) else (t6 (q23 ∧ (q27 ∧ (T0 ∧ (q17 ∧ (t4 (q23 ∧ (q27 ∧ (T0 ∧ (q17 ∧ (T0 ∧ (q10 ∧ (t4 (q10 ∧ (q10 ∧ (t4 (q0 ∧ (q1 ∧ (T0 ∧ (q6 ∧ (Go.Rx.br q2 (∀ y2 : Nat, let q47 := (y2 - (1 : Nat) + (1 : Nat)); ((nl ≤ y2) → (T0 ∧ (q24 ∧ (q35 ∧ ((false = false) ∧ (q25 ∧ (q20 ∧ (q42 ∧ (T0 ∧ (∃ y3 : Value, (∃ y4 : List Blk, ((Go.Rx.Found 1 (Value.tuple { toList := [rsl (7 : Nat) (0 : Nat) nl q47, vi q19, vi (0 : Int)] }) ({ h := [((7 : Nat), rF (54 : Nat) nl q47 q38), ((6 : Nat), rF (54 : Nat) (0 : Nat) (0 : Nat) q13), q29, q30, q41, q44, q34, q18], next := (8 : Nat) }) (y3) (y4)) ∧ (K y3 y4)))))))))))))) (T0 ∧ (q24 ∧ (q36 ∧ ((false = false) ∧ (q26 ∧ (q20 ∧ (q42 ∧ (T0 ∧ (∃ y2 : Value, (∃ y3 : List Blk, ((Go.Rx.Found 1 (Value.tuple { toList := [rsl (6 : Nat) (0 : Nat) (0 : Nat) (0 : Nat), vi q19, vi (0 : Int)] }) ({ h := [((6 : Nat), rF (54 : Nat) (0 : Nat) (0 : Nat) q37), q29, q30, q41, q44, q34, q18], next := (7 : Nat) }) (y2) (y3)) ∧ (K y2 y3))))))))))))))))))))))))))))))))))))))))))))))))))))))))))
theorem con38GF_rE (a b c d e : Int) (el nl cl : Nat) (fl : RF) (K : Value → List Blk → Prop) : con38GF_rV a b c d e el nl cl fl K = bodyX (mk X38GF) (callN (mk X38GF) 4) (con38GF_rA a b c d e el nl cl fl) Try.f38 [five' a b c d e, rsl 0 0 nl cl, .bool false] (stOf [.row true [.i64, .i64] el nl cl fl]) (Fd 1 K) := by kernel_rfl
set_option tactic.hygienic false in
theorem con38GF_rP (a b c d e : Int) (el nl cl : Nat) (fl : RF) (K : Value → List Blk → Prop)  (hI : InC a b c d e) (hnl : nl ≤ 100000) (h1 : (ckF a b c d e nl fl).2 = 0) (h2 : ¬ sel (selE fl 0) nl = []) (h : ∀ cp, nl ≤ cp → K (.tuple ⟨[rsl 1 0 nl cp, .int .i64 (lF (sel (selE fl 0) nl) 0 0), .int .i64 0]⟩) [.row false [.i64, .i64] 54 nl cp (putE fl (lF (sel (selE fl 0) nl) 0 0).toNat [1, 0])]) : con38GF_rV a b c d e el nl cl fl K := by
  unfold con38GF_rV
  conv => zeta
  have G : (ckF a b c d e nl fl).2 = 0 → good a b c d e ∧ ((nl : Nat) : Int) = b ∧ ∀ i, i < nl → fok a fl i := ckF_zero
  have SL0 := sel_len (p := selE fl 0) (n := nl)
  have SL2 := sel_len (p := selE fl 2) (n := nl)
  obtain ⟨i0, hi1, hi2, hi3⟩ := sel0_mem h2
  have hi4 : (lF (sel (selE fl 0) nl) 0 0).toNat = i0 := (by rw [hi2]; rfl)
  have L0 : 0 < List.length (sel (selE fl 0) nl) := List.length_pos_iff.2 h2
  repeat' (first | (with_reducible first | exact rfl | exact trivial | refine And.intro ?_ ?_ | refine br_intro (fun hq => ?_) fun hq => ?_ | refine if_both (fun hz => ?_) fun hz => ?_) | (intro) | fail)

  all_goals first
    | omega
    | assumption
    | contradiction
    | exact fin0 (by kernel_rfl) (by kernel_rfl) (by first | exact h | simpa using h)
    | (simp only [Int.toNat_zero, hi4, hi2]; first | done | omega | rfl)
    | (refine fin1t rfl ?_ (by kernel_rfl) (by kernel_rfl) (h _ (by omega)); (intro i j hi hj; have hj' : j = 0 ∨ j = 1 := (by simp at hj; omega); simp only [putE, putF, cpyF, appF, shiftF, zF, Nat.min_self, Nat.sub_zero, Nat.add_zero, Nat.zero_add, Int.toNat_natCast, Int.toNat_zero]; rcases hj' with rfl | rfl <;> (repeat' split) <;> first | rfl | omega | (simp_all; done) | (simp_all; omega)))
    | (exfalso; simp at hq; omega)
theorem con38GF_ok : BodyOk (mk X38GF) 4 Try.f38 con38GF := by
  intro vs bs K hh hro
  clear hro
  unfold con38GF at hh
  split at hh
  · rename_i u vl
    obtain ⟨a, b, c, d, e, rfl, hI, hh0⟩ := five_inv hh
    obtain ⟨el, nl, cl, fl, btl, rfl, hnl, rfl, hh1⟩ := parseR_inv hh0
    obtain ⟨rfl, ⟨h1, h2⟩, hc⟩ := hh1
    exact ⟨_, _, cast (con38GF_rE a b c d e el nl cl fl  K) (con38GF_rP a b c d e el nl cl fl  K hI hnl h1 h2 hc)⟩
  · exact hh.elim
theorem con38GF_told : Told 38 (specOf con38GF) := told (X := X38GF) X38GF_told (by kernel_rfl) (by kernel_rfl) (by kernel_rfl) con38GF_ok
def con38FT_rV (a b c d e : Int) (el nl cl : Nat) (fl : RF) (K : Value → List Blk → Prop) : Prop := let q0 := ((0 : Nat) + nl ≤ nl); let q1 := (nl ≤ (100000 : Nat)); let q2 := eB; let q3 := (sel (selE fl (0 : Int)) nl); let q4 := (sel (selE fl (2 : Int)) nl); let q5 := (@Eq Nat ((0 : Nat)) ((0 : Nat))); let q6 := (lF q3); let q7 := (lF q4); let q8 := (@Eq Nat ((2 : Nat)) ((2 : Nat))); let q9 := TS; let q10 := (List.length q3); let q11 := (List.length q4); let q12 := (litF (List.length [IntKind.i64, IntKind.i64]) []); let q13 := (↑q10 : Int); let q14 := (@Eq Int (Prod.snd (ckF a b c d e nl fl)) ((0 : Int))); let q15 := (some (rT el nl cl fl)); let q16 := (Int.toNat (0 : Int) < List.length q3); let q17 := ((0 : Nat), rT el nl cl fl); let q18 := (lF q3 (Int.toNat (0 : Int)) (0 : Nat)); let q19 := (q5 ∧ q8); let q20 := (Int.toNat q18); let q21 := ((0 : Int) ≤ lF q3 (Int.toNat (0 : Int)) (0 : Nat)); let q22 := (q9 ∧ (@Eq Nat ((1 : Nat)) ((1 : Nat)))); let q23 := (q9 ∧ q8); let q24 := (((0 : Int) ≤ (0 : Int)) ∧ ((0 : Int) < q13)); let q25 := (some (Blk.cells [vi (2 : Int), vi (0 : Int)] (54 : Nat))); let q26 := ((5 : Nat), Blk.cells [vi (2 : Int), vi (0 : Int)] (54 : Nat)); let q27 := ((4 : Nat), Blk.cells [vi (2 : Int), vi (0 : Int)] (54 : Nat)); let q28 := (eK ∧ ((@Eq Nat (nl) (nl)) ∧ (@Eq Nat (cl) (cl)))); let q29 := (some (Blk.cells [vi a, vi b, vi c, vi d, vi e] (23 : Nat))); let q30 := ((1 : Nat), Blk.cells [vi a, vi b, vi c, vi d, vi e] (23 : Nat)); (t3 (q0 ∧ ((InC a b c d e) ∧ (q5 ∧ (q1 ∧ (q28 ∧ (q2 ∧ ((q14 ∧ (¬sel (selE fl (0 : Int)) nl = [])) ∧ (∀ y0 : Nat, let q35 := (some (Blk.row false [IntKind.i64] (3 : Nat) q10 y0 q6)); let q36 := ((2 : Nat), Blk.row false [IntKind.i64] (3 : Nat) q10 y0 q6); ((List.length q3 ≤ y0) → (t3 (q0 ∧ ((InC a b c d e) ∧ (q5 ∧ (q1 ∧ (q28 ∧ (q2 ∧ ((q14 ∧ (¬sel (selE fl (2 : Int)) nl = [])) ∧ (∀ y1 : Nat, let q31 := (some (Blk.row false [IntKind.i64] (3 : Nat) q11 y1 q7)); let q32 := ((3 : Nat), Blk.row false [IntKind.i64] (3 : Nat) q11 y1 q7); let q33 := (∃ y2 : Value, (∃ y3 : List Blk, ((Go.Rx.Found 1 (Value.tuple { toList := [vn, vi (0 : Int), vi (5 : Int)] }) ({ h := [q32, q36, q30, q17], next := (4 : Nat) }) (y2) (y3)) ∧ (K y2 y3)))); let q34 := ((@Eq (Option Blk) q25 q25) ∧ ((@Eq (Option Blk) q31 q31) ∧ ((@Eq (Option Blk) q35 q35) ∧ ((@Eq (Option Blk) q29 q29) ∧ ((@Eq (Option Blk) q15 q15) ∧ (True)))))); ((List.length q4 ≤ y1) → (q9 ∧ (T0 ∧ (if (@Eq Int (q13) ((0 : Int))) then q33 else (q9 ∧ (T0 ∧ (if (@Eq Int ((↑q11 : Int)) ((2 : Int))) then q33 else (t9 (q22 ∧ (q24 ∧ (T0 ∧ (q16 ∧ (t4 (q22 ∧ (q24 ∧ (T0 ∧ (q16 ∧ (T0 ∧ (q9 ∧ (t4 (q9 ∧ (q9 ∧ (t4 (q0 ∧ (q1 ∧ (T0 ∧ (q5 ∧ (Go.Rx.br (decide ((0 : Nat) < nl)) (∀ y2 : Nat, let q37 := (y2 - (1 : Nat) + (1 : Nat)); ((nl ≤ y2) → (T0 ∧ (q23 ∧ ((q21 ∧ (lF q3 (Int.toNat (0 : Int)) (0 : Nat) < (↑nl : Int))) ∧ ((false = false) ∧ ((Int.toNat q18 < nl) ∧ (q19 ∧ (q34 ∧ (T0 ∧ (∃ y3 : Value, (∃ y4 : List Blk, ((Go.Rx.Found 1 (Value.tuple { toList := [rsl (7 : Nat) (0 : Nat) nl q37, vi q18, vi (0 : Int)] }) ({ h := [((7 : Nat), rF (54 : Nat) nl q37 (putE (appF (fun x x_1 ↦ (0 : Int)) (0 : Nat) fl (0 : Nat)) q20 [(2 : Int), Int.ofNat (0 : Nat)])), ((6 : Nat), rF (54 : Nat) (0 : Nat) (0 : Nat) q12), q26, q27, q32, q36, q30, q17], next := (8 : Nat) }) (y3) (y4)) ∧ (K y3 y4)))))))))))))) (T0 ∧ (q23 ∧ ((q21 ∧ (lF q3 (Int.toNat (0 : Int)) (0 : Nat) < (↑(0 : Nat) : Int))) ∧ ((false = false) ∧ ((Int.toNat q18 < (0 : Nat)) ∧ (q19 ∧ (q34 ∧ (T0 ∧ (∃ y2 : Value, (∃ y3 : List Blk, ((Go.Rx.Found 1 (Value.tuple { toList := [rsl (6 : Nat) (0 : Nat) (0 : Nat) (0 : Nat), vi q18, vi (0 : Int)] }) ({ h := [((6 : Nat), rF (54 : Nat) (0 : Nat) (0 : Nat) (putE q12 q20 [(2 : Int), Int.ofNat (0 : Nat)])), q26, q27, q32, q36, q30, q17], next := (7 : Nat) }) (y2) (y3)) ∧ (K y2 y3)))))))))))))))))))))))))))))))))))))))))))))))))))))))))))
theorem con38FT_rE (a b c d e : Int) (el nl cl : Nat) (fl : RF) (K : Value → List Blk → Prop) : con38FT_rV a b c d e el nl cl fl K = bodyX (mk X38FT) (callN (mk X38FT) 4) (con38FT_rA a b c d e el nl cl fl) Try.f38 [five' a b c d e, rsl 0 0 nl cl, .bool true] (stOf [.row true [.i64, .i64] el nl cl fl]) (Fd 1 K) := by kernel_rfl
set_option tactic.hygienic false in
theorem con38FT_rP (a b c d e : Int) (el nl cl : Nat) (fl : RF) (K : Value → List Blk → Prop)  (hI : InC a b c d e) (hnl : nl ≤ 100000) (h1 : (ckF a b c d e nl fl).2 = 0) (h2 : ¬ sel (selE fl 0) nl = []) (h3 : ¬ sel (selE fl 2) nl = []) (h4 : List.length (sel (selE fl 2) nl) = 2) (h : K (.tuple ⟨[.slice none 0 0, .int .i64 0, .int .i64 5]⟩) []) : con38FT_rV a b c d e el nl cl fl K := by
  unfold con38FT_rV
  conv => zeta
  have G : (ckF a b c d e nl fl).2 = 0 → good a b c d e ∧ ((nl : Nat) : Int) = b ∧ ∀ i, i < nl → fok a fl i := ckF_zero
  have SL0 := sel_len (p := selE fl 0) (n := nl)
  have SL2 := sel_len (p := selE fl 2) (n := nl)
  obtain ⟨i0, hi1, hi2, hi3⟩ := sel0_mem h2
  have hi4 : (lF (sel (selE fl 0) nl) 0 0).toNat = i0 := (by rw [hi2]; rfl)
  have L0 : 0 < List.length (sel (selE fl 0) nl) := List.length_pos_iff.2 h2
  repeat' (first | (with_reducible first | exact rfl | exact trivial | refine And.intro ?_ ?_ | refine br_intro (fun hq => ?_) fun hq => ?_ | refine if_both (fun hz => ?_) fun hz => ?_) | (intro) | fail)

  all_goals first
    | omega
    | assumption
    | contradiction
    | exact fin0 (by kernel_rfl) (by kernel_rfl) (by first | exact h | simpa using h)
    | (simp only [Int.toNat_zero, hi4, hi2]; first | done | omega | rfl)
    | (refine fin1t rfl ?_ (by kernel_rfl) (by kernel_rfl) (h _ (by omega)); (intro i j hi hj; have hj' : j = 0 ∨ j = 1 := (by simp at hj; omega); simp only [putE, putF, cpyF, appF, shiftF, zF, Nat.min_self, Nat.sub_zero, Nat.add_zero, Nat.zero_add, Int.toNat_natCast, Int.toNat_zero]; rcases hj' with rfl | rfl <;> (repeat' split) <;> first | rfl | omega | (simp_all; done) | (simp_all; omega)))
    | (exfalso; simp at hq; omega)
theorem con38FT_ok : BodyOk (mk X38FT) 4 Try.f38 con38FT := by
  intro vs bs K hh hro
  clear hro
  unfold con38FT at hh
  split at hh
  · rename_i u vl
    obtain ⟨a, b, c, d, e, rfl, hI, hh0⟩ := five_inv hh
    obtain ⟨el, nl, cl, fl, btl, rfl, hnl, rfl, hh1⟩ := parseR_inv hh0
    obtain ⟨rfl, ⟨h1, h2, h3, h4⟩, hc⟩ := hh1
    exact ⟨_, _, cast (con38FT_rE a b c d e el nl cl fl  K) (con38FT_rP a b c d e el nl cl fl  K hI hnl h1 h2 h3 h4 hc)⟩
  · exact hh.elim
theorem con38FT_told : Told 38 (specOf con38FT) := told (X := X38FT) X38FT_told (by kernel_rfl) (by kernel_rfl) (by kernel_rfl) con38FT_ok
def con38GT_rV (a b c d e : Int) (el nl cl : Nat) (fl : RF) (K : Value → List Blk → Prop) : Prop := let q0 := ((0 : Nat) + nl ≤ nl); let q1 := (nl ≤ (100000 : Nat)); let q2 := eB; let q3 := (sel (selE fl (0 : Int)) nl); let q4 := (sel (selE fl (2 : Int)) nl); let q5 := (@Eq Nat ((0 : Nat)) ((0 : Nat))); let q6 := (lF q3); let q7 := (lF q4); let q8 := (@Eq Nat ((2 : Nat)) ((2 : Nat))); let q9 := TS; let q10 := (List.length q3); let q11 := (List.length q4); let q12 := (litF (List.length [IntKind.i64, IntKind.i64]) []); let q13 := (↑q10 : Int); let q14 := (@Eq Int (Prod.snd (ckF a b c d e nl fl)) ((0 : Int))); let q15 := (some (rT el nl cl fl)); let q16 := (Int.toNat (0 : Int) < List.length q3); let q17 := ((0 : Nat), rT el nl cl fl); let q18 := (lF q3 (Int.toNat (0 : Int)) (0 : Nat)); let q19 := (q5 ∧ q8); let q20 := (Int.toNat q18); let q21 := ((0 : Int) ≤ lF q3 (Int.toNat (0 : Int)) (0 : Nat)); let q22 := (q9 ∧ (@Eq Nat ((1 : Nat)) ((1 : Nat)))); let q23 := (q9 ∧ q8); let q24 := (((0 : Int) ≤ (0 : Int)) ∧ ((0 : Int) < q13)); let q25 := (some (Blk.cells [vi (2 : Int), vi (0 : Int)] (54 : Nat))); let q26 := ((5 : Nat), Blk.cells [vi (2 : Int), vi (0 : Int)] (54 : Nat)); let q27 := ((4 : Nat), Blk.cells [vi (2 : Int), vi (0 : Int)] (54 : Nat)); let q28 := (eK ∧ ((@Eq Nat (nl) (nl)) ∧ (@Eq Nat (cl) (cl)))); let q29 := (some (Blk.cells [vi a, vi b, vi c, vi d, vi e] (23 : Nat))); let q30 := ((1 : Nat), Blk.cells [vi a, vi b, vi c, vi d, vi e] (23 : Nat)); (t3 (q0 ∧ ((InC a b c d e) ∧ (q5 ∧ (q1 ∧ (q28 ∧ (q2 ∧ ((q14 ∧ (¬sel (selE fl (0 : Int)) nl = [])) ∧ (∀ y0 : Nat, let q35 := (some (Blk.row false [IntKind.i64] (3 : Nat) q10 y0 q6)); let q36 := ((2 : Nat), Blk.row false [IntKind.i64] (3 : Nat) q10 y0 q6); ((List.length q3 ≤ y0) → (t3 (q0 ∧ ((InC a b c d e) ∧ (q5 ∧ (q1 ∧ (q28 ∧ (q2 ∧ ((q14 ∧ (¬sel (selE fl (2 : Int)) nl = [])) ∧ (∀ y1 : Nat, let q31 := (some (Blk.row false [IntKind.i64] (3 : Nat) q11 y1 q7)); let q32 := ((3 : Nat), Blk.row false [IntKind.i64] (3 : Nat) q11 y1 q7); let q33 := (∃ y2 : Value, (∃ y3 : List Blk, ((Go.Rx.Found 1 (Value.tuple { toList := [vn, vi (0 : Int), vi (5 : Int)] }) ({ h := [q32, q36, q30, q17], next := (4 : Nat) }) (y2) (y3)) ∧ (K y2 y3)))); let q34 := ((@Eq (Option Blk) q25 q25) ∧ ((@Eq (Option Blk) q31 q31) ∧ ((@Eq (Option Blk) q35 q35) ∧ ((@Eq (Option Blk) q29 q29) ∧ ((@Eq (Option Blk) q15 q15) ∧ (True)))))); ((List.length q4 ≤ y1) → (q9 ∧ (T0 ∧ (if (@Eq Int (q13) ((0 : Int))) then q33 else (q9 ∧ (T0 ∧ (if (@Eq Int ((↑q11 : Int)) ((2 : Int))) then q33 else (t9 (q22 ∧ (q24 ∧ (T0 ∧ (q16 ∧ (t4 (q22 ∧ (q24 ∧ (T0 ∧ (q16 ∧ (T0 ∧ (q9 ∧ (t4 (q9 ∧ (q9 ∧ (t4 (q0 ∧ (q1 ∧ (T0 ∧ (q5 ∧ (Go.Rx.br (decide ((0 : Nat) < nl)) (∀ y2 : Nat, let q37 := (y2 - (1 : Nat) + (1 : Nat)); ((nl ≤ y2) → (T0 ∧ (q23 ∧ ((q21 ∧ (lF q3 (Int.toNat (0 : Int)) (0 : Nat) < (↑nl : Int))) ∧ ((false = false) ∧ ((Int.toNat q18 < nl) ∧ (q19 ∧ (q34 ∧ (T0 ∧ (∃ y3 : Value, (∃ y4 : List Blk, ((Go.Rx.Found 1 (Value.tuple { toList := [rsl (7 : Nat) (0 : Nat) nl q37, vi q18, vi (0 : Int)] }) ({ h := [((7 : Nat), rF (54 : Nat) nl q37 (putE (appF (fun x x_1 ↦ (0 : Int)) (0 : Nat) fl (0 : Nat)) q20 [(2 : Int), Int.ofNat (0 : Nat)])), ((6 : Nat), rF (54 : Nat) (0 : Nat) (0 : Nat) q12), q26, q27, q32, q36, q30, q17], next := (8 : Nat) }) (y3) (y4)) ∧ (K y3 y4)))))))))))))) (T0 ∧ (q23 ∧ ((q21 ∧ (lF q3 (Int.toNat (0 : Int)) (0 : Nat) < (↑(0 : Nat) : Int))) ∧ ((false = false) ∧ ((Int.toNat q18 < (0 : Nat)) ∧ (q19 ∧ (q34 ∧ (T0 ∧ (∃ y2 : Value, (∃ y3 : List Blk, ((Go.Rx.Found 1 (Value.tuple { toList := [rsl (6 : Nat) (0 : Nat) (0 : Nat) (0 : Nat), vi q18, vi (0 : Int)] }) ({ h := [((6 : Nat), rF (54 : Nat) (0 : Nat) (0 : Nat) (putE q12 q20 [(2 : Int), Int.ofNat (0 : Nat)])), q26, q27, q32, q36, q30, q17], next := (7 : Nat) }) (y2) (y3)) ∧ (K y2 y3)))))))))))))))))))))))))))))))))))))))))))))))))))))))))))
theorem con38GT_rE (a b c d e : Int) (el nl cl : Nat) (fl : RF) (K : Value → List Blk → Prop) : con38GT_rV a b c d e el nl cl fl K = bodyX (mk X38GT) (callN (mk X38GT) 4) (con38GT_rA a b c d e el nl cl fl) Try.f38 [five' a b c d e, rsl 0 0 nl cl, .bool true] (stOf [.row true [.i64, .i64] el nl cl fl]) (Fd 1 K) := by kernel_rfl
set_option tactic.hygienic false in
theorem con38GT_rP (a b c d e : Int) (el nl cl : Nat) (fl : RF) (K : Value → List Blk → Prop)  (hI : InC a b c d e) (hnl : nl ≤ 100000) (h1 : (ckF a b c d e nl fl).2 = 0) (h2 : ¬ sel (selE fl 0) nl = []) (h3 : ¬ sel (selE fl 2) nl = []) (h4 : ¬ List.length (sel (selE fl 2) nl) = 2) (h : ∀ cp, nl ≤ cp → K (.tuple ⟨[rsl 1 0 nl cp, .int .i64 (lF (sel (selE fl 0) nl) 0 0), .int .i64 0]⟩) [.row false [.i64, .i64] 54 nl cp (putE fl (lF (sel (selE fl 0) nl) 0 0).toNat [2, 0])]) : con38GT_rV a b c d e el nl cl fl K := by
  unfold con38GT_rV
  conv => zeta
  have G : (ckF a b c d e nl fl).2 = 0 → good a b c d e ∧ ((nl : Nat) : Int) = b ∧ ∀ i, i < nl → fok a fl i := ckF_zero
  have SL0 := sel_len (p := selE fl 0) (n := nl)
  have SL2 := sel_len (p := selE fl 2) (n := nl)
  obtain ⟨i0, hi1, hi2, hi3⟩ := sel0_mem h2
  have hi4 : (lF (sel (selE fl 0) nl) 0 0).toNat = i0 := (by rw [hi2]; rfl)
  have L0 : 0 < List.length (sel (selE fl 0) nl) := List.length_pos_iff.2 h2
  repeat' (first | (with_reducible first | exact rfl | exact trivial | refine And.intro ?_ ?_ | refine br_intro (fun hq => ?_) fun hq => ?_ | refine if_both (fun hz => ?_) fun hz => ?_) | (intro) | fail)

  all_goals first
    | omega
    | assumption
    | contradiction
    | exact fin0 (by kernel_rfl) (by kernel_rfl) (by first | exact h | simpa using h)
    | (simp only [Int.toNat_zero, hi4, hi2]; first | done | omega | rfl)
    | (refine fin1t rfl ?_ (by kernel_rfl) (by kernel_rfl) (h _ (by omega)); (intro i j hi hj; have hj' : j = 0 ∨ j = 1 := (by simp at hj; omega); simp only [putE, putF, cpyF, appF, shiftF, zF, Nat.min_self, Nat.sub_zero, Nat.add_zero, Nat.zero_add, Int.toNat_natCast, Int.toNat_zero]; rcases hj' with rfl | rfl <;> (repeat' split) <;> first | rfl | omega | (simp_all; done) | (simp_all; omega)))
    | (exfalso; simp at hq; omega)
theorem con38GT_ok : BodyOk (mk X38GT) 4 Try.f38 con38GT := by
  intro vs bs K hh hro
  clear hro
  unfold con38GT at hh
  split at hh
  · rename_i u vl
    obtain ⟨a, b, c, d, e, rfl, hI, hh0⟩ := five_inv hh
    obtain ⟨el, nl, cl, fl, btl, rfl, hnl, rfl, hh1⟩ := parseR_inv hh0
    obtain ⟨rfl, ⟨h1, h2, h3, h4⟩, hc⟩ := hh1
    exact ⟨_, _, cast (con38GT_rE a b c d e el nl cl fl  K) (con38GT_rP a b c d e el nl cl fl  K hI hnl h1 h2 h3 h4 hc)⟩
  · exact hh.elim
theorem con38GT_told : Told 38 (specOf con38GT) := told (X := X38GT) X38GT_told (by kernel_rfl) (by kernel_rfl) (by kernel_rfl) con38GT_ok
def con38HT_rV (a b c d e : Int) (el nl cl : Nat) (fl : RF) (K : Value → List Blk → Prop) : Prop := let q0 := ((0 : Nat) + nl ≤ nl); let q1 := (nl ≤ (100000 : Nat)); let q2 := eB; let q3 := (sel (selE fl (0 : Int)) nl); let q4 := (@Eq Nat ((0 : Nat)) ((0 : Nat))); let q5 := (lF q3); let q6 := (@Eq Nat ((2 : Nat)) ((2 : Nat))); let q7 := TS; let q8 := (List.length q3); let q9 := (litF (List.length [IntKind.i64, IntKind.i64]) []); let q10 := (↑q8 : Int); let q11 := (@Eq Int (Prod.snd (ckF a b c d e nl fl)) ((0 : Int))); let q12 := (some (rT el nl cl fl)); let q13 := (Int.toNat (0 : Int) < List.length q3); let q14 := ((0 : Nat), rT el nl cl fl); let q15 := (lF q3 (Int.toNat (0 : Int)) (0 : Nat)); let q16 := (q4 ∧ q6); let q17 := (Int.toNat q15); let q18 := ((0 : Int) ≤ lF q3 (Int.toNat (0 : Int)) (0 : Nat)); let q19 := (q7 ∧ (@Eq Nat ((1 : Nat)) ((1 : Nat)))); let q20 := (q7 ∧ q6); let q21 := (((0 : Int) ≤ (0 : Int)) ∧ ((0 : Int) < q10)); let q22 := (some (Blk.cells [vi (2 : Int), vi (0 : Int)] (54 : Nat))); let q23 := ((4 : Nat), Blk.cells [vi (2 : Int), vi (0 : Int)] (54 : Nat)); let q24 := ((3 : Nat), Blk.cells [vi (2 : Int), vi (0 : Int)] (54 : Nat)); let q25 := (eK ∧ ((@Eq Nat (nl) (nl)) ∧ (@Eq Nat (cl) (cl)))); let q26 := (some (Blk.cells [vi a, vi b, vi c, vi d, vi e] (23 : Nat))); let q27 := ((1 : Nat), Blk.cells [vi a, vi b, vi c, vi d, vi e] (23 : Nat)); (t3 (q0 ∧ ((InC a b c d e) ∧ (q4 ∧ (q1 ∧ (q25 ∧ (q2 ∧ ((q11 ∧ (¬sel (selE fl (0 : Int)) nl = [])) ∧ (∀ y0 : Nat, let q28 := (some (Blk.row false [IntKind.i64] (3 : Nat) q8 y0 q5)); let q29 := ((2 : Nat), Blk.row false [IntKind.i64] (3 : Nat) q8 y0 q5); let q30 := ((@Eq (Option Blk) q22 q22) ∧ ((@Eq (Option Blk) q28 q28) ∧ ((@Eq (Option Blk) q26 q26) ∧ ((@Eq (Option Blk) q12 q12) ∧ (True))))); ((List.length q3 ≤ y0) → (t3 (q0 ∧ ((InC a b c d e) ∧ (q4 ∧ (q1 ∧ (q25 ∧ (q2 ∧ ((q11 ∧ (sel (selE fl (2 : Int)) nl = [])) ∧ (q7 ∧ (T0 ∧ (if (@Eq Int (q10) ((0 : Int))) then (∃ y1 : Value, (∃ y2 : List Blk, ((Go.Rx.Found 1 (Value.tuple { toList := [vn, vi (0 : Int), vi (5 : Int)] }) ({ h := [q29, q27, q14], next := (3 : Nat) }) (y1) (y2)) ∧ (K y1 y2)))) else (q7 ∧ (t9 (T0 ∧ (q19 ∧ (q21 ∧ (T0 ∧ (q13 ∧ (t4 (q19 ∧ (q21 ∧ (T0 ∧ (q13 ∧ (T0 ∧ (q7 ∧ (t4 (q7 ∧ (q7 ∧ (t4 (q0 ∧ (q1 ∧ (T0 ∧ (q4 ∧ (Go.Rx.br (decide ((0 : Nat) < nl)) (∀ y1 : Nat, let q31 := (y1 - (1 : Nat) + (1 : Nat)); ((nl ≤ y1) → (T0 ∧ (q20 ∧ ((q18 ∧ (lF q3 (Int.toNat (0 : Int)) (0 : Nat) < (↑nl : Int))) ∧ ((false = false) ∧ ((Int.toNat q15 < nl) ∧ (q16 ∧ (q30 ∧ (T0 ∧ (∃ y2 : Value, (∃ y3 : List Blk, ((Go.Rx.Found 1 (Value.tuple { toList := [rsl (6 : Nat) (0 : Nat) nl q31, vi q15, vi (0 : Int)] }) ({ h := [((6 : Nat), rF (54 : Nat) nl q31 (putE (appF (fun x x_1 ↦ (0 : Int)) (0 : Nat) fl (0 : Nat)) q17 [(2 : Int), Int.ofNat (0 : Nat)])), ((5 : Nat), rF (54 : Nat) (0 : Nat) (0 : Nat) q9), q23, q24, q29, q27, q14], next := (7 : Nat) }) (y2) (y3)) ∧ (K y2 y3)))))))))))))) (T0 ∧ (q20 ∧ ((q18 ∧ (lF q3 (Int.toNat (0 : Int)) (0 : Nat) < (↑(0 : Nat) : Int))) ∧ ((false = false) ∧ ((Int.toNat q15 < (0 : Nat)) ∧ (q16 ∧ (q30 ∧ (T0 ∧ (∃ y1 : Value, (∃ y2 : List Blk, ((Go.Rx.Found 1 (Value.tuple { toList := [rsl (5 : Nat) (0 : Nat) (0 : Nat) (0 : Nat), vi q15, vi (0 : Int)] }) ({ h := [((5 : Nat), rF (54 : Nat) (0 : Nat) (0 : Nat) (putE q9 q17 [(2 : Int), Int.ofNat (0 : Nat)])), q23, q24, q29, q27, q14], next := (6 : Nat) }) (y1) (y2)) ∧ (K y1 y2))))))))))))))))))))))))))))))))))))))))))))))))))))))))
theorem con38HT_rE (a b c d e : Int) (el nl cl : Nat) (fl : RF) (K : Value → List Blk → Prop) : con38HT_rV a b c d e el nl cl fl K = bodyX (mk X38HT) (callN (mk X38HT) 4) (con38HT_rA a b c d e el nl cl fl) Try.f38 [five' a b c d e, rsl 0 0 nl cl, .bool true] (stOf [.row true [.i64, .i64] el nl cl fl]) (Fd 1 K) := by kernel_rfl
set_option tactic.hygienic false in
theorem con38HT_rP (a b c d e : Int) (el nl cl : Nat) (fl : RF) (K : Value → List Blk → Prop)  (hI : InC a b c d e) (hnl : nl ≤ 100000) (h1 : (ckF a b c d e nl fl).2 = 0) (h2 : ¬ sel (selE fl 0) nl = []) (h3 : sel (selE fl 2) nl = []) (h : ∀ cp, nl ≤ cp → K (.tuple ⟨[rsl 1 0 nl cp, .int .i64 (lF (sel (selE fl 0) nl) 0 0), .int .i64 0]⟩) [.row false [.i64, .i64] 54 nl cp (putE fl (lF (sel (selE fl 0) nl) 0 0).toNat [2, 0])]) : con38HT_rV a b c d e el nl cl fl K := by
  unfold con38HT_rV
  conv => zeta
  have G : (ckF a b c d e nl fl).2 = 0 → good a b c d e ∧ ((nl : Nat) : Int) = b ∧ ∀ i, i < nl → fok a fl i := ckF_zero
  have SL0 := sel_len (p := selE fl 0) (n := nl)
  have SL2 := sel_len (p := selE fl 2) (n := nl)
  obtain ⟨i0, hi1, hi2, hi3⟩ := sel0_mem h2
  have hi4 : (lF (sel (selE fl 0) nl) 0 0).toNat = i0 := (by rw [hi2]; rfl)
  have L0 : 0 < List.length (sel (selE fl 0) nl) := List.length_pos_iff.2 h2
  repeat' (first | (with_reducible first | exact rfl | exact trivial | refine And.intro ?_ ?_ | refine br_intro (fun hq => ?_) fun hq => ?_ | refine if_both (fun hz => ?_) fun hz => ?_) | (intro) | fail)

  all_goals first
    | omega
    | assumption
    | contradiction
    | exact fin0 (by kernel_rfl) (by kernel_rfl) (by first | exact h | simpa using h)
    | (simp only [Int.toNat_zero, hi4, hi2]; first | done | omega | rfl)
    | (refine fin1t rfl ?_ (by kernel_rfl) (by kernel_rfl) (h _ (by omega)); (intro i j hi hj; have hj' : j = 0 ∨ j = 1 := (by simp at hj; omega); simp only [putE, putF, cpyF, appF, shiftF, zF, Nat.min_self, Nat.sub_zero, Nat.add_zero, Nat.zero_add, Int.toNat_natCast, Int.toNat_zero]; rcases hj' with rfl | rfl <;> (repeat' split) <;> first | rfl | omega | (simp_all; done) | (simp_all; omega)))
    | (exfalso; simp at hq; omega)
theorem con38HT_ok : BodyOk (mk X38HT) 4 Try.f38 con38HT := by
  intro vs bs K hh hro
  clear hro
  unfold con38HT at hh
  split at hh
  · rename_i u vl
    obtain ⟨a, b, c, d, e, rfl, hI, hh0⟩ := five_inv hh
    obtain ⟨el, nl, cl, fl, btl, rfl, hnl, rfl, hh1⟩ := parseR_inv hh0
    obtain ⟨rfl, ⟨h1, h2, h3⟩, hc⟩ := hh1
    exact ⟨_, _, cast (con38HT_rE a b c d e el nl cl fl  K) (con38HT_rP a b c d e el nl cl fl  K hI hnl h1 h2 h3 hc)⟩
  · exact hh.elim
theorem con38HT_told : Told 38 (specOf con38HT) := told (X := X38HT) X38HT_told (by kernel_rfl) (by kernel_rfl) (by kernel_rfl) con38HT_ok
end Go.Proofs.Ytkflmglpniebfaa.Fr
namespace Go.Proofs.Ytkflmglpniebfaa.Fr
set_option maxRecDepth 100000
set_option maxHeartbeats 4000000
open Go.Rx
open Go.RowKit (Below)
set_option linter.unusedVariables false
/-- A result with two new rows. -/
theorem fin2x {m b1 b2 n1 c1 n2 c2 : Nat} {ks1 ks2 : List IntKind} {e1 e2 : TypeId} {f1 f1' f2 f2' : RF} {x y : Int} {s : Rx.St} {K : Value → List Blk → Prop} (h1 : Rx.look s.h b1 = some (.row false ks1 e1 n1 c1 f1')) (h2 : Rx.look s.h b2 = some (.row false ks2 e2 n2 c2 f2')) (hb : Nat.beq b2 b1 = false)
    (hf1 : ∀ i j, i < n1 → j < ks1.length → f1 i j = f1' i j) (hf2 : ∀ i j, i < n2 → j < ks2.length → f2 i j = f2' i j)
    (h : K (.tuple ⟨[.int .i64 x, rsl m 0 n1 c1, rsl (m + 1) 0 n2 c2, .int .i64 y]⟩) [.row false ks1 e1 n1 c1 f1, .row false ks2 e2 n2 c2 f2]) : ∃ v1 news, Rx.Found m (.tuple ⟨[.int .i64 x, rsl b1 0 n1 c1, rsl b2 0 n2 c2, .int .i64 y]⟩) s v1 news ∧ K v1 news := by
  have hm : Nat.beq (m + 1) m = false := by
    cases h : Nat.beq (m + 1) m with
    | false => rfl
    | true => have := Nat.eq_of_beq_eq_true h; omega
  have hm' : Nat.beq m (m + 1) = false := by
    cases h : Nat.beq m (m + 1) with
    | false => rfl
    | true => have := Nat.eq_of_beq_eq_true h; omega
  have l1 : Rx.look [(m, b1), (m + 1, b2)] m = some b1 := by
    show (bif Nat.beq m m then some b1 else _) = some b1
    rw [Nat.beq_refl]; rfl
  have l2 : Rx.look [(m, b1), (m + 1, b2)] (m + 1) = some b2 := by
    show (bif Nat.beq m (m + 1) then some b1 else (bif Nat.beq (m + 1) (m + 1) then some b2 else none)) = some b2
    rw [hm', Nat.beq_refl]; rfl
  refine ⟨_, _, ⟨[(m, b1), (m + 1, b2)], ⟨?_, rfl, ?_, rfl⟩, ?_, ?_⟩, h⟩
  · simp only [injB, List.all_cons, List.all_nil, hm, hb, Bool.and_true, Bool.not_false]
  · simp
  · refine ⟨⟨rfl, rfl⟩, ⟨⟨?_, rfl, rfl⟩, rfl, rfl⟩, ⟨⟨?_, rfl, rfl⟩, rfl, rfl⟩, ⟨rfl, rfl⟩, trivial⟩
    · exact l1
    · exact l2
  · refine ⟨?_, ?_, trivial⟩
    · rw [l1]
      show kO (Rx.look s.h b1) _
      rw [h1]
      exact ⟨rfl, rfl, rfl, rfl, rfl, rfl, hf1⟩
    · rw [l2]
      show kO (Rx.look s.h b2) _
      rw [h2]
      exact ⟨rfl, rfl, rfl, rfl, rfl, rfl, hf2⟩
/-- The last car may take the words. -/
def useT (a : Int) (f : RF) (m : Nat) (g : RF) (s y : Int) : Prop := 0 < m ∧ f (lastC m g).toNat 0 = 1 ∧ ¬ lastC m g = s ∧ y ≤ a - f (lastC m g).toNat 1
theorem lastT_use {a b c d e : Int} {n m : Nat} {f g : RF} {s y : Int} (h : askT a b c d e n f m g s y = 0) (h2 : useT a f m g s y) : lastT a b c d e n f m g s y = (lastC m g, 0) := by
  unfold lastT
  rw [if_pos h]
  exact if_pos h2
theorem lastT_not {a b c d e : Int} {n m : Nat} {f g : RF} {s y : Int} (h : askT a b c d e n f m g s y = 0) (h2 : ¬ useT a f m g s y) : lastT a b c d e n f m g s y = (0, 5) := by
  unfold lastT
  rw [if_pos h]
  exact if_neg h2
/-- A car that was free has these words alone. -/
structure Placed (a b c d e : Int) (n : Nat) (f : RF) (st : Int) (i : Nat) (y : Int) (g : RF) : Prop where
  lt : i < n
  at0 : f i 0 = 0
  at1 : f i 1 = 0
  first : lF (sel (selE f 0) n) 0 0 = (i : Int)
  now0 : g i 0 = st
  now1 : g i 1 = y
  rest : ∀ j, j ≠ i → ∀ q, g j q = f j q
  ok : (ckF a b c d e n g).2 = 0
  free : sel (selE f 0) n = (i : Int) :: sel (selE g 0) n
theorem placed {a b c d e : Int} {n : Nat} {f : RF} {st : Int} {i : Nat} {y : Int} {g1 g : RF} (hst : st = 1 ∨ st = 2) (T : Taken a b c d e n f st i g1) (B : Bumped a b c d e n g1 (i : Int) y g) : Placed a b c d e n f st i y g := by
  have B0 : g i 0 = g1 i 0 := B.now0
  have B1 : g i 1 = g1 i 1 + y := B.now1
  have hr : ∀ j q, ¬ (j = i ∧ q = 1) → g j q = g1 j q := B.rest
  refine ⟨T.lt, T.at0, T.at1, T.first, by rw [B0, T.now0], by rw [B1, T.now1]; omega, fun j hj q => by rw [hr j q (fun e => hj e.1), T.rest j hj q], (bumpy B.ask).1, ?_⟩
  rw [T.free]
  congr 1
  refine sel_congr fun j hj => ?_
  unfold selE
  rw [hr j 0 (by simp)]
/-- A row with one more number behind. -/
def App (n : Nat) (f : RF) (x : Int) (h : RF) : Prop := (∀ k, k < n → h k 0 = f k 0) ∧ h n 0 = x
theorem placed_same {a b c d e : Int} {n : Nat} {f : RF} {st : Int} {i i' : Nat} {y : Int} {g g' : RF} (h : Placed a b c d e n f st i y g) (h' : Placed a b c d e n f st i' y g') : i = i' ∧ ∀ j, g j 0 = g' j 0 ∧ g j 1 = g' j 1 := by
  have e : i = i' := by have := h.first; rw [h'.first] at this; omega
  subst e
  refine ⟨rfl, fun j => ?_⟩
  by_cases hj : j = i
  · subst hj
    exact ⟨by rw [h.now0, h'.now0], by rw [h.now1, h'.now1]⟩
  · exact ⟨by rw [h.rest j hj, h'.rest j hj], by rw [h.rest j hj, h'.rest j hj]⟩
theorem bumped_eq {a b c d e : Int} {n : Nat} {f : RF} {x y : Int} {g g' : RF} (h : Bumped a b c d e n f x y g) (h' : Bumped a b c d e n f x y g') (j : Nat) : g j 0 = g' j 0 ∧ g j 1 = g' j 1 := by
  refine ⟨by rw [h.rest j 0 (by simp), h'.rest j 0 (by simp)], ?_⟩
  by_cases hj : j = x.toNat
  · subst hj
    rw [h.now1, h'.now1]
  · rw [h.rest j 1 (by simp [hj]), h'.rest j 1 (by simp [hj])]
def con40Ga : Con := fun vs bs K => match vs with
  | [u, v, .int .i64 x, .int .i64 y] => five u fun a b c d e => parseR [.i64, .i64] 0 v bs fun n f j bs => bs = [] ∧ (askF a b c d e n f x = 0 ∧ 1 ≤ y ∧ ¬ f x.toNat 0 = 0 ∧ y ≤ a - f x.toNat 1) ∧ ∀ g, Bumped a b c d e n f x y g → ∀ cp, n ≤ cp → K (.tuple ⟨[rsl j 0 n cp, .int .i64 (1 + c + x * a + f x.toNat 1), .int .i64 0]⟩) [.row false [.i64, .i64] 54 n cp g]
  | _ => False
theorem con40Ga_told : Told 40 (specOf con40Ga) := con40G_told.mono fun vs bs K x => by
  unfold con40Ga at x
  unfold con40G
  split at x
  · refine five_mono (fun a b c d e => parseR_mono fun n f j bs y => ?_) x
    obtain ⟨y1, y2, y4⟩ := y
    exact ⟨y1, y2, fun cp hcp => y4 _ (bumped y2.1 y2.2.1 y2.2.2.1 y2.2.2.2) cp hcp⟩
  · exact x.elim
def con38GFa : Con := fun vs bs K => match vs with
  | [u, v, .bool false] => five u fun a b c d e => parseR [.i64, .i64] 0 v bs fun n f j bs => bs = [] ∧ ((ckF a b c d e n f).2 = 0 ∧ ¬ sel (selE f 0) n = []) ∧ ∀ (i : Nat) (g : RF), Taken a b c d e n f 1 i g → ∀ cp, n ≤ cp → K (.tuple ⟨[rsl j 0 n cp, .int .i64 (i : Int), .int .i64 0]⟩) [.row false [.i64, .i64] 54 n cp g]
  | _ => False
theorem con38GFa_told : Told 38 (specOf con38GFa) := con38GF_told.mono fun vs bs K x => by
  unfold con38GFa at x
  unfold con38GF
  split at x
  · refine five_mono (fun a b c d e => parseR_mono fun n f j bs y => ?_) x
    obtain ⟨y1, y2, y4⟩ := y
    refine ⟨y1, y2, fun cp hcp => ?_⟩
    obtain ⟨i, T⟩ := taken y2.1 (by first | exact y2.2 | exact y2.2.1) (st := 1) (.inl rfl)
    have := y4 i _ T cp hcp
    rw [← T.first] at this
    exact this
  · exact x.elim
def con38GTa : Con := fun vs bs K => match vs with
  | [u, v, .bool true] => five u fun a b c d e => parseR [.i64, .i64] 0 v bs fun n f j bs => bs = [] ∧ ((ckF a b c d e n f).2 = 0 ∧ ¬ sel (selE f 0) n = [] ∧ ¬ sel (selE f 2) n = [] ∧ ¬ List.length (sel (selE f 2) n) = 2) ∧ ∀ (i : Nat) (g : RF), Taken a b c d e n f 2 i g → ∀ cp, n ≤ cp → K (.tuple ⟨[rsl j 0 n cp, .int .i64 (i : Int), .int .i64 0]⟩) [.row false [.i64, .i64] 54 n cp g]
  | _ => False
theorem con38GTa_told : Told 38 (specOf con38GTa) := con38GT_told.mono fun vs bs K x => by
  unfold con38GTa at x
  unfold con38GT
  split at x
  · refine five_mono (fun a b c d e => parseR_mono fun n f j bs y => ?_) x
    obtain ⟨y1, y2, y4⟩ := y
    refine ⟨y1, y2, fun cp hcp => ?_⟩
    obtain ⟨i, T⟩ := taken y2.1 (by first | exact y2.2 | exact y2.2.1) (st := 2) (.inr ⟨rfl, y2.2.2.2⟩)
    have := y4 i _ T cp hcp
    rw [← T.first] at this
    exact this
  · exact x.elim
def con38HTa : Con := fun vs bs K => match vs with
  | [u, v, .bool true] => five u fun a b c d e => parseR [.i64, .i64] 0 v bs fun n f j bs => bs = [] ∧ ((ckF a b c d e n f).2 = 0 ∧ ¬ sel (selE f 0) n = [] ∧ sel (selE f 2) n = []) ∧ ∀ (i : Nat) (g : RF), Taken a b c d e n f 2 i g → ∀ cp, n ≤ cp → K (.tuple ⟨[rsl j 0 n cp, .int .i64 (i : Int), .int .i64 0]⟩) [.row false [.i64, .i64] 54 n cp g]
  | _ => False
theorem con38HTa_told : Told 38 (specOf con38HTa) := con38HT_told.mono fun vs bs K x => by
  unfold con38HTa at x
  unfold con38HT
  split at x
  · refine five_mono (fun a b c d e => parseR_mono fun n f j bs y => ?_) x
    obtain ⟨y1, y2, y4⟩ := y
    refine ⟨y1, y2, fun cp hcp => ?_⟩
    obtain ⟨i, T⟩ := taken y2.1 (by first | exact y2.2 | exact y2.2.1) (st := 2) (.inr ⟨rfl, by rw [y2.2.2]; simp⟩)
    have := y4 i _ T cp hcp
    rw [← T.first] at this
    exact this
  · exact x.elim
def con54U : Con := fun vs bs K => match vs with
  | [u, vl, vt, .int .i64 s, .int .i64 y] => five u fun a b c d e => parse [.i64, .i64] 0 vl bs fun nl fl j0 bs0 => parse [.i64] j0 vt bs0 fun nt ft j1 bs1 => bs1 = [] ∧ ((askT a b c d e nl fl nt ft s y = 0) ∧ (useT a fl nt ft s y)) ∧ (K (.tuple ⟨[.int .i64 (lastC nt ft), .int .i64 (0)]⟩) [])
  | _ => False
theorem con54U_told : Told 54 (specOf con54U) := con54_told.mono fun vs bs K x => by
  unfold con54U at x
  unfold con54
  split at x
  · exact five_mono (fun a b c d e => parse_mono fun n f j bs => parse_mono fun m g j bs y => ⟨y.1, trivial, (by rw [lastT_use y.2.1.1 y.2.1.2]; exact y.2.2)⟩) x
  · exact x.elim
def con54W : Con := fun vs bs K => match vs with
  | [u, vl, vt, .int .i64 s, .int .i64 y] => five u fun a b c d e => parse [.i64, .i64] 0 vl bs fun nl fl j0 bs0 => parse [.i64] j0 vt bs0 fun nt ft j1 bs1 => bs1 = [] ∧ ((askT a b c d e nl fl nt ft s y = 0) ∧ (¬ useT a fl nt ft s y)) ∧ (K (.tuple ⟨[.int .i64 (0), .int .i64 (5)]⟩) [])
  | _ => False
theorem con54W_told : Told 54 (specOf con54W) := con54_told.mono fun vs bs K x => by
  unfold con54W at x
  unfold con54
  split at x
  · exact five_mono (fun a b c d e => parse_mono fun n f j bs => parse_mono fun m g j bs y => ⟨y.1, trivial, (by rw [lastT_not y.2.1.1 y.2.1.2]; exact y.2.2)⟩) x
  · exact x.elim
end Go.Proofs.Ytkflmglpniebfaa.Fr
namespace Go.Proofs.Ytkflmglpniebfaa.Fr
set_option maxRecDepth 100000
set_option maxHeartbeats 4000000
open Go.Rx
open Go.RowKit (Below)
set_option linter.unusedVariables false
@[reducible] def X55B : List (Nat × Rx.Spec) := [(49, specOf con49), (92, spF), (93, spF)]
theorem X55B_told : ∀ p ∈ X55B, Told p.1 p.2 := by
  intro p hp
  simp only [List.mem_cons, List.not_mem_nil, or_false] at hp
  rcases hp with rfl | rfl | rfl
  · exact con49_told
  · exact (toldF (f := 92) (fn := Try.f92) (by kernel_rfl) (by kernel_rfl) (by kernel_rfl))
  · exact (toldF (f := 93) (fn := Try.f93) (by kernel_rfl) (by kernel_rfl) (by kernel_rfl))
@[reducible] def X55U : List (Nat × Rx.Spec) := [(49, specOf con49G), (31, specOf con31G), (92, specOf con92a), (93, specOf con93a), (39, specOf con39Ga), (37, spF)]
theorem X55U_told : ∀ p ∈ X55U, Told p.1 p.2 := by
  intro p hp
  simp only [List.mem_cons, List.not_mem_nil, or_false] at hp
  rcases hp with rfl | rfl | rfl | rfl | rfl | rfl
  · exact con49G_told
  · exact con31G_told
  · exact con92a_told
  · exact con93a_told
  · exact con39Ga_told
  · exact (toldF (f := 37) (fn := Try.f37) (by kernel_rfl) (by kernel_rfl) (by kernel_rfl))
@[reducible] def X55F : List (Nat × Rx.Spec) := [(49, specOf con49G), (31, specOf con31G), (92, specOf con92a), (93, specOf con93a), (37, specOf con37EF), (39, spF)]
theorem X55F_told : ∀ p ∈ X55F, Told p.1 p.2 := by
  intro p hp
  simp only [List.mem_cons, List.not_mem_nil, or_false] at hp
  rcases hp with rfl | rfl | rfl | rfl | rfl | rfl
  · exact con49G_told
  · exact con31G_told
  · exact con92a_told
  · exact con93a_told
  · exact con37EF_told
  · exact (toldF (f := 39) (fn := Try.f39) (by kernel_rfl) (by kernel_rfl) (by kernel_rfl))
@[reducible] def X55TN : List (Nat × Rx.Spec) := [(49, specOf con49G), (31, spF), (92, specOf con92a), (93, specOf con93N), (37, specOf con37GFa), (39, specOf con39Ga)]
theorem X55TN_told : ∀ p ∈ X55TN, Told p.1 p.2 := by
  intro p hp
  simp only [List.mem_cons, List.not_mem_nil, or_false] at hp
  rcases hp with rfl | rfl | rfl | rfl | rfl | rfl
  · exact con49G_told
  · exact (toldF (f := 31) (fn := Try.f31) (by kernel_rfl) (by kernel_rfl) (by kernel_rfl))
  · exact con92a_told
  · exact con93N_told
  · exact con37GFa_told
  · exact con39Ga_told
@[reducible] def X55TE : List (Nat × Rx.Spec) := [(49, specOf con49G), (31, spF), (92, specOf con92a), (93, specOf con93E), (37, specOf con37GFa), (39, specOf con39Ga)]
theorem X55TE_told : ∀ p ∈ X55TE, Told p.1 p.2 := by
  intro p hp
  simp only [List.mem_cons, List.not_mem_nil, or_false] at hp
  rcases hp with rfl | rfl | rfl | rfl | rfl | rfl
  · exact con49G_told
  · exact (toldF (f := 31) (fn := Try.f31) (by kernel_rfl) (by kernel_rfl) (by kernel_rfl))
  · exact con92a_told
  · exact con93E_told
  · exact con37GFa_told
  · exact con39Ga_told
@[reducible] def X55TG : List (Nat × Rx.Spec) := [(49, specOf con49G), (31, specOf con31G), (92, specOf con92a), (93, specOf con93G), (37, specOf con37GFa), (39, specOf con39Ga)]
theorem X55TG_told : ∀ p ∈ X55TG, Told p.1 p.2 := by
  intro p hp
  simp only [List.mem_cons, List.not_mem_nil, or_false] at hp
  rcases hp with rfl | rfl | rfl | rfl | rfl | rfl
  · exact con49G_told
  · exact con31G_told
  · exact con92a_told
  · exact con93G_told
  · exact con37GFa_told
  · exact con39Ga_told
@[reducible] def X56B : List (Nat × Rx.Spec) := [(85, specOf con85), (54, spF), (38, spF), (40, spF)]
theorem X56B_told : ∀ p ∈ X56B, Told p.1 p.2 := by
  intro p hp
  simp only [List.mem_cons, List.not_mem_nil, or_false] at hp
  rcases hp with rfl | rfl | rfl | rfl
  · exact con85_told
  · exact (toldF (f := 54) (fn := Try.f54) (by kernel_rfl) (by kernel_rfl) (by kernel_rfl))
  · exact (toldF (f := 38) (fn := Try.f38) (by kernel_rfl) (by kernel_rfl) (by kernel_rfl))
  · exact (toldF (f := 40) (fn := Try.f40) (by kernel_rfl) (by kernel_rfl) (by kernel_rfl))
@[reducible] def X56U : List (Nat × Rx.Spec) := [(85, specOf con85), (54, specOf con54U), (40, specOf con40Ga), (38, spF)]
theorem X56U_told : ∀ p ∈ X56U, Told p.1 p.2 := by
  intro p hp
  simp only [List.mem_cons, List.not_mem_nil, or_false] at hp
  rcases hp with rfl | rfl | rfl | rfl
  · exact con85_told
  · exact con54U_told
  · exact con40Ga_told
  · exact (toldF (f := 38) (fn := Try.f38) (by kernel_rfl) (by kernel_rfl) (by kernel_rfl))
@[reducible] def X56F : List (Nat × Rx.Spec) := [(85, specOf con85), (54, specOf con54W), (38, specOf con38EF), (40, spF)]
theorem X56F_told : ∀ p ∈ X56F, Told p.1 p.2 := by
  intro p hp
  simp only [List.mem_cons, List.not_mem_nil, or_false] at hp
  rcases hp with rfl | rfl | rfl | rfl
  · exact con85_told
  · exact con54W_told
  · exact con38EF_told
  · exact (toldF (f := 40) (fn := Try.f40) (by kernel_rfl) (by kernel_rfl) (by kernel_rfl))
@[reducible] def X56T : List (Nat × Rx.Spec) := [(85, specOf con85), (54, specOf con54W), (38, specOf con38GFa), (40, specOf con40Ga)]
theorem X56T_told : ∀ p ∈ X56T, Told p.1 p.2 := by
  intro p hp
  simp only [List.mem_cons, List.not_mem_nil, or_false] at hp
  rcases hp with rfl | rfl | rfl | rfl
  · exact con85_told
  · exact con54W_told
  · exact con38GFa_told
  · exact con40Ga_told
end Go.Proofs.Ytkflmglpniebfaa.Fr
namespace Go.Proofs.Ytkflmglpniebfaa.Fr
set_option maxRecDepth 100000
set_option maxHeartbeats 4000000
open Go.Rx
open Go.RowKit (Below)
set_option linter.unusedVariables false
def con55B : Con := fun vs bs K => match vs with
  | [u, vl, vt, .int .i64 s, .int .i64 y] => five u fun a b c d e => parse [.i64, .i64] 0 vl bs fun nl fl j0 bs0 => parse [.i64] j0 vt bs0 fun nt ft j1 bs1 => bs1 = [] ∧ ((capOk (vt)) ∧ (¬ askT a b c d e nl fl nt ft s y = 0)) ∧ (K (.tuple ⟨[.int .i64 (0), .slice none 0 0, .slice none 0 0, .int .i64 (askT a b c d e nl fl nt ft s y)]⟩) [])
  | _ => False

def con55B_nnA (a b c d e : Int) (s : Int) (y : Int) : Ann := fun _ _ _ => none
def con55B_nrA (a b c d e : Int) (et nt ct : Nat) (ft : RF) (s : Int) (y : Int) : Ann := fun _ _ _ => none
def con55B_rnA (a b c d e : Int) (el nl cl : Nat) (fl : RF) (s : Int) (y : Int) : Ann := fun _ _ _ => none
def con55B_rrA (a b c d e : Int) (el nl cl : Nat) (fl : RF) (et nt ct : Nat) (ft : RF) (s : Int) (y : Int) : Ann := fun _ _ _ => none
def con55U : Con := fun vs bs K => match vs with
  | [u, vl, vt, .int .i64 s, .int .i64 y] => five u fun a b c d e => parseR [.i64, .i64] 0 vl bs fun nl fl j0 bs0 => parseR [.i64] j0 vt bs0 fun nt ft j1 bs1 => bs1 = [] ∧ ((capOk (vt)) ∧ (askT a b c d e nl fl nt ft s y = 0) ∧ (useT a fl nt ft s y)) ∧ (∀ g, Bumped a b c d e nl fl (lastC nt ft) y g → ∀ cp, nl ≤ cp → ∀ cp2, nt ≤ cp2 → K (.tuple ⟨[.int .i64 (1 + c + lastC nt ft * a + fl (lastC nt ft).toNat 1), rsl j1 0 nl cp, rsl (j1 + 1) 0 nt cp2, .int .i64 0]⟩) [.row false [.i64, .i64] 54 nl cp g, .row false [.i64] 3 nt cp2 ft])
  | _ => False

def con55U_rrA (a b c d e : Int) (el nl cl : Nat) (fl : RF) (et nt ct : Nat) (ft : RF) (s : Int) (y : Int) : Ann := fun _ _ _ => none
def con55F : Con := fun vs bs K => match vs with
  | [u, vl, vt, .int .i64 s, .int .i64 y] => five u fun a b c d e => parseR [.i64, .i64] 0 vl bs fun nl fl j0 bs0 => parse [.i64] j0 vt bs0 fun nt ft j1 bs1 => bs1 = [] ∧ ((capOk (vt)) ∧ (askT a b c d e nl fl nt ft s y = 0) ∧ (¬ useT a fl nt ft s y) ∧ (sel (selE fl 0) nl = [])) ∧ (K (.tuple ⟨[.int .i64 (0), .slice none 0 0, .slice none 0 0, .int .i64 (5)]⟩) [])
  | _ => False

def con55F_rnA (a b c d e : Int) (el nl cl : Nat) (fl : RF) (s : Int) (y : Int) : Ann := fun _ _ _ => none
def con55F_rrA (a b c d e : Int) (el nl cl : Nat) (fl : RF) (et nt ct : Nat) (ft : RF) (s : Int) (y : Int) : Ann := fun _ _ _ => none
def con55B_nnV (a b c d e : Int) (s : Int) (y : Int) (K : Value → List Blk → Prop) : Prop := let q0 := TS; let q1 := (t2 (False)); let q2 := (Prod.snd (bck a b c d e (0 : Nat) zF (0 : Nat) zF)); let q3 := (T0 ∧ (∃ y0 : Value, (∃ y1 : List Blk, ((Go.Rx.Found 0 (Value.tuple { toList := [vi (0 : Int), vn, vn, vi (7 : Int)] }) ({ h := [((2 : Nat), Blk.cells [vi a, vi b, vi c, vi d, vi e] (23 : Nat)), ((1 : Nat), Blk.row false [IntKind.i64] (3 : Nat) (1 : Nat) (1 : Nat) (litF (List.length [IntKind.i64]) ([y] ++ []))), ((0 : Nat), Blk.cells [vi a, vi b, vi c, vi d, vi e] (23 : Nat))], next := (3 : Nat) }) (y0) (y1)) ∧ (K y0 y1))))); (t2 (q0 ∧ (t9 ((InC a b c d e) ∧ (eB ∧ ((Nat.le (0 : Nat) (0 : Nat)) ∧ (T0 ∧ (if (@Eq Int q2 ((0 : Int))) then (q0 ∧ (T0 ∧ ((q0 ∧ (@Eq Nat ((1 : Nat)) ((1 : Nat)))) ∧ ((((0 : Int) ≤ (0 : Int)) ∧ ((0 : Int) < (↑(1 : Nat) : Int))) ∧ ((Int.toNat (0 : Int) < (1 : Nat)) ∧ (T0 ∧ (if (y < (1 : Int)) then q3 else (t2 (if (a < y) then q3 else (T0 ∧ ((((-9223372036854775808 : Int) ≤ (0 : Int) + (1 : Int)) ∧ ((0 : Int) + (1 : Int) ≤ (9223372036854775807 : Int))) ∧ (t2 (if (s < (-1 : Int)) then q3 else (t2 (if (b ≤ s) then q3 else (T0 ∧ (if (@Eq Int (s) ((-1 : Int))) then (t4 q1) else (False)))))))))))))))))) else (T0 ∧ (if (@Eq Int q2 ((0 : Int))) then q1 else (∃ y0 : Value, (∃ y1 : List Blk, ((Go.Rx.Found 0 (Value.tuple { toList := [vi (0 : Int), vn, vn, vi q2] }) ({ h := [((2 : Nat), Blk.cells [vi a, vi b, vi c, vi d, vi e] (23 : Nat)), ((1 : Nat), Blk.row false [IntKind.i64] (3 : Nat) (1 : Nat) (1 : Nat) (litF (List.length [IntKind.i64]) ([y] ++ []))), ((0 : Nat), Blk.cells [vi a, vi b, vi c, vi d, vi e] (23 : Nat))], next := (3 : Nat) }) (y0) (y1)) ∧ (K y0 y1))))))))))))))
theorem con55B_nnE (a b c d e : Int) (s : Int) (y : Int) (K : Value → List Blk → Prop) : con55B_nnV a b c d e s y K = bodyX (mkB X55B) (callN (mkB X55B) 7) (con55B_nnA a b c d e s y) Try.f55 [five' a b c d e, .slice none 0 0, .slice none 0 0, .int .i64 s, .int .i64 y] (stOf []) (Fd 0 K) := by kernel_rfl
set_option tactic.hygienic false in
theorem con55B_nnP (a b c d e : Int) (s : Int) (y : Int) (K : Value → List Blk → Prop)  (hI : InC a b c d e) (hct : capOk (.slice none 0 0)) (h1 : ¬ askT a b c d e 0 zF 0 zF s y = 0) (h : K (.tuple ⟨[.int .i64 (0), .slice none 0 0, .slice none 0 0, .int .i64 (askT a b c d e 0 zF 0 zF s y)]⟩) []) : con55B_nnV a b c d e s y K := by
  unfold con55B_nnV
  conv => zeta
  unfold askT at h1 h
  have G : (bck a b c d e 0 zF 0 zF).2 = 0 → good a b c d e ∧ ((0 : Nat) : Int) = b ∧ ∀ i, i < 0 → fok a zF i := fun q => ckF_zero (bck_ck q)
  repeat' (first | (with_reducible first | exact rfl | exact trivial | refine And.intro ?_ ?_ | refine br_intro (fun hq => ?_) fun hq => ?_ | refine if_both (fun hz => ?_) fun hz => ?_) | (intro) | fail)

  all_goals first
    | omega
    | assumption
    | contradiction
    | (refine fin0 (by kernel_rfl) (by kernel_rfl) ?_
       repeat' (split at h)
       all_goals first | exact h | omega | (rw [show (bck _ _ _ _ _ _ _ _ _).2 = 0 by assumption]; exact h) | (exfalso; simp_all; omega))
    | (have g := G (by assumption); omega)
    | (exfalso; apply h1; rw [if_pos (by assumption), if_neg (by omega), if_neg (by omega)])
    | (exfalso; apply h1; rw [if_pos (by assumption), if_neg (by omega), if_neg (by first | omega | (have g := G (by assumption); simp at hq; omega))])
    | (exfalso; simp at hq; omega)
def con55B_nrV (a b c d e : Int) (et nt ct : Nat) (ft : RF) (s : Int) (y : Int) (K : Value → List Blk → Prop) : Prop := let q0 := TS; let q1 := (t2 (False)); let q2 := (Prod.snd (bck a b c d e (0 : Nat) zF nt ft)); let q3 := (T0 ∧ (∃ y0 : Value, (∃ y1 : List Blk, ((Go.Rx.Found 1 (Value.tuple { toList := [vi (0 : Int), vn, vn, vi (7 : Int)] }) ({ h := [((3 : Nat), Blk.cells [vi a, vi b, vi c, vi d, vi e] (23 : Nat)), ((2 : Nat), Blk.row false [IntKind.i64] (3 : Nat) (1 : Nat) (1 : Nat) (litF (List.length [IntKind.i64]) ([y] ++ []))), ((1 : Nat), Blk.cells [vi a, vi b, vi c, vi d, vi e] (23 : Nat)), ((0 : Nat), Blk.row true [IntKind.i64] et nt ct ft)], next := (4 : Nat) }) (y0) (y1)) ∧ (K y0 y1))))); (t2 (q0 ∧ (t8 (((0 : Nat) + nt ≤ nt) ∧ ((InC a b c d e) ∧ ((@Eq Nat ((0 : Nat)) ((0 : Nat))) ∧ ((nt ≤ (100000 : Nat)) ∧ (((@Eq (List IntKind) ([IntKind.i64]) ([IntKind.i64])) ∧ ((@Eq Nat (nt) (nt)) ∧ (@Eq Nat (ct) (ct)))) ∧ (eB ∧ ((Nat.le nt ct) ∧ (T0 ∧ (if (@Eq Int q2 ((0 : Int))) then (q0 ∧ (T0 ∧ ((q0 ∧ (@Eq Nat ((1 : Nat)) ((1 : Nat)))) ∧ ((((0 : Int) ≤ (0 : Int)) ∧ ((0 : Int) < (↑(1 : Nat) : Int))) ∧ ((Int.toNat (0 : Int) < (1 : Nat)) ∧ (T0 ∧ (if (y < (1 : Int)) then q3 else (t2 (if (a < y) then q3 else (T0 ∧ ((((-9223372036854775808 : Int) ≤ (0 : Int) + (1 : Int)) ∧ ((0 : Int) + (1 : Int) ≤ (9223372036854775807 : Int))) ∧ (t2 (if (s < (-1 : Int)) then q3 else (t2 (if (b ≤ s) then q3 else (T0 ∧ (if (@Eq Int (s) ((-1 : Int))) then (t4 q1) else (False)))))))))))))))))) else (T0 ∧ (if (@Eq Int q2 ((0 : Int))) then q1 else (∃ y0 : Value, (∃ y1 : List Blk, ((Go.Rx.Found 1 (Value.tuple { toList := [vi (0 : Int), vn, vn, vi q2] }) ({ h := [((3 : Nat), Blk.cells [vi a, vi b, vi c, vi d, vi e] (23 : Nat)), ((2 : Nat), Blk.row false [IntKind.i64] (3 : Nat) (1 : Nat) (1 : Nat) (litF (List.length [IntKind.i64]) ([y] ++ []))), ((1 : Nat), Blk.cells [vi a, vi b, vi c, vi d, vi e] (23 : Nat)), ((0 : Nat), Blk.row true [IntKind.i64] et nt ct ft)], next := (4 : Nat) }) (y0) (y1)) ∧ (K y0 y1))))))))))))))))))
theorem con55B_nrE (a b c d e : Int) (et nt ct : Nat) (ft : RF) (s : Int) (y : Int) (K : Value → List Blk → Prop) : con55B_nrV a b c d e et nt ct ft s y K = bodyX (mkB X55B) (callN (mkB X55B) 7) (con55B_nrA a b c d e et nt ct ft s y) Try.f55 [five' a b c d e, .slice none 0 0, rsl 0 0 nt ct, .int .i64 s, .int .i64 y] (stOf [.row true [.i64] et nt ct ft]) (Fd 1 K) := by kernel_rfl
set_option tactic.hygienic false in
theorem con55B_nrP (a b c d e : Int) (et nt ct : Nat) (ft : RF) (s : Int) (y : Int) (K : Value → List Blk → Prop)  (hI : InC a b c d e) (hnt : nt ≤ 100000) (hct : capOk (rsl 0 0 nt ct)) (h1 : ¬ askT a b c d e 0 zF nt ft s y = 0) (h : K (.tuple ⟨[.int .i64 (0), .slice none 0 0, .slice none 0 0, .int .i64 (askT a b c d e 0 zF nt ft s y)]⟩) []) : con55B_nrV a b c d e et nt ct ft s y K := by
  unfold con55B_nrV
  conv => zeta
  unfold askT at h1 h
  have G : (bck a b c d e 0 zF nt ft).2 = 0 → good a b c d e ∧ ((0 : Nat) : Int) = b ∧ ∀ i, i < 0 → fok a zF i := fun q => ckF_zero (bck_ck q)
  repeat' (first | (with_reducible first | exact rfl | exact trivial | refine And.intro ?_ ?_ | refine br_intro (fun hq => ?_) fun hq => ?_ | refine if_both (fun hz => ?_) fun hz => ?_) | (intro) | fail)

  all_goals first
    | omega
    | assumption
    | contradiction
    | (refine fin0 (by kernel_rfl) (by kernel_rfl) ?_
       repeat' (split at h)
       all_goals first | exact h | omega | (rw [show (bck _ _ _ _ _ _ _ _ _).2 = 0 by assumption]; exact h) | (exfalso; simp_all; omega))
    | (have g := G (by assumption); omega)
    | (exfalso; apply h1; rw [if_pos (by assumption), if_neg (by omega), if_neg (by omega)])
    | (exfalso; apply h1; rw [if_pos (by assumption), if_neg (by omega), if_neg (by first | omega | (have g := G (by assumption); simp at hq; omega))])
    | (exfalso; simp at hq; omega)
def con55B_rnV (a b c d e : Int) (el nl cl : Nat) (fl : RF) (s : Int) (y : Int) (K : Value → List Blk → Prop) : Prop := let q0 := TS; let q1 := (t2 (False)); let q2 := (Prod.snd (bck a b c d e nl fl (0 : Nat) zF)); let q3 := (t4 q1); let q4 := (T0 ∧ (∃ y0 : Value, (∃ y1 : List Blk, ((Go.Rx.Found 1 (Value.tuple { toList := [vi (0 : Int), vn, vn, vi (7 : Int)] }) ({ h := [((3 : Nat), Blk.cells [vi a, vi b, vi c, vi d, vi e] (23 : Nat)), ((2 : Nat), Blk.row false [IntKind.i64] (3 : Nat) (1 : Nat) (1 : Nat) (litF (List.length [IntKind.i64]) ([y] ++ []))), ((1 : Nat), Blk.cells [vi a, vi b, vi c, vi d, vi e] (23 : Nat)), ((0 : Nat), rT el nl cl fl)], next := (4 : Nat) }) (y0) (y1)) ∧ (K y0 y1))))); (t2 (q0 ∧ (t7 (((0 : Nat) + nl ≤ nl) ∧ (T0 ∧ ((InC a b c d e) ∧ ((@Eq Nat ((0 : Nat)) ((0 : Nat))) ∧ ((nl ≤ (100000 : Nat)) ∧ ((eK ∧ ((@Eq Nat (nl) (nl)) ∧ (@Eq Nat (cl) (cl)))) ∧ (eB ∧ ((Nat.le (0 : Nat) (0 : Nat)) ∧ (T0 ∧ (if (@Eq Int q2 ((0 : Int))) then (q0 ∧ (T0 ∧ ((q0 ∧ (@Eq Nat ((1 : Nat)) ((1 : Nat)))) ∧ ((((0 : Int) ≤ (0 : Int)) ∧ ((0 : Int) < (↑(1 : Nat) : Int))) ∧ ((Int.toNat (0 : Int) < (1 : Nat)) ∧ (T0 ∧ (if (y < (1 : Int)) then q4 else (t2 (if (a < y) then q4 else (T0 ∧ ((((-9223372036854775808 : Int) ≤ (0 : Int) + (1 : Int)) ∧ ((0 : Int) + (1 : Int) ≤ (9223372036854775807 : Int))) ∧ (t2 (if (s < (-1 : Int)) then q4 else (t2 (if (b ≤ s) then q4 else (T0 ∧ (if (@Eq Int (s) ((-1 : Int))) then q3 else ((q0 ∧ (@Eq Nat ((2 : Nat)) ((2 : Nat)))) ∧ ((((0 : Int) ≤ s) ∧ (s < (↑nl : Int))) ∧ (T0 ∧ ((Int.toNat s < nl) ∧ (T0 ∧ (if (@Eq Int (fl (Int.toNat s) (0 : Nat)) ((0 : Int))) then (T0 ∧ (∃ y0 : Value, (∃ y1 : List Blk, ((Go.Rx.Found 1 (Value.tuple { toList := [vi (0 : Int), vn, vn, vi (9 : Int)] }) ({ h := [((3 : Nat), Blk.cells [vi a, vi b, vi c, vi d, vi e] (23 : Nat)), ((2 : Nat), Blk.row false [IntKind.i64] (3 : Nat) (1 : Nat) (1 : Nat) (litF (List.length [IntKind.i64]) ([y] ++ []))), ((1 : Nat), Blk.cells [vi a, vi b, vi c, vi d, vi e] (23 : Nat)), ((0 : Nat), rT el nl cl fl)], next := (4 : Nat) }) (y0) (y1)) ∧ (K y0 y1))))) else q3))))))))))))))))))))))) else (T0 ∧ (if (@Eq Int q2 ((0 : Int))) then q1 else (∃ y0 : Value, (∃ y1 : List Blk, ((Go.Rx.Found 1 (Value.tuple { toList := [vi (0 : Int), vn, vn, vi q2] }) ({ h := [((3 : Nat), Blk.cells [vi a, vi b, vi c, vi d, vi e] (23 : Nat)), ((2 : Nat), Blk.row false [IntKind.i64] (3 : Nat) (1 : Nat) (1 : Nat) (litF (List.length [IntKind.i64]) ([y] ++ []))), ((1 : Nat), Blk.cells [vi a, vi b, vi c, vi d, vi e] (23 : Nat)), ((0 : Nat), rT el nl cl fl)], next := (4 : Nat) }) (y0) (y1)) ∧ (K y0 y1)))))))))))))))))))
theorem con55B_rnE (a b c d e : Int) (el nl cl : Nat) (fl : RF) (s : Int) (y : Int) (K : Value → List Blk → Prop) : con55B_rnV a b c d e el nl cl fl s y K = bodyX (mkB X55B) (callN (mkB X55B) 7) (con55B_rnA a b c d e el nl cl fl s y) Try.f55 [five' a b c d e, rsl 0 0 nl cl, .slice none 0 0, .int .i64 s, .int .i64 y] (stOf [.row true [.i64, .i64] el nl cl fl]) (Fd 1 K) := by kernel_rfl
set_option tactic.hygienic false in
theorem con55B_rnP (a b c d e : Int) (el nl cl : Nat) (fl : RF) (s : Int) (y : Int) (K : Value → List Blk → Prop)  (hI : InC a b c d e) (hnl : nl ≤ 100000) (hct : capOk (.slice none 0 0)) (h1 : ¬ askT a b c d e nl fl 0 zF s y = 0) (h : K (.tuple ⟨[.int .i64 (0), .slice none 0 0, .slice none 0 0, .int .i64 (askT a b c d e nl fl 0 zF s y)]⟩) []) : con55B_rnV a b c d e el nl cl fl s y K := by
  unfold con55B_rnV
  conv => zeta
  unfold askT at h1 h
  have G : (bck a b c d e nl fl 0 zF).2 = 0 → good a b c d e ∧ ((nl : Nat) : Int) = b ∧ ∀ i, i < nl → fok a fl i := fun q => ckF_zero (bck_ck q)
  repeat' (first | (with_reducible first | exact rfl | exact trivial | refine And.intro ?_ ?_ | refine br_intro (fun hq => ?_) fun hq => ?_ | refine if_both (fun hz => ?_) fun hz => ?_) | (intro) | fail)

  all_goals first
    | omega
    | assumption
    | contradiction
    | (refine fin0 (by kernel_rfl) (by kernel_rfl) ?_
       repeat' (split at h)
       all_goals first | exact h | omega | (rw [show (bck _ _ _ _ _ _ _ _ _).2 = 0 by assumption]; exact h) | (exfalso; simp_all; omega))
    | (have g := G (by assumption); omega)
    | (exfalso; apply h1; rw [if_pos (by assumption), if_neg (by omega), if_neg (by omega)])
    | (exfalso; apply h1; rw [if_pos (by assumption), if_neg (by omega), if_neg (by first | omega | (have g := G (by assumption); simp at hq; omega))])
    | (exfalso; simp at hq; omega)
def con55B_rrV (a b c d e : Int) (el nl cl : Nat) (fl : RF) (et nt ct : Nat) (ft : RF) (s : Int) (y : Int) (K : Value → List Blk → Prop) : Prop := let q0 := (@Eq Nat ((1 : Nat)) ((1 : Nat))); let q1 := (Prod.snd (bck a b c d e nl fl nt ft)); let q2 := TS; let q3 := (t2 (False)); let q4 := (t4 q3); let q5 := (T0 ∧ (∃ y0 : Value, (∃ y1 : List Blk, ((Go.Rx.Found 2 (Value.tuple { toList := [vi (0 : Int), vn, vn, vi (7 : Int)] }) ({ h := [((4 : Nat), Blk.cells [vi a, vi b, vi c, vi d, vi e] (23 : Nat)), ((3 : Nat), Blk.row false [IntKind.i64] (3 : Nat) (1 : Nat) (1 : Nat) (litF (List.length [IntKind.i64]) ([y] ++ []))), ((2 : Nat), Blk.cells [vi a, vi b, vi c, vi d, vi e] (23 : Nat)), ((0 : Nat), rT el nl cl fl), ((1 : Nat), Blk.row true [IntKind.i64] et nt ct ft)], next := (5 : Nat) }) (y0) (y1)) ∧ (K y0 y1))))); (t2 (q2 ∧ (t7 (((0 : Nat) + nl ≤ nl) ∧ (((0 : Nat) + nt ≤ nt) ∧ ((InC a b c d e) ∧ ((@Eq Nat ((0 : Nat)) ((0 : Nat))) ∧ ((nl ≤ (100000 : Nat)) ∧ ((eK ∧ ((@Eq Nat (nl) (nl)) ∧ (@Eq Nat (cl) (cl)))) ∧ (q0 ∧ ((nt ≤ (100000 : Nat)) ∧ (((@Eq (List IntKind) ([IntKind.i64]) ([IntKind.i64])) ∧ ((@Eq Nat (nt) (nt)) ∧ (@Eq Nat (ct) (ct)))) ∧ (eB ∧ ((Nat.le nt ct) ∧ (T0 ∧ (if (@Eq Int q1 ((0 : Int))) then (q2 ∧ (T0 ∧ ((q2 ∧ q0) ∧ ((((0 : Int) ≤ (0 : Int)) ∧ ((0 : Int) < (↑(1 : Nat) : Int))) ∧ ((Int.toNat (0 : Int) < (1 : Nat)) ∧ (T0 ∧ (if (y < (1 : Int)) then q5 else (t2 (if (a < y) then q5 else (T0 ∧ ((((-9223372036854775808 : Int) ≤ (0 : Int) + (1 : Int)) ∧ ((0 : Int) + (1 : Int) ≤ (9223372036854775807 : Int))) ∧ (t2 (if (s < (-1 : Int)) then q5 else (t2 (if (b ≤ s) then q5 else (T0 ∧ (if (@Eq Int (s) ((-1 : Int))) then q4 else ((q2 ∧ (@Eq Nat ((2 : Nat)) ((2 : Nat)))) ∧ ((((0 : Int) ≤ s) ∧ (s < (↑nl : Int))) ∧ (T0 ∧ ((Int.toNat s < nl) ∧ (T0 ∧ (if (@Eq Int (fl (Int.toNat s) (0 : Nat)) ((0 : Int))) then (T0 ∧ (∃ y0 : Value, (∃ y1 : List Blk, ((Go.Rx.Found 2 (Value.tuple { toList := [vi (0 : Int), vn, vn, vi (9 : Int)] }) ({ h := [((4 : Nat), Blk.cells [vi a, vi b, vi c, vi d, vi e] (23 : Nat)), ((3 : Nat), Blk.row false [IntKind.i64] (3 : Nat) (1 : Nat) (1 : Nat) (litF (List.length [IntKind.i64]) ([y] ++ []))), ((2 : Nat), Blk.cells [vi a, vi b, vi c, vi d, vi e] (23 : Nat)), ((0 : Nat), rT el nl cl fl), ((1 : Nat), Blk.row true [IntKind.i64] et nt ct ft)], next := (5 : Nat) }) (y0) (y1)) ∧ (K y0 y1))))) else q4))))))))))))))))))))))) else (T0 ∧ (if (@Eq Int q1 ((0 : Int))) then q3 else (∃ y0 : Value, (∃ y1 : List Blk, ((Go.Rx.Found 2 (Value.tuple { toList := [vi (0 : Int), vn, vn, vi q1] }) ({ h := [((4 : Nat), Blk.cells [vi a, vi b, vi c, vi d, vi e] (23 : Nat)), ((3 : Nat), Blk.row false [IntKind.i64] (3 : Nat) (1 : Nat) (1 : Nat) (litF (List.length [IntKind.i64]) ([y] ++ []))), ((2 : Nat), Blk.cells [vi a, vi b, vi c, vi d, vi e] (23 : Nat)), ((0 : Nat), rT el nl cl fl), ((1 : Nat), Blk.row true [IntKind.i64] et nt ct ft)], next := (5 : Nat) }) (y0) (y1)) ∧ (K y0 y1))))))))))))))))))))))
theorem con55B_rrE (a b c d e : Int) (el nl cl : Nat) (fl : RF) (et nt ct : Nat) (ft : RF) (s : Int) (y : Int) (K : Value → List Blk → Prop) : con55B_rrV a b c d e el nl cl fl et nt ct ft s y K = bodyX (mkB X55B) (callN (mkB X55B) 7) (con55B_rrA a b c d e el nl cl fl et nt ct ft s y) Try.f55 [five' a b c d e, rsl 0 0 nl cl, rsl 1 0 nt ct, .int .i64 s, .int .i64 y] (stOf [.row true [.i64, .i64] el nl cl fl, .row true [.i64] et nt ct ft]) (Fd 2 K) := by kernel_rfl
set_option tactic.hygienic false in
theorem con55B_rrP (a b c d e : Int) (el nl cl : Nat) (fl : RF) (et nt ct : Nat) (ft : RF) (s : Int) (y : Int) (K : Value → List Blk → Prop)  (hI : InC a b c d e) (hnl : nl ≤ 100000) (hnt : nt ≤ 100000) (hct : capOk (rsl 1 0 nt ct)) (h1 : ¬ askT a b c d e nl fl nt ft s y = 0) (h : K (.tuple ⟨[.int .i64 (0), .slice none 0 0, .slice none 0 0, .int .i64 (askT a b c d e nl fl nt ft s y)]⟩) []) : con55B_rrV a b c d e el nl cl fl et nt ct ft s y K := by
  unfold con55B_rrV
  conv => zeta
  unfold askT at h1 h
  have G : (bck a b c d e nl fl nt ft).2 = 0 → good a b c d e ∧ ((nl : Nat) : Int) = b ∧ ∀ i, i < nl → fok a fl i := fun q => ckF_zero (bck_ck q)
  repeat' (first | (with_reducible first | exact rfl | exact trivial | refine And.intro ?_ ?_ | refine br_intro (fun hq => ?_) fun hq => ?_ | refine if_both (fun hz => ?_) fun hz => ?_) | (intro) | fail)

  all_goals first
    | omega
    | assumption
    | contradiction
    | (refine fin0 (by kernel_rfl) (by kernel_rfl) ?_
       repeat' (split at h)
       all_goals first | exact h | omega | (rw [show (bck _ _ _ _ _ _ _ _ _).2 = 0 by assumption]; exact h) | (exfalso; simp_all; omega))
    | (have g := G (by assumption); omega)
    | (exfalso; apply h1; rw [if_pos (by assumption), if_neg (by omega), if_neg (by omega)])
    | (exfalso; apply h1; rw [if_pos (by assumption), if_neg (by omega), if_neg (by first | omega | (have g := G (by assumption); simp at hq; omega))])
    | (exfalso; simp at hq; omega)
theorem con55B_ok : BodyOk (mkB X55B) 7 Try.f55 con55B := by
  intro vs bs K hh hro
  clear hro
  unfold con55B at hh
  split at hh
  · rename_i u vl vt s y
    obtain ⟨a, b, c, d, e, rfl, hI, hh0⟩ := five_inv hh
    rcases parse_inv hh0 with ⟨rfl, hh1⟩ | ⟨el, nl, cl, fl, btl, rfl, hnl, rfl, hh1⟩ <;> clear hh0
    · rcases parse_inv hh1 with ⟨rfl, hh2⟩ | ⟨et, nt, ct, ft, btt, rfl, hnt, rfl, hh2⟩ <;> clear hh1
      · obtain ⟨rfl, ⟨hct, h1⟩, hc⟩ := hh2
        exact ⟨_, _, cast (con55B_nnE a b c d e  s y K) (con55B_nnP a b c d e  s y K hI  hct h1 hc)⟩
      · obtain ⟨rfl, ⟨hct, h1⟩, hc⟩ := hh2
        exact ⟨_, _, cast (con55B_nrE a b c d e et nt ct ft s y K) (con55B_nrP a b c d e et nt ct ft s y K hI hnt hct h1 hc)⟩
    · rcases parse_inv hh1 with ⟨rfl, hh2⟩ | ⟨et, nt, ct, ft, btt, rfl, hnt, rfl, hh2⟩ <;> clear hh1
      · obtain ⟨rfl, ⟨hct, h1⟩, hc⟩ := hh2
        exact ⟨_, _, cast (con55B_rnE a b c d e el nl cl fl s y K) (con55B_rnP a b c d e el nl cl fl s y K hI hnl hct h1 hc)⟩
      · obtain ⟨rfl, ⟨hct, h1⟩, hc⟩ := hh2
        exact ⟨_, _, cast (con55B_rrE a b c d e el nl cl fl et nt ct ft s y K) (con55B_rrP a b c d e el nl cl fl et nt ct ft s y K hI hnl hnt hct h1 hc)⟩
  · exact hh.elim
theorem con55B_told : Told 55 (specOf con55B) := toldB (X := X55B) X55B_told (by kernel_rfl) (by kernel_rfl) (by kernel_rfl) con55B_ok
def con55U_rrV (a b c d e : Int) (el nl cl : Nat) (fl : RF) (et nt ct : Nat) (ft : RF) (s : Int) (y : Int) (K : Value → List Blk → Prop) : Prop := let q0 := ((0 : Nat) + nl ≤ nl); let q1 := ((0 : Nat) + nt ≤ nt); let q2 := (nl ≤ (100000 : Nat)); let q3 := (nt ≤ (100000 : Nat)); let q4 := ((↑nt : Int) - (1 : Int)); let q5 := eB; let q6 := (9223372036854775807 : Int); let q7 := (-9223372036854775808 : Int); let q8 := (@Eq Nat ((0 : Nat)) ((0 : Nat))); let q9 := (@Eq Nat ((1 : Nat)) ((1 : Nat))); let q10 := (Int.toNat q4); let q11 := TS; let q12 := (litF (List.length [IntKind.i64]) ([y] ++ [])); let q13 := (some (Blk.row true [IntKind.i64] et nt ct ft)); let q14 := ((1 : Nat), Blk.row true [IntKind.i64] et nt ct ft); let q15 := (ft q10 (0 : Nat)); let q16 := (some (rT el nl cl fl)); let q17 := ((0 : Nat), rT el nl cl fl); let q18 := (Int.toNat q15); let q19 := eK; let q20 := (q11 ∧ q9); let q21 := (q11 ∧ (@Eq Nat ((2 : Nat)) ((2 : Nat)))); let q22 := (¬fl q18 (0 : Nat) = (0 : Int)); let q23 := (@Eq Int (askF a b c d e nl fl q15) ((0 : Int))); let q24 := ((@Eq (List IntKind) ([IntKind.i64]) ([IntKind.i64])) ∧ ((@Eq Nat (nt) (nt)) ∧ (@Eq Nat (ct) (ct)))); let q25 := (some (Blk.row false [IntKind.i64] (3 : Nat) (1 : Nat) (1 : Nat) q12)); let q26 := ((3 : Nat), Blk.row false [IntKind.i64] (3 : Nat) (1 : Nat) (1 : Nat) q12); let q27 := (q19 ∧ ((@Eq Nat (nl) (nl)) ∧ (@Eq Nat (cl) (cl)))); let q28 := (some (Blk.cells [vi a, vi b, vi c, vi d, vi e] (23 : Nat))); let q29 := ((4 : Nat), Blk.cells [vi a, vi b, vi c, vi d, vi e] (23 : Nat)); let q30 := ((2 : Nat), Blk.cells [vi a, vi b, vi c, vi d, vi e] (23 : Nat)); let q31 := (t9 (t6 (False))); let q32 := (T0 ∧ q31); let q33 := (@Eq (Option Blk) q28 q28); let q34 := (T0 ∧ (∃ y0 : Value, (∃ y1 : List Blk, ((Go.Rx.Found 2 (Value.tuple { toList := [vi (0 : Int), vn, vn, vi (7 : Int)] }) ({ h := [q29, q26, q30, q17, q14], next := (5 : Nat) }) (y0) (y1)) ∧ (K y0 y1))))); let q35 := (q33 ∧ ((@Eq (Option Blk) q25 q25) ∧ (q33 ∧ ((@Eq (Option Blk) q16 q16) ∧ ((@Eq (Option Blk) q13 q13) ∧ (True)))))); let q36 := (t6 (q0 ∧ (q8 ∧ (q2 ∧ (q27 ∧ (q5 ∧ (∀ y0 : Nat, let q40 := (some (rF (54 : Nat) nl y0 fl)); let q41 := (q19 ∧ ((@Eq Nat (nl) (nl)) ∧ (@Eq Nat (y0) (y0)))); ((nl ≤ y0) → (q35 ∧ (q35 ∧ (q1 ∧ (q8 ∧ (q3 ∧ (q24 ∧ (q5 ∧ (∀ y1 : Nat, let q37 := (some (Blk.row false [IntKind.i64] (3 : Nat) nt y1 ft)); let q38 := (some (Blk.cells [vi a, vi b, vi c, vi d, vi e, rsl (5 : Nat) (0 : Nat) nl y0, rsl (6 : Nat) (0 : Nat) nt y1, vi s] (100 : Nat))); let q39 := ((@Eq (Option Blk) q38 q38) ∧ ((@Eq (Option Blk) q37 q37) ∧ ((@Eq (Option Blk) q40 q40) ∧ q35))); ((nt ≤ y1) → (q35 ∧ (q35 ∧ (q35 ∧ (q35 ∧ (t7 (q11 ∧ (T0 ∧ (if (@Eq Int ((↑nt : Int)) ((0 : Int))) then (t4 q32) else (t9 (t3 (q11 ∧ (t2 (((q7 ≤ (↑nt : Int) - (1 : Int)) ∧ ((↑nt : Int) - (1 : Int) ≤ q6)) ∧ (T0 ∧ (q20 ∧ ((((0 : Int) ≤ (↑nt : Int) - (1 : Int)) ∧ ((↑nt : Int) - (1 : Int) < (↑nt : Int))) ∧ (T0 ∧ ((Int.toNat q4 < nt) ∧ (t9 (t4 (q21 ∧ ((((0 : Int) ≤ ft q10 (0 : Nat)) ∧ (ft q10 (0 : Nat) < (↑nl : Int))) ∧ (T0 ∧ ((Int.toNat q15 < nl) ∧ (T0 ∧ (if (@Eq Int (fl q18 (0 : Nat)) ((2 : Int))) then (q39 ∧ q32) else (q39 ∧ (t2 (if (@Eq Int q15 (s)) then q32 else (t9 (t8 (q0 ∧ (T0 ∧ ((InC a b c d e) ∧ (q8 ∧ (q2 ∧ (q41 ∧ (q5 ∧ ((q23 ∧ q22) ∧ (q39 ∧ (t2 (if (a - fl q18 (1 : Nat) < y) then q31 else (t9 (t8 (q0 ∧ (t2 ((InC a b c d e) ∧ (q8 ∧ (q2 ∧ (q41 ∧ (q5 ∧ ((q23 ∧ (((1 : Int) ≤ y) ∧ (q22 ∧ (y ≤ a - fl q18 (1 : Nat))))) ∧ (∀ y2 : Nat → Nat → Int, ((Bumped a b c d e nl fl q15 y y2) → (∀ y3 : Nat, ((nl ≤ y3) → (q39 ∧ (t9 (t9 (t8 (∃ y4 : Value, (∃ y5 : List Blk, ((Go.Rx.Found 2 (Value.tuple { toList := [vi ((1 : Int) + c + ft q10 (0 : Nat) * a + fl q18 (1 : Nat)), rsl (8 : Nat) (0 : Nat) nl y3, rsl (6 : Nat) (0 : Nat) nt y1, vi (0 : Int)] }) ({ h := [((8 : Nat), rF (54 : Nat) nl y3 y2), ((7 : Nat), Blk.cells [vi a, vi b, vi c, vi d, vi e, rsl (8 : Nat) (0 : Nat) nl y3, rsl (6 : Nat) (0 : Nat) nt y1, vi s] (100 : Nat)), ((6 : Nat), Blk.row false [IntKind.i64] (3 : Nat) nt y1 ft), ((5 : Nat), rF (54 : Nat) nl y0 fl), q29, q26, q30, q17, q14], next := (9 : Nat) }) (y4) (y5)) ∧ (K y4 y5))))))))))))))))))))))))))))))))))))))))))))))))))))))))))))))))))))))))))))))))); (t2 (q11 ∧ (t7 (q0 ∧ (q1 ∧ ((InC a b c d e) ∧ (q8 ∧ (q2 ∧ (q27 ∧ (q9 ∧ (q3 ∧ (q24 ∧ (q5 ∧ (((Nat.le nt ct) ∧ (@Eq Int (Prod.snd (bck a b c d e nl fl nt ft)) ((0 : Int)))) ∧ (T0 ∧ (q11 ∧ (T0 ∧ (q20 ∧ ((((0 : Int) ≤ (0 : Int)) ∧ ((0 : Int) < (↑(1 : Nat) : Int))) ∧ ((Int.toNat (0 : Int) < (1 : Nat)) ∧ (T0 ∧ (if (y < (1 : Int)) then q34 else (t2 (if (a < y) then q34 else (T0 ∧ (((q7 ≤ (0 : Int) + (1 : Int)) ∧ ((0 : Int) + (1 : Int) ≤ q6)) ∧ (t2 (if (s < (-1 : Int)) then q34 else (t2 (if (b ≤ s) then q34 else (T0 ∧ (if (@Eq Int (s) ((-1 : Int))) then q36 else (q21 ∧ ((((0 : Int) ≤ s) ∧ (s < (↑nl : Int))) ∧ (T0 ∧ ((Int.toNat s < nl) ∧ (T0 ∧ (if (@Eq Int (fl (Int.toNat s) (0 : Nat)) ((0 : Int))) then (T0 ∧ (∃ y0 : Value, (∃ y1 : List Blk, ((Go.Rx.Found 2 (Value.tuple { toList := [vi (0 : Int), vn, vn, vi (9 : Int)] }) ({ h := [q29, q26, q30, q17, q14], next := (5 : Nat) }) (y0) (y1)) ∧ (K y0 y1))))) else q36))))))))))))))))))))))))))))))))))))))
theorem con55U_rrE (a b c d e : Int) (el nl cl : Nat) (fl : RF) (et nt ct : Nat) (ft : RF) (s : Int) (y : Int) (K : Value → List Blk → Prop) : con55U_rrV a b c d e el nl cl fl et nt ct ft s y K = bodyX (mkB X55U) (callN (mkB X55U) 7) (con55U_rrA a b c d e el nl cl fl et nt ct ft s y) Try.f55 [five' a b c d e, rsl 0 0 nl cl, rsl 1 0 nt ct, .int .i64 s, .int .i64 y] (stOf [.row true [.i64, .i64] el nl cl fl, .row true [.i64] et nt ct ft]) (Fd 2 K) := by kernel_rfl
set_option tactic.hygienic false in
theorem con55U_rrP (a b c d e : Int) (el nl cl : Nat) (fl : RF) (et nt ct : Nat) (ft : RF) (s : Int) (y : Int) (K : Value → List Blk → Prop)  (hI : InC a b c d e) (hnl : nl ≤ 100000) (hnt : nt ≤ 100000) (hct : capOk (rsl 1 0 nt ct)) (h1 : askT a b c d e nl fl nt ft s y = 0) (hu : useT a fl nt ft s y) (h : ∀ g, Bumped a b c d e nl fl (lastC nt ft) y g → ∀ cp, nl ≤ cp → ∀ cp2, nt ≤ cp2 → K (.tuple ⟨[.int .i64 (1 + c + lastC nt ft * a + fl (lastC nt ft).toNat 1), rsl 2 0 nl cp, rsl (2 + 1) 0 nt cp2, .int .i64 0]⟩) [.row false [.i64, .i64] 54 nl cp g, .row false [.i64] 3 nt cp2 ft]) : con55U_rrV a b c d e el nl cl fl et nt ct ft s y K := by
  unfold con55U_rrV
  conv => zeta
  obtain ⟨k0, k1, k2, k3, k4, k5⟩ := askT_bck h1
  obtain ⟨g1, g2, g3, g4⟩ := bck_ok k0
  have gc := bck_ck k0
  have go := bck_one k0
  have gk := fun h : 0 < nt => go (Int.toNat ((nt : Int) - 1)) (by omega)
  obtain ⟨hu1, hu2, hu3, hu4⟩ := (show (0 < nt ∧ fl (ft (Int.toNat (((nt : Nat) : Int) - 1)) 0).toNat 0 = 1 ∧ ¬ ft (Int.toNat (((nt : Nat) : Int) - 1)) 0 = s ∧ y ≤ a - fl (ft (Int.toNat (((nt : Nat) : Int) - 1)) 0).toNat 1) from hu)
  repeat' (first | (with_reducible first | exact rfl | exact trivial | refine And.intro ?_ ?_ | refine br_intro (fun hq => ?_) fun hq => ?_ | refine if_both (fun hz => ?_) fun hz => ?_) | (intro) | fail)
  all_goals try (have gk := gk (by omega))
  all_goals try (rename Taken _ _ _ _ _ _ _ _ _ _ => T; have T0 := T.now0; have T1 := T.now1)
  all_goals first
    | omega
    | assumption
    | contradiction
    | exact fin0 (by kernel_rfl) (by kernel_rfl) (by first | exact h | simpa using h)
    | exact ask_of gc gk.1 gk.2.1
    | exact T.ask
    | exact bck_ck k0
    | (refine fin2x rfl rfl rfl (fun _ _ _ _ => rfl) (fun i j hi hj => ?_) (h _ ‹_› _ (by omega) _ (by omega))
       simp [appF])
    | exact fin2x rfl rfl rfl (fun _ _ _ _ => rfl) (fun _ _ _ _ => rfl) (h _ _ _ (placed (.inl rfl) T ‹_›) (by omega) _ (by constructor <;> (try intro k hk) <;> simp [appF, litF] <;> omega) _ (by omega) _ (by omega))
    | exact fin2x rfl rfl rfl (fun _ _ _ _ => rfl) (fun _ _ _ _ => rfl) (h _ _ _ (placed (.inl rfl) T ‹_›) (by omega) _ (by constructor <;> (try intro k hk) <;> simp [appF, litF, hk]) _ (by omega) _ (by omega))
    | (obtain rfl : nt = 0 := (by simp at hq; omega)
       first
         | exact fin2x rfl rfl rfl (fun _ _ _ _ => rfl) (fun _ _ _ _ => rfl) (h _ _ _ (placed (.inl rfl) T ‹_›) (by omega) _ (by constructor <;> (try intro k hk) <;> simp [appF, litF] <;> omega) _ (by omega) _ (by omega))
         | exact fin2x rfl rfl rfl (fun _ _ _ _ => rfl) (fun _ _ _ _ => rfl) (h _ _ _ (placed (.inl rfl) T ‹_›) (by omega) _ (by constructor <;> (try intro k hk) <;> simp [appF, litF, hk]) _ (by omega) _ (by omega)))
    | (have z : fl (ft (Int.toNat (((nt : Nat) : Int) - 1)) 0).toNat 0 = 0 := (by assumption)
       omega)
    | (exfalso; simp at hq; omega)
    | (exfalso; simp at hq; simp_all; omega)
theorem con55U_ok : BodyOk (mkB X55U) 7 Try.f55 con55U := by
  intro vs bs K hh hro
  clear hro
  unfold con55U at hh
  split at hh
  · rename_i u vl vt s y
    obtain ⟨a, b, c, d, e, rfl, hI, hh0⟩ := five_inv hh
    obtain ⟨el, nl, cl, fl, btl, rfl, hnl, rfl, hh1⟩ := parseR_inv hh0
    obtain ⟨et, nt, ct, ft, btt, rfl, hnt, rfl, hh2⟩ := parseR_inv hh1
    obtain ⟨rfl, ⟨hct, h1, hu⟩, hc⟩ := hh2
    exact ⟨_, _, cast (con55U_rrE a b c d e el nl cl fl et nt ct ft s y K) (con55U_rrP a b c d e el nl cl fl et nt ct ft s y K hI hnl hnt hct h1 hu hc)⟩
  · exact hh.elim
theorem con55U_told : Told 55 (specOf con55U) := toldB (X := X55U) X55U_told (by kernel_rfl) (by kernel_rfl) (by kernel_rfl) con55U_ok
def con55F_rnV (a b c d e : Int) (el nl cl : Nat) (fl : RF) (s : Int) (y : Int) (K : Value → List Blk → Prop) : Prop := let q0 := ((0 : Nat) + nl ≤ nl); let q1 := (nl ≤ (100000 : Nat)); let q2 := eB; let q3 := (@Eq Nat ((0 : Nat)) ((0 : Nat))); let q4 := TS; let q5 := (litF (List.length [IntKind.i64]) ([y] ++ [])); let q6 := (some (rT el nl cl fl)); let q7 := ((0 : Nat), rT el nl cl fl); let q8 := eK; let q9 := (some (Blk.row false [IntKind.i64] (3 : Nat) (1 : Nat) (1 : Nat) q5)); let q10 := ((2 : Nat), Blk.row false [IntKind.i64] (3 : Nat) (1 : Nat) (1 : Nat) q5); let q11 := (q8 ∧ ((@Eq Nat (nl) (nl)) ∧ (@Eq Nat (cl) (cl)))); let q12 := (some (Blk.cells [vi a, vi b, vi c, vi d, vi e] (23 : Nat))); let q13 := ((3 : Nat), Blk.cells [vi a, vi b, vi c, vi d, vi e] (23 : Nat)); let q14 := ((1 : Nat), Blk.cells [vi a, vi b, vi c, vi d, vi e] (23 : Nat)); let q15 := (@Eq (Option Blk) q12 q12); let q16 := (T0 ∧ (∃ y0 : Value, (∃ y1 : List Blk, ((Go.Rx.Found 1 (Value.tuple { toList := [vi (0 : Int), vn, vn, vi (7 : Int)] }) ({ h := [q13, q10, q14, q7], next := (4 : Nat) }) (y0) (y1)) ∧ (K y0 y1))))); let q17 := (q15 ∧ ((@Eq (Option Blk) q9 q9) ∧ (q15 ∧ ((@Eq (Option Blk) q6 q6) ∧ (True))))); let q18 := (t6 (q0 ∧ (q3 ∧ (q1 ∧ (q11 ∧ (q2 ∧ (∀ y0 : Nat, let q19 := (some (rF (54 : Nat) nl y0 fl)); let q20 := (some (Blk.cells [vi a, vi b, vi c, vi d, vi e, rsl (4 : Nat) (0 : Nat) nl y0, vn, vi s] (100 : Nat))); ((nl ≤ y0) → (q17 ∧ (q17 ∧ (T0 ∧ (q2 ∧ (q17 ∧ (q17 ∧ (q17 ∧ (q17 ∧ (t7 (q4 ∧ (t9 (t9 (t4 (q0 ∧ (T0 ∧ ((InC a b c d e) ∧ (q3 ∧ (q1 ∧ ((q8 ∧ ((@Eq Nat (nl) (nl)) ∧ (@Eq Nat (y0) (y0)))) ∧ (q2 ∧ (((@Eq Int (Prod.snd (ckF a b c d e nl fl)) ((0 : Int))) ∧ (sel (selE fl (0 : Int)) nl = [])) ∧ (((@Eq (Option Blk) q20 q20) ∧ ((@Eq (Option Blk) q19 q19) ∧ q17)) ∧ (t4 (∃ y1 : Value, (∃ y2 : List Blk, ((Go.Rx.Found 1 (Value.tuple { toList := [vi (0 : Int), vn, vn, vi (5 : Int)] }) ({ h := [((5 : Nat), Blk.cells [vi a, vi b, vi c, vi d, vi e, rsl (4 : Nat) (0 : Nat) nl y0, vn, vi s] (100 : Nat)), ((4 : Nat), rF (54 : Nat) nl y0 fl), q13, q10, q14, q7], next := (6 : Nat) }) (y1) (y2)) ∧ (K y1 y2))))))))))))))))))))))))))))))))))); (t2 (q4 ∧ (t7 (q0 ∧ (T0 ∧ ((InC a b c d e) ∧ (q3 ∧ (q1 ∧ (q11 ∧ (q2 ∧ (((Nat.le (0 : Nat) (0 : Nat)) ∧ (@Eq Int (Prod.snd (bck a b c d e nl fl (0 : Nat) zF)) ((0 : Int)))) ∧ (T0 ∧ (q4 ∧ (T0 ∧ ((q4 ∧ (@Eq Nat ((1 : Nat)) ((1 : Nat)))) ∧ ((((0 : Int) ≤ (0 : Int)) ∧ ((0 : Int) < (↑(1 : Nat) : Int))) ∧ ((Int.toNat (0 : Int) < (1 : Nat)) ∧ (T0 ∧ (if (y < (1 : Int)) then q16 else (t2 (if (a < y) then q16 else (T0 ∧ ((((-9223372036854775808 : Int) ≤ (0 : Int) + (1 : Int)) ∧ ((0 : Int) + (1 : Int) ≤ (9223372036854775807 : Int))) ∧ (t2 (if (s < (-1 : Int)) then q16 else (t2 (if (b ≤ s) then q16 else (T0 ∧ (if (@Eq Int (s) ((-1 : Int))) then q18 else ((q4 ∧ (@Eq Nat ((2 : Nat)) ((2 : Nat)))) ∧ ((((0 : Int) ≤ s) ∧ (s < (↑nl : Int))) ∧ (T0 ∧ ((Int.toNat s < nl) ∧ (T0 ∧ (if (@Eq Int (fl (Int.toNat s) (0 : Nat)) ((0 : Int))) then (T0 ∧ (∃ y0 : Value, (∃ y1 : List Blk, ((Go.Rx.Found 1 (Value.tuple { toList := [vi (0 : Int), vn, vn, vi (9 : Int)] }) ({ h := [q13, q10, q14, q7], next := (4 : Nat) }) (y0) (y1)) ∧ (K y0 y1))))) else q18)))))))))))))))))))))))))))))))))))
theorem con55F_rnE (a b c d e : Int) (el nl cl : Nat) (fl : RF) (s : Int) (y : Int) (K : Value → List Blk → Prop) : con55F_rnV a b c d e el nl cl fl s y K = bodyX (mkB X55F) (callN (mkB X55F) 7) (con55F_rnA a b c d e el nl cl fl s y) Try.f55 [five' a b c d e, rsl 0 0 nl cl, .slice none 0 0, .int .i64 s, .int .i64 y] (stOf [.row true [.i64, .i64] el nl cl fl]) (Fd 1 K) := by kernel_rfl
set_option tactic.hygienic false in
theorem con55F_rnP (a b c d e : Int) (el nl cl : Nat) (fl : RF) (s : Int) (y : Int) (K : Value → List Blk → Prop)  (hI : InC a b c d e) (hnl : nl ≤ 100000) (hct : capOk (.slice none 0 0)) (h1 : askT a b c d e nl fl 0 zF s y = 0) (hu : ¬ useT a fl 0 zF s y) (hf : sel (selE fl 0) nl = []) (h : K (.tuple ⟨[.int .i64 (0), .slice none 0 0, .slice none 0 0, .int .i64 (5)]⟩) []) : con55F_rnV a b c d e el nl cl fl s y K := by
  unfold con55F_rnV
  conv => zeta
  obtain ⟨k0, k1, k2, k3, k4, k5⟩ := askT_bck h1
  obtain ⟨g1, g2, g3, g4⟩ := bck_ok k0
  have gc := bck_ck k0
  have go := bck_one k0
  have hu2 : ¬ (0 < 0 ∧ fl (zF (Int.toNat (((0 : Nat) : Int) - 1)) 0).toNat 0 = 1 ∧ ¬ zF (Int.toNat (((0 : Nat) : Int) - 1)) 0 = s ∧ y ≤ a - fl (zF (Int.toNat (((0 : Nat) : Int) - 1)) 0).toNat 1) := hu
  repeat' (first | (with_reducible first | exact rfl | exact trivial | refine And.intro ?_ ?_ | refine br_intro (fun hq => ?_) fun hq => ?_ | refine if_both (fun hz => ?_) fun hz => ?_) | (intro) | fail)
  all_goals try (have gk := gk (by omega))
  all_goals try (rename Taken _ _ _ _ _ _ _ _ _ _ => T; have T0 := T.now0; have T1 := T.now1)
  all_goals first
    | omega
    | assumption
    | contradiction
    | exact fin0 (by kernel_rfl) (by kernel_rfl) (by first | exact h | simpa using h)
    | exact ask_of gc gk.1 gk.2.1
    | exact T.ask
    | exact bck_ck k0
    | (refine fin2x rfl rfl rfl (fun _ _ _ _ => rfl) (fun i j hi hj => ?_) (h _ ‹_› _ (by omega) _ (by omega))
       simp [appF])
    | exact fin2x rfl rfl rfl (fun _ _ _ _ => rfl) (fun _ _ _ _ => rfl) (h _ _ _ (placed (.inl rfl) T ‹_›) (by omega) _ (by constructor <;> (try intro k hk) <;> simp [appF, litF] <;> omega) _ (by omega) _ (by omega))
    | exact fin2x rfl rfl rfl (fun _ _ _ _ => rfl) (fun _ _ _ _ => rfl) (h _ _ _ (placed (.inl rfl) T ‹_›) (by omega) _ (by constructor <;> (try intro k hk) <;> simp [appF, litF, hk]) _ (by omega) _ (by omega))
    | (obtain rfl : nt = 0 := (by simp at hq; omega)
       first
         | exact fin2x rfl rfl rfl (fun _ _ _ _ => rfl) (fun _ _ _ _ => rfl) (h _ _ _ (placed (.inl rfl) T ‹_›) (by omega) _ (by constructor <;> (try intro k hk) <;> simp [appF, litF] <;> omega) _ (by omega) _ (by omega))
         | exact fin2x rfl rfl rfl (fun _ _ _ _ => rfl) (fun _ _ _ _ => rfl) (h _ _ _ (placed (.inl rfl) T ‹_›) (by omega) _ (by constructor <;> (try intro k hk) <;> simp [appF, litF, hk]) _ (by omega) _ (by omega)))
    | (have z : fl (ft (Int.toNat (((nt : Nat) : Int) - 1)) 0).toNat 0 = 0 := (by assumption)
       omega)
    | (exfalso; simp at hq; omega)
    | (exfalso; simp at hq; simp_all; omega)
def con55F_rrV (a b c d e : Int) (el nl cl : Nat) (fl : RF) (et nt ct : Nat) (ft : RF) (s : Int) (y : Int) (K : Value → List Blk → Prop) : Prop := let q0 := ((0 : Nat) + nl ≤ nl); let q1 := ((0 : Nat) + nt ≤ nt); let q2 := (nl ≤ (100000 : Nat)); let q3 := (nt ≤ (100000 : Nat)); let q4 := ((↑nt : Int) - (1 : Int)); let q5 := eB; let q6 := (9223372036854775807 : Int); let q7 := (-9223372036854775808 : Int); let q8 := (@Eq Nat ((0 : Nat)) ((0 : Nat))); let q9 := (@Eq Nat ((1 : Nat)) ((1 : Nat))); let q10 := (Int.toNat q4); let q11 := TS; let q12 := (litF (List.length [IntKind.i64]) ([y] ++ [])); let q13 := (some (Blk.row true [IntKind.i64] et nt ct ft)); let q14 := ((1 : Nat), Blk.row true [IntKind.i64] et nt ct ft); let q15 := (ft q10 (0 : Nat)); let q16 := (some (rT el nl cl fl)); let q17 := ((0 : Nat), rT el nl cl fl); let q18 := (Int.toNat q15); let q19 := eK; let q20 := (q11 ∧ q9); let q21 := (q11 ∧ (@Eq Nat ((2 : Nat)) ((2 : Nat)))); let q22 := ((@Eq (List IntKind) ([IntKind.i64]) ([IntKind.i64])) ∧ ((@Eq Nat (nt) (nt)) ∧ (@Eq Nat (ct) (ct)))); let q23 := (some (Blk.row false [IntKind.i64] (3 : Nat) (1 : Nat) (1 : Nat) q12)); let q24 := ((3 : Nat), Blk.row false [IntKind.i64] (3 : Nat) (1 : Nat) (1 : Nat) q12); let q25 := (q19 ∧ ((@Eq Nat (nl) (nl)) ∧ (@Eq Nat (cl) (cl)))); let q26 := (some (Blk.cells [vi a, vi b, vi c, vi d, vi e] (23 : Nat))); let q27 := ((4 : Nat), Blk.cells [vi a, vi b, vi c, vi d, vi e] (23 : Nat)); let q28 := ((2 : Nat), Blk.cells [vi a, vi b, vi c, vi d, vi e] (23 : Nat)); let q29 := (@Eq (Option Blk) q26 q26); let q30 := (T0 ∧ (∃ y0 : Value, (∃ y1 : List Blk, ((Go.Rx.Found 2 (Value.tuple { toList := [vi (0 : Int), vn, vn, vi (7 : Int)] }) ({ h := [q27, q24, q28, q17, q14], next := (5 : Nat) }) (y0) (y1)) ∧ (K y0 y1))))); let q31 := (q29 ∧ ((@Eq (Option Blk) q23 q23) ∧ (q29 ∧ ((@Eq (Option Blk) q16 q16) ∧ ((@Eq (Option Blk) q13 q13) ∧ (True)))))); let q32 := (t6 (q0 ∧ (q8 ∧ (q2 ∧ (q25 ∧ (q5 ∧ (∀ y0 : Nat, let q38 := (some (rF (54 : Nat) nl y0 fl)); let q39 := (q19 ∧ ((@Eq Nat (nl) (nl)) ∧ (@Eq Nat (y0) (y0)))); ((nl ≤ y0) → (q31 ∧ (q31 ∧ (q1 ∧ (q8 ∧ (q3 ∧ (q22 ∧ (q5 ∧ (∀ y1 : Nat, let q33 := (some (Blk.row false [IntKind.i64] (3 : Nat) nt y1 ft)); let q34 := (some (Blk.cells [vi a, vi b, vi c, vi d, vi e, rsl (5 : Nat) (0 : Nat) nl y0, rsl (6 : Nat) (0 : Nat) nt y1, vi s] (100 : Nat))); let q35 := ((@Eq (Option Blk) q34 q34) ∧ ((@Eq (Option Blk) q33 q33) ∧ ((@Eq (Option Blk) q38 q38) ∧ q31))); let q36 := (t9 (t7 (q0 ∧ (T0 ∧ ((InC a b c d e) ∧ (q8 ∧ (q2 ∧ (q39 ∧ (q5 ∧ (((@Eq Int (Prod.snd (ckF a b c d e nl fl)) ((0 : Int))) ∧ (sel (selE fl (0 : Int)) nl = [])) ∧ (q35 ∧ (t4 (∃ y2 : Value, (∃ y3 : List Blk, ((Go.Rx.Found 2 (Value.tuple { toList := [vi (0 : Int), vn, vn, vi (5 : Int)] }) ({ h := [((7 : Nat), Blk.cells [vi a, vi b, vi c, vi d, vi e, rsl (5 : Nat) (0 : Nat) nl y0, rsl (6 : Nat) (0 : Nat) nt y1, vi s] (100 : Nat)), ((6 : Nat), Blk.row false [IntKind.i64] (3 : Nat) nt y1 ft), ((5 : Nat), rF (54 : Nat) nl y0 fl), q27, q24, q28, q17, q14], next := (8 : Nat) }) (y2) (y3)) ∧ (K y2 y3)))))))))))))))); let q37 := (T0 ∧ q36); ((nt ≤ y1) → (q31 ∧ (q31 ∧ (q31 ∧ (q31 ∧ (t7 (q11 ∧ (T0 ∧ (if (@Eq Int ((↑nt : Int)) ((0 : Int))) then (t4 q37) else (t9 (t3 (q11 ∧ (t2 (((q7 ≤ (↑nt : Int) - (1 : Int)) ∧ ((↑nt : Int) - (1 : Int) ≤ q6)) ∧ (T0 ∧ (q20 ∧ ((((0 : Int) ≤ (↑nt : Int) - (1 : Int)) ∧ ((↑nt : Int) - (1 : Int) < (↑nt : Int))) ∧ (T0 ∧ ((Int.toNat q4 < nt) ∧ (t9 (t4 (q21 ∧ ((((0 : Int) ≤ ft q10 (0 : Nat)) ∧ (ft q10 (0 : Nat) < (↑nl : Int))) ∧ (T0 ∧ ((Int.toNat q15 < nl) ∧ (T0 ∧ (if (@Eq Int (fl q18 (0 : Nat)) ((2 : Int))) then (q35 ∧ q37) else (q35 ∧ (t2 (if (@Eq Int q15 (s)) then q37 else (t9 (t8 (q0 ∧ (T0 ∧ ((InC a b c d e) ∧ (q8 ∧ (q2 ∧ (q39 ∧ (q5 ∧ (((@Eq Int (askF a b c d e nl fl q15) ((0 : Int))) ∧ (¬fl q18 (0 : Nat) = (0 : Int))) ∧ (q35 ∧ (t2 (if (a - fl q18 (1 : Nat) < y) then q36 else (t9 (t7 (False)))))))))))))))))))))))))))))))))))))))))))))))))))))))))))))); (t2 (q11 ∧ (t7 (q0 ∧ (q1 ∧ ((InC a b c d e) ∧ (q8 ∧ (q2 ∧ (q25 ∧ (q9 ∧ (q3 ∧ (q22 ∧ (q5 ∧ (((Nat.le nt ct) ∧ (@Eq Int (Prod.snd (bck a b c d e nl fl nt ft)) ((0 : Int)))) ∧ (T0 ∧ (q11 ∧ (T0 ∧ (q20 ∧ ((((0 : Int) ≤ (0 : Int)) ∧ ((0 : Int) < (↑(1 : Nat) : Int))) ∧ ((Int.toNat (0 : Int) < (1 : Nat)) ∧ (T0 ∧ (if (y < (1 : Int)) then q30 else (t2 (if (a < y) then q30 else (T0 ∧ (((q7 ≤ (0 : Int) + (1 : Int)) ∧ ((0 : Int) + (1 : Int) ≤ q6)) ∧ (t2 (if (s < (-1 : Int)) then q30 else (t2 (if (b ≤ s) then q30 else (T0 ∧ (if (@Eq Int (s) ((-1 : Int))) then q32 else (q21 ∧ ((((0 : Int) ≤ s) ∧ (s < (↑nl : Int))) ∧ (T0 ∧ ((Int.toNat s < nl) ∧ (T0 ∧ (if (@Eq Int (fl (Int.toNat s) (0 : Nat)) ((0 : Int))) then (T0 ∧ (∃ y0 : Value, (∃ y1 : List Blk, ((Go.Rx.Found 2 (Value.tuple { toList := [vi (0 : Int), vn, vn, vi (9 : Int)] }) ({ h := [q27, q24, q28, q17, q14], next := (5 : Nat) }) (y0) (y1)) ∧ (K y0 y1))))) else q32))))))))))))))))))))))))))))))))))))))
theorem con55F_rrE (a b c d e : Int) (el nl cl : Nat) (fl : RF) (et nt ct : Nat) (ft : RF) (s : Int) (y : Int) (K : Value → List Blk → Prop) : con55F_rrV a b c d e el nl cl fl et nt ct ft s y K = bodyX (mkB X55F) (callN (mkB X55F) 7) (con55F_rrA a b c d e el nl cl fl et nt ct ft s y) Try.f55 [five' a b c d e, rsl 0 0 nl cl, rsl 1 0 nt ct, .int .i64 s, .int .i64 y] (stOf [.row true [.i64, .i64] el nl cl fl, .row true [.i64] et nt ct ft]) (Fd 2 K) := by kernel_rfl
set_option tactic.hygienic false in
theorem con55F_rrP (a b c d e : Int) (el nl cl : Nat) (fl : RF) (et nt ct : Nat) (ft : RF) (s : Int) (y : Int) (K : Value → List Blk → Prop)  (hI : InC a b c d e) (hnl : nl ≤ 100000) (hnt : nt ≤ 100000) (hct : capOk (rsl 1 0 nt ct)) (h1 : askT a b c d e nl fl nt ft s y = 0) (hu : ¬ useT a fl nt ft s y) (hf : sel (selE fl 0) nl = []) (h : K (.tuple ⟨[.int .i64 (0), .slice none 0 0, .slice none 0 0, .int .i64 (5)]⟩) []) : con55F_rrV a b c d e el nl cl fl et nt ct ft s y K := by
  unfold con55F_rrV
  conv => zeta
  obtain ⟨k0, k1, k2, k3, k4, k5⟩ := askT_bck h1
  obtain ⟨g1, g2, g3, g4⟩ := bck_ok k0
  have gc := bck_ck k0
  have go := bck_one k0
  have gk := fun h : 0 < nt => go (Int.toNat ((nt : Int) - 1)) (by omega)
  have hu2 : ¬ (0 < nt ∧ fl (ft (Int.toNat (((nt : Nat) : Int) - 1)) 0).toNat 0 = 1 ∧ ¬ ft (Int.toNat (((nt : Nat) : Int) - 1)) 0 = s ∧ y ≤ a - fl (ft (Int.toNat (((nt : Nat) : Int) - 1)) 0).toNat 1) := hu
  repeat' (first | (with_reducible first | exact rfl | exact trivial | refine And.intro ?_ ?_ | refine br_intro (fun hq => ?_) fun hq => ?_ | refine if_both (fun hz => ?_) fun hz => ?_) | (intro) | fail)
  all_goals try (have gk := gk (by omega))
  all_goals try (rename Taken _ _ _ _ _ _ _ _ _ _ => T; have T0 := T.now0; have T1 := T.now1)
  all_goals first
    | omega
    | assumption
    | contradiction
    | exact fin0 (by kernel_rfl) (by kernel_rfl) (by first | exact h | simpa using h)
    | exact ask_of gc gk.1 gk.2.1
    | exact T.ask
    | exact bck_ck k0
    | (refine fin2x rfl rfl rfl (fun _ _ _ _ => rfl) (fun i j hi hj => ?_) (h _ ‹_› _ (by omega) _ (by omega))
       simp [appF])
    | exact fin2x rfl rfl rfl (fun _ _ _ _ => rfl) (fun _ _ _ _ => rfl) (h _ _ _ (placed (.inl rfl) T ‹_›) (by omega) _ (by constructor <;> (try intro k hk) <;> simp [appF, litF] <;> omega) _ (by omega) _ (by omega))
    | exact fin2x rfl rfl rfl (fun _ _ _ _ => rfl) (fun _ _ _ _ => rfl) (h _ _ _ (placed (.inl rfl) T ‹_›) (by omega) _ (by constructor <;> (try intro k hk) <;> simp [appF, litF, hk]) _ (by omega) _ (by omega))
    | (obtain rfl : nt = 0 := (by simp at hq; omega)
       first
         | exact fin2x rfl rfl rfl (fun _ _ _ _ => rfl) (fun _ _ _ _ => rfl) (h _ _ _ (placed (.inl rfl) T ‹_›) (by omega) _ (by constructor <;> (try intro k hk) <;> simp [appF, litF] <;> omega) _ (by omega) _ (by omega))
         | exact fin2x rfl rfl rfl (fun _ _ _ _ => rfl) (fun _ _ _ _ => rfl) (h _ _ _ (placed (.inl rfl) T ‹_›) (by omega) _ (by constructor <;> (try intro k hk) <;> simp [appF, litF, hk]) _ (by omega) _ (by omega)))
    | (have z : fl (ft (Int.toNat (((nt : Nat) : Int) - 1)) 0).toNat 0 = 0 := (by assumption)
       omega)
    | (exfalso; simp at hq; omega)
    | (exfalso; simp at hq; simp_all; omega)
theorem con55F_ok : BodyOk (mkB X55F) 7 Try.f55 con55F := by
  intro vs bs K hh hro
  clear hro
  unfold con55F at hh
  split at hh
  · rename_i u vl vt s y
    obtain ⟨a, b, c, d, e, rfl, hI, hh0⟩ := five_inv hh
    obtain ⟨el, nl, cl, fl, btl, rfl, hnl, rfl, hh1⟩ := parseR_inv hh0
    rcases parse_inv hh1 with ⟨rfl, hh2⟩ | ⟨et, nt, ct, ft, btt, rfl, hnt, rfl, hh2⟩ <;> clear hh1
    · obtain ⟨rfl, ⟨hct, h1, hu, hf⟩, hc⟩ := hh2
      exact ⟨_, _, cast (con55F_rnE a b c d e el nl cl fl s y K) (con55F_rnP a b c d e el nl cl fl s y K hI hnl hct h1 hu hf hc)⟩
    · obtain ⟨rfl, ⟨hct, h1, hu, hf⟩, hc⟩ := hh2
      exact ⟨_, _, cast (con55F_rrE a b c d e el nl cl fl et nt ct ft s y K) (con55F_rrP a b c d e el nl cl fl et nt ct ft s y K hI hnl hnt hct h1 hu hf hc)⟩
  · exact hh.elim
theorem con55F_told : Told 55 (specOf con55F) := toldB (X := X55F) X55F_told (by kernel_rfl) (by kernel_rfl) (by kernel_rfl) con55F_ok
end Go.Proofs.Ytkflmglpniebfaa.Fr
namespace Go.Proofs.Ytkflmglpniebfaa.Fr
set_option maxRecDepth 100000
set_option maxHeartbeats 4000000
open Go.Rx
open Go.RowKit (Below)
set_option linter.unusedVariables false
def con55TE : Con := fun vs bs K => match vs with
  | [u, vl, vt, .int .i64 s, .int .i64 y] => five u fun a b c d e => parseR [.i64, .i64] 0 vl bs fun nl fl j0 bs0 => parseR [.i64] j0 vt bs0 fun nt ft j1 bs1 => bs1 = [] ∧ ((capOk (vt)) ∧ (askT a b c d e nl fl nt ft s y = 0) ∧ (¬ useT a fl nt ft s y) ∧ (¬ sel (selE fl 0) nl = []) ∧ (nt ≤ 1000) ∧ (nt = 0)) ∧ (∀ i g z, Placed a b c d e nl fl 1 i y g → z = 1 + c + (i : Int) * a → ∀ h, App nt ft i h → ∀ cp, nl ≤ cp → ∀ cp2, nt + 1 ≤ cp2 → K (.tuple ⟨[.int .i64 z, rsl j1 0 nl cp, rsl (j1 + 1) 0 (nt + 1) cp2, .int .i64 0]⟩) [.row false [.i64, .i64] 54 nl cp g, .row false [.i64] 3 (nt + 1) cp2 h])
  | _ => False

def con55TE_rrA (a b c d e : Int) (el nl cl : Nat) (fl : RF) (et nt ct : Nat) (ft : RF) (s : Int) (y : Int) : Ann := fun _ _ _ => none
def con55TG : Con := fun vs bs K => match vs with
  | [u, vl, vt, .int .i64 s, .int .i64 y] => five u fun a b c d e => parseR [.i64, .i64] 0 vl bs fun nl fl j0 bs0 => parseR [.i64] j0 vt bs0 fun nt ft j1 bs1 => bs1 = [] ∧ ((capOk (vt)) ∧ (askT a b c d e nl fl nt ft s y = 0) ∧ (¬ useT a fl nt ft s y) ∧ (¬ sel (selE fl 0) nl = []) ∧ (nt ≤ 1000) ∧ (0 < nt)) ∧ (∀ i g z, Placed a b c d e nl fl 1 i y g → z = 1 + c + (i : Int) * a → ∀ h, App nt ft i h → ∀ cp, nl ≤ cp → ∀ cp2, nt + 1 ≤ cp2 → K (.tuple ⟨[.int .i64 z, rsl j1 0 nl cp, rsl (j1 + 1) 0 (nt + 1) cp2, .int .i64 0]⟩) [.row false [.i64, .i64] 54 nl cp g, .row false [.i64] 3 (nt + 1) cp2 h])
  | _ => False

def con55TG_rrA (a b c d e : Int) (el nl cl : Nat) (fl : RF) (et nt ct : Nat) (ft : RF) (s : Int) (y : Int) : Ann := fun _ _ _ => none
def con55TN : Con := fun vs bs K => match vs with
  | [u, vl, .slice none 0 0, .int .i64 s, .int .i64 y] => five u fun a b c d e => parseR [.i64, .i64] 0 vl bs fun nl fl j0 bs0 => bs0 = [] ∧ ((capOk (.slice none 0 0)) ∧ (askT a b c d e nl fl 0 zF s y = 0) ∧ (¬ useT a fl 0 zF s y) ∧ (¬ sel (selE fl 0) nl = []) ∧ (0 ≤ 1000)) ∧ (∀ i g z, Placed a b c d e nl fl 1 i y g → z = 1 + c + (i : Int) * a → ∀ h, App 0 zF i h → ∀ cp, nl ≤ cp → ∀ cp2, 0 + 1 ≤ cp2 → K (.tuple ⟨[.int .i64 z, rsl j0 0 nl cp, rsl (j0 + 1) 0 (0 + 1) cp2, .int .i64 0]⟩) [.row false [.i64, .i64] 54 nl cp g, .row false [.i64] 3 (0 + 1) cp2 h])
  | _ => False

def con55TN_rA (a b c d e : Int) (el nl cl : Nat) (fl : RF) (s : Int) (y : Int) : Ann := fun _ _ _ => none
def con55TE_rrV (a b c d e : Int) (el nl cl : Nat) (fl : RF) (et nt ct : Nat) (ft : RF) (s : Int) (y : Int) (K : Value → List Blk → Prop) : Prop := let q0 := ((0 : Nat) + nl ≤ nl); let q1 := ((0 : Nat) + nt ≤ nt); let q2 := (nl ≤ (100000 : Nat)); let q3 := (nt ≤ (100000 : Nat)); let q4 := eB; let q5 := (List.length [IntKind.i64]); let q6 := (@Eq Nat ((0 : Nat)) ((0 : Nat))); let q7 := (@Eq Nat ((1 : Nat)) ((1 : Nat))); let q8 := TS; let q9 := (litF q5 ([y] ++ [])); let q10 := (some (Blk.row true [IntKind.i64] et nt ct ft)); let q11 := ((1 : Nat), Blk.row true [IntKind.i64] et nt ct ft); let q12 := (some (rT el nl cl fl)); let q13 := ((0 : Nat), rT el nl cl fl); let q14 := (some (Blk.row false [IntKind.i64] (3 : Nat) (0 : Nat) (0 : Nat) ft)); let q15 := eK; let q16 := ((@Eq (List IntKind) ([IntKind.i64]) ([IntKind.i64])) ∧ ((@Eq Nat (nt) (nt)) ∧ (@Eq Nat (ct) (ct)))); let q17 := (some (Blk.row false [IntKind.i64] (3 : Nat) (1 : Nat) (1 : Nat) q9)); let q18 := ((3 : Nat), Blk.row false [IntKind.i64] (3 : Nat) (1 : Nat) (1 : Nat) q9); let q19 := (q15 ∧ ((@Eq Nat (nl) (nl)) ∧ (@Eq Nat (cl) (cl)))); let q20 := (some (Blk.cells [vi a, vi b, vi c, vi d, vi e] (23 : Nat))); let q21 := ((4 : Nat), Blk.cells [vi a, vi b, vi c, vi d, vi e] (23 : Nat)); let q22 := ((2 : Nat), Blk.cells [vi a, vi b, vi c, vi d, vi e] (23 : Nat)); let q23 := (@Eq (Option Blk) q20 q20); let q24 := (T0 ∧ (∃ y0 : Value, (∃ y1 : List Blk, ((Go.Rx.Found 2 (Value.tuple { toList := [vi (0 : Int), vn, vn, vi (7 : Int)] }) ({ h := [q21, q18, q22, q13, q11], next := (5 : Nat) }) (y0) (y1)) ∧ (K y0 y1))))); let q25 := (q23 ∧ ((@Eq (Option Blk) q17 q17) ∧ (q23 ∧ ((@Eq (Option Blk) q12 q12) ∧ ((@Eq (Option Blk) q10 q10) ∧ (True)))))); let q26 := (t6 (q0 ∧ (q6 ∧ (q2 ∧ (q19 ∧ (q4 ∧ (∀ y0 : Nat, let q33 := (some (rF (54 : Nat) nl y0 fl)); let q34 := (some (Blk.cells [vi a, vi b, vi c, vi d, vi e, rsl (5 : Nat) (0 : Nat) nl y0, rsl (6 : Nat) (0 : Nat) (0 : Nat) (0 : Nat), vi s] (100 : Nat))); let q35 := ((@Eq (Option Blk) q14 q14) ∧ ((@Eq (Option Blk) q33 q33) ∧ q25)); ((nl ≤ y0) → (q25 ∧ (q25 ∧ (q1 ∧ (q6 ∧ (q3 ∧ (q16 ∧ (q4 ∧ ((@Eq Nat (nt) ((0 : Nat))) ∧ (q25 ∧ (q25 ∧ (q25 ∧ (q25 ∧ (t7 (q8 ∧ (t9 (t9 (t4 (q0 ∧ (T0 ∧ ((InC a b c d e) ∧ (q6 ∧ (q2 ∧ ((q15 ∧ ((@Eq Nat (nl) (nl)) ∧ (@Eq Nat (y0) (y0)))) ∧ (q4 ∧ (((@Eq Int (Prod.snd (ckF a b c d e nl fl)) ((0 : Int))) ∧ (¬sel (selE fl (0 : Int)) nl = [])) ∧ (∀ y1 : Nat, let q30 := (litF q5 ([(↑y1 : Int)] ++ [])); let q31 := (appF (fun x x_1 ↦ (0 : Int)) (0 : Nat) q30 (0 : Nat)); let q32 := (some (Blk.row false [IntKind.i64] (3 : Nat) (1 : Nat) (1 : Nat) q30)); (∀ y2 : Nat → Nat → Int, ((Taken a b c d e nl fl (1 : Int) y1 y2) → (∀ y3 : Nat, let q36 := (some (rF (54 : Nat) nl y3 y2)); ((nl ≤ y3) → (((@Eq (Option Blk) q34 q34) ∧ q35) ∧ (t9 (q8 ∧ (t4 (q8 ∧ (q8 ∧ (t4 (((1 : Nat) ≤ (1 : Nat)) ∧ (((1 : Nat) ≤ (100000 : Nat)) ∧ (T0 ∧ (q6 ∧ (∀ y4 : Nat, let q27 := (y4 - (1 : Nat) + (1 : Nat)); let q28 := (some (Blk.row false [IntKind.i64] (3 : Nat) (1 : Nat) q27 q31)); let q29 := (some (Blk.cells [vi a, vi b, vi c, vi d, vi e, rsl (8 : Nat) (0 : Nat) nl y3, rsl (10 : Nat) (0 : Nat) (1 : Nat) q27, vi s] (100 : Nat))); (((1 : Nat) ≤ y4) → (t9 (t9 (t2 (q0 ∧ (t2 ((InC a b c d e) ∧ (q6 ∧ (q2 ∧ ((q15 ∧ ((@Eq Nat (nl) (nl)) ∧ (@Eq Nat (y3) (y3)))) ∧ (q4 ∧ (((@Eq Int (askF a b c d e nl y2 (↑y1 : Int)) ((0 : Int))) ∧ (((1 : Int) ≤ y) ∧ ((¬y2 y1 (0 : Nat) = (0 : Int)) ∧ (y ≤ a - y2 y1 (1 : Nat))))) ∧ (∀ y5 : Nat → Nat → Int, ((Bumped a b c d e nl y2 (↑y1 : Int) y y5) → (∀ y6 : Nat, ((nl ≤ y6) → (((@Eq (Option Blk) q28 q28) ∧ ((@Eq (Option Blk) q32 q32) ∧ ((@Eq (Option Blk) q36 q36) ∧ ((@Eq (Option Blk) q29 q29) ∧ q35)))) ∧ (t9 (t9 (t8 (∃ y7 : Value, (∃ y8 : List Blk, ((Go.Rx.Found 2 (Value.tuple { toList := [vi ((1 : Int) + c + (↑y1 : Int) * a + y2 y1 (1 : Nat)), rsl (11 : Nat) (0 : Nat) nl y6, rsl (10 : Nat) (0 : Nat) (1 : Nat) q27, vi (0 : Int)] }) ({ h := [((11 : Nat), rF (54 : Nat) nl y6 y5), ((10 : Nat), Blk.row false [IntKind.i64] (3 : Nat) (1 : Nat) q27 q31), ((9 : Nat), Blk.row false [IntKind.i64] (3 : Nat) (1 : Nat) (1 : Nat) q30), ((8 : Nat), rF (54 : Nat) nl y3 y2), ((7 : Nat), Blk.cells [vi a, vi b, vi c, vi d, vi e, rsl (11 : Nat) (0 : Nat) nl y6, rsl (10 : Nat) (0 : Nat) (1 : Nat) q27, vi s] (100 : Nat)), ((6 : Nat), Blk.row false [IntKind.i64] (3 : Nat) (0 : Nat) (0 : Nat) ft), ((5 : Nat), rF (54 : Nat) nl y0 fl), q21, q18, q22, q13, q11], next := (12 : Nat) }) (y7) (y8)) ∧ (K y7 y8)))))))))))))))))))))))))))))))))))))))))))))))))))))))))))))))))))))))))); (t2 (q8 ∧ (t7 (q0 ∧ (q1 ∧ ((InC a b c d e) ∧ (q6 ∧ (q2 ∧ (q19 ∧ (q7 ∧ (q3 ∧ (q16 ∧ (q4 ∧ (((Nat.le nt ct) ∧ (@Eq Int (Prod.snd (bck a b c d e nl fl nt ft)) ((0 : Int)))) ∧ (T0 ∧ (q8 ∧ (T0 ∧ ((q8 ∧ q7) ∧ ((((0 : Int) ≤ (0 : Int)) ∧ ((0 : Int) < (↑(1 : Nat) : Int))) ∧ ((Int.toNat (0 : Int) < (1 : Nat)) ∧ (T0 ∧ (if (y < (1 : Int)) then q24 else (t2 (if (a < y) then q24 else (T0 ∧ ((((-9223372036854775808 : Int) ≤ (0 : Int) + (1 : Int)) ∧ ((0 : Int) + (1 : Int) ≤ (9223372036854775807 : Int))) ∧ (t2 (if (s < (-1 : Int)) then q24 else (t2 (if (b ≤ s) then q24 else (T0 ∧ (if (@Eq Int (s) ((-1 : Int))) then q26 else ((q8 ∧ (@Eq Nat ((2 : Nat)) ((2 : Nat)))) ∧ ((((0 : Int) ≤ s) ∧ (s < (↑nl : Int))) ∧ (T0 ∧ ((Int.toNat s < nl) ∧ (T0 ∧ (if (@Eq Int (fl (Int.toNat s) (0 : Nat)) ((0 : Int))) then (T0 ∧ (∃ y0 : Value, (∃ y1 : List Blk, ((Go.Rx.Found 2 (Value.tuple { toList := [vi (0 : Int), vn, vn, vi (9 : Int)] }) ({ h := [q21, q18, q22, q13, q11], next := (5 : Nat) }) (y0) (y1)) ∧ (K y0 y1))))) else q26))))))))))))))))))))))))))))))))))))))
theorem con55TE_rrE (a b c d e : Int) (el nl cl : Nat) (fl : RF) (et nt ct : Nat) (ft : RF) (s : Int) (y : Int) (K : Value → List Blk → Prop) : con55TE_rrV a b c d e el nl cl fl et nt ct ft s y K = bodyX (mkB X55TE) (callN (mkB X55TE) 7) (con55TE_rrA a b c d e el nl cl fl et nt ct ft s y) Try.f55 [five' a b c d e, rsl 0 0 nl cl, rsl 1 0 nt ct, .int .i64 s, .int .i64 y] (stOf [.row true [.i64, .i64] el nl cl fl, .row true [.i64] et nt ct ft]) (Fd 2 K) := by kernel_rfl
set_option tactic.hygienic false in
theorem con55TE_rrP (a b c d e : Int) (el nl cl : Nat) (fl : RF) (et nt ct : Nat) (ft : RF) (s : Int) (y : Int) (K : Value → List Blk → Prop)  (hI : InC a b c d e) (hnl : nl ≤ 100000) (hnt : nt ≤ 100000) (hct : capOk (rsl 1 0 nt ct)) (h1 : askT a b c d e nl fl nt ft s y = 0) (hu : ¬ useT a fl nt ft s y) (hf : ¬ sel (selE fl 0) nl = []) (hbd : nt ≤ 1000) (ht : nt = 0) (h : ∀ i g z, Placed a b c d e nl fl 1 i y g → z = 1 + c + (i : Int) * a → ∀ h, App nt ft i h → ∀ cp, nl ≤ cp → ∀ cp2, nt + 1 ≤ cp2 → K (.tuple ⟨[.int .i64 z, rsl 2 0 nl cp, rsl (2 + 1) 0 (nt + 1) cp2, .int .i64 0]⟩) [.row false [.i64, .i64] 54 nl cp g, .row false [.i64] 3 (nt + 1) cp2 h]) : con55TE_rrV a b c d e el nl cl fl et nt ct ft s y K := by
  unfold con55TE_rrV
  conv => zeta
  obtain ⟨k0, k1, k2, k3, k4, k5⟩ := askT_bck h1
  obtain ⟨g1, g2, g3, g4⟩ := bck_ok k0
  have gc := bck_ck k0
  have go := bck_one k0
  have gk := fun h : 0 < nt => go (Int.toNat ((nt : Int) - 1)) (by omega)
  have hu2 : ¬ (0 < nt ∧ fl (ft (Int.toNat (((nt : Nat) : Int) - 1)) 0).toNat 0 = 1 ∧ ¬ ft (Int.toNat (((nt : Nat) : Int) - 1)) 0 = s ∧ y ≤ a - fl (ft (Int.toNat (((nt : Nat) : Int) - 1)) 0).toNat 1) := hu
  subst ht
  repeat' (first | (with_reducible first | exact rfl | exact trivial | refine And.intro ?_ ?_ | refine br_intro (fun hq => ?_) fun hq => ?_ | refine if_both (fun hz => ?_) fun hz => ?_) | (intro) | fail)
  all_goals try (have gk := gk (by omega))
  all_goals try (rename Taken _ _ _ _ _ _ _ _ _ _ => T; have T0 := T.now0; have T1 := T.now1)
  all_goals first
    | omega
    | assumption
    | contradiction
    | exact fin0 (by kernel_rfl) (by kernel_rfl) (by first | exact h | simpa using h)
    | exact ask_of gc gk.1 gk.2.1
    | exact T.ask
    | exact bck_ck k0
    | (refine fin2x rfl rfl rfl (fun _ _ _ _ => rfl) (fun i j hi hj => ?_) (h _ ‹_› _ (by omega) _ (by omega))
       simp [appF])
    | exact fin2x rfl rfl rfl (fun _ _ _ _ => rfl) (fun _ _ _ _ => rfl) (h _ _ _ (placed (.inl rfl) T ‹_›) (by omega) _ (by constructor <;> (try intro k hk) <;> simp [appF, litF] <;> omega) _ (by omega) _ (by omega))
    | exact fin2x rfl rfl rfl (fun _ _ _ _ => rfl) (fun _ _ _ _ => rfl) (h _ _ _ (placed (.inl rfl) T ‹_›) (by omega) _ (by constructor <;> (try intro k hk) <;> simp [appF, litF, hk]) _ (by omega) _ (by omega))
    | (obtain rfl : nt = 0 := (by simp at hq; omega)
       first
         | exact fin2x rfl rfl rfl (fun _ _ _ _ => rfl) (fun _ _ _ _ => rfl) (h _ _ _ (placed (.inl rfl) T ‹_›) (by omega) _ (by constructor <;> (try intro k hk) <;> simp [appF, litF] <;> omega) _ (by omega) _ (by omega))
         | exact fin2x rfl rfl rfl (fun _ _ _ _ => rfl) (fun _ _ _ _ => rfl) (h _ _ _ (placed (.inl rfl) T ‹_›) (by omega) _ (by constructor <;> (try intro k hk) <;> simp [appF, litF, hk]) _ (by omega) _ (by omega)))
    | (have z : fl (ft (Int.toNat (((nt : Nat) : Int) - 1)) 0).toNat 0 = 0 := (by assumption)
       omega)
    | (exfalso; simp at hq; omega)
    | (exfalso; simp at hq; simp_all; omega)
theorem con55TE_ok : BodyOk (mkB X55TE) 7 Try.f55 con55TE := by
  intro vs bs K hh hro
  clear hro
  unfold con55TE at hh
  split at hh
  · rename_i u vl vt s y
    obtain ⟨a, b, c, d, e, rfl, hI, hh0⟩ := five_inv hh
    obtain ⟨el, nl, cl, fl, btl, rfl, hnl, rfl, hh1⟩ := parseR_inv hh0
    obtain ⟨et, nt, ct, ft, btt, rfl, hnt, rfl, hh2⟩ := parseR_inv hh1
    obtain ⟨rfl, ⟨hct, h1, hu, hf, hbd, ht⟩, hc⟩ := hh2
    exact ⟨_, _, cast (con55TE_rrE a b c d e el nl cl fl et nt ct ft s y K) (con55TE_rrP a b c d e el nl cl fl et nt ct ft s y K hI hnl hnt hct h1 hu hf hbd ht hc)⟩
  · exact hh.elim
theorem con55TE_told : Told 55 (specOf con55TE) := toldB (X := X55TE) X55TE_told (by kernel_rfl) (by kernel_rfl) (by kernel_rfl) con55TE_ok
def con55TG_rrV (a b c d e : Int) (el nl cl : Nat) (fl : RF) (et nt ct : Nat) (ft : RF) (s : Int) (y : Int) (K : Value → List Blk → Prop) : Prop := let q0 := ((0 : Nat) + nl ≤ nl); let q1 := ((0 : Nat) + nt ≤ nt); let q2 := (nl ≤ (100000 : Nat)); let q3 := (nt ≤ (100000 : Nat)); let q4 := ((↑nt : Int) - (1 : Int)); let q5 := eB; let q6 := (List.length [IntKind.i64]); let q7 := (9223372036854775807 : Int); let q8 := (-9223372036854775808 : Int); let q9 := (@Eq Nat ((0 : Nat)) ((0 : Nat))); let q10 := (@Eq Nat ((1 : Nat)) ((1 : Nat))); let q11 := (Int.toNat q4); let q12 := TS; let q13 := (litF q6 ([y] ++ [])); let q14 := (some (Blk.row true [IntKind.i64] et nt ct ft)); let q15 := ((1 : Nat), Blk.row true [IntKind.i64] et nt ct ft); let q16 := (ft q11 (0 : Nat)); let q17 := (some (rT el nl cl fl)); let q18 := ((0 : Nat), rT el nl cl fl); let q19 := (Int.toNat q16); let q20 := eK; let q21 := (q12 ∧ q10); let q22 := (q12 ∧ (@Eq Nat ((2 : Nat)) ((2 : Nat)))); let q23 := (¬fl q19 (0 : Nat) = (0 : Int)); let q24 := (@Eq Int (askF a b c d e nl fl q16) ((0 : Int))); let q25 := ((@Eq (List IntKind) ([IntKind.i64]) ([IntKind.i64])) ∧ ((@Eq Nat (nt) (nt)) ∧ (@Eq Nat (ct) (ct)))); let q26 := (some (Blk.row false [IntKind.i64] (3 : Nat) (1 : Nat) (1 : Nat) q13)); let q27 := ((3 : Nat), Blk.row false [IntKind.i64] (3 : Nat) (1 : Nat) (1 : Nat) q13); let q28 := (q20 ∧ ((@Eq Nat (nl) (nl)) ∧ (@Eq Nat (cl) (cl)))); let q29 := (some (Blk.cells [vi a, vi b, vi c, vi d, vi e] (23 : Nat))); let q30 := ((4 : Nat), Blk.cells [vi a, vi b, vi c, vi d, vi e] (23 : Nat)); let q31 := ((2 : Nat), Blk.cells [vi a, vi b, vi c, vi d, vi e] (23 : Nat)); let q32 := (@Eq (Option Blk) q29 q29); let q33 := (T0 ∧ (∃ y0 : Value, (∃ y1 : List Blk, ((Go.Rx.Found 2 (Value.tuple { toList := [vi (0 : Int), vn, vn, vi (7 : Int)] }) ({ h := [q30, q27, q31, q18, q15], next := (5 : Nat) }) (y0) (y1)) ∧ (K y0 y1))))); let q34 := (q32 ∧ ((@Eq (Option Blk) q26 q26) ∧ (q32 ∧ ((@Eq (Option Blk) q17 q17) ∧ ((@Eq (Option Blk) q14 q14) ∧ (True)))))); let q35 := (t6 (q0 ∧ (q9 ∧ (q2 ∧ (q28 ∧ (q5 ∧ (∀ y0 : Nat, let q41 := (some (rF (54 : Nat) nl y0 fl)); let q42 := ((5 : Nat), rF (54 : Nat) nl y0 fl); let q43 := (q20 ∧ ((@Eq Nat (nl) (nl)) ∧ (@Eq Nat (y0) (y0)))); let q44 := ((@Eq (Option Blk) q41 q41) ∧ q34); ((nl ≤ y0) → (q34 ∧ (q34 ∧ (q1 ∧ (q9 ∧ (q3 ∧ (q25 ∧ (q5 ∧ (((0 : Nat) < nt) ∧ (∀ y1 : Nat, let q36 := (some (Blk.row false [IntKind.i64] (3 : Nat) nt (y1 + (1 : Nat)) ft)); let q37 := (some (Blk.cells [vi a, vi b, vi c, vi d, vi e, rsl (5 : Nat) (0 : Nat) nl y0, rsl (6 : Nat) (0 : Nat) nt (y1 + (1 : Nat)), vi s] (100 : Nat))); let q38 := ((@Eq (Option Blk) q37 q37) ∧ ((@Eq (Option Blk) q36 q36) ∧ q44)); let q39 := (t9 (t7 (q0 ∧ (T0 ∧ ((InC a b c d e) ∧ (q9 ∧ (q2 ∧ (q43 ∧ (q5 ∧ (((@Eq Int (Prod.snd (ckF a b c d e nl fl)) ((0 : Int))) ∧ (¬sel (selE fl (0 : Int)) nl = [])) ∧ (∀ y2 : Nat, let q48 := (litF q6 ([(↑y2 : Int)] ++ [])); let q49 := (appF ft nt q48 (0 : Nat)); let q50 := (some (Blk.row false [IntKind.i64] (3 : Nat) (1 : Nat) (1 : Nat) q48)); (∀ y3 : Nat → Nat → Int, ((Taken a b c d e nl fl (1 : Int) y2 y3) → (∀ y4 : Nat, let q51 := (some (rF (54 : Nat) nl y4 y3)); ((nl ≤ y4) → (q38 ∧ (t9 (q12 ∧ (t4 (q12 ∧ (q12 ∧ (t4 (((1 : Nat) ≤ (1 : Nat)) ∧ (((1 : Nat) ≤ (100000 : Nat)) ∧ (T0 ∧ ((T0 ∧ ((false = false) ∧ (q9 ∧ ((@Eq Nat (nt) (nt)) ∧ ((@Eq Nat (y1 + (1 : Nat)) (y1 + (1 : Nat))) ∧ (nt + (1 : Nat) ≤ (100000 : Nat))))))) ∧ (∀ y5 : Nat, let q45 := (y5 - (1 : Nat) + (1 : Nat)); let q46 := (some (Blk.row false [IntKind.i64] (3 : Nat) (nt + (1 : Nat)) q45 q49)); let q47 := (some (Blk.cells [vi a, vi b, vi c, vi d, vi e, rsl (8 : Nat) (0 : Nat) nl y4, rsl (10 : Nat) (0 : Nat) (nt + (1 : Nat)) q45, vi s] (100 : Nat))); ((nt + (1 : Nat) ≤ y5) → (t9 (t9 (t2 (q0 ∧ (t2 ((InC a b c d e) ∧ (q9 ∧ (q2 ∧ ((q20 ∧ ((@Eq Nat (nl) (nl)) ∧ (@Eq Nat (y4) (y4)))) ∧ (q5 ∧ (((@Eq Int (askF a b c d e nl y3 (↑y2 : Int)) ((0 : Int))) ∧ (((1 : Int) ≤ y) ∧ ((¬y3 y2 (0 : Nat) = (0 : Int)) ∧ (y ≤ a - y3 y2 (1 : Nat))))) ∧ (∀ y6 : Nat → Nat → Int, ((Bumped a b c d e nl y3 (↑y2 : Int) y y6) → (∀ y7 : Nat, ((nl ≤ y7) → (((@Eq (Option Blk) q46 q46) ∧ ((@Eq (Option Blk) q50 q50) ∧ ((@Eq (Option Blk) q51 q51) ∧ ((@Eq (Option Blk) q47 q47) ∧ q44)))) ∧ (t9 (t9 (t8 (∃ y8 : Value, (∃ y9 : List Blk, ((Go.Rx.Found 2 (Value.tuple { toList := [vi ((1 : Int) + c + (↑y2 : Int) * a + y3 y2 (1 : Nat)), rsl (11 : Nat) (0 : Nat) nl y7, rsl (10 : Nat) (0 : Nat) (nt + (1 : Nat)) q45, vi (0 : Int)] }) ({ h := [((11 : Nat), rF (54 : Nat) nl y7 y6), ((10 : Nat), Blk.row false [IntKind.i64] (3 : Nat) (nt + (1 : Nat)) q45 q49), ((9 : Nat), Blk.row false [IntKind.i64] (3 : Nat) (1 : Nat) (1 : Nat) q48), ((8 : Nat), rF (54 : Nat) nl y4 y3), ((7 : Nat), Blk.cells [vi a, vi b, vi c, vi d, vi e, rsl (11 : Nat) (0 : Nat) nl y7, rsl (10 : Nat) (0 : Nat) (nt + (1 : Nat)) q45, vi s] (100 : Nat)), q42, q30, q27, q31, q18, q15], next := (12 : Nat) }) (y8) (y9)) ∧ (K y8 y9))))))))))))))))))))))))))))))))))))))))))))))))))); let q40 := (T0 ∧ q39); ((nt ≤ y1 + (1 : Nat)) → (q34 ∧ (q34 ∧ (q34 ∧ (q34 ∧ (t7 (q12 ∧ (T0 ∧ (if (@Eq Int ((↑nt : Int)) ((0 : Int))) then (t4 q40) else (t9 (t3 (q12 ∧ (t2 (((q8 ≤ (↑nt : Int) - (1 : Int)) ∧ ((↑nt : Int) - (1 : Int) ≤ q7)) ∧ (T0 ∧ (q21 ∧ ((((0 : Int) ≤ (↑nt : Int) - (1 : Int)) ∧ ((↑nt : Int) - (1 : Int) < (↑nt : Int))) ∧ (T0 ∧ ((Int.toNat q4 < nt) ∧ (t9 (t4 (q22 ∧ ((((0 : Int) ≤ ft q11 (0 : Nat)) ∧ (ft q11 (0 : Nat) < (↑nl : Int))) ∧ (T0 ∧ ((Int.toNat q16 < nl) ∧ (T0 ∧ (if (@Eq Int (fl q19 (0 : Nat)) ((2 : Int))) then (q38 ∧ q40) else (q38 ∧ (t2 (if (@Eq Int q16 (s)) then q40 else (t9 (t8 (q0 ∧ (T0 ∧ ((InC a b c d e) ∧ (q9 ∧ (q2 ∧ (q43 ∧ (q5 ∧ ((q24 ∧ q23) ∧ (q38 ∧ (t2 (if (a - fl q19 (1 : Nat) < y) then q39 else (t9 (t8 (q0 ∧ (t2 ((InC a b c d e) ∧ (q9 ∧ (q2 ∧ (q43 ∧ (q5 ∧ ((q24 ∧ (((1 : Int) ≤ y) ∧ (q23 ∧ (y ≤ a - fl q19 (1 : Nat))))) ∧ (∀ y2 : Nat → Nat → Int, ((Bumped a b c d e nl fl q16 y y2) → (∀ y3 : Nat, ((nl ≤ y3) → (q38 ∧ (t9 (t9 (t8 (∃ y4 : Value, (∃ y5 : List Blk, ((Go.Rx.Found 2 (Value.tuple { toList := [vi ((1 : Int) + c + ft q11 (0 : Nat) * a + fl q19 (1 : Nat)), rsl (8 : Nat) (0 : Nat) nl y3, rsl (6 : Nat) (0 : Nat) nt (y1 + (1 : Nat)), vi (0 : Int)] }) ({ h := [((8 : Nat), rF (54 : Nat) nl y3 y2), ((7 : Nat), Blk.cells [vi a, vi b, vi c, vi d, vi e, rsl (8 : Nat) (0 : Nat) nl y3, rsl (6 : Nat) (0 : Nat) nt (y1 + (1 : Nat)), vi s] (100 : Nat)), ((6 : Nat), Blk.row false [IntKind.i64] (3 : Nat) nt (y1 + (1 : Nat)) ft), q42, q30, q27, q31, q18, q15], next := (9 : Nat) }) (y4) (y5)) ∧ (K y4 y5)))))))))))))))))))))))))))))))))))))))))))))))))))))))))))))))))))))))))))))))))); (t2 (q12 ∧ (t7 (q0 ∧ (q1 ∧ ((InC a b c d e) ∧ (q9 ∧ (q2 ∧ (q28 ∧ (q10 ∧ (q3 ∧ (q25 ∧ (q5 ∧ (((Nat.le nt ct) ∧ (@Eq Int (Prod.snd (bck a b c d e nl fl nt ft)) ((0 : Int)))) ∧ (T0 ∧ (q12 ∧ (T0 ∧ (q21 ∧ ((((0 : Int) ≤ (0 : Int)) ∧ ((0 : Int) < (↑(1 : Nat) : Int))) ∧ ((Int.toNat (0 : Int) < (1 : Nat)) ∧ (T0 ∧ (if (y < (1 : Int)) then q33 else (t2 (if (a < y) then q33 else (T0 ∧ (((q8 ≤ (0 : Int) + (1 : Int)) ∧ ((0 : Int) + (1 : Int) ≤ q7)) ∧ (t2 (if (s < (-1 : Int)) then q33 else (t2 (if (b ≤ s) then q33 else (T0 ∧ (if (@Eq Int (s) ((-1 : Int))) then q35 else (q22 ∧ ((((0 : Int) ≤ s) ∧ (s < (↑nl : Int))) ∧ (T0 ∧ ((Int.toNat s < nl) ∧ (T0 ∧ (if (@Eq Int (fl (Int.toNat s) (0 : Nat)) ((0 : Int))) then (T0 ∧ (∃ y0 : Value, (∃ y1 : List Blk, ((Go.Rx.Found 2 (Value.tuple { toList := [vi (0 : Int), vn, vn, vi (9 : Int)] }) ({ h := [q30, q27, q31, q18, q15], next := (5 : Nat) }) (y0) (y1)) ∧ (K y0 y1))))) else q35))))))))))))))))))))))))))))))))))))))
theorem con55TG_rrE (a b c d e : Int) (el nl cl : Nat) (fl : RF) (et nt ct : Nat) (ft : RF) (s : Int) (y : Int) (K : Value → List Blk → Prop) : con55TG_rrV a b c d e el nl cl fl et nt ct ft s y K = bodyX (mkB X55TG) (callN (mkB X55TG) 7) (con55TG_rrA a b c d e el nl cl fl et nt ct ft s y) Try.f55 [five' a b c d e, rsl 0 0 nl cl, rsl 1 0 nt ct, .int .i64 s, .int .i64 y] (stOf [.row true [.i64, .i64] el nl cl fl, .row true [.i64] et nt ct ft]) (Fd 2 K) := by kernel_rfl
set_option tactic.hygienic false in
theorem con55TG_rrP (a b c d e : Int) (el nl cl : Nat) (fl : RF) (et nt ct : Nat) (ft : RF) (s : Int) (y : Int) (K : Value → List Blk → Prop)  (hI : InC a b c d e) (hnl : nl ≤ 100000) (hnt : nt ≤ 100000) (hct : capOk (rsl 1 0 nt ct)) (h1 : askT a b c d e nl fl nt ft s y = 0) (hu : ¬ useT a fl nt ft s y) (hf : ¬ sel (selE fl 0) nl = []) (hbd : nt ≤ 1000) (ht : 0 < nt) (h : ∀ i g z, Placed a b c d e nl fl 1 i y g → z = 1 + c + (i : Int) * a → ∀ h, App nt ft i h → ∀ cp, nl ≤ cp → ∀ cp2, nt + 1 ≤ cp2 → K (.tuple ⟨[.int .i64 z, rsl 2 0 nl cp, rsl (2 + 1) 0 (nt + 1) cp2, .int .i64 0]⟩) [.row false [.i64, .i64] 54 nl cp g, .row false [.i64] 3 (nt + 1) cp2 h]) : con55TG_rrV a b c d e el nl cl fl et nt ct ft s y K := by
  unfold con55TG_rrV
  conv => zeta
  obtain ⟨k0, k1, k2, k3, k4, k5⟩ := askT_bck h1
  obtain ⟨g1, g2, g3, g4⟩ := bck_ok k0
  have gc := bck_ck k0
  have go := bck_one k0
  have gk := fun h : 0 < nt => go (Int.toNat ((nt : Int) - 1)) (by omega)
  have hu2 : ¬ (0 < nt ∧ fl (ft (Int.toNat (((nt : Nat) : Int) - 1)) 0).toNat 0 = 1 ∧ ¬ ft (Int.toNat (((nt : Nat) : Int) - 1)) 0 = s ∧ y ≤ a - fl (ft (Int.toNat (((nt : Nat) : Int) - 1)) 0).toNat 1) := hu
  repeat' (first | (with_reducible first | exact rfl | exact trivial | refine And.intro ?_ ?_ | refine br_intro (fun hq => ?_) fun hq => ?_ | refine if_both (fun hz => ?_) fun hz => ?_) | (intro) | fail)
  all_goals try (have gk := gk (by omega))
  all_goals try (rename Taken _ _ _ _ _ _ _ _ _ _ => T; have T0 := T.now0; have T1 := T.now1)
  all_goals first
    | omega
    | assumption
    | contradiction
    | exact fin0 (by kernel_rfl) (by kernel_rfl) (by first | exact h | simpa using h)
    | exact ask_of gc gk.1 gk.2.1
    | exact T.ask
    | exact bck_ck k0
    | (refine fin2x rfl rfl rfl (fun _ _ _ _ => rfl) (fun i j hi hj => ?_) (h _ ‹_› _ (by omega) _ (by omega))
       simp [appF])
    | exact fin2x rfl rfl rfl (fun _ _ _ _ => rfl) (fun _ _ _ _ => rfl) (h _ _ _ (placed (.inl rfl) T ‹_›) (by omega) _ (by constructor <;> (try intro k hk) <;> simp [appF, litF] <;> omega) _ (by omega) _ (by omega))
    | exact fin2x rfl rfl rfl (fun _ _ _ _ => rfl) (fun _ _ _ _ => rfl) (h _ _ _ (placed (.inl rfl) T ‹_›) (by omega) _ (by constructor <;> (try intro k hk) <;> simp [appF, litF, hk]) _ (by omega) _ (by omega))
    | (obtain rfl : nt = 0 := (by simp at hq; omega)
       first
         | exact fin2x rfl rfl rfl (fun _ _ _ _ => rfl) (fun _ _ _ _ => rfl) (h _ _ _ (placed (.inl rfl) T ‹_›) (by omega) _ (by constructor <;> (try intro k hk) <;> simp [appF, litF] <;> omega) _ (by omega) _ (by omega))
         | exact fin2x rfl rfl rfl (fun _ _ _ _ => rfl) (fun _ _ _ _ => rfl) (h _ _ _ (placed (.inl rfl) T ‹_›) (by omega) _ (by constructor <;> (try intro k hk) <;> simp [appF, litF, hk]) _ (by omega) _ (by omega)))
    | (have z : fl (ft (Int.toNat (((nt : Nat) : Int) - 1)) 0).toNat 0 = 0 := (by assumption)
       omega)
    | (exfalso; simp at hq; omega)
    | (exfalso; simp at hq; simp_all; omega)
theorem con55TG_ok : BodyOk (mkB X55TG) 7 Try.f55 con55TG := by
  intro vs bs K hh hro
  clear hro
  unfold con55TG at hh
  split at hh
  · rename_i u vl vt s y
    obtain ⟨a, b, c, d, e, rfl, hI, hh0⟩ := five_inv hh
    obtain ⟨el, nl, cl, fl, btl, rfl, hnl, rfl, hh1⟩ := parseR_inv hh0
    obtain ⟨et, nt, ct, ft, btt, rfl, hnt, rfl, hh2⟩ := parseR_inv hh1
    obtain ⟨rfl, ⟨hct, h1, hu, hf, hbd, ht⟩, hc⟩ := hh2
    exact ⟨_, _, cast (con55TG_rrE a b c d e el nl cl fl et nt ct ft s y K) (con55TG_rrP a b c d e el nl cl fl et nt ct ft s y K hI hnl hnt hct h1 hu hf hbd ht hc)⟩
  · exact hh.elim
theorem con55TG_told : Told 55 (specOf con55TG) := toldB (X := X55TG) X55TG_told (by kernel_rfl) (by kernel_rfl) (by kernel_rfl) con55TG_ok
def con55TN_rV (a b c d e : Int) (el nl cl : Nat) (fl : RF) (s : Int) (y : Int) (K : Value → List Blk → Prop) : Prop := let q0 := ((0 : Nat) + nl ≤ nl); let q1 := (nl ≤ (100000 : Nat)); let q2 := eB; let q3 := (List.length [IntKind.i64]); let q4 := (@Eq Nat ((0 : Nat)) ((0 : Nat))); let q5 := TS; let q6 := (litF q3 ([y] ++ [])); let q7 := (some (rT el nl cl fl)); let q8 := ((0 : Nat), rT el nl cl fl); let q9 := eK; let q10 := (some (Blk.row false [IntKind.i64] (3 : Nat) (1 : Nat) (1 : Nat) q6)); let q11 := ((2 : Nat), Blk.row false [IntKind.i64] (3 : Nat) (1 : Nat) (1 : Nat) q6); let q12 := (q9 ∧ ((@Eq Nat (nl) (nl)) ∧ (@Eq Nat (cl) (cl)))); let q13 := (some (Blk.cells [vi a, vi b, vi c, vi d, vi e] (23 : Nat))); let q14 := ((3 : Nat), Blk.cells [vi a, vi b, vi c, vi d, vi e] (23 : Nat)); let q15 := ((1 : Nat), Blk.cells [vi a, vi b, vi c, vi d, vi e] (23 : Nat)); let q16 := (@Eq (Option Blk) q13 q13); let q17 := (T0 ∧ (∃ y0 : Value, (∃ y1 : List Blk, ((Go.Rx.Found 1 (Value.tuple { toList := [vi (0 : Int), vn, vn, vi (7 : Int)] }) ({ h := [q14, q11, q15, q8], next := (4 : Nat) }) (y0) (y1)) ∧ (K y0 y1))))); let q18 := (q16 ∧ ((@Eq (Option Blk) q10 q10) ∧ (q16 ∧ ((@Eq (Option Blk) q7 q7) ∧ (True))))); let q19 := (t6 (q0 ∧ (q4 ∧ (q1 ∧ (q12 ∧ (q2 ∧ (∀ y0 : Nat, let q26 := (some (rF (54 : Nat) nl y0 fl)); let q27 := (some (Blk.cells [vi a, vi b, vi c, vi d, vi e, rsl (4 : Nat) (0 : Nat) nl y0, vn, vi s] (100 : Nat))); let q28 := ((@Eq (Option Blk) q26 q26) ∧ q18); ((nl ≤ y0) → (q18 ∧ (q18 ∧ (T0 ∧ (q2 ∧ ((True) ∧ (q18 ∧ (q18 ∧ (q18 ∧ (q18 ∧ (t7 (q5 ∧ (t9 (t9 (t4 (q0 ∧ (T0 ∧ ((InC a b c d e) ∧ (q4 ∧ (q1 ∧ ((q9 ∧ ((@Eq Nat (nl) (nl)) ∧ (@Eq Nat (y0) (y0)))) ∧ (q2 ∧ (((@Eq Int (Prod.snd (ckF a b c d e nl fl)) ((0 : Int))) ∧ (¬sel (selE fl (0 : Int)) nl = [])) ∧ (∀ y1 : Nat, let q23 := (litF q3 ([(↑y1 : Int)] ++ [])); let q24 := (appF (fun x x_1 ↦ (0 : Int)) (0 : Nat) q23 (0 : Nat)); let q25 := (some (Blk.row false [IntKind.i64] (3 : Nat) (1 : Nat) (1 : Nat) q23)); (∀ y2 : Nat → Nat → Int, ((Taken a b c d e nl fl (1 : Int) y1 y2) → (∀ y3 : Nat, let q29 := (some (rF (54 : Nat) nl y3 y2)); ((nl ≤ y3) → (((@Eq (Option Blk) q27 q27) ∧ q28) ∧ (t9 (q5 ∧ (t4 (q5 ∧ (q5 ∧ (t4 (((1 : Nat) ≤ (1 : Nat)) ∧ (((1 : Nat) ≤ (100000 : Nat)) ∧ (∀ y4 : Nat, let q20 := (y4 - (1 : Nat) + (1 : Nat)); let q21 := (some (Blk.row false [IntKind.i64] (3 : Nat) (1 : Nat) q20 q24)); let q22 := (some (Blk.cells [vi a, vi b, vi c, vi d, vi e, rsl (6 : Nat) (0 : Nat) nl y3, rsl (8 : Nat) (0 : Nat) (1 : Nat) q20, vi s] (100 : Nat))); (((1 : Nat) ≤ y4) → (t9 (t9 (t2 (q0 ∧ (t2 ((InC a b c d e) ∧ (q4 ∧ (q1 ∧ ((q9 ∧ ((@Eq Nat (nl) (nl)) ∧ (@Eq Nat (y3) (y3)))) ∧ (q2 ∧ (((@Eq Int (askF a b c d e nl y2 (↑y1 : Int)) ((0 : Int))) ∧ (((1 : Int) ≤ y) ∧ ((¬y2 y1 (0 : Nat) = (0 : Int)) ∧ (y ≤ a - y2 y1 (1 : Nat))))) ∧ (∀ y5 : Nat → Nat → Int, ((Bumped a b c d e nl y2 (↑y1 : Int) y y5) → (∀ y6 : Nat, ((nl ≤ y6) → (((@Eq (Option Blk) q21 q21) ∧ ((@Eq (Option Blk) q25 q25) ∧ ((@Eq (Option Blk) q29 q29) ∧ ((@Eq (Option Blk) q22 q22) ∧ q28)))) ∧ (t9 (t9 (t8 (∃ y7 : Value, (∃ y8 : List Blk, ((Go.Rx.Found 1 (Value.tuple { toList := [vi ((1 : Int) + c + (↑y1 : Int) * a + y2 y1 (1 : Nat)), rsl (9 : Nat) (0 : Nat) nl y6, rsl (8 : Nat) (0 : Nat) (1 : Nat) q20, vi (0 : Int)] }) ({ h := [((9 : Nat), rF (54 : Nat) nl y6 y5), ((8 : Nat), Blk.row false [IntKind.i64] (3 : Nat) (1 : Nat) q20 q24), ((7 : Nat), Blk.row false [IntKind.i64] (3 : Nat) (1 : Nat) (1 : Nat) q23), ((6 : Nat), rF (54 : Nat) nl y3 y2), ((5 : Nat), Blk.cells [vi a, vi b, vi c, vi d, vi e, rsl (9 : Nat) (0 : Nat) nl y6, rsl (8 : Nat) (0 : Nat) (1 : Nat) q20, vi s] (100 : Nat)), ((4 : Nat), rF (54 : Nat) nl y0 fl), q14, q11, q15, q8], next := (10 : Nat) }) (y7) (y8)) ∧ (K y7 y8))))))))))))))))))))))))))))))))))))))))))))))))))))))))))))))))))))); (t2 (q5 ∧ (t7 (q0 ∧ (T0 ∧ ((InC a b c d e) ∧ (q4 ∧ (q1 ∧ (q12 ∧ (q2 ∧ (((Nat.le (0 : Nat) (0 : Nat)) ∧ (@Eq Int (Prod.snd (bck a b c d e nl fl (0 : Nat) zF)) ((0 : Int)))) ∧ (T0 ∧ (q5 ∧ (T0 ∧ ((q5 ∧ (@Eq Nat ((1 : Nat)) ((1 : Nat)))) ∧ ((((0 : Int) ≤ (0 : Int)) ∧ ((0 : Int) < (↑(1 : Nat) : Int))) ∧ ((Int.toNat (0 : Int) < (1 : Nat)) ∧ (T0 ∧ (if (y < (1 : Int)) then q17 else (t2 (if (a < y) then q17 else (T0 ∧ ((((-9223372036854775808 : Int) ≤ (0 : Int) + (1 : Int)) ∧ ((0 : Int) + (1 : Int) ≤ (9223372036854775807 : Int))) ∧ (t2 (if (s < (-1 : Int)) then q17 else (t2 (if (b ≤ s) then q17 else (T0 ∧ (if (@Eq Int (s) ((-1 : Int))) then q19 else ((q5 ∧ (@Eq Nat ((2 : Nat)) ((2 : Nat)))) ∧ ((((0 : Int) ≤ s) ∧ (s < (↑nl : Int))) ∧ (T0 ∧ ((Int.toNat s < nl) ∧ (T0 ∧ (if (@Eq Int (fl (Int.toNat s) (0 : Nat)) ((0 : Int))) then (T0 ∧ (∃ y0 : Value, (∃ y1 : List Blk, ((Go.Rx.Found 1 (Value.tuple { toList := [vi (0 : Int), vn, vn, vi (9 : Int)] }) ({ h := [q14, q11, q15, q8], next := (4 : Nat) }) (y0) (y1)) ∧ (K y0 y1))))) else q19)))))))))))))))))))))))))))))))))))
theorem con55TN_rE (a b c d e : Int) (el nl cl : Nat) (fl : RF) (s : Int) (y : Int) (K : Value → List Blk → Prop) : con55TN_rV a b c d e el nl cl fl s y K = bodyX (mkB X55TN) (callN (mkB X55TN) 7) (con55TN_rA a b c d e el nl cl fl s y) Try.f55 [five' a b c d e, rsl 0 0 nl cl, .slice none 0 0, .int .i64 s, .int .i64 y] (stOf [.row true [.i64, .i64] el nl cl fl]) (Fd 1 K) := by kernel_rfl
set_option tactic.hygienic false in
theorem con55TN_rP (a b c d e : Int) (el nl cl : Nat) (fl : RF) (s : Int) (y : Int) (K : Value → List Blk → Prop)  (hI : InC a b c d e) (hnl : nl ≤ 100000) (hct : capOk (.slice none 0 0)) (h1 : askT a b c d e nl fl 0 zF s y = 0) (hu : ¬ useT a fl 0 zF s y) (hf : ¬ sel (selE fl 0) nl = []) (hbd : 0 ≤ 1000) (h : ∀ i g z, Placed a b c d e nl fl 1 i y g → z = 1 + c + (i : Int) * a → ∀ h, App 0 zF i h → ∀ cp, nl ≤ cp → ∀ cp2, 0 + 1 ≤ cp2 → K (.tuple ⟨[.int .i64 z, rsl 1 0 nl cp, rsl (1 + 1) 0 (0 + 1) cp2, .int .i64 0]⟩) [.row false [.i64, .i64] 54 nl cp g, .row false [.i64] 3 (0 + 1) cp2 h]) : con55TN_rV a b c d e el nl cl fl s y K := by
  unfold con55TN_rV
  conv => zeta
  obtain ⟨k0, k1, k2, k3, k4, k5⟩ := askT_bck h1
  obtain ⟨g1, g2, g3, g4⟩ := bck_ok k0
  have gc := bck_ck k0
  have go := bck_one k0
  have hu2 : ¬ (0 < 0 ∧ fl (zF (Int.toNat (((0 : Nat) : Int) - 1)) 0).toNat 0 = 1 ∧ ¬ zF (Int.toNat (((0 : Nat) : Int) - 1)) 0 = s ∧ y ≤ a - fl (zF (Int.toNat (((0 : Nat) : Int) - 1)) 0).toNat 1) := hu
  repeat' (first | (with_reducible first | exact rfl | exact trivial | refine And.intro ?_ ?_ | refine br_intro (fun hq => ?_) fun hq => ?_ | refine if_both (fun hz => ?_) fun hz => ?_) | (intro) | fail)
  all_goals try (have gk := gk (by omega))
  all_goals try (rename Taken _ _ _ _ _ _ _ _ _ _ => T; have T0 := T.now0; have T1 := T.now1)
  all_goals first
    | omega
    | assumption
    | contradiction
    | exact fin0 (by kernel_rfl) (by kernel_rfl) (by first | exact h | simpa using h)
    | exact ask_of gc gk.1 gk.2.1
    | exact T.ask
    | exact bck_ck k0
    | (refine fin2x rfl rfl rfl (fun _ _ _ _ => rfl) (fun i j hi hj => ?_) (h _ ‹_› _ (by omega) _ (by omega))
       simp [appF])
    | exact fin2x rfl rfl rfl (fun _ _ _ _ => rfl) (fun _ _ _ _ => rfl) (h _ _ _ (placed (.inl rfl) T ‹_›) (by omega) _ (by constructor <;> (try intro k hk) <;> simp [appF, litF] <;> omega) _ (by omega) _ (by omega))
    | exact fin2x rfl rfl rfl (fun _ _ _ _ => rfl) (fun _ _ _ _ => rfl) (h _ _ _ (placed (.inl rfl) T ‹_›) (by omega) _ (by constructor <;> (try intro k hk) <;> simp [appF, litF, hk]) _ (by omega) _ (by omega))
    | (obtain rfl : nt = 0 := (by simp at hq; omega)
       first
         | exact fin2x rfl rfl rfl (fun _ _ _ _ => rfl) (fun _ _ _ _ => rfl) (h _ _ _ (placed (.inl rfl) T ‹_›) (by omega) _ (by constructor <;> (try intro k hk) <;> simp [appF, litF] <;> omega) _ (by omega) _ (by omega))
         | exact fin2x rfl rfl rfl (fun _ _ _ _ => rfl) (fun _ _ _ _ => rfl) (h _ _ _ (placed (.inl rfl) T ‹_›) (by omega) _ (by constructor <;> (try intro k hk) <;> simp [appF, litF, hk]) _ (by omega) _ (by omega)))
    | (have z : fl (ft (Int.toNat (((nt : Nat) : Int) - 1)) 0).toNat 0 = 0 := (by assumption)
       omega)
    | (exfalso; simp at hq; omega)
    | (exfalso; simp at hq; simp_all; omega)
theorem con55TN_ok : BodyOk (mkB X55TN) 7 Try.f55 con55TN := by
  intro vs bs K hh hro
  clear hro
  unfold con55TN at hh
  split at hh
  · rename_i u vl s y
    obtain ⟨a, b, c, d, e, rfl, hI, hh0⟩ := five_inv hh
    obtain ⟨el, nl, cl, fl, btl, rfl, hnl, rfl, hh1⟩ := parseR_inv hh0
    obtain ⟨rfl, ⟨hct, h1, hu, hf, hbd⟩, hc⟩ := hh1
    exact ⟨_, _, cast (con55TN_rE a b c d e el nl cl fl s y K) (con55TN_rP a b c d e el nl cl fl s y K hI hnl hct h1 hu hf hbd hc)⟩
  · exact hh.elim
theorem con55TN_told : Told 55 (specOf con55TN) := toldB (X := X55TN) X55TN_told (by kernel_rfl) (by kernel_rfl) (by kernel_rfl) con55TN_ok
end Go.Proofs.Ytkflmglpniebfaa.Fr
namespace Go.Proofs.Ytkflmglpniebfaa.Fr
set_option maxRecDepth 100000
set_option maxHeartbeats 4000000
open Go.Rx
open Go.RowKit (Below)
set_option linter.unusedVariables false
theorem taken_rest {a b c d e : Int} {n : Nat} {f : RF} {st : Int} {i : Nat} {g : RF} (T : Taken a b c d e n f st i g) {j : Nat} (h : ¬ f j 0 = 0) : g j 0 = f j 0 := T.rest j (fun e => h (e ▸ T.at0)) 0
/-- A row with one more number before its last one. -/
def Ins (n : Nat) (f : RF) (x : Int) (h : RF) : Prop := (∀ k, k + 1 < n → h k 0 = f k 0) ∧ h (n - 1) 0 = x ∧ h n 0 = f (n - 1) 0
def con37Pa : Con := fun vs bs K => match vs with
  | [u, v, .bool true] => five u fun a b c d e => parseR [.i64, .i64] 0 v bs fun n f j bs => bs = [] ∧ ((ckF a b c d e n f).2 = 0 ∧ ¬ sel (selE f 0) n = [] ∧ ¬ List.length (sel (selE f 2) n) = 2) ∧ ∀ (i : Nat) (g : RF), Taken a b c d e n f 2 i g → ∀ cp, n ≤ cp → K (.tuple ⟨[rsl j 0 n cp, .int .i64 (i : Int), .int .i64 0]⟩) [.row false [.i64, .i64] 54 n cp g]
  | _ => False
theorem con37Pa_told : Told 37 (specOf con37Pa) := Told.or con37GTa_told con37HTa_told fun vs bs K x => by
  unfold con37Pa at x
  split at x
  · obtain ⟨a, b, c, d, e, rfl, hI, x⟩ := five_inv x
    obtain ⟨e1, n, c1, f, bs', rfl, hn, rfl, y1, y2, y3⟩ := parseR_inv x
    by_cases h : sel (selE f 2) n = []
    · exact .inr ⟨hI, rfl, hn, ⟨rfl, rfl, rfl⟩, y1, ⟨y2.1, y2.2.1, h⟩, y3⟩
    · exact .inl ⟨hI, rfl, hn, ⟨rfl, rfl, rfl⟩, y1, ⟨y2.1, y2.2.1, h, y2.2.2⟩, y3⟩
  · exact x.elim
def con37Qa : Con := fun vs bs K => match vs with
  | [u, v, .bool true] => five u fun a b c d e => parseR [.i64, .i64] 0 v bs fun n f j bs => bs = [] ∧ ((ckF a b c d e n f).2 = 0 ∧ (sel (selE f 0) n = [] ∨ List.length (sel (selE f 2) n) = 2)) ∧ K (.tuple ⟨[.slice none 0 0, .int .i64 0, .int .i64 5]⟩) []
  | _ => False
theorem con37Qa_told : Told 37 (specOf con37Qa) := Told.or con37ET_told con37FT_told fun vs bs K x => by
  unfold con37Qa at x
  split at x
  · obtain ⟨a, b, c, d, e, rfl, hI, x⟩ := five_inv x
    obtain ⟨e1, n, c1, f, bs', rfl, hn, rfl, y1, y2, y3⟩ := parseR_inv x
    by_cases h0 : sel (selE f 0) n = []
    · exact .inl ⟨hI, rfl, hn, ⟨rfl, rfl, rfl⟩, y1, ⟨y2.1, h0⟩, y3⟩
    · have h2 := y2.2.resolve_left h0
      exact .inr ⟨hI, rfl, hn, ⟨rfl, rfl, rfl⟩, y1, ⟨y2.1, h0, (fun q => by rw [q] at h2; simp at h2), h2⟩, y3⟩
  · exact x.elim
def con38Pa : Con := fun vs bs K => match vs with
  | [u, v, .bool true] => five u fun a b c d e => parseR [.i64, .i64] 0 v bs fun n f j bs => bs = [] ∧ ((ckF a b c d e n f).2 = 0 ∧ ¬ sel (selE f 0) n = [] ∧ ¬ List.length (sel (selE f 2) n) = 2) ∧ ∀ (i : Nat) (g : RF), Taken a b c d e n f 2 i g → ∀ cp, n ≤ cp → K (.tuple ⟨[rsl j 0 n cp, .int .i64 (i : Int), .int .i64 0]⟩) [.row false [.i64, .i64] 54 n cp g]
  | _ => False
theorem con38Pa_told : Told 38 (specOf con38Pa) := Told.or con38GTa_told con38HTa_told fun vs bs K x => by
  unfold con38Pa at x
  split at x
  · obtain ⟨a, b, c, d, e, rfl, hI, x⟩ := five_inv x
    obtain ⟨e1, n, c1, f, bs', rfl, hn, rfl, y1, y2, y3⟩ := parseR_inv x
    by_cases h : sel (selE f 2) n = []
    · exact .inr ⟨hI, rfl, hn, ⟨rfl, rfl, rfl⟩, y1, ⟨y2.1, y2.2.1, h⟩, y3⟩
    · exact .inl ⟨hI, rfl, hn, ⟨rfl, rfl, rfl⟩, y1, ⟨y2.1, y2.2.1, h, y2.2.2⟩, y3⟩
  · exact x.elim
def con38Qa : Con := fun vs bs K => match vs with
  | [u, v, .bool true] => five u fun a b c d e => parseR [.i64, .i64] 0 v bs fun n f j bs => bs = [] ∧ ((ckF a b c d e n f).2 = 0 ∧ (sel (selE f 0) n = [] ∨ List.length (sel (selE f 2) n) = 2)) ∧ K (.tuple ⟨[.slice none 0 0, .int .i64 0, .int .i64 5]⟩) []
  | _ => False
theorem con38Qa_told : Told 38 (specOf con38Qa) := Told.or con38ET_told con38FT_told fun vs bs K x => by
  unfold con38Qa at x
  split at x
  · obtain ⟨a, b, c, d, e, rfl, hI, x⟩ := five_inv x
    obtain ⟨e1, n, c1, f, bs', rfl, hn, rfl, y1, y2, y3⟩ := parseR_inv x
    by_cases h0 : sel (selE f 0) n = []
    · exact .inl ⟨hI, rfl, hn, ⟨rfl, rfl, rfl⟩, y1, ⟨y2.1, h0⟩, y3⟩
    · have h2 := y2.2.resolve_left h0
      exact .inr ⟨hI, rfl, hn, ⟨rfl, rfl, rfl⟩, y1, ⟨y2.1, h0, (fun q => by rw [q] at h2; simp at h2), h2⟩, y3⟩
  · exact x.elim
@[reducible] def X57B : List (Nat × Rx.Spec) := [(49, specOf con49), (92, spF), (93, spF)]
theorem X57B_told : ∀ p ∈ X57B, Told p.1 p.2 := by
  intro p hp
  simp only [List.mem_cons, List.not_mem_nil, or_false] at hp
  rcases hp with rfl | rfl | rfl
  · exact con49_told
  · exact (toldF (f := 92) (fn := Try.f92) (by kernel_rfl) (by kernel_rfl) (by kernel_rfl))
  · exact (toldF (f := 93) (fn := Try.f93) (by kernel_rfl) (by kernel_rfl) (by kernel_rfl))
@[reducible] def X57F : List (Nat × Rx.Spec) := [(49, specOf con49G), (92, specOf con92a), (93, specOf con93a), (37, specOf con37Qa), (39, spF)]
theorem X57F_told : ∀ p ∈ X57F, Told p.1 p.2 := by
  intro p hp
  simp only [List.mem_cons, List.not_mem_nil, or_false] at hp
  rcases hp with rfl | rfl | rfl | rfl | rfl
  · exact con49G_told
  · exact con92a_told
  · exact con93a_told
  · exact con37Qa_told
  · exact (toldF (f := 39) (fn := Try.f39) (by kernel_rfl) (by kernel_rfl) (by kernel_rfl))
@[reducible] def X57AN : List (Nat × Rx.Spec) := [(49, specOf con49G), (92, specOf con92a), (93, specOf con93N), (37, specOf con37Pa), (39, specOf con39Ga)]
theorem X57AN_told : ∀ p ∈ X57AN, Told p.1 p.2 := by
  intro p hp
  simp only [List.mem_cons, List.not_mem_nil, or_false] at hp
  rcases hp with rfl | rfl | rfl | rfl | rfl
  · exact con49G_told
  · exact con92a_told
  · exact con93N_told
  · exact con37Pa_told
  · exact con39Ga_told
@[reducible] def X57AE : List (Nat × Rx.Spec) := [(49, specOf con49G), (92, specOf con92a), (93, specOf con93E), (37, specOf con37Pa), (39, specOf con39Ga)]
theorem X57AE_told : ∀ p ∈ X57AE, Told p.1 p.2 := by
  intro p hp
  simp only [List.mem_cons, List.not_mem_nil, or_false] at hp
  rcases hp with rfl | rfl | rfl | rfl | rfl
  · exact con49G_told
  · exact con92a_told
  · exact con93E_told
  · exact con37Pa_told
  · exact con39Ga_told
@[reducible] def X57G : List (Nat × Rx.Spec) := [(49, specOf con49G), (92, specOf con92a), (93, specOf con93G), (37, specOf con37Pa), (39, specOf con39Ga)]
theorem X57G_told : ∀ p ∈ X57G, Told p.1 p.2 := by
  intro p hp
  simp only [List.mem_cons, List.not_mem_nil, or_false] at hp
  rcases hp with rfl | rfl | rfl | rfl | rfl
  · exact con49G_told
  · exact con92a_told
  · exact con93G_told
  · exact con37Pa_told
  · exact con39Ga_told
@[reducible] def X58B : List (Nat × Rx.Spec) := [(85, specOf con85), (38, spF), (40, spF)]
theorem X58B_told : ∀ p ∈ X58B, Told p.1 p.2 := by
  intro p hp
  simp only [List.mem_cons, List.not_mem_nil, or_false] at hp
  rcases hp with rfl | rfl | rfl
  · exact con85_told
  · exact (toldF (f := 38) (fn := Try.f38) (by kernel_rfl) (by kernel_rfl) (by kernel_rfl))
  · exact (toldF (f := 40) (fn := Try.f40) (by kernel_rfl) (by kernel_rfl) (by kernel_rfl))
@[reducible] def X58F : List (Nat × Rx.Spec) := [(85, specOf con85), (38, specOf con38Qa), (40, spF)]
theorem X58F_told : ∀ p ∈ X58F, Told p.1 p.2 := by
  intro p hp
  simp only [List.mem_cons, List.not_mem_nil, or_false] at hp
  rcases hp with rfl | rfl | rfl
  · exact con85_told
  · exact con38Qa_told
  · exact (toldF (f := 40) (fn := Try.f40) (by kernel_rfl) (by kernel_rfl) (by kernel_rfl))
@[reducible] def X58G : List (Nat × Rx.Spec) := [(85, specOf con85), (38, specOf con38Pa), (40, specOf con40Ga)]
theorem X58G_told : ∀ p ∈ X58G, Told p.1 p.2 := by
  intro p hp
  simp only [List.mem_cons, List.not_mem_nil, or_false] at hp
  rcases hp with rfl | rfl | rfl
  · exact con85_told
  · exact con38Pa_told
  · exact con40Ga_told
end Go.Proofs.Ytkflmglpniebfaa.Fr
namespace Go.Proofs.Ytkflmglpniebfaa.Fr
set_option maxRecDepth 100000
set_option maxHeartbeats 4000000
open Go.Rx
open Go.RowKit (Below)
set_option linter.unusedVariables false
def con57I : Con := fun vs bs K => match vs with
  | [u, vl, vt, .int .i64 y] => five u fun a b c d e => parseR [.i64, .i64] 0 vl bs fun nl fl j0 bs0 => parseR [.i64] j0 vt bs0 fun nt ft j1 bs1 => bs1 = [] ∧ ((capOk (vt)) ∧ (askT a b c d e nl fl nt ft (-1) y = 0) ∧ (nt ≤ 1000) ∧ (¬ (sel (selE fl 0) nl = [] ∨ List.length (sel (selE fl 2) nl) = 2)) ∧ (0 < nt ∧ fl (ft (Int.toNat (((nt : Nat) : Int) - 1)) 0).toNat 0 = 1)) ∧ (∀ i g z, Placed a b c d e nl fl 2 i y g → z = 1 + c + (i : Int) * a → ∀ h, Ins nt ft i h → ∀ cp, nl ≤ cp → ∀ cp2, nt + 1 ≤ cp2 → K (.tuple ⟨[.int .i64 z, rsl j1 0 nl cp, rsl (j1 + 1) 0 (nt + 1) cp2, .int .i64 0]⟩) [.row false [.i64, .i64] 54 nl cp g, .row false [.i64] 3 (nt + 1) cp2 h])
  | _ => False

def con57I_rrA (a b c d e : Int) (el nl cl : Nat) (fl : RF) (et nt ct : Nat) (ft : RF) (y : Int) : Ann := fun _ _ _ => none
def con57I_rrV (a b c d e : Int) (el nl cl : Nat) (fl : RF) (et nt ct : Nat) (ft : RF) (y : Int) (K : Value → List Blk → Prop) : Prop := let q0 := ((0 : Nat) + nl ≤ nl); let q1 := ((0 : Nat) + nt ≤ nt); let q2 := (nl ≤ (100000 : Nat)); let q3 := (nt ≤ (100000 : Nat)); let q4 := ((1 : Nat) ≤ (1 : Nat)); let q5 := ((0 : Int) ≤ (0 : Int)); let q6 := ((↑nt : Int) - (1 : Int)); let q7 := eB; let q8 := (List.length [IntKind.i64]); let q9 := (9223372036854775807 : Int); let q10 := ((1 : Nat) ≤ (100000 : Nat)); let q11 := ((2 : Nat) ≤ (100000 : Nat)); let q12 := (-9223372036854775808 : Int); let q13 := (@Eq Nat ((0 : Nat)) ((0 : Nat))); let q14 := (@Eq Nat ((1 : Nat)) ((1 : Nat))); let q15 := (Int.toNat q6); let q16 := ((↑nt : Int) - (1 : Int) - (0 : Int)); let q17 := ((0 : Int) ≤ (↑nt : Int) - (1 : Int)); let q18 := TS; let q19 := (Int.toNat q6 < nt); let q20 := (litF q8 ([y] ++ [])); let q21 := (some (Blk.row true [IntKind.i64] et nt ct ft)); let q22 := (Int.toNat q16); let q23 := ((1 : Nat), Blk.row true [IntKind.i64] et nt ct ft); let q24 := (ft q15 (0 : Nat)); let q25 := (some (rT el nl cl fl)); let q26 := (Int.toNat q16 + (1 : Nat)); let q27 := ((0 : Nat), rT el nl cl fl); let q28 := (Int.toNat q16 + (1 : Nat) + (1 : Nat)); let q29 := eK; let q30 := (q18 ∧ q14); let q31 := (q17 ∧ ((↑nt : Int) - (1 : Int) < (↑nt : Int))); let q32 := (Int.toNat q16 + (1 : Nat) + (1 : Nat) ≤ (100000 : Nat)); let q33 := (litF q8 ([ft q15 (0 : Nat)] ++ [])); let q34 := ((@Eq (List IntKind) ([IntKind.i64]) ([IntKind.i64])) ∧ ((@Eq Nat (nt) (nt)) ∧ (@Eq Nat (ct) (ct)))); let q35 := (@Eq Nat q22 q22); let q36 := (some (Blk.row false [IntKind.i64] (3 : Nat) (1 : Nat) (1 : Nat) q20)); let q37 := ((q12 ≤ (↑nt : Int) - (1 : Int)) ∧ ((↑nt : Int) - (1 : Int) ≤ q9)); let q38 := ((3 : Nat), Blk.row false [IntKind.i64] (3 : Nat) (1 : Nat) (1 : Nat) q20); let q39 := (q29 ∧ ((@Eq Nat (nl) (nl)) ∧ (@Eq Nat (cl) (cl)))); let q40 := (@Eq Nat q26 q26); let q41 := (some (Blk.cells [vi a, vi b, vi c, vi d, vi e] (23 : Nat))); let q42 := ((4 : Nat), Blk.cells [vi a, vi b, vi c, vi d, vi e] (23 : Nat)); let q43 := ((2 : Nat), Blk.cells [vi a, vi b, vi c, vi d, vi e] (23 : Nat)); let q44 := (some (Blk.row false [IntKind.i64] (3 : Nat) (1 : Nat) (1 : Nat) q33)); let q45 := ((9 : Nat), Blk.row false [IntKind.i64] (3 : Nat) (1 : Nat) (1 : Nat) q33); let q46 := ((10 : Nat), Blk.row false [IntKind.i64] (3 : Nat) (1 : Nat) (1 : Nat) q33); let q47 := ((11 : Nat), Blk.row false [IntKind.i64] (3 : Nat) (1 : Nat) (1 : Nat) q33); let q48 := (T0 ∧ ((Int.toNat (0 : Int) + Int.toNat q16 ≤ nt) ∧ ((Int.toNat q16 + (1 : Nat) ≤ (100000 : Nat)) ∧ ((0 : Nat) < (1 : Nat))))); let q49 := (@Eq (Option Blk) q41 q41); let q50 := (@Eq (Option Blk) q44 q44); let q51 := (T0 ∧ (∃ y0 : Value, (∃ y1 : List Blk, ((Go.Rx.Found 2 (Value.tuple { toList := [vi (0 : Int), vn, vn, vi (7 : Int)] }) ({ h := [q42, q38, q43, q27, q23], next := (5 : Nat) }) (y0) (y1)) ∧ (K y0 y1))))); let q52 := (q49 ∧ ((@Eq (Option Blk) q36 q36) ∧ (q49 ∧ ((@Eq (Option Blk) q25 q25) ∧ ((@Eq (Option Blk) q21 q21) ∧ (True)))))); (t2 (q18 ∧ (t7 (q0 ∧ (q1 ∧ ((InC a b c d e) ∧ (q13 ∧ (q2 ∧ (q39 ∧ (q14 ∧ (q3 ∧ (q34 ∧ (q7 ∧ (((Nat.le nt ct) ∧ (@Eq Int (Prod.snd (bck a b c d e nl fl nt ft)) ((0 : Int)))) ∧ (T0 ∧ (q18 ∧ (T0 ∧ (q30 ∧ ((q5 ∧ ((0 : Int) < (↑(1 : Nat) : Int))) ∧ ((Int.toNat (0 : Int) < (1 : Nat)) ∧ (T0 ∧ (if (y < (1 : Int)) then q51 else (t2 (if (a < y) then q51 else (T0 ∧ (((q12 ≤ (0 : Int) + (1 : Int)) ∧ ((0 : Int) + (1 : Int) ≤ q9)) ∧ (t4 (if (b ≤ (-1 : Int)) then q51 else (t7 (q0 ∧ (q13 ∧ (q2 ∧ (q39 ∧ (q7 ∧ (∀ y0 : Nat, let q74 := (some (rF (54 : Nat) nl y0 fl)); let q75 := ((5 : Nat), rF (54 : Nat) nl y0 fl); let q76 := ((@Eq (Option Blk) q74 q74) ∧ q52); ((nl ≤ y0) → (q52 ∧ (q52 ∧ (q1 ∧ (q13 ∧ (q3 ∧ (q34 ∧ (q7 ∧ (((0 : Nat) < nt) ∧ (∀ y1 : Nat, let q70 := (some (Blk.row false [IntKind.i64] (3 : Nat) nt (y1 + (1 : Nat)) ft)); let q71 := ((6 : Nat), Blk.row false [IntKind.i64] (3 : Nat) nt (y1 + (1 : Nat)) ft); let q72 := (some (Blk.cells [vi a, vi b, vi c, vi d, vi e, rsl (5 : Nat) (0 : Nat) nl y0, rsl (6 : Nat) (0 : Nat) nt (y1 + (1 : Nat)), vi (-1 : Int)] (100 : Nat))); let q73 := ((@Eq (Option Blk) q70 q70) ∧ q76); ((nt ≤ y1 + (1 : Nat)) → (q52 ∧ (q52 ∧ (q52 ∧ (q52 ∧ (t9 (t9 (T0 ∧ (q0 ∧ (T0 ∧ ((InC a b c d e) ∧ (q13 ∧ (q2 ∧ ((q29 ∧ ((@Eq Nat (nl) (nl)) ∧ (@Eq Nat (y0) (y0)))) ∧ (q7 ∧ (((@Eq Int (Prod.snd (ckF a b c d e nl fl)) ((0 : Int))) ∧ ((¬sel (selE fl (0 : Int)) nl = []) ∧ (¬List.length (sel (selE fl (2 : Int)) nl) = (2 : Nat)))) ∧ (∀ y2 : Nat, let q62 := (litF q8 ([(↑y2 : Int)] ++ [])); let q63 := (appF ft nt q62 (0 : Nat)); let q64 := (some (Blk.row false [IntKind.i64] (3 : Nat) (1 : Nat) (1 : Nat) q62)); let q65 := ((9 : Nat), Blk.row false [IntKind.i64] (3 : Nat) (1 : Nat) (1 : Nat) q62); let q66 := ((10 : Nat), Blk.row false [IntKind.i64] (3 : Nat) (1 : Nat) (1 : Nat) q62); let q67 := (appF (appF (fun x x_1 ↦ (0 : Int)) (0 : Nat) q62 (0 : Nat)) (1 : Nat) q33 (0 : Nat)); let q68 := (@Eq (Option Blk) q64 q64); let q69 := (appF (appF (fun a ↦ ft (Int.toNat (0 : Int) + a)) q22 q62 (0 : Nat)) q26 q33 (0 : Nat)); (∀ y3 : Nat → Nat → Int, let q60 := ((1 : Int) + c + (↑y2 : Int) * a + y3 y2 (1 : Nat)); let q61 := ((@Eq Int (askF a b c d e nl y3 (↑y2 : Int)) ((0 : Int))) ∧ (((1 : Int) ≤ y) ∧ ((¬y3 y2 (0 : Nat) = (0 : Int)) ∧ (y ≤ a - y3 y2 (1 : Nat))))); ((Taken a b c d e nl fl (2 : Int) y2 y3) → (∀ y4 : Nat, let q53 := (some (rF (54 : Nat) nl y4 y3)); let q54 := ((8 : Nat), rF (54 : Nat) nl y4 y3); let q55 := (q29 ∧ ((@Eq Nat (nl) (nl)) ∧ (@Eq Nat (y4) (y4)))); let q56 := (@Eq (Option Blk) q53 q53); let q57 := (some (Blk.cells [vi a, vi b, vi c, vi d, vi e, rsl (8 : Nat) (0 : Nat) nl y4, rsl (6 : Nat) (0 : Nat) nt (y1 + (1 : Nat)), vi (-1 : Int)] (100 : Nat))); let q58 := (q56 ∧ ((@Eq (Option Blk) q57 q57) ∧ q73)); let q59 := (t3 (q18 ∧ (t4 (q18 ∧ (q18 ∧ (t4 (q4 ∧ (q10 ∧ (T0 ∧ ((T0 ∧ ((false = false) ∧ (q13 ∧ ((@Eq Nat (nt) (nt)) ∧ ((@Eq Nat (y1 + (1 : Nat)) (y1 + (1 : Nat))) ∧ (nt + (1 : Nat) ≤ (100000 : Nat))))))) ∧ (∀ y5 : Nat, let q101 := (y5 - (1 : Nat) + (1 : Nat)); let q102 := (some (Blk.row false [IntKind.i64] (3 : Nat) (nt + (1 : Nat)) q101 q63)); let q103 := (some (Blk.cells [vi a, vi b, vi c, vi d, vi e, rsl (8 : Nat) (0 : Nat) nl y4, rsl (10 : Nat) (0 : Nat) (nt + (1 : Nat)) q101, vi (-1 : Int)] (100 : Nat))); ((nt + (1 : Nat) ≤ y5) → (t9 (t9 (t2 (q0 ∧ (t2 ((InC a b c d e) ∧ (q13 ∧ (q2 ∧ (q55 ∧ (q7 ∧ (q61 ∧ (∀ y6 : Nat → Nat → Int, ((Bumped a b c d e nl y3 (↑y2 : Int) y y6) → (∀ y7 : Nat, ((nl ≤ y7) → (((@Eq (Option Blk) q102 q102) ∧ (q68 ∧ (q56 ∧ ((@Eq (Option Blk) q103 q103) ∧ q76)))) ∧ (t9 (t9 (t8 (∃ y8 : Value, (∃ y9 : List Blk, ((Go.Rx.Found 2 (Value.tuple { toList := [vi q60, rsl (11 : Nat) (0 : Nat) nl y7, rsl (10 : Nat) (0 : Nat) (nt + (1 : Nat)) q101, vi (0 : Int)] }) ({ h := [((11 : Nat), rF (54 : Nat) nl y7 y6), ((10 : Nat), Blk.row false [IntKind.i64] (3 : Nat) (nt + (1 : Nat)) q101 q63), q65, q54, ((7 : Nat), Blk.cells [vi a, vi b, vi c, vi d, vi e, rsl (11 : Nat) (0 : Nat) nl y7, rsl (10 : Nat) (0 : Nat) (nt + (1 : Nat)) q101, vi (-1 : Int)] (100 : Nat)), q75, q42, q38, q43, q27, q23], next := (12 : Nat) }) (y8) (y9)) ∧ (K y8 y9))))))))))))))))))))))))))))))))))); ((nl ≤ y4) → (((@Eq (Option Blk) q72 q72) ∧ q73) ∧ (t9 (q18 ∧ (T0 ∧ (if (@Eq Int ((↑nt : Int)) ((0 : Int))) then q59 else (t9 (t3 (q18 ∧ (t2 (q37 ∧ (T0 ∧ (q30 ∧ (q31 ∧ (T0 ∧ (q19 ∧ (t5 ((q18 ∧ (@Eq Nat ((2 : Nat)) ((2 : Nat)))) ∧ ((((0 : Int) ≤ ft q15 (0 : Nat)) ∧ (ft q15 (0 : Nat) < (↑nl : Int))) ∧ (T0 ∧ ((Int.toNat q24 < nl) ∧ (T0 ∧ (if (@Eq Int (y3 (Int.toNat q24) (0 : Nat)) ((2 : Int))) then q59 else (t3 (q18 ∧ (T0 ∧ (q37 ∧ (T0 ∧ (q18 ∧ (t4 (q14 ∧ ((q5 ∧ (q17 ∧ (((↑nt : Int) - (1 : Int) ≤ (↑nt : Int) - (1 : Int)) ∧ ((↑nt : Int) - (1 : Int) ≤ (↑(y1 + (1 : Nat)) : Int))))) ∧ ((@Eq Int q6 q6) ∧ (Go.Rx.br (decide ((0 : Int) < (↑nt : Int) - (1 : Int))) (t9 (t2 (q30 ∧ (q31 ∧ (T0 ∧ (q19 ∧ ((q18 ∧ (t4 (q58 ∧ ((q18 ∧ (q18 ∧ (t4 (q4 ∧ (q10 ∧ (q35 ∧ (q48 ∧ (∀ y5 : Nat, let q100 := (y5 - (1 : Nat) + (1 : Nat)); ((Int.toNat q16 + (1 : Nat) ≤ y5) → (q58 ∧ (q18 ∧ (t4 (q58 ∧ (q18 ∧ (q18 ∧ (t4 (q4 ∧ (q10 ∧ (T0 ∧ ((T0 ∧ ((false = false) ∧ (q13 ∧ (q40 ∧ ((@Eq Nat q100 q100) ∧ q32))))) ∧ (∀ y6 : Nat, let q97 := (y6 - (1 : Nat) + (1 : Nat)); let q98 := (some (Blk.cells [vi a, vi b, vi c, vi d, vi e, rsl (8 : Nat) (0 : Nat) nl y4, rsl (12 : Nat) (0 : Nat) q28 q97, vi (-1 : Int)] (100 : Nat))); let q99 := (some (Blk.row false [IntKind.i64] (3 : Nat) q28 q97 q69)); ((Int.toNat q16 + (1 : Nat) + (1 : Nat) ≤ y6) → (q58 ∧ (t3 ((True) ∧ (t9 (t9 (q0 ∧ (t2 ((InC a b c d e) ∧ (q13 ∧ (q2 ∧ (q55 ∧ (q7 ∧ (q61 ∧ (∀ y7 : Nat → Nat → Int, ((Bumped a b c d e nl y3 (↑y2 : Int) y y7) → (∀ y8 : Nat, ((nl ≤ y8) → (((@Eq (Option Blk) q99 q99) ∧ (q50 ∧ (q68 ∧ (q56 ∧ ((@Eq (Option Blk) q98 q98) ∧ q73))))) ∧ (t9 (t9 (t8 (∃ y9 : Value, (∃ y10 : List Blk, ((Go.Rx.Found 2 (Value.tuple { toList := [vi q60, rsl (13 : Nat) (0 : Nat) nl y8, rsl (12 : Nat) (0 : Nat) q28 q97, vi (0 : Int)] }) ({ h := [((13 : Nat), rF (54 : Nat) nl y8 y7), ((12 : Nat), Blk.row false [IntKind.i64] (3 : Nat) q28 q97 q69), q47, q65, q54, ((7 : Nat), Blk.cells [vi a, vi b, vi c, vi d, vi e, rsl (13 : Nat) (0 : Nat) nl y8, rsl (12 : Nat) (0 : Nat) q28 q97, vi (-1 : Int)] (100 : Nat)), q71, q75, q42, q38, q43, q27, q23], next := (14 : Nat) }) (y9) (y10)) ∧ (K y9 y10))))))))))))))))))))))))))))))))))))))))))))))) ∧ (q18 ∧ (t4 (q58 ∧ (q18 ∧ (q18 ∧ (t4 (q4 ∧ (q10 ∧ (q35 ∧ (q48 ∧ (∀ y5 : Nat, let q96 := (y5 - (1 : Nat) + (1 : Nat)); ((Int.toNat q16 + (1 : Nat) ≤ y5) → (q58 ∧ (q18 ∧ (q18 ∧ (t4 (q4 ∧ (q10 ∧ (T0 ∧ ((T0 ∧ ((false = false) ∧ (q13 ∧ (q40 ∧ ((@Eq Nat q96 q96) ∧ q32))))) ∧ (∀ y6 : Nat, let q93 := (y6 - (1 : Nat) + (1 : Nat)); let q94 := (some (Blk.cells [vi a, vi b, vi c, vi d, vi e, rsl (8 : Nat) (0 : Nat) nl y4, rsl (12 : Nat) (0 : Nat) q28 q93, vi (-1 : Int)] (100 : Nat))); let q95 := (some (Blk.row false [IntKind.i64] (3 : Nat) q28 q93 q69)); ((Int.toNat q16 + (1 : Nat) + (1 : Nat) ≤ y6) → (q58 ∧ (t3 ((True) ∧ (t9 (t9 (q0 ∧ (t2 ((InC a b c d e) ∧ (q13 ∧ (q2 ∧ (q55 ∧ (q7 ∧ (q61 ∧ (∀ y7 : Nat → Nat → Int, ((Bumped a b c d e nl y3 (↑y2 : Int) y y7) → (∀ y8 : Nat, ((nl ≤ y8) → (((@Eq (Option Blk) q95 q95) ∧ (q50 ∧ (q68 ∧ (q56 ∧ ((@Eq (Option Blk) q94 q94) ∧ q73))))) ∧ (t9 (t9 (t8 (∃ y9 : Value, (∃ y10 : List Blk, ((Go.Rx.Found 2 (Value.tuple { toList := [vi q60, rsl (13 : Nat) (0 : Nat) nl y8, rsl (12 : Nat) (0 : Nat) q28 q93, vi (0 : Int)] }) ({ h := [((13 : Nat), rF (54 : Nat) nl y8 y7), ((12 : Nat), Blk.row false [IntKind.i64] (3 : Nat) q28 q93 q69), q46, q65, q54, ((7 : Nat), Blk.cells [vi a, vi b, vi c, vi d, vi e, rsl (13 : Nat) (0 : Nat) nl y8, rsl (12 : Nat) (0 : Nat) q28 q93, vi (-1 : Int)] (100 : Nat)), q71, q75, q42, q38, q43, q27, q23], next := (14 : Nat) }) (y9) (y10)) ∧ (K y9 y10))))))))))))))))))))))))))))))))))))))))))))))))))) ∧ (q18 ∧ (t4 (q58 ∧ (q18 ∧ (t4 (q58 ∧ (q18 ∧ (q18 ∧ (t4 (q4 ∧ (q10 ∧ (q35 ∧ (q48 ∧ (∀ y5 : Nat, let q92 := (y5 - (1 : Nat) + (1 : Nat)); ((Int.toNat q16 + (1 : Nat) ≤ y5) → (q58 ∧ (q18 ∧ (q18 ∧ (t4 (q4 ∧ (q10 ∧ (T0 ∧ ((T0 ∧ ((false = false) ∧ (q13 ∧ (q40 ∧ ((@Eq Nat q92 q92) ∧ q32))))) ∧ (∀ y6 : Nat, let q89 := (y6 - (1 : Nat) + (1 : Nat)); let q90 := (some (Blk.cells [vi a, vi b, vi c, vi d, vi e, rsl (8 : Nat) (0 : Nat) nl y4, rsl (12 : Nat) (0 : Nat) q28 q89, vi (-1 : Int)] (100 : Nat))); let q91 := (some (Blk.row false [IntKind.i64] (3 : Nat) q28 q89 q69)); ((Int.toNat q16 + (1 : Nat) + (1 : Nat) ≤ y6) → (q58 ∧ (t3 ((True) ∧ (t9 (t9 (q0 ∧ (t2 ((InC a b c d e) ∧ (q13 ∧ (q2 ∧ (q55 ∧ (q7 ∧ (q61 ∧ (∀ y7 : Nat → Nat → Int, ((Bumped a b c d e nl y3 (↑y2 : Int) y y7) → (∀ y8 : Nat, ((nl ≤ y8) → (((@Eq (Option Blk) q91 q91) ∧ (q68 ∧ (q50 ∧ (q56 ∧ ((@Eq (Option Blk) q90 q90) ∧ q73))))) ∧ (t9 (t9 (t8 (∃ y9 : Value, (∃ y10 : List Blk, ((Go.Rx.Found 2 (Value.tuple { toList := [vi q60, rsl (13 : Nat) (0 : Nat) nl y8, rsl (12 : Nat) (0 : Nat) q28 q89, vi (0 : Int)] }) ({ h := [((13 : Nat), rF (54 : Nat) nl y8 y7), ((12 : Nat), Blk.row false [IntKind.i64] (3 : Nat) q28 q89 q69), q66, q45, q54, ((7 : Nat), Blk.cells [vi a, vi b, vi c, vi d, vi e, rsl (13 : Nat) (0 : Nat) nl y8, rsl (12 : Nat) (0 : Nat) q28 q89, vi (-1 : Int)] (100 : Nat)), q71, q75, q42, q38, q43, q27, q23], next := (14 : Nat) }) (y9) (y10)) ∧ (K y9 y10))))))))))))))))))))))))))))))))))))))))))))))))))))))))) (t9 (t2 (q30 ∧ (q31 ∧ (T0 ∧ (q19 ∧ ((q18 ∧ (t4 (q58 ∧ ((q18 ∧ (q18 ∧ (t4 (q4 ∧ (q10 ∧ (T0 ∧ (q13 ∧ (∀ y5 : Nat, let q88 := (y5 - (1 : Nat) + (1 : Nat)); (((1 : Nat) ≤ y5) → (q58 ∧ (q18 ∧ (t4 (q58 ∧ (q18 ∧ (q18 ∧ (t4 (q4 ∧ (q10 ∧ (T0 ∧ ((T0 ∧ ((false = false) ∧ (q13 ∧ (q14 ∧ ((@Eq Nat q88 q88) ∧ q11))))) ∧ (∀ y6 : Nat, let q85 := (y6 - (1 : Nat) + (1 : Nat)); let q86 := (some (Blk.cells [vi a, vi b, vi c, vi d, vi e, rsl (8 : Nat) (0 : Nat) nl y4, rsl (12 : Nat) (0 : Nat) (2 : Nat) q85, vi (-1 : Int)] (100 : Nat))); let q87 := (some (Blk.row false [IntKind.i64] (3 : Nat) (2 : Nat) q85 q67)); (((2 : Nat) ≤ y6) → (q58 ∧ (t3 ((True) ∧ (t9 (t9 (q0 ∧ (t2 ((InC a b c d e) ∧ (q13 ∧ (q2 ∧ (q55 ∧ (q7 ∧ (q61 ∧ (∀ y7 : Nat → Nat → Int, ((Bumped a b c d e nl y3 (↑y2 : Int) y y7) → (∀ y8 : Nat, ((nl ≤ y8) → (((@Eq (Option Blk) q87 q87) ∧ (q50 ∧ (q68 ∧ (q56 ∧ ((@Eq (Option Blk) q86 q86) ∧ q73))))) ∧ (t9 (t9 (t8 (∃ y9 : Value, (∃ y10 : List Blk, ((Go.Rx.Found 2 (Value.tuple { toList := [vi q60, rsl (13 : Nat) (0 : Nat) nl y8, rsl (12 : Nat) (0 : Nat) (2 : Nat) q85, vi (0 : Int)] }) ({ h := [((13 : Nat), rF (54 : Nat) nl y8 y7), ((12 : Nat), Blk.row false [IntKind.i64] (3 : Nat) (2 : Nat) q85 q67), q47, q65, q54, ((7 : Nat), Blk.cells [vi a, vi b, vi c, vi d, vi e, rsl (13 : Nat) (0 : Nat) nl y8, rsl (12 : Nat) (0 : Nat) (2 : Nat) q85, vi (-1 : Int)] (100 : Nat)), q71, q75, q42, q38, q43, q27, q23], next := (14 : Nat) }) (y9) (y10)) ∧ (K y9 y10))))))))))))))))))))))))))))))))))))))))))))))) ∧ (q18 ∧ (t4 (q58 ∧ (q18 ∧ (q18 ∧ (t4 (q4 ∧ (q10 ∧ (T0 ∧ (q13 ∧ (∀ y5 : Nat, let q84 := (y5 - (1 : Nat) + (1 : Nat)); (((1 : Nat) ≤ y5) → (q58 ∧ (q18 ∧ (q18 ∧ (t4 (q4 ∧ (q10 ∧ (T0 ∧ ((T0 ∧ ((false = false) ∧ (q13 ∧ (q14 ∧ ((@Eq Nat q84 q84) ∧ q11))))) ∧ (∀ y6 : Nat, let q81 := (y6 - (1 : Nat) + (1 : Nat)); let q82 := (some (Blk.cells [vi a, vi b, vi c, vi d, vi e, rsl (8 : Nat) (0 : Nat) nl y4, rsl (12 : Nat) (0 : Nat) (2 : Nat) q81, vi (-1 : Int)] (100 : Nat))); let q83 := (some (Blk.row false [IntKind.i64] (3 : Nat) (2 : Nat) q81 q67)); (((2 : Nat) ≤ y6) → (q58 ∧ (t3 ((True) ∧ (t9 (t9 (q0 ∧ (t2 ((InC a b c d e) ∧ (q13 ∧ (q2 ∧ (q55 ∧ (q7 ∧ (q61 ∧ (∀ y7 : Nat → Nat → Int, ((Bumped a b c d e nl y3 (↑y2 : Int) y y7) → (∀ y8 : Nat, ((nl ≤ y8) → (((@Eq (Option Blk) q83 q83) ∧ (q50 ∧ (q68 ∧ (q56 ∧ ((@Eq (Option Blk) q82 q82) ∧ q73))))) ∧ (t9 (t9 (t8 (∃ y9 : Value, (∃ y10 : List Blk, ((Go.Rx.Found 2 (Value.tuple { toList := [vi q60, rsl (13 : Nat) (0 : Nat) nl y8, rsl (12 : Nat) (0 : Nat) (2 : Nat) q81, vi (0 : Int)] }) ({ h := [((13 : Nat), rF (54 : Nat) nl y8 y7), ((12 : Nat), Blk.row false [IntKind.i64] (3 : Nat) (2 : Nat) q81 q67), q46, q65, q54, ((7 : Nat), Blk.cells [vi a, vi b, vi c, vi d, vi e, rsl (13 : Nat) (0 : Nat) nl y8, rsl (12 : Nat) (0 : Nat) (2 : Nat) q81, vi (-1 : Int)] (100 : Nat)), q71, q75, q42, q38, q43, q27, q23], next := (14 : Nat) }) (y9) (y10)) ∧ (K y9 y10))))))))))))))))))))))))))))))))))))))))))))))))))) ∧ (q18 ∧ (t4 (q58 ∧ (q18 ∧ (t4 (q58 ∧ (q18 ∧ (q18 ∧ (t4 (q4 ∧ (q10 ∧ (T0 ∧ (q13 ∧ (∀ y5 : Nat, let q80 := (y5 - (1 : Nat) + (1 : Nat)); (((1 : Nat) ≤ y5) → (q58 ∧ (q18 ∧ (q18 ∧ (t4 (q4 ∧ (q10 ∧ (T0 ∧ ((T0 ∧ ((false = false) ∧ (q13 ∧ (q14 ∧ ((@Eq Nat q80 q80) ∧ q11))))) ∧ (∀ y6 : Nat, let q77 := (y6 - (1 : Nat) + (1 : Nat)); let q78 := (some (Blk.cells [vi a, vi b, vi c, vi d, vi e, rsl (8 : Nat) (0 : Nat) nl y4, rsl (12 : Nat) (0 : Nat) (2 : Nat) q77, vi (-1 : Int)] (100 : Nat))); let q79 := (some (Blk.row false [IntKind.i64] (3 : Nat) (2 : Nat) q77 q67)); (((2 : Nat) ≤ y6) → (q58 ∧ (t3 ((True) ∧ (t9 (t9 (q0 ∧ (t2 ((InC a b c d e) ∧ (q13 ∧ (q2 ∧ (q55 ∧ (q7 ∧ (q61 ∧ (∀ y7 : Nat → Nat → Int, ((Bumped a b c d e nl y3 (↑y2 : Int) y y7) → (∀ y8 : Nat, ((nl ≤ y8) → (((@Eq (Option Blk) q79 q79) ∧ (q68 ∧ (q50 ∧ (q56 ∧ ((@Eq (Option Blk) q78 q78) ∧ q73))))) ∧ (t9 (t9 (t8 (∃ y9 : Value, (∃ y10 : List Blk, ((Go.Rx.Found 2 (Value.tuple { toList := [vi q60, rsl (13 : Nat) (0 : Nat) nl y8, rsl (12 : Nat) (0 : Nat) (2 : Nat) q77, vi (0 : Int)] }) ({ h := [((13 : Nat), rF (54 : Nat) nl y8 y7), ((12 : Nat), Blk.row false [IntKind.i64] (3 : Nat) (2 : Nat) q77 q67), q66, q45, q54, ((7 : Nat), Blk.cells [vi a, vi b, vi c, vi d, vi e, rsl (13 : Nat) (0 : Nat) nl y8, rsl (12 : Nat) (0 : Nat) (2 : Nat) q77, vi (-1 : Int)] (100 : Nat)), q71, q75, q42, q38, q43, q27, q23], next := (14 : Nat) }) (y9) (y10)) ∧ (K y9 y10))))))))))))))))))))))))))))))))))))))))))))))))))))))))))))))))))))))))))))))))))))))))))))))))))))))))))))))))))))))))))))))))))))))))))))))))))))))))))))
theorem con57I_rrE (a b c d e : Int) (el nl cl : Nat) (fl : RF) (et nt ct : Nat) (ft : RF) (y : Int) (K : Value → List Blk → Prop) : con57I_rrV a b c d e el nl cl fl et nt ct ft y K = bodyX (mkB X57G) (callN (mkB X57G) 7) (con57I_rrA a b c d e el nl cl fl et nt ct ft y) Try.f57 [five' a b c d e, rsl 0 0 nl cl, rsl 1 0 nt ct, .int .i64 y] (stOf [.row true [.i64, .i64] el nl cl fl, .row true [.i64] et nt ct ft]) (Fd 2 K) := by kernel_rfl
set_option tactic.hygienic false in
theorem con57I_rrP (a b c d e : Int) (el nl cl : Nat) (fl : RF) (et nt ct : Nat) (ft : RF) (y : Int) (K : Value → List Blk → Prop)  (hI : InC a b c d e) (hnl : nl ≤ 100000) (hnt : nt ≤ 100000) (hct : capOk (rsl 1 0 nt ct)) (h1 : askT a b c d e nl fl nt ft (-1) y = 0) (hbd : nt ≤ 1000) (hf : ¬ (sel (selE fl 0) nl = [] ∨ List.length (sel (selE fl 2) nl) = 2)) (hi : 0 < nt ∧ fl (ft (Int.toNat (((nt : Nat) : Int) - 1)) 0).toNat 0 = 1) (h : ∀ i g z, Placed a b c d e nl fl 2 i y g → z = 1 + c + (i : Int) * a → ∀ h, Ins nt ft i h → ∀ cp, nl ≤ cp → ∀ cp2, nt + 1 ≤ cp2 → K (.tuple ⟨[.int .i64 z, rsl 2 0 nl cp, rsl (2 + 1) 0 (nt + 1) cp2, .int .i64 0]⟩) [.row false [.i64, .i64] 54 nl cp g, .row false [.i64] 3 (nt + 1) cp2 h]) : con57I_rrV a b c d e el nl cl fl et nt ct ft y K := by
  unfold con57I_rrV
  conv => zeta
  obtain ⟨m, rfl⟩ : ∃ m, nt = m + 1 := ⟨nt - 1, by omega⟩
  have hct2 : m + 1 ≤ ct := hct
  have em : Int.toNat (((m + 1 : Nat) : Int) - 1) = m := (by omega)
  have em2 : Int.toNat (((m + 1 : Nat) : Int) - 1 - 0) = m := (by omega)
  obtain ⟨k0, k1, k2, k3, k4, k5⟩ := askT_bck h1
  obtain ⟨g1, g2, g3, g4⟩ := bck_ok k0
  have gc := bck_ck k0
  have go := bck_one k0
  have gk := fun h : 0 < (m + 1) => go (Int.toNat (((m + 1) : Int) - 1)) (by omega)
  have gm := go m (by omega)
  rw [em] at hi
  repeat' (first | (with_reducible first | exact rfl | exact trivial | refine And.intro ?_ ?_ | refine br_intro (fun hq => ?_) fun hq => ?_ | refine if_both (fun hz => ?_) fun hz => ?_) | (intro) | fail)
  all_goals try simp only [em2] at *
  all_goals try simp only [em] at *
  all_goals try (have gk := gk (by omega))
  all_goals try (rename Taken _ _ _ _ _ _ _ _ _ _ => T; have T0 := T.now0; have T1 := T.now1)
  all_goals try (have tl := taken_rest T (j := (ft m 0).toNat) (by omega))
  all_goals first
    | omega
    | assumption
    | contradiction
    | exact fin0 (by kernel_rfl) (by kernel_rfl) (by first | exact h | simpa using h)
    | exact T.ask
    | exact bck_ck k0
    | exact hf (.inl (by assumption))
    | exact hf (.inr (by assumption))
    | exact fin2x rfl rfl rfl (fun _ _ _ _ => rfl) (fun _ _ _ _ => rfl) (h _ _ _ (placed (.inr rfl) T ‹_›) (by omega) _ (by constructor <;> (try intro k hk) <;> simp [appF, litF] <;> omega) _ (by omega) _ (by omega))
    | exact fin2x rfl rfl rfl (fun _ _ _ _ => rfl) (fun _ _ _ _ => rfl) (h _ _ _ (placed (.inr rfl) T ‹_›) (by omega) _ (by constructor <;> (try intro k hk) <;> simp [appF, litF, hk]) _ (by omega) _ (by omega))
    | (obtain rfl : nt = 0 := (by simp at hq; omega)
       first
         | exact fin2x rfl rfl rfl (fun _ _ _ _ => rfl) (fun _ _ _ _ => rfl) (h _ _ _ (placed (.inr rfl) T ‹_›) (by omega) _ (by constructor <;> (try intro k hk) <;> simp [appF, litF] <;> omega) _ (by omega) _ (by omega))
         | exact fin2x rfl rfl rfl (fun _ _ _ _ => rfl) (fun _ _ _ _ => rfl) (h _ _ _ (placed (.inr rfl) T ‹_›) (by omega) _ (by constructor <;> (try intro k hk) <;> simp [appF, litF, hk]) _ (by omega) _ (by omega)))
    | (obtain rfl : m = 0 := (by have z := of_decide_eq_false hq; omega)
       exact fin2x rfl rfl rfl (fun _ _ _ _ => rfl) (fun _ _ _ _ => rfl) (h _ _ _ (placed (.inr rfl) T ‹_›) (by omega) _ (by refine ⟨fun k hk => ?_, ?_, ?_⟩ <;> simp [appF, litF, Nat.zero_add] <;> (repeat' split) <;> first | rfl | omega | (congr 1; omega) | (exfalso; omega)) _ (by omega) _ (by omega)))
    | exact fin2x rfl rfl rfl (fun _ _ _ _ => rfl) (fun _ _ _ _ => rfl) (h _ _ _ (placed (.inr rfl) T ‹_›) (by omega) _ (by refine ⟨fun k hk => ?_, ?_, ?_⟩ <;> simp [appF, litF, Nat.zero_add] <;> (repeat' split) <;> first | rfl | omega | (congr 1; omega) | (exfalso; omega)) _ (by omega) _ (by omega))
    | (exfalso; simp at hq; omega)
    | (exfalso; simp at hq; simp_all; omega)
theorem con57I_ok : BodyOk (mkB X57G) 7 Try.f57 con57I := by
  intro vs bs K hh hro
  clear hro
  unfold con57I at hh
  split at hh
  · rename_i u vl vt y
    obtain ⟨a, b, c, d, e, rfl, hI, hh0⟩ := five_inv hh
    obtain ⟨el, nl, cl, fl, btl, rfl, hnl, rfl, hh1⟩ := parseR_inv hh0
    obtain ⟨et, nt, ct, ft, btt, rfl, hnt, rfl, hh2⟩ := parseR_inv hh1
    obtain ⟨rfl, ⟨hct, h1, hbd, hf, hi⟩, hc⟩ := hh2
    exact ⟨_, _, cast (con57I_rrE a b c d e el nl cl fl et nt ct ft y K) (con57I_rrP a b c d e el nl cl fl et nt ct ft y K hI hnl hnt hct h1 hbd hf hi hc)⟩
  · exact hh.elim
theorem con57I_told : Told 57 (specOf con57I) := toldB (X := X57G) X57G_told (by kernel_rfl) (by kernel_rfl) (by kernel_rfl) con57I_ok
end Go.Proofs.Ytkflmglpniebfaa.Fr
namespace Go.Proofs.Ytkflmglpniebfaa.Fr
set_option maxRecDepth 100000
set_option maxHeartbeats 4000000
open Go.Rx
open Go.RowKit (Below)
set_option linter.unusedVariables false
/-- How many cars are taken by the first k sizes, and the room that is left. -/
def ndS (a : Int) (h : RF) (r : Int) : Nat → Int × Int
  | 0 => (0, r)
  | k + 1 => if (ndS a h r k).2 < h k 0 then ((ndS a h r k).1 + 1, a - h k 0) else ((ndS a h r k).1, (ndS a h r k).2 - h k 0)
theorem ndS_no (a : Int) (h : RF) (r : Int) {k : Nat} (q : (ndS a h r k).2 < h k 0) : ndS a h r (k + 1) = ((ndS a h r k).1 + 1, a - h k 0) := if_pos q
theorem ndS_yes (a : Int) (h : RF) (r : Int) {k : Nat} (q : ¬ (ndS a h r k).2 < h k 0) : ndS a h r (k + 1) = ((ndS a h r k).1, (ndS a h r k).2 - h k 0) := if_neg q
theorem ndS_bd (a : Int) (h : RF) (r : Int) (hr : 0 ≤ r ∧ r ≤ a) (n : Nat) (hs : ∀ k, k < n → 1 ≤ h k 0 ∧ h k 0 ≤ a) : ∀ k, k ≤ n → 0 ≤ (ndS a h r k).1 ∧ (ndS a h r k).1 ≤ k ∧ 0 ≤ (ndS a h r k).2 ∧ (ndS a h r k).2 ≤ a
  | 0, _ => ⟨Int.le_refl 0, Int.le_refl 0, hr.1, hr.2⟩
  | k + 1, hk => by
    have ih := ndS_bd a h r hr n hs k (by omega)
    have := hs k (by omega)
    by_cases q : (ndS a h r k).2 < h k 0
    · rw [ndS_no a h r q]; simp only; omega
    · rw [ndS_yes a h r q]; simp only; omega
/-- The room of the last car, if words may be placed there. -/
def room0 (a : Int) (f : RF) (m : Nat) (g : RF) (s : Int) : Int := if 0 < m ∧ f (lastC m g).toNat 0 = 1 ∧ ¬ lastC m g = s then a - f (lastC m g).toNat 1 else 0
theorem room0_bd {a b c d e : Int} {n m : Nat} {f g : RF} (h : (bck a b c d e n f m g).2 = 0) (s : Int) : 0 ≤ room0 a f m g s ∧ room0 a f m g s ≤ a := by
  obtain ⟨h1, -⟩ := bck_ok h
  unfold room0
  split
  · rename_i q
    have := bck_one h (Int.toNat ((m : Int) - 1)) (by omega)
    have e : g (Int.toNat ((m : Int) - 1)) 0 = lastC m g := rfl
    rw [e] at this
    omega
  · omega
theorem room0_yes {a : Int} {f g : RF} {m : Nat} {s : Int} (h : 0 < m ∧ f (lastC m g).toNat 0 = 1 ∧ ¬ lastC m g = s) : room0 a f m g s = a - f (lastC m g).toNat 1 := if_pos h
theorem room0_no {a : Int} {f g : RF} {m : Nat} {s : Int} (h : ¬ (0 < m ∧ f (lastC m g).toNat 0 = 1 ∧ ¬ lastC m g = s)) : room0 a f m g s = 0 := if_neg h
@[reducible] def X61 : List (Nat × Rx.Spec) := [(49, specOf con49G), (31, specOf con31G), (92, specOf con92a), (93, specOf con93a)]
theorem X61_told : ∀ p ∈ X61, Told p.1 p.2 := by
  intro p hp
  simp only [List.mem_cons, List.not_mem_nil, or_false] at hp
  rcases hp with rfl | rfl | rfl | rfl
  · exact con49G_told
  · exact con31G_told
  · exact con92a_told
  · exact con93a_told
end Go.Proofs.Ytkflmglpniebfaa.Fr
namespace Go.Proofs.Ytkflmglpniebfaa.Fr
set_option maxRecDepth 100000
set_option maxHeartbeats 4000000
open Go.Rx
open Go.RowKit (Below)
set_option linter.unusedVariables false
def con61G : Con := fun vs bs K => match vs with
  | [u, vl, vt, .int .i64 s, vz] => five u fun a b c d e => parseR [.i64, .i64] 0 vl bs fun nl fl j0 bs0 => parse [.i64] j0 vt bs0 fun nt ft j1 bs1 => parse [.i64] j1 vz bs1 fun nz fz j2 bs2 => bs2 = [] ∧ ((capOk (vt)) ∧ ((bck a b c d e nl fl nt ft).2 = 0) ∧ (s = -1) ∧ (∀ k, k < nz → 1 ≤ fz k 0 ∧ fz k 0 ≤ a) ∧ (nz ≤ 200)) ∧ (K (.tuple ⟨[.int .i64 (ndS a fz (room0 a fl nt ft s) nz).1, .int .i64 0]⟩) [])
  | _ => False

def con61G_rnnA (a b c d e : Int) (el nl cl : Nat) (fl : RF) (s : Int) : Ann := fun k tt ss => bif Nat.beq k 11 then some [{ α := Nat, T := fun k => ⟨62, [(5, .pointer (some ⟨1, 0, none⟩)), (10, .int .i64 (ndS a zF (room0 a fl 0 zF s) k).1), (13, .int .i64 (ndS a zF (room0 a fl 0 zF s) k).2), (44, .slice none 0 0), (45, .int .i64 (0 : Nat)), (46, .int .i64 (k : Int))]⟩, S := fun _ => ⟨[(1, .cells [.int .i64 a, .int .i64 b, .int .i64 c, .int .i64 d, .int .i64 e] 23), (0, .row true [.i64, .i64] el nl cl fl)], 2⟩, I := fun k => k ≤ 0 ∧ 0 ≤ k, m := fun k => 0 - k, ρ0 := [(1, 1)], ρ1 := [[(1, 1)]] }] else none
def con61G_rnrA (a b c d e : Int) (el nl cl : Nat) (fl : RF) (ez nz cz : Nat) (fz : RF) (s : Int) : Ann := fun k tt ss => bif Nat.beq k 11 then some [{ α := Nat, T := fun k => ⟨62, [(5, .pointer (some ⟨2, 0, none⟩)), (10, .int .i64 (ndS a fz (room0 a fl 0 zF s) k).1), (13, .int .i64 (ndS a fz (room0 a fl 0 zF s) k).2), (44, rsl 1 0 nz cz), (45, .int .i64 (nz : Nat)), (46, .int .i64 (k : Int))]⟩, S := fun _ => ⟨[(2, .cells [.int .i64 a, .int .i64 b, .int .i64 c, .int .i64 d, .int .i64 e] 23), (0, .row true [.i64, .i64] el nl cl fl), (1, .row true [.i64] ez nz cz fz)], 3⟩, I := fun k => k ≤ nz ∧ 0 ≤ k, m := fun k => nz - k, ρ0 := [(2, 2)], ρ1 := [[(2, 2)]] }] else none
def con61G_rrnA (a b c d e : Int) (el nl cl : Nat) (fl : RF) (et nt ct : Nat) (ft : RF) (s : Int) : Ann := fun k tt ss => bif Nat.beq k 11 then some [{ α := Nat, T := fun k => ⟨62, [(5, .pointer (some ⟨2, 0, none⟩)), (10, .int .i64 (ndS a zF (room0 a fl nt ft s) k).1), (13, .int .i64 (ndS a zF (room0 a fl nt ft s) k).2), (44, .slice none 0 0), (45, .int .i64 (0 : Nat)), (46, .int .i64 (k : Int))]⟩, S := fun _ => ⟨[(2, .cells [.int .i64 a, .int .i64 b, .int .i64 c, .int .i64 d, .int .i64 e] 23), (0, .row true [.i64, .i64] el nl cl fl), (1, .row true [.i64] et nt ct ft)], 3⟩, I := fun k => k ≤ 0 ∧ 0 ≤ k, m := fun k => 0 - k, ρ0 := [(2, 2)], ρ1 := [[(2, 2)]] }] else none
def con61G_rrrA (a b c d e : Int) (el nl cl : Nat) (fl : RF) (et nt ct : Nat) (ft : RF) (ez nz cz : Nat) (fz : RF) (s : Int) : Ann := fun k tt ss => bif Nat.beq k 11 then some [{ α := Nat, T := fun k => ⟨62, [(5, .pointer (some ⟨3, 0, none⟩)), (10, .int .i64 (ndS a fz (room0 a fl nt ft s) k).1), (13, .int .i64 (ndS a fz (room0 a fl nt ft s) k).2), (44, rsl 2 0 nz cz), (45, .int .i64 (nz : Nat)), (46, .int .i64 (k : Int))]⟩, S := fun _ => ⟨[(3, .cells [.int .i64 a, .int .i64 b, .int .i64 c, .int .i64 d, .int .i64 e] 23), (0, .row true [.i64, .i64] el nl cl fl), (1, .row true [.i64] et nt ct ft), (2, .row true [.i64] ez nz cz fz)], 4⟩, I := fun k => k ≤ nz ∧ 0 ≤ k, m := fun k => nz - k, ρ0 := [(3, 3)], ρ1 := [[(3, 3)]] }] else none
def con61G_rnnV (a b c d e : Int) (el nl cl : Nat) (fl : RF) (s : Int) (K : Value → List Blk → Prop) : Prop := let q0 := ((0 : Nat) + nl ≤ nl); let q1 := (nl ≤ (100000 : Nat)); let q2 := eB; let q3 := (room0 a fl (0 : Nat) zF s); let q4 := (@Eq Nat ((0 : Nat)) ((0 : Nat))); let q5 := TS; let q6 := (0, rT el nl cl fl); let q7 := (some (rT el nl cl fl)); let q8 := ((0 : Nat), rT el nl cl fl); let q9 := (eK ∧ ((@Eq Nat (nl) (nl)) ∧ (@Eq Nat (cl) (cl)))); let q10 := (1, Blk.cells [vi a, vi b, vi c, vi d, vi e] (23 : Nat)); let q11 := (some (Blk.cells [vi a, vi b, vi c, vi d, vi e] (23 : Nat))); let q12 := ((1 : Nat), Blk.cells [vi a, vi b, vi c, vi d, vi e] (23 : Nat)); let q13 := (@Eq (Option Blk) q11 q11); let q14 := (T0 ∧ (∃ y1 : Value, (∃ y2 : List Blk, ((Go.Rx.Found 1 (Value.tuple { toList := [vi (0 : Int), vi (7 : Int)] }) ({ h := [((2 : Nat), Blk.cells [vi a, vi b, vi c, vi d, vi e] (23 : Nat)), q12, q8], next := (3 : Nat) }) (y1) (y2)) ∧ (K y1 y2))))); let q15 := (q13 ∧ (q13 ∧ ((@Eq (Option Blk) q7 q7) ∧ (True)))); let q16 := (t6 (q0 ∧ (q4 ∧ (q1 ∧ (q9 ∧ (q2 ∧ (∀ y1 : Nat, ((nl ≤ y1) → (q15 ∧ (q15 ∧ (T0 ∧ (q2 ∧ (q15 ∧ (q15 ∧ (q15 ∧ (q15 ∧ (t2 (q5 ∧ (t5 (q5 ∧ (t6 (q5 ∧ ((∃ y2 : Nat, let q17 := (ndS a zF q3 y2); ((Go.Rx.Sub 1 [((1 : Nat), (1 : Nat))] ⟨62, [(46, vi (0 : Int)), (45, vi (0 : Int)), (44, vn), (13, vi (0 : Int)), (10, vi (0 : Int)), (5, Value.pointer (some { block := (1 : Nat), off := (0 : Nat) }))]⟩ ⟨[q10, q6], 5⟩ ({ n := (62 : Nat), m := [((5 : Nat), Value.pointer (some { block := (1 : Nat), off := (0 : Nat) })), ((10 : Nat), vi (Prod.fst q17)), ((13 : Nat), vi (Prod.snd q17)), ((44 : Nat), vn), ((45 : Nat), vi (0 : Int)), ((46 : Nat), vi (↑y2 : Int))] }) ({ h := [q12, q8], next := (2 : Nat) })) ∧ ((y2 ≤ (0 : Nat)) ∧ ((0 : Nat) ≤ y2)))) ∧ (∀ y2 : Nat, (((y2 ≤ (0 : Nat)) ∧ ((0 : Nat) ≤ y2)) → (T0 ∧ (∃ y3 : Value, (∃ y4 : List Blk, ((Go.Rx.Found 1 (Value.tuple { toList := [vi (Prod.fst (ndS a zF q3 y2)), vi (0 : Int)] }) ({ h := [q12, q8], next := (2 : Nat) }) (y3) (y4)) ∧ (K y3 y4)))))))))))))))))))))))))))))); (t5 (q0 ∧ (T0 ∧ ((InC a b c d e) ∧ (q4 ∧ (q1 ∧ (q9 ∧ (q2 ∧ (((Nat.le (0 : Nat) (0 : Nat)) ∧ (@Eq Int (Prod.snd (bck a b c d e nl fl (0 : Nat) zF)) ((0 : Int)))) ∧ (T0 ∧ (q5 ∧ ((∃ y0 : Nat, ((Go.Rx.Sub 2 [((2 : Nat), (2 : Nat))] ⟨69, [(28, vi (0 : Int)), (27, vi (0 : Int)), (26, vn), (5, Value.pointer (some { block := (2 : Nat), off := (0 : Nat) })), (1, rsl (0 : Nat) (0 : Nat) nl cl), (2, vn), (3, vi s)]⟩ ⟨[(2, Blk.cells [vi a, vi b, vi c, vi d, vi e] (23 : Nat)), q10, q6], 3⟩ ({ n := (69 : Nat), m := [((1 : Nat), rsl (0 : Nat) (0 : Nat) nl cl), ((2 : Nat), vn), ((3 : Nat), vi s), ((5 : Nat), Value.pointer (some { block := (2 : Nat), off := (0 : Nat) })), ((26 : Nat), vn), ((27 : Nat), vi (0 : Int)), ((28 : Nat), vi (↑y0 : Int))] }) ({ h := [((2 : Nat), Blk.cells [vi a, vi b, vi c, vi d, vi e] (23 : Nat)), q12, q8], next := (3 : Nat) })) ∧ ((y0 ≤ (0 : Nat)) ∧ ((0 : Nat) ≤ y0)))) ∧ (∀ y0 : Nat, (((y0 ≤ (0 : Nat)) ∧ ((0 : Nat) ≤ y0)) → (t2 (if (s < (-1 : Int)) then q14 else (t2 (if (b ≤ s) then q14 else (T0 ∧ (if (@Eq Int (s) ((-1 : Int))) then q16 else ((q5 ∧ (@Eq Nat ((2 : Nat)) ((2 : Nat)))) ∧ ((((0 : Int) ≤ s) ∧ (s < (↑nl : Int))) ∧ (T0 ∧ ((Int.toNat s < nl) ∧ (T0 ∧ (if (@Eq Int (fl (Int.toNat s) (0 : Nat)) ((0 : Int))) then (T0 ∧ (∃ y1 : Value, (∃ y2 : List Blk, ((Go.Rx.Found 1 (Value.tuple { toList := [vi (0 : Int), vi (9 : Int)] }) ({ h := [((2 : Nat), Blk.cells [vi a, vi b, vi c, vi d, vi e] (23 : Nat)), q12, q8], next := (3 : Nat) }) (y1) (y2)) ∧ (K y1 y2))))) else q16))))))))))))))))))))))))))
theorem con61G_rnnE (a b c d e : Int) (el nl cl : Nat) (fl : RF) (s : Int) (K : Value → List Blk → Prop) : con61G_rnnV a b c d e el nl cl fl s K = bodyX (mkB X61) (callI (mkB X61) (fun f ar s0 k tt ss => bif Nat.beq f 80 && Nat.beq k 5 then some [{ α := Nat, T := fun q => ⟨69, [(1, rsl 0 0 nl cl), (2, .slice none 0 0), (3, .int .i64 s), (5, .pointer (some ⟨2, 0, none⟩)), (26, .slice none 0 0), (27, .int .i64 (0 : Nat)), (28, .int .i64 (q : Int))]⟩, S := fun _ => ⟨[(2, .cells [.int .i64 a, .int .i64 b, .int .i64 c, .int .i64 d, .int .i64 e] 23), (1, .cells [.int .i64 a, .int .i64 b, .int .i64 c, .int .i64 d, .int .i64 e] 23), (0, .row true [.i64, .i64] el nl cl fl)], 3⟩, I := fun q => q ≤ 0 ∧ 0 ≤ q, m := fun q => 0 - q, ρ0 := [(2, 2)], ρ1 := [[(2, 2)]] }] else some []) 6) (con61G_rnnA a b c d e el nl cl fl s) Try.f61 [five' a b c d e, rsl 0 0 nl cl, .slice none 0 0, .int .i64 s, .slice none 0 0] (stOf [.row true [.i64, .i64] el nl cl fl]) (Fd 1 K) := by kernel_rfl
set_option tactic.hygienic false in
theorem con61G_rnnP (a b c d e : Int) (el nl cl : Nat) (fl : RF) (s : Int) (K : Value → List Blk → Prop)  (hI : InC a b c d e) (hnl : nl ≤ 100000) (hct : capOk (.slice none 0 0)) (h1 : (bck a b c d e nl fl 0 zF).2 = 0) (hs : s = -1) (hz0 : ∀ k, k < 0 → 1 ≤ zF k 0 ∧ zF k 0 ≤ a) (hz1 : 0 ≤ 200) (h : K (.tuple ⟨[.int .i64 (ndS a zF (room0 a fl 0 zF s) 0).1, .int .i64 0]⟩) []) : con61G_rnnV a b c d e el nl cl fl s K := by
  unfold con61G_rnnV
  conv => zeta
  have gc := bck_ck h1
  have go := bck_one h1
  obtain ⟨g1, g2, g3, g4⟩ := bck_ok h1
  have rb := room0_bd h1 s
  have nb := ndS_bd a zF (room0 a fl 0 zF s) rb 0 hz0
  repeat' (first | (with_reducible first | exact rfl | exact trivial | refine And.intro ?_ ?_ | refine br_intro (fun hq => ?_) fun hq => ?_ | refine if_both (fun hz => ?_) fun hz => ?_) | (intro) | fail)
  all_goals try (have gk := gk (by omega))
  all_goals try (have n2 := nb y2 (by omega))
  all_goals try (have z2 := hz0 y2 (by omega))
  all_goals try (have n3 := nb y3 (by omega))
  all_goals try (have z3 := hz0 y3 (by omega))
  all_goals try (have z0 := hz0 y0 (by omega))
  all_goals first
    | omega
    | assumption
    | contradiction
    | exact ask_of gc gk.1 gk.2.1
    | exact ⟨y2 + 1, (by (refine And.intro (And.intro rfl (And.intro rfl (And.intro rfl rfl))) ?_; (repeat' (first | exact trivial | exact rfl | exact fun _ _ _ _ => rfl | refine And.intro ?_ ?_ | (rw [ndS_yes a _ _ (by omega)]; done) | (rw [ndS_no a _ _ (by omega)]; done) | exact room0_no (fun q => absurd q.1 (by omega)) | omega | fail)); done)), ⟨by omega, by omega⟩, by omega⟩
    | exact ⟨y0 + 1, (by (refine And.intro (And.intro rfl (And.intro rfl (And.intro rfl rfl))) ?_; (repeat' (first | exact trivial | exact rfl | exact fun _ _ _ _ => rfl | refine And.intro ?_ ?_ | omega | fail)); done)), ⟨by omega, by omega⟩, by omega⟩
    | (have u := y1
       exact ⟨0, (by (refine And.intro (And.intro rfl (And.intro rfl (And.intro rfl rfl))) ?_; (repeat' (first | exact trivial | exact rfl | exact fun _ _ _ _ => rfl | refine And.intro ?_ ?_ | (rw [ndS_yes a _ _ (by omega)]; done) | (rw [ndS_no a _ _ (by omega)]; done) | exact room0_no (fun q => absurd q.1 (by omega)) | omega | fail)); done)), by omega, by omega⟩)
    | exact ⟨0, (by (refine And.intro (And.intro rfl (And.intro rfl (And.intro rfl rfl))) ?_; (repeat' (first | exact trivial | exact rfl | exact fun _ _ _ _ => rfl | refine And.intro ?_ ?_ | omega | fail)); done)), by omega, by omega⟩
    | (have e : y2 = 0 := (by omega)
       subst e
       exact fin0 (by kernel_rfl) (by kernel_rfl) h)
    | (exfalso; simp at hq; omega)
    | (exfalso; simp at hq; simp_all; omega)
def con61G_rnrV (a b c d e : Int) (el nl cl : Nat) (fl : RF) (ez nz cz : Nat) (fz : RF) (s : Int) (K : Value → List Blk → Prop) : Prop := let q0 := ((0 : Nat) + nl ≤ nl); let q1 := (nl ≤ (100000 : Nat)); let q2 := ((2 : Nat), (2 : Nat)); let q3 := ((3 : Nat), (3 : Nat)); let q4 := eB; let q5 := (room0 a fl (0 : Nat) zF s); let q6 := (9223372036854775807 : Int); let q7 := (-9223372036854775808 : Int); let q8 := (3, vi s); let q9 := (@Eq Nat ((0 : Nat)) ((0 : Nat))); let q10 := (1, rsl (0 : Nat) (0 : Nat) nl cl); let q11 := (44, rsl (1 : Nat) (0 : Nat) nz cz); let q12 := (26, rsl (1 : Nat) (0 : Nat) nz cz); let q13 := ((3 : Nat), vi s); let q14 := (45, vi (↑nz : Int)); let q15 := (27, vi (↑nz : Int)); let q16 := TS; let q17 := (2, vn); let q18 := ((1 : Nat), rsl (0 : Nat) (0 : Nat) nl cl); let q19 := (1, Blk.row true [IntKind.i64] ez nz cz fz); let q20 := ((44 : Nat), rsl (1 : Nat) (0 : Nat) nz cz); let q21 := ((26 : Nat), rsl (1 : Nat) (0 : Nat) nz cz); let q22 := ((45 : Nat), vi (↑nz : Int)); let q23 := (some (Blk.row true [IntKind.i64] ez nz cz fz)); let q24 := ((27 : Nat), vi (↑nz : Int)); let q25 := ((2 : Nat), vn); let q26 := ((1 : Nat), Blk.row true [IntKind.i64] ez nz cz fz); let q27 := (0, rT el nl cl fl); let q28 := (some (rT el nl cl fl)); let q29 := ((0 : Nat), rT el nl cl fl); let q30 := (5, Value.pointer (some { block := (2 : Nat), off := (0 : Nat) })); let q31 := (5, Value.pointer (some { block := (3 : Nat), off := (0 : Nat) })); let q32 := ((5 : Nat), Value.pointer (some { block := (2 : Nat), off := (0 : Nat) })); let q33 := ((5 : Nat), Value.pointer (some { block := (3 : Nat), off := (0 : Nat) })); let q34 := (q16 ∧ (@Eq Nat ((1 : Nat)) ((1 : Nat)))); let q35 := (eK ∧ ((@Eq Nat (nl) (nl)) ∧ (@Eq Nat (cl) (cl)))); let q36 := (2, Blk.cells [vi a, vi b, vi c, vi d, vi e] (23 : Nat)); let q37 := (3, Blk.cells [vi a, vi b, vi c, vi d, vi e] (23 : Nat)); let q38 := (some (Blk.cells [vi a, vi b, vi c, vi d, vi e] (23 : Nat))); let q39 := ((3 : Nat), Blk.cells [vi a, vi b, vi c, vi d, vi e] (23 : Nat)); let q40 := ((2 : Nat), Blk.cells [vi a, vi b, vi c, vi d, vi e] (23 : Nat)); let q41 := (@Eq (Option Blk) q38 q38); let q42 := (T0 ∧ (∃ y1 : Value, (∃ y2 : List Blk, ((Go.Rx.Found 2 (Value.tuple { toList := [vi (0 : Int), vi (7 : Int)] }) ({ h := [q39, q40, q29, q26], next := (4 : Nat) }) (y1) (y2)) ∧ (K y1 y2))))); let q43 := (q41 ∧ (q41 ∧ ((@Eq (Option Blk) q28 q28) ∧ ((@Eq (Option Blk) q23 q23) ∧ (True))))); let q44 := (t6 (q0 ∧ (q9 ∧ (q1 ∧ (q35 ∧ (q4 ∧ (∀ y1 : Nat, ((nl ≤ y1) → (q43 ∧ (q43 ∧ (T0 ∧ (q4 ∧ (q43 ∧ (q43 ∧ (q43 ∧ (q43 ∧ (t2 (q16 ∧ (T0 ∧ (if ((200 : Int) < (↑nz : Int)) then (∃ y2 : Value, (∃ y3 : List Blk, ((Go.Rx.Found 2 (Value.tuple { toList := [vi (0 : Int), vi (3 : Int)] }) ({ h := [((5 : Nat), Blk.cells [vi a, vi b, vi c, vi d, vi e, rsl (4 : Nat) (0 : Nat) nl y1, vn, vi s] (100 : Nat)), ((4 : Nat), rF (54 : Nat) nl y1 fl), q39, q40, q29, q26], next := (6 : Nat) }) (y2) (y3)) ∧ (K y2 y3)))) else (t4 (q16 ∧ (t6 (q16 ∧ ((∃ y2 : Nat, let q51 := (ndS a fz q5 y2); ((Go.Rx.Sub 2 [q2] ⟨62, [(46, vi (0 : Int)), q14, q11, (13, vi (0 : Int)), (10, vi (0 : Int)), q30]⟩ ⟨[q36, q27, q19], 6⟩ ({ n := (62 : Nat), m := [q32, ((10 : Nat), vi (Prod.fst q51)), ((13 : Nat), vi (Prod.snd q51)), q20, q22, ((46 : Nat), vi (↑y2 : Int))] }) ({ h := [q40, q29, q26], next := (3 : Nat) })) ∧ ((y2 ≤ nz) ∧ ((0 : Nat) ≤ y2)))) ∧ (∀ y2 : Nat, let q45 := (ndS a fz q5 y2); let q46 := (Prod.fst q45); let q47 := (46, vi ((↑y2 : Int) + (1 : Int))); let q48 := ((q7 ≤ (↑y2 : Int) + (1 : Int)) ∧ ((↑y2 : Int) + (1 : Int) ≤ q6)); (((y2 ≤ nz) ∧ ((0 : Nat) ≤ y2)) → (T0 ∧ (if ((↑y2 : Int) < (↑nz : Int)) then (q34 ∧ ((((0 : Int) ≤ (↑y2 : Int)) ∧ ((↑y2 : Int) < (↑nz : Int))) ∧ ((y2 < nz) ∧ (T0 ∧ (if (Prod.snd q45 < fz y2 (0 : Nat)) then (T0 ∧ (((q7 ≤ Prod.fst q45 + (1 : Int)) ∧ (Prod.fst q45 + (1 : Int) ≤ q6)) ∧ (t2 (((q7 ≤ a - fz y2 (0 : Nat)) ∧ (a - fz y2 (0 : Nat) ≤ q6)) ∧ (T0 ∧ (q48 ∧ (∃ y3 : Nat, let q50 := (ndS a fz q5 y3); ((Go.Rx.Sub 2 [q2] ⟨62, [q47, (13, vi (a - fz y2 (0 : Nat))), (10, vi (Prod.fst q45 + (1 : Int))), q30, q11, q14]⟩ ⟨[q36, q27, q19], 3⟩ ({ n := (62 : Nat), m := [q32, ((10 : Nat), vi (Prod.fst q50)), ((13 : Nat), vi (Prod.snd q50)), q20, q22, ((46 : Nat), vi (↑y3 : Int))] }) ({ h := [q40, q29, q26], next := (3 : Nat) })) ∧ (((y3 ≤ nz) ∧ ((0 : Nat) ≤ y3)) ∧ (nz - y3 < nz - y2)))))))))) else (T0 ∧ (((q7 ≤ Prod.snd q45 - fz y2 (0 : Nat)) ∧ (Prod.snd q45 - fz y2 (0 : Nat) ≤ q6)) ∧ (T0 ∧ (q48 ∧ (∃ y3 : Nat, let q49 := (ndS a fz q5 y3); ((Go.Rx.Sub 2 [q2] ⟨62, [q47, (13, vi (Prod.snd q45 - fz y2 (0 : Nat))), q30, (10, vi q46), q11, q14]⟩ ⟨[q36, q27, q19], 3⟩ ({ n := (62 : Nat), m := [q32, ((10 : Nat), vi (Prod.fst q49)), ((13 : Nat), vi (Prod.snd q49)), q20, q22, ((46 : Nat), vi (↑y3 : Int))] }) ({ h := [q40, q29, q26], next := (3 : Nat) })) ∧ (((y3 ≤ nz) ∧ ((0 : Nat) ≤ y3)) ∧ (nz - y3 < nz - y2))))))))))))) else (∃ y3 : Value, (∃ y4 : List Blk, ((Go.Rx.Found 2 (Value.tuple { toList := [vi q46, vi (0 : Int)] }) ({ h := [q40, q29, q26], next := (3 : Nat) }) (y3) (y4)) ∧ (K y3 y4))))))))))))))))))))))))))))))))); (t5 (q0 ∧ (T0 ∧ ((InC a b c d e) ∧ (q9 ∧ (q1 ∧ (q35 ∧ (q4 ∧ (((Nat.le (0 : Nat) (0 : Nat)) ∧ (@Eq Int (Prod.snd (bck a b c d e nl fl (0 : Nat) zF)) ((0 : Int)))) ∧ (T0 ∧ (q16 ∧ ((∃ y0 : Nat, ((Go.Rx.Sub 3 [q3] ⟨69, [(28, vi (0 : Int)), q15, q12, q31, q10, q17, q8]⟩ ⟨[q37, q36, q27, q19], 4⟩ ({ n := (69 : Nat), m := [q18, q25, q13, q33, q21, q24, ((28 : Nat), vi (↑y0 : Int))] }) ({ h := [q39, q40, q29, q26], next := (4 : Nat) })) ∧ ((y0 ≤ nz) ∧ ((0 : Nat) ≤ y0)))) ∧ (∀ y0 : Nat, (((y0 ≤ nz) ∧ ((0 : Nat) ≤ y0)) → (T0 ∧ (if ((↑y0 : Int) < (↑nz : Int)) then (q34 ∧ ((((0 : Int) ≤ (↑y0 : Int)) ∧ ((↑y0 : Int) < (↑nz : Int))) ∧ ((y0 < nz) ∧ (T0 ∧ (if (fz y0 (0 : Nat) < (1 : Int)) then q42 else (t2 (if (a < fz y0 (0 : Nat)) then q42 else (T0 ∧ (((q7 ≤ (↑y0 : Int) + (1 : Int)) ∧ ((↑y0 : Int) + (1 : Int) ≤ q6)) ∧ (∃ y1 : Nat, ((Go.Rx.Sub 3 [q3] ⟨69, [(28, vi ((↑y0 : Int) + (1 : Int))), q10, q17, q8, q31, q12, q15]⟩ ⟨[q37, q36, q27, q19], 4⟩ ({ n := (69 : Nat), m := [q18, q25, q13, q33, q21, q24, ((28 : Nat), vi (↑y1 : Int))] }) ({ h := [q39, q40, q29, q26], next := (4 : Nat) })) ∧ (((y1 ≤ nz) ∧ ((0 : Nat) ≤ y1)) ∧ (nz - y1 < nz - y0))))))))))))) else (T0 ∧ (if (s < (-1 : Int)) then q42 else (t2 (if (b ≤ s) then q42 else (T0 ∧ (if (@Eq Int (s) ((-1 : Int))) then q44 else ((q16 ∧ (@Eq Nat ((2 : Nat)) ((2 : Nat)))) ∧ ((((0 : Int) ≤ s) ∧ (s < (↑nl : Int))) ∧ (T0 ∧ ((Int.toNat s < nl) ∧ (T0 ∧ (if (@Eq Int (fl (Int.toNat s) (0 : Nat)) ((0 : Int))) then (T0 ∧ (∃ y1 : Value, (∃ y2 : List Blk, ((Go.Rx.Found 2 (Value.tuple { toList := [vi (0 : Int), vi (9 : Int)] }) ({ h := [q39, q40, q29, q26], next := (4 : Nat) }) (y1) (y2)) ∧ (K y1 y2))))) else q44))))))))))))))))))))))))))))
theorem con61G_rnrE (a b c d e : Int) (el nl cl : Nat) (fl : RF) (ez nz cz : Nat) (fz : RF) (s : Int) (K : Value → List Blk → Prop) : con61G_rnrV a b c d e el nl cl fl ez nz cz fz s K = bodyX (mkB X61) (callI (mkB X61) (fun f ar s0 k tt ss => bif Nat.beq f 80 && Nat.beq k 5 then some [{ α := Nat, T := fun q => ⟨69, [(1, rsl 0 0 nl cl), (2, .slice none 0 0), (3, .int .i64 s), (5, .pointer (some ⟨3, 0, none⟩)), (26, rsl 1 0 nz cz), (27, .int .i64 (nz : Nat)), (28, .int .i64 (q : Int))]⟩, S := fun _ => ⟨[(3, .cells [.int .i64 a, .int .i64 b, .int .i64 c, .int .i64 d, .int .i64 e] 23), (2, .cells [.int .i64 a, .int .i64 b, .int .i64 c, .int .i64 d, .int .i64 e] 23), (0, .row true [.i64, .i64] el nl cl fl), (1, .row true [.i64] ez nz cz fz)], 4⟩, I := fun q => q ≤ nz ∧ 0 ≤ q, m := fun q => nz - q, ρ0 := [(3, 3)], ρ1 := [[(3, 3)]] }] else some []) 6) (con61G_rnrA a b c d e el nl cl fl ez nz cz fz s) Try.f61 [five' a b c d e, rsl 0 0 nl cl, .slice none 0 0, .int .i64 s, rsl 1 0 nz cz] (stOf [.row true [.i64, .i64] el nl cl fl, .row true [.i64] ez nz cz fz]) (Fd 2 K) := by kernel_rfl
set_option tactic.hygienic false in
theorem con61G_rnrP (a b c d e : Int) (el nl cl : Nat) (fl : RF) (ez nz cz : Nat) (fz : RF) (s : Int) (K : Value → List Blk → Prop)  (hI : InC a b c d e) (hnl : nl ≤ 100000) (hnz : nz ≤ 100000) (hct : capOk (.slice none 0 0)) (h1 : (bck a b c d e nl fl 0 zF).2 = 0) (hs : s = -1) (hz0 : ∀ k, k < nz → 1 ≤ fz k 0 ∧ fz k 0 ≤ a) (hz1 : nz ≤ 200) (h : K (.tuple ⟨[.int .i64 (ndS a fz (room0 a fl 0 zF s) nz).1, .int .i64 0]⟩) []) : con61G_rnrV a b c d e el nl cl fl ez nz cz fz s K := by
  unfold con61G_rnrV
  conv => zeta
  have gc := bck_ck h1
  have go := bck_one h1
  obtain ⟨g1, g2, g3, g4⟩ := bck_ok h1
  have rb := room0_bd h1 s
  have nb := ndS_bd a fz (room0 a fl 0 zF s) rb nz hz0
  repeat' (first | (with_reducible first | exact rfl | exact trivial | refine And.intro ?_ ?_ | refine br_intro (fun hq => ?_) fun hq => ?_ | refine if_both (fun hz => ?_) fun hz => ?_) | (intro) | fail)
  all_goals try (have gk := gk (by omega))
  all_goals try (have n2 := nb y2 (by omega))
  all_goals try (have z2 := hz0 y2 (by omega))
  all_goals try (have n3 := nb y3 (by omega))
  all_goals try (have z3 := hz0 y3 (by omega))
  all_goals try (have z0 := hz0 y0 (by omega))
  all_goals first
    | omega
    | assumption
    | contradiction
    | exact ask_of gc gk.1 gk.2.1
    | exact ⟨y2 + 1, (by (refine And.intro (And.intro rfl (And.intro rfl (And.intro rfl rfl))) ?_; (repeat' (first | exact trivial | exact rfl | exact fun _ _ _ _ => rfl | refine And.intro ?_ ?_ | (rw [ndS_yes a _ _ (by omega)]; done) | (rw [ndS_no a _ _ (by omega)]; done) | exact room0_no (fun q => absurd q.1 (by omega)) | omega | fail)); done)), ⟨by omega, by omega⟩, by omega⟩
    | exact ⟨y0 + 1, (by (refine And.intro (And.intro rfl (And.intro rfl (And.intro rfl rfl))) ?_; (repeat' (first | exact trivial | exact rfl | exact fun _ _ _ _ => rfl | refine And.intro ?_ ?_ | omega | fail)); done)), ⟨by omega, by omega⟩, by omega⟩
    | (have u := y1
       exact ⟨0, (by (refine And.intro (And.intro rfl (And.intro rfl (And.intro rfl rfl))) ?_; (repeat' (first | exact trivial | exact rfl | exact fun _ _ _ _ => rfl | refine And.intro ?_ ?_ | (rw [ndS_yes a _ _ (by omega)]; done) | (rw [ndS_no a _ _ (by omega)]; done) | exact room0_no (fun q => absurd q.1 (by omega)) | omega | fail)); done)), by omega, by omega⟩)
    | exact ⟨0, (by (refine And.intro (And.intro rfl (And.intro rfl (And.intro rfl rfl))) ?_; (repeat' (first | exact trivial | exact rfl | exact fun _ _ _ _ => rfl | refine And.intro ?_ ?_ | omega | fail)); done)), by omega, by omega⟩
    | (have e : y2 = nz := (by omega)
       subst e
       exact fin0 (by kernel_rfl) (by kernel_rfl) h)
    | (exfalso; simp at hq; omega)
    | (exfalso; simp at hq; simp_all; omega)
def con61G_rrnV (a b c d e : Int) (el nl cl : Nat) (fl : RF) (et nt ct : Nat) (ft : RF) (s : Int) (K : Value → List Blk → Prop) : Prop := let q0 := ((0 : Nat) + nl ≤ nl); let q1 := ((0 : Nat) + nt ≤ nt); let q2 := (nl ≤ (100000 : Nat)); let q3 := (nt ≤ (100000 : Nat)); let q4 := ((2 : Nat), (2 : Nat)); let q5 := ((↑nt : Int) - (1 : Int)); let q6 := eB; let q7 := (@Eq Nat ((0 : Nat)) ((0 : Nat))); let q8 := (@Eq Nat ((1 : Nat)) ((1 : Nat))); let q9 := (46, vi (0 : Int)); let q10 := (45, vi (0 : Int)); let q11 := (10, vi (0 : Int)); let q12 := (Int.toNat q5); let q13 := TS; let q14 := (44, vn); let q15 := (1, Blk.row true [IntKind.i64] et nt ct ft); let q16 := ((45 : Nat), vi (0 : Int)); let q17 := (some (Blk.row true [IntKind.i64] et nt ct ft)); let q18 := ((44 : Nat), vn); let q19 := ((1 : Nat), Blk.row true [IntKind.i64] et nt ct ft); let q20 := (ft q12 (0 : Nat)); let q21 := (0, rT el nl cl fl); let q22 := (some (rT el nl cl fl)); let q23 := ((0 : Nat), rT el nl cl fl); let q24 := (Int.toNat q20); let q25 := (5, Value.pointer (some { block := (2 : Nat), off := (0 : Nat) })); let q26 := ((5 : Nat), Value.pointer (some { block := (2 : Nat), off := (0 : Nat) })); let q27 := eK; let q28 := (q13 ∧ (@Eq Nat ((2 : Nat)) ((2 : Nat)))); let q29 := ((@Eq (List IntKind) ([IntKind.i64]) ([IntKind.i64])) ∧ ((@Eq Nat (nt) (nt)) ∧ (@Eq Nat (ct) (ct)))); let q30 := (q27 ∧ ((@Eq Nat (nl) (nl)) ∧ (@Eq Nat (cl) (cl)))); let q31 := (2, Blk.cells [vi a, vi b, vi c, vi d, vi e] (23 : Nat)); let q32 := (some (Blk.cells [vi a, vi b, vi c, vi d, vi e] (23 : Nat))); let q33 := ((2 : Nat), Blk.cells [vi a, vi b, vi c, vi d, vi e] (23 : Nat)); let q34 := (@Eq (Option Blk) q32 q32); let q35 := (∀ y3 : Nat, (((y3 ≤ (0 : Nat)) ∧ ((0 : Nat) ≤ y3)) → (T0 ∧ (∃ y4 : Value, (∃ y5 : List Blk, ((Go.Rx.Found 2 (Value.tuple { toList := [vi (Prod.fst (ndS a zF (room0 a fl nt ft s) y3)), vi (0 : Int)] }) ({ h := [q33, q23, q19], next := (3 : Nat) }) (y4) (y5)) ∧ (K y4 y5))))))); let q36 := (T0 ∧ (∃ y1 : Value, (∃ y2 : List Blk, ((Go.Rx.Found 2 (Value.tuple { toList := [vi (0 : Int), vi (7 : Int)] }) ({ h := [((3 : Nat), Blk.cells [vi a, vi b, vi c, vi d, vi e] (23 : Nat)), q33, q23, q19], next := (4 : Nat) }) (y1) (y2)) ∧ (K y1 y2))))); let q37 := (q34 ∧ (q34 ∧ ((@Eq (Option Blk) q22 q22) ∧ ((@Eq (Option Blk) q17 q17) ∧ (True))))); let q38 := (T0 ∧ (q13 ∧ ((∃ y3 : Nat, let q44 := (ndS a zF (room0 a fl nt ft s) y3); ((Go.Rx.Sub 2 [q4] ⟨62, [q9, q10, q14, (13, vi (0 : Int)), q11, q25]⟩ ⟨[q31, q21, q15], 7⟩ ({ n := (62 : Nat), m := [q26, ((10 : Nat), vi (Prod.fst q44)), ((13 : Nat), vi (Prod.snd q44)), q18, q16, ((46 : Nat), vi (↑y3 : Int))] }) ({ h := [q33, q23, q19], next := (3 : Nat) })) ∧ ((y3 ≤ (0 : Nat)) ∧ ((0 : Nat) ≤ y3)))) ∧ q35))); let q39 := (t6 (q0 ∧ (q7 ∧ (q2 ∧ (q30 ∧ (q6 ∧ (∀ y1 : Nat, let q45 := (some (rF (54 : Nat) nl y1 fl)); ((nl ≤ y1) → (q37 ∧ (q37 ∧ (q1 ∧ (q7 ∧ (q3 ∧ (q29 ∧ (q6 ∧ (∀ y2 : Nat, let q40 := (some (Blk.row false [IntKind.i64] (3 : Nat) nt y2 ft)); let q41 := (some (Blk.cells [vi a, vi b, vi c, vi d, vi e, rsl (4 : Nat) (0 : Nat) nl y1, rsl (5 : Nat) (0 : Nat) nt y2, vi s] (100 : Nat))); let q42 := ((@Eq (Option Blk) q41 q41) ∧ ((@Eq (Option Blk) q40 q40) ∧ ((@Eq (Option Blk) q45 q45) ∧ q37))); ((nt ≤ y2) → (q37 ∧ (q37 ∧ (q37 ∧ (q37 ∧ (t2 (q13 ∧ (t5 (q13 ∧ (T0 ∧ (if (@Eq Int ((↑nt : Int)) ((0 : Int))) then (t4 q38) else (t9 (t3 (q13 ∧ (t2 ((((-9223372036854775808 : Int) ≤ (↑nt : Int) - (1 : Int)) ∧ ((↑nt : Int) - (1 : Int) ≤ (9223372036854775807 : Int))) ∧ (T0 ∧ ((q13 ∧ q8) ∧ ((((0 : Int) ≤ (↑nt : Int) - (1 : Int)) ∧ ((↑nt : Int) - (1 : Int) < (↑nt : Int))) ∧ (T0 ∧ ((Int.toNat q5 < nt) ∧ (t9 (t4 (q28 ∧ ((((0 : Int) ≤ ft q12 (0 : Nat)) ∧ (ft q12 (0 : Nat) < (↑nl : Int))) ∧ (T0 ∧ ((Int.toNat q20 < nl) ∧ (T0 ∧ (if (@Eq Int (fl q24 (0 : Nat)) ((2 : Int))) then (q42 ∧ q38) else (q42 ∧ (t2 (if (@Eq Int q20 (s)) then q38 else (t9 (t8 (q0 ∧ (T0 ∧ ((InC a b c d e) ∧ (q7 ∧ (q2 ∧ ((q27 ∧ ((@Eq Nat (nl) (nl)) ∧ (@Eq Nat (y1) (y1)))) ∧ (q6 ∧ (((@Eq Int (askF a b c d e nl fl q20) ((0 : Int))) ∧ (¬fl q24 (0 : Nat) = (0 : Int))) ∧ (q42 ∧ (T0 ∧ (q13 ∧ ((∃ y3 : Nat, let q43 := (ndS a zF (room0 a fl nt ft s) y3); ((Go.Rx.Sub 2 [q4] ⟨62, [q9, q10, q14, (13, vi (a - fl q24 (1 : Nat))), q11, q25]⟩ ⟨[q31, q21, q15], 7⟩ ({ n := (62 : Nat), m := [q26, ((10 : Nat), vi (Prod.fst q43)), ((13 : Nat), vi (Prod.snd q43)), q18, q16, ((46 : Nat), vi (↑y3 : Int))] }) ({ h := [q33, q23, q19], next := (3 : Nat) })) ∧ ((y3 ≤ (0 : Nat)) ∧ ((0 : Nat) ≤ y3)))) ∧ q35)))))))))))))))))))))))))))))))))))))))))))))))))))))))))))))); (t5 (q0 ∧ (q1 ∧ ((InC a b c d e) ∧ (q7 ∧ (q2 ∧ (q30 ∧ (q8 ∧ (q3 ∧ (q29 ∧ (q6 ∧ (((Nat.le nt ct) ∧ (@Eq Int (Prod.snd (bck a b c d e nl fl nt ft)) ((0 : Int)))) ∧ (T0 ∧ (q13 ∧ ((∃ y0 : Nat, ((Go.Rx.Sub 3 [((3 : Nat), (3 : Nat))] ⟨69, [(28, vi (0 : Int)), (27, vi (0 : Int)), (26, vn), (5, Value.pointer (some { block := (3 : Nat), off := (0 : Nat) })), (1, rsl (0 : Nat) (0 : Nat) nl cl), (2, rsl (1 : Nat) (0 : Nat) nt ct), (3, vi s)]⟩ ⟨[(3, Blk.cells [vi a, vi b, vi c, vi d, vi e] (23 : Nat)), q31, q21, q15], 4⟩ ({ n := (69 : Nat), m := [((1 : Nat), rsl (0 : Nat) (0 : Nat) nl cl), ((2 : Nat), rsl (1 : Nat) (0 : Nat) nt ct), ((3 : Nat), vi s), ((5 : Nat), Value.pointer (some { block := (3 : Nat), off := (0 : Nat) })), ((26 : Nat), vn), ((27 : Nat), vi (0 : Int)), ((28 : Nat), vi (↑y0 : Int))] }) ({ h := [((3 : Nat), Blk.cells [vi a, vi b, vi c, vi d, vi e] (23 : Nat)), q33, q23, q19], next := (4 : Nat) })) ∧ ((y0 ≤ (0 : Nat)) ∧ ((0 : Nat) ≤ y0)))) ∧ (∀ y0 : Nat, (((y0 ≤ (0 : Nat)) ∧ ((0 : Nat) ≤ y0)) → (t2 (if (s < (-1 : Int)) then q36 else (t2 (if (b ≤ s) then q36 else (T0 ∧ (if (@Eq Int (s) ((-1 : Int))) then q39 else (q28 ∧ ((((0 : Int) ≤ s) ∧ (s < (↑nl : Int))) ∧ (T0 ∧ ((Int.toNat s < nl) ∧ (T0 ∧ (if (@Eq Int (fl (Int.toNat s) (0 : Nat)) ((0 : Int))) then (T0 ∧ (∃ y1 : Value, (∃ y2 : List Blk, ((Go.Rx.Found 2 (Value.tuple { toList := [vi (0 : Int), vi (9 : Int)] }) ({ h := [((3 : Nat), Blk.cells [vi a, vi b, vi c, vi d, vi e] (23 : Nat)), q33, q23, q19], next := (4 : Nat) }) (y1) (y2)) ∧ (K y1 y2))))) else q39)))))))))))))))))))))))))))))
theorem con61G_rrnE (a b c d e : Int) (el nl cl : Nat) (fl : RF) (et nt ct : Nat) (ft : RF) (s : Int) (K : Value → List Blk → Prop) : con61G_rrnV a b c d e el nl cl fl et nt ct ft s K = bodyX (mkB X61) (callI (mkB X61) (fun f ar s0 k tt ss => bif Nat.beq f 80 && Nat.beq k 5 then some [{ α := Nat, T := fun q => ⟨69, [(1, rsl 0 0 nl cl), (2, rsl 1 0 nt ct), (3, .int .i64 s), (5, .pointer (some ⟨3, 0, none⟩)), (26, .slice none 0 0), (27, .int .i64 (0 : Nat)), (28, .int .i64 (q : Int))]⟩, S := fun _ => ⟨[(3, .cells [.int .i64 a, .int .i64 b, .int .i64 c, .int .i64 d, .int .i64 e] 23), (2, .cells [.int .i64 a, .int .i64 b, .int .i64 c, .int .i64 d, .int .i64 e] 23), (0, .row true [.i64, .i64] el nl cl fl), (1, .row true [.i64] et nt ct ft)], 4⟩, I := fun q => q ≤ 0 ∧ 0 ≤ q, m := fun q => 0 - q, ρ0 := [(3, 3)], ρ1 := [[(3, 3)]] }] else some []) 6) (con61G_rrnA a b c d e el nl cl fl et nt ct ft s) Try.f61 [five' a b c d e, rsl 0 0 nl cl, rsl 1 0 nt ct, .int .i64 s, .slice none 0 0] (stOf [.row true [.i64, .i64] el nl cl fl, .row true [.i64] et nt ct ft]) (Fd 2 K) := by kernel_rfl
set_option tactic.hygienic false in
theorem con61G_rrnP (a b c d e : Int) (el nl cl : Nat) (fl : RF) (et nt ct : Nat) (ft : RF) (s : Int) (K : Value → List Blk → Prop)  (hI : InC a b c d e) (hnl : nl ≤ 100000) (hnt : nt ≤ 100000) (hct : capOk (rsl 1 0 nt ct)) (h1 : (bck a b c d e nl fl nt ft).2 = 0) (hs : s = -1) (hz0 : ∀ k, k < 0 → 1 ≤ zF k 0 ∧ zF k 0 ≤ a) (hz1 : 0 ≤ 200) (h : K (.tuple ⟨[.int .i64 (ndS a zF (room0 a fl nt ft s) 0).1, .int .i64 0]⟩) []) : con61G_rrnV a b c d e el nl cl fl et nt ct ft s K := by
  unfold con61G_rrnV
  conv => zeta
  have gc := bck_ck h1
  have go := bck_one h1
  obtain ⟨g1, g2, g3, g4⟩ := bck_ok h1
  have rb := room0_bd h1 s
  have nb := ndS_bd a zF (room0 a fl nt ft s) rb 0 hz0
  have gk := fun h : 0 < nt => go (Int.toNat ((nt : Int) - 1)) (by omega)
  repeat' (first | (with_reducible first | exact rfl | exact trivial | refine And.intro ?_ ?_ | refine br_intro (fun hq => ?_) fun hq => ?_ | refine if_both (fun hz => ?_) fun hz => ?_) | (intro) | fail)
  all_goals try (have gk := gk (by omega))
  all_goals try (have n2 := nb y2 (by omega))
  all_goals try (have z2 := hz0 y2 (by omega))
  all_goals try (have n3 := nb y3 (by omega))
  all_goals try (have z3 := hz0 y3 (by omega))
  all_goals try (have z0 := hz0 y0 (by omega))
  all_goals first
    | omega
    | assumption
    | contradiction
    | exact ask_of gc gk.1 gk.2.1
    | exact ⟨y3 + 1, (by (refine And.intro (And.intro rfl (And.intro rfl (And.intro rfl rfl))) ?_; (repeat' (first | exact trivial | exact rfl | exact fun _ _ _ _ => rfl | refine And.intro ?_ ?_ | (rw [ndS_yes a _ _ (by omega)]; done) | (rw [ndS_no a _ _ (by omega)]; done) | exact room0_yes ⟨by omega, (by show fl (ft (Int.toNat (((nt : Nat) : Int) - 1)) 0).toNat 0 = 1; omega), (by show ¬ ft (Int.toNat (((nt : Nat) : Int) - 1)) 0 = s; omega)⟩ | exact room0_no (fun q => (by have q1 := q.1; have q2 : fl (ft (Int.toNat (((nt : Nat) : Int) - 1)) 0).toNat 0 = 1 := q.2.1; have q3 : ¬ ft (Int.toNat (((nt : Nat) : Int) - 1)) 0 = s := q.2.2; omega)) | omega | fail)); done)), ⟨by omega, by omega⟩, by omega⟩
    | exact ⟨y0 + 1, (by (refine And.intro (And.intro rfl (And.intro rfl (And.intro rfl rfl))) ?_; (repeat' (first | exact trivial | exact rfl | exact fun _ _ _ _ => rfl | refine And.intro ?_ ?_ | omega | fail)); done)), ⟨by omega, by omega⟩, by omega⟩
    | (have u := y1
       exact ⟨0, (by (refine And.intro (And.intro rfl (And.intro rfl (And.intro rfl rfl))) ?_; (repeat' (first | exact trivial | exact rfl | exact fun _ _ _ _ => rfl | refine And.intro ?_ ?_ | (rw [ndS_yes a _ _ (by omega)]; done) | (rw [ndS_no a _ _ (by omega)]; done) | exact room0_yes ⟨by omega, (by show fl (ft (Int.toNat (((nt : Nat) : Int) - 1)) 0).toNat 0 = 1; omega), (by show ¬ ft (Int.toNat (((nt : Nat) : Int) - 1)) 0 = s; omega)⟩ | exact room0_no (fun q => (by have q1 := q.1; have q2 : fl (ft (Int.toNat (((nt : Nat) : Int) - 1)) 0).toNat 0 = 1 := q.2.1; have q3 : ¬ ft (Int.toNat (((nt : Nat) : Int) - 1)) 0 = s := q.2.2; omega)) | omega | fail)); done)), by omega, by omega⟩)
    | exact ⟨0, (by (refine And.intro (And.intro rfl (And.intro rfl (And.intro rfl rfl))) ?_; (repeat' (first | exact trivial | exact rfl | exact fun _ _ _ _ => rfl | refine And.intro ?_ ?_ | omega | fail)); done)), by omega, by omega⟩
    | (have e : y3 = 0 := (by omega)
       subst e
       exact fin0 (by kernel_rfl) (by kernel_rfl) h)
    | (exfalso; simp at hq; omega)
    | (exfalso; simp at hq; simp_all; omega)
def con61G_rrrV (a b c d e : Int) (el nl cl : Nat) (fl : RF) (et nt ct : Nat) (ft : RF) (ez nz cz : Nat) (fz : RF) (s : Int) (K : Value → List Blk → Prop) : Prop := let q0 := ((0 : Nat) + nl ≤ nl); let q1 := ((0 : Nat) + nt ≤ nt); let q2 := (nl ≤ (100000 : Nat)); let q3 := (nt ≤ (100000 : Nat)); let q4 := ((3 : Nat), (3 : Nat)); let q5 := ((4 : Nat), (4 : Nat)); let q6 := ((↑nt : Int) - (1 : Int)); let q7 := eB; let q8 := (9223372036854775807 : Int); let q9 := (-9223372036854775808 : Int); let q10 := (3, vi s); let q11 := (@Eq Nat ((0 : Nat)) ((0 : Nat))); let q12 := (@Eq Nat ((1 : Nat)) ((1 : Nat))); let q13 := (1, rsl (0 : Nat) (0 : Nat) nl cl); let q14 := (2, rsl (1 : Nat) (0 : Nat) nt ct); let q15 := (44, rsl (2 : Nat) (0 : Nat) nz cz); let q16 := (26, rsl (2 : Nat) (0 : Nat) nz cz); let q17 := ((3 : Nat), vi s); let q18 := (46, vi (0 : Int)); let q19 := (10, vi (0 : Int)); let q20 := (Int.toNat q6); let q21 := (45, vi (↑nz : Int)); let q22 := (27, vi (↑nz : Int)); let q23 := TS; let q24 := ((1 : Nat), rsl (0 : Nat) (0 : Nat) nl cl); let q25 := ((2 : Nat), rsl (1 : Nat) (0 : Nat) nt ct); let q26 := (1, Blk.row true [IntKind.i64] et nt ct ft); let q27 := (2, Blk.row true [IntKind.i64] ez nz cz fz); let q28 := ((44 : Nat), rsl (2 : Nat) (0 : Nat) nz cz); let q29 := ((26 : Nat), rsl (2 : Nat) (0 : Nat) nz cz); let q30 := ((45 : Nat), vi (↑nz : Int)); let q31 := (some (Blk.row true [IntKind.i64] ez nz cz fz)); let q32 := (some (Blk.row true [IntKind.i64] et nt ct ft)); let q33 := ((27 : Nat), vi (↑nz : Int)); let q34 := ((1 : Nat), Blk.row true [IntKind.i64] et nt ct ft); let q35 := ((2 : Nat), Blk.row true [IntKind.i64] ez nz cz fz); let q36 := (ft q20 (0 : Nat)); let q37 := (0, rT el nl cl fl); let q38 := (some (rT el nl cl fl)); let q39 := ((0 : Nat), rT el nl cl fl); let q40 := (Int.toNat q36); let q41 := (5, Value.pointer (some { block := (3 : Nat), off := (0 : Nat) })); let q42 := (5, Value.pointer (some { block := (4 : Nat), off := (0 : Nat) })); let q43 := ((5 : Nat), Value.pointer (some { block := (3 : Nat), off := (0 : Nat) })); let q44 := ((5 : Nat), Value.pointer (some { block := (4 : Nat), off := (0 : Nat) })); let q45 := eK; let q46 := (q23 ∧ (@Eq Nat ((2 : Nat)) ((2 : Nat)))); let q47 := (q23 ∧ q12); let q48 := ((@Eq (List IntKind) ([IntKind.i64]) ([IntKind.i64])) ∧ ((@Eq Nat (nt) (nt)) ∧ (@Eq Nat (ct) (ct)))); let q49 := (q45 ∧ ((@Eq Nat (nl) (nl)) ∧ (@Eq Nat (cl) (cl)))); let q50 := (3, Blk.cells [vi a, vi b, vi c, vi d, vi e] (23 : Nat)); let q51 := (4, Blk.cells [vi a, vi b, vi c, vi d, vi e] (23 : Nat)); let q52 := (some (Blk.cells [vi a, vi b, vi c, vi d, vi e] (23 : Nat))); let q53 := ((4 : Nat), Blk.cells [vi a, vi b, vi c, vi d, vi e] (23 : Nat)); let q54 := ((3 : Nat), Blk.cells [vi a, vi b, vi c, vi d, vi e] (23 : Nat)); let q55 := (@Eq (Option Blk) q52 q52); let q56 := (T0 ∧ (∃ y1 : Value, (∃ y2 : List Blk, ((Go.Rx.Found 3 (Value.tuple { toList := [vi (0 : Int), vi (7 : Int)] }) ({ h := [q53, q54, q39, q34, q35], next := (5 : Nat) }) (y1) (y2)) ∧ (K y1 y2))))); let q57 := (q55 ∧ (q55 ∧ ((@Eq (Option Blk) q38 q38) ∧ ((@Eq (Option Blk) q32 q32) ∧ ((@Eq (Option Blk) q31 q31) ∧ (True)))))); let q58 := (∀ y3 : Nat, let q64 := (ndS a fz (room0 a fl nt ft s) y3); let q65 := (Prod.fst q64); let q66 := (46, vi ((↑y3 : Int) + (1 : Int))); let q67 := ((q9 ≤ (↑y3 : Int) + (1 : Int)) ∧ ((↑y3 : Int) + (1 : Int) ≤ q8)); (((y3 ≤ nz) ∧ ((0 : Nat) ≤ y3)) → (T0 ∧ (if ((↑y3 : Int) < (↑nz : Int)) then (q47 ∧ ((((0 : Int) ≤ (↑y3 : Int)) ∧ ((↑y3 : Int) < (↑nz : Int))) ∧ ((y3 < nz) ∧ (T0 ∧ (if (Prod.snd q64 < fz y3 (0 : Nat)) then (T0 ∧ (((q9 ≤ Prod.fst q64 + (1 : Int)) ∧ (Prod.fst q64 + (1 : Int) ≤ q8)) ∧ (t2 (((q9 ≤ a - fz y3 (0 : Nat)) ∧ (a - fz y3 (0 : Nat) ≤ q8)) ∧ (T0 ∧ (q67 ∧ (∃ y4 : Nat, let q69 := (ndS a fz (room0 a fl nt ft s) y4); ((Go.Rx.Sub 3 [q4] ⟨62, [q66, (13, vi (a - fz y3 (0 : Nat))), (10, vi (Prod.fst q64 + (1 : Int))), q41, q15, q21]⟩ ⟨[q50, q37, q26, q27], 4⟩ ({ n := (62 : Nat), m := [q43, ((10 : Nat), vi (Prod.fst q69)), ((13 : Nat), vi (Prod.snd q69)), q28, q30, ((46 : Nat), vi (↑y4 : Int))] }) ({ h := [q54, q39, q34, q35], next := (4 : Nat) })) ∧ (((y4 ≤ nz) ∧ ((0 : Nat) ≤ y4)) ∧ (nz - y4 < nz - y3)))))))))) else (T0 ∧ (((q9 ≤ Prod.snd q64 - fz y3 (0 : Nat)) ∧ (Prod.snd q64 - fz y3 (0 : Nat) ≤ q8)) ∧ (T0 ∧ (q67 ∧ (∃ y4 : Nat, let q68 := (ndS a fz (room0 a fl nt ft s) y4); ((Go.Rx.Sub 3 [q4] ⟨62, [q66, (13, vi (Prod.snd q64 - fz y3 (0 : Nat))), q41, (10, vi q65), q15, q21]⟩ ⟨[q50, q37, q26, q27], 4⟩ ({ n := (62 : Nat), m := [q43, ((10 : Nat), vi (Prod.fst q68)), ((13 : Nat), vi (Prod.snd q68)), q28, q30, ((46 : Nat), vi (↑y4 : Int))] }) ({ h := [q54, q39, q34, q35], next := (4 : Nat) })) ∧ (((y4 ≤ nz) ∧ ((0 : Nat) ≤ y4)) ∧ (nz - y4 < nz - y3))))))))))))) else (∃ y4 : Value, (∃ y5 : List Blk, ((Go.Rx.Found 3 (Value.tuple { toList := [vi q65, vi (0 : Int)] }) ({ h := [q54, q39, q34, q35], next := (4 : Nat) }) (y4) (y5)) ∧ (K y4 y5)))))))); let q59 := (T0 ∧ (q23 ∧ ((∃ y3 : Nat, let q71 := (ndS a fz (room0 a fl nt ft s) y3); ((Go.Rx.Sub 3 [q4] ⟨62, [q18, q21, q15, (13, vi (0 : Int)), q19, q41]⟩ ⟨[q50, q37, q26, q27], 8⟩ ({ n := (62 : Nat), m := [q43, ((10 : Nat), vi (Prod.fst q71)), ((13 : Nat), vi (Prod.snd q71)), q28, q30, ((46 : Nat), vi (↑y3 : Int))] }) ({ h := [q54, q39, q34, q35], next := (4 : Nat) })) ∧ ((y3 ≤ nz) ∧ ((0 : Nat) ≤ y3)))) ∧ q58))); let q60 := (t6 (q0 ∧ (q11 ∧ (q2 ∧ (q49 ∧ (q7 ∧ (∀ y1 : Nat, let q72 := (some (rF (54 : Nat) nl y1 fl)); ((nl ≤ y1) → (q57 ∧ (q57 ∧ (q1 ∧ (q11 ∧ (q3 ∧ (q48 ∧ (q7 ∧ (∀ y2 : Nat, let q61 := (some (Blk.row false [IntKind.i64] (3 : Nat) nt y2 ft)); let q62 := (some (Blk.cells [vi a, vi b, vi c, vi d, vi e, rsl (5 : Nat) (0 : Nat) nl y1, rsl (6 : Nat) (0 : Nat) nt y2, vi s] (100 : Nat))); let q63 := ((@Eq (Option Blk) q62 q62) ∧ ((@Eq (Option Blk) q61 q61) ∧ ((@Eq (Option Blk) q72 q72) ∧ q57))); ((nt ≤ y2) → (q57 ∧ (q57 ∧ (q57 ∧ (q57 ∧ (t2 (q23 ∧ (T0 ∧ (if ((200 : Int) < (↑nz : Int)) then (∃ y3 : Value, (∃ y4 : List Blk, ((Go.Rx.Found 3 (Value.tuple { toList := [vi (0 : Int), vi (3 : Int)] }) ({ h := [((7 : Nat), Blk.cells [vi a, vi b, vi c, vi d, vi e, rsl (5 : Nat) (0 : Nat) nl y1, rsl (6 : Nat) (0 : Nat) nt y2, vi s] (100 : Nat)), ((6 : Nat), Blk.row false [IntKind.i64] (3 : Nat) nt y2 ft), ((5 : Nat), rF (54 : Nat) nl y1 fl), q53, q54, q39, q34, q35], next := (8 : Nat) }) (y3) (y4)) ∧ (K y3 y4)))) else (t4 (q23 ∧ (T0 ∧ (if (@Eq Int ((↑nt : Int)) ((0 : Int))) then (t4 q59) else (t9 (t3 (q23 ∧ (t2 (((q9 ≤ (↑nt : Int) - (1 : Int)) ∧ ((↑nt : Int) - (1 : Int) ≤ q8)) ∧ (T0 ∧ (q47 ∧ ((((0 : Int) ≤ (↑nt : Int) - (1 : Int)) ∧ ((↑nt : Int) - (1 : Int) < (↑nt : Int))) ∧ (T0 ∧ ((Int.toNat q6 < nt) ∧ (t9 (t4 (q46 ∧ ((((0 : Int) ≤ ft q20 (0 : Nat)) ∧ (ft q20 (0 : Nat) < (↑nl : Int))) ∧ (T0 ∧ ((Int.toNat q36 < nl) ∧ (T0 ∧ (if (@Eq Int (fl q40 (0 : Nat)) ((2 : Int))) then (q63 ∧ q59) else (q63 ∧ (t2 (if (@Eq Int q36 (s)) then q59 else (t9 (t8 (q0 ∧ (T0 ∧ ((InC a b c d e) ∧ (q11 ∧ (q2 ∧ ((q45 ∧ ((@Eq Nat (nl) (nl)) ∧ (@Eq Nat (y1) (y1)))) ∧ (q7 ∧ (((@Eq Int (askF a b c d e nl fl q36) ((0 : Int))) ∧ (¬fl q40 (0 : Nat) = (0 : Int))) ∧ (q63 ∧ (T0 ∧ (q23 ∧ ((∃ y3 : Nat, let q70 := (ndS a fz (room0 a fl nt ft s) y3); ((Go.Rx.Sub 3 [q4] ⟨62, [q18, q21, q15, (13, vi (a - fl q40 (1 : Nat))), q19, q41]⟩ ⟨[q50, q37, q26, q27], 8⟩ ({ n := (62 : Nat), m := [q43, ((10 : Nat), vi (Prod.fst q70)), ((13 : Nat), vi (Prod.snd q70)), q28, q30, ((46 : Nat), vi (↑y3 : Int))] }) ({ h := [q54, q39, q34, q35], next := (4 : Nat) })) ∧ ((y3 ≤ nz) ∧ ((0 : Nat) ≤ y3)))) ∧ q58)))))))))))))))))))))))))))))))))))))))))))))))))))))))))))))))); (t5 (q0 ∧ (q1 ∧ ((InC a b c d e) ∧ (q11 ∧ (q2 ∧ (q49 ∧ (q12 ∧ (q3 ∧ (q48 ∧ (q7 ∧ (((Nat.le nt ct) ∧ (@Eq Int (Prod.snd (bck a b c d e nl fl nt ft)) ((0 : Int)))) ∧ (T0 ∧ (q23 ∧ ((∃ y0 : Nat, ((Go.Rx.Sub 4 [q5] ⟨69, [(28, vi (0 : Int)), q22, q16, q42, q13, q14, q10]⟩ ⟨[q51, q50, q37, q26, q27], 5⟩ ({ n := (69 : Nat), m := [q24, q25, q17, q44, q29, q33, ((28 : Nat), vi (↑y0 : Int))] }) ({ h := [q53, q54, q39, q34, q35], next := (5 : Nat) })) ∧ ((y0 ≤ nz) ∧ ((0 : Nat) ≤ y0)))) ∧ (∀ y0 : Nat, (((y0 ≤ nz) ∧ ((0 : Nat) ≤ y0)) → (T0 ∧ (if ((↑y0 : Int) < (↑nz : Int)) then (q47 ∧ ((((0 : Int) ≤ (↑y0 : Int)) ∧ ((↑y0 : Int) < (↑nz : Int))) ∧ ((y0 < nz) ∧ (T0 ∧ (if (fz y0 (0 : Nat) < (1 : Int)) then q56 else (t2 (if (a < fz y0 (0 : Nat)) then q56 else (T0 ∧ (((q9 ≤ (↑y0 : Int) + (1 : Int)) ∧ ((↑y0 : Int) + (1 : Int) ≤ q8)) ∧ (∃ y1 : Nat, ((Go.Rx.Sub 4 [q5] ⟨69, [(28, vi ((↑y0 : Int) + (1 : Int))), q13, q14, q10, q42, q16, q22]⟩ ⟨[q51, q50, q37, q26, q27], 5⟩ ({ n := (69 : Nat), m := [q24, q25, q17, q44, q29, q33, ((28 : Nat), vi (↑y1 : Int))] }) ({ h := [q53, q54, q39, q34, q35], next := (5 : Nat) })) ∧ (((y1 ≤ nz) ∧ ((0 : Nat) ≤ y1)) ∧ (nz - y1 < nz - y0))))))))))))) else (T0 ∧ (if (s < (-1 : Int)) then q56 else (t2 (if (b ≤ s) then q56 else (T0 ∧ (if (@Eq Int (s) ((-1 : Int))) then q60 else (q46 ∧ ((((0 : Int) ≤ s) ∧ (s < (↑nl : Int))) ∧ (T0 ∧ ((Int.toNat s < nl) ∧ (T0 ∧ (if (@Eq Int (fl (Int.toNat s) (0 : Nat)) ((0 : Int))) then (T0 ∧ (∃ y1 : Value, (∃ y2 : List Blk, ((Go.Rx.Found 3 (Value.tuple { toList := [vi (0 : Int), vi (9 : Int)] }) ({ h := [q53, q54, q39, q34, q35], next := (5 : Nat) }) (y1) (y2)) ∧ (K y1 y2))))) else q60)))))))))))))))))))))))))))))))
theorem con61G_rrrE (a b c d e : Int) (el nl cl : Nat) (fl : RF) (et nt ct : Nat) (ft : RF) (ez nz cz : Nat) (fz : RF) (s : Int) (K : Value → List Blk → Prop) : con61G_rrrV a b c d e el nl cl fl et nt ct ft ez nz cz fz s K = bodyX (mkB X61) (callI (mkB X61) (fun f ar s0 k tt ss => bif Nat.beq f 80 && Nat.beq k 5 then some [{ α := Nat, T := fun q => ⟨69, [(1, rsl 0 0 nl cl), (2, rsl 1 0 nt ct), (3, .int .i64 s), (5, .pointer (some ⟨4, 0, none⟩)), (26, rsl 2 0 nz cz), (27, .int .i64 (nz : Nat)), (28, .int .i64 (q : Int))]⟩, S := fun _ => ⟨[(4, .cells [.int .i64 a, .int .i64 b, .int .i64 c, .int .i64 d, .int .i64 e] 23), (3, .cells [.int .i64 a, .int .i64 b, .int .i64 c, .int .i64 d, .int .i64 e] 23), (0, .row true [.i64, .i64] el nl cl fl), (1, .row true [.i64] et nt ct ft), (2, .row true [.i64] ez nz cz fz)], 5⟩, I := fun q => q ≤ nz ∧ 0 ≤ q, m := fun q => nz - q, ρ0 := [(4, 4)], ρ1 := [[(4, 4)]] }] else some []) 6) (con61G_rrrA a b c d e el nl cl fl et nt ct ft ez nz cz fz s) Try.f61 [five' a b c d e, rsl 0 0 nl cl, rsl 1 0 nt ct, .int .i64 s, rsl 2 0 nz cz] (stOf [.row true [.i64, .i64] el nl cl fl, .row true [.i64] et nt ct ft, .row true [.i64] ez nz cz fz]) (Fd 3 K) := by kernel_rfl
set_option tactic.hygienic false in
theorem con61G_rrrP (a b c d e : Int) (el nl cl : Nat) (fl : RF) (et nt ct : Nat) (ft : RF) (ez nz cz : Nat) (fz : RF) (s : Int) (K : Value → List Blk → Prop)  (hI : InC a b c d e) (hnl : nl ≤ 100000) (hnt : nt ≤ 100000) (hnz : nz ≤ 100000) (hct : capOk (rsl 1 0 nt ct)) (h1 : (bck a b c d e nl fl nt ft).2 = 0) (hs : s = -1) (hz0 : ∀ k, k < nz → 1 ≤ fz k 0 ∧ fz k 0 ≤ a) (hz1 : nz ≤ 200) (h : K (.tuple ⟨[.int .i64 (ndS a fz (room0 a fl nt ft s) nz).1, .int .i64 0]⟩) []) : con61G_rrrV a b c d e el nl cl fl et nt ct ft ez nz cz fz s K := by
  unfold con61G_rrrV
  conv => zeta
  have gc := bck_ck h1
  have go := bck_one h1
  obtain ⟨g1, g2, g3, g4⟩ := bck_ok h1
  have rb := room0_bd h1 s
  have nb := ndS_bd a fz (room0 a fl nt ft s) rb nz hz0
  have gk := fun h : 0 < nt => go (Int.toNat ((nt : Int) - 1)) (by omega)
  repeat' (first | (with_reducible first | exact rfl | exact trivial | refine And.intro ?_ ?_ | refine br_intro (fun hq => ?_) fun hq => ?_ | refine if_both (fun hz => ?_) fun hz => ?_) | (intro) | fail)
  all_goals try (have gk := gk (by omega))
  all_goals try (have n2 := nb y2 (by omega))
  all_goals try (have z2 := hz0 y2 (by omega))
  all_goals try (have n3 := nb y3 (by omega))
  all_goals try (have z3 := hz0 y3 (by omega))
  all_goals try (have z0 := hz0 y0 (by omega))
  all_goals first
    | omega
    | assumption
    | contradiction
    | exact ask_of gc gk.1 gk.2.1
    | exact ⟨y3 + 1, (by (refine And.intro (And.intro rfl (And.intro rfl (And.intro rfl rfl))) ?_; (repeat' (first | exact trivial | exact rfl | exact fun _ _ _ _ => rfl | refine And.intro ?_ ?_ | (rw [ndS_yes a _ _ (by omega)]; done) | (rw [ndS_no a _ _ (by omega)]; done) | exact room0_yes ⟨by omega, (by show fl (ft (Int.toNat (((nt : Nat) : Int) - 1)) 0).toNat 0 = 1; omega), (by show ¬ ft (Int.toNat (((nt : Nat) : Int) - 1)) 0 = s; omega)⟩ | exact room0_no (fun q => (by have q1 := q.1; have q2 : fl (ft (Int.toNat (((nt : Nat) : Int) - 1)) 0).toNat 0 = 1 := q.2.1; have q3 : ¬ ft (Int.toNat (((nt : Nat) : Int) - 1)) 0 = s := q.2.2; omega)) | omega | fail)); done)), ⟨by omega, by omega⟩, by omega⟩
    | exact ⟨y0 + 1, (by (refine And.intro (And.intro rfl (And.intro rfl (And.intro rfl rfl))) ?_; (repeat' (first | exact trivial | exact rfl | exact fun _ _ _ _ => rfl | refine And.intro ?_ ?_ | omega | fail)); done)), ⟨by omega, by omega⟩, by omega⟩
    | (have u := y1
       exact ⟨0, (by (refine And.intro (And.intro rfl (And.intro rfl (And.intro rfl rfl))) ?_; (repeat' (first | exact trivial | exact rfl | exact fun _ _ _ _ => rfl | refine And.intro ?_ ?_ | (rw [ndS_yes a _ _ (by omega)]; done) | (rw [ndS_no a _ _ (by omega)]; done) | exact room0_yes ⟨by omega, (by show fl (ft (Int.toNat (((nt : Nat) : Int) - 1)) 0).toNat 0 = 1; omega), (by show ¬ ft (Int.toNat (((nt : Nat) : Int) - 1)) 0 = s; omega)⟩ | exact room0_no (fun q => (by have q1 := q.1; have q2 : fl (ft (Int.toNat (((nt : Nat) : Int) - 1)) 0).toNat 0 = 1 := q.2.1; have q3 : ¬ ft (Int.toNat (((nt : Nat) : Int) - 1)) 0 = s := q.2.2; omega)) | omega | fail)); done)), by omega, by omega⟩)
    | exact ⟨0, (by (refine And.intro (And.intro rfl (And.intro rfl (And.intro rfl rfl))) ?_; (repeat' (first | exact trivial | exact rfl | exact fun _ _ _ _ => rfl | refine And.intro ?_ ?_ | omega | fail)); done)), by omega, by omega⟩
    | (have e : y3 = nz := (by omega)
       subst e
       exact fin0 (by kernel_rfl) (by kernel_rfl) h)
    | (exfalso; simp at hq; omega)
    | (exfalso; simp at hq; simp_all; omega)
theorem con61G_ok : BodyOk (mkB X61) 6 Try.f61 con61G := by
  intro vs bs K hh hro
  clear hro
  unfold con61G at hh
  split at hh
  · rename_i u vl vt s vz
    obtain ⟨a, b, c, d, e, rfl, hI, hh0⟩ := five_inv hh
    obtain ⟨el, nl, cl, fl, btl, rfl, hnl, rfl, hh1⟩ := parseR_inv hh0
    rcases parse_inv hh1 with ⟨rfl, hh2⟩ | ⟨et, nt, ct, ft, btt, rfl, hnt, rfl, hh2⟩ <;> clear hh1
    · rcases parse_inv hh2 with ⟨rfl, hh4⟩ | ⟨ez, nz, cz, fz, btz, rfl, hnz, rfl, hh4⟩ <;> clear hh2
      · obtain ⟨rfl, ⟨hct, h1, hs, hz0, hz1⟩, hc⟩ := hh4
        exact ⟨_, _, cast (con61G_rnnE a b c d e el nl cl fl s K) (con61G_rnnP a b c d e el nl cl fl s K hI hnl hct h1 hs hz0 hz1 hc)⟩
      · obtain ⟨rfl, ⟨hct, h1, hs, hz0, hz1⟩, hc⟩ := hh4
        exact ⟨_, _, cast (con61G_rnrE a b c d e el nl cl fl ez nz cz fz s K) (con61G_rnrP a b c d e el nl cl fl ez nz cz fz s K hI hnl hnz hct h1 hs hz0 hz1 hc)⟩
    · rcases parse_inv hh2 with ⟨rfl, hh4⟩ | ⟨ez, nz, cz, fz, btz, rfl, hnz, rfl, hh4⟩ <;> clear hh2
      · obtain ⟨rfl, ⟨hct, h1, hs, hz0, hz1⟩, hc⟩ := hh4
        exact ⟨_, _, cast (con61G_rrnE a b c d e el nl cl fl et nt ct ft s K) (con61G_rrnP a b c d e el nl cl fl et nt ct ft s K hI hnl hnt hct h1 hs hz0 hz1 hc)⟩
      · obtain ⟨rfl, ⟨hct, h1, hs, hz0, hz1⟩, hc⟩ := hh4
        exact ⟨_, _, cast (con61G_rrrE a b c d e el nl cl fl et nt ct ft ez nz cz fz s K) (con61G_rrrP a b c d e el nl cl fl et nt ct ft ez nz cz fz s K hI hnl hnt hnz hct h1 hs hz0 hz1 hc)⟩
  · exact hh.elim
theorem con61G_told : Told 61 (specOf con61G) := toldB (X := X61) X61_told (by kernel_rfl) (by kernel_rfl) (by kernel_rfl) con61G_ok
end Go.Proofs.Ytkflmglpniebfaa.Fr
namespace Go.Proofs.Ytkflmglpniebfaa.Fr
set_option maxRecDepth 100000
set_option maxHeartbeats 4000000
open Go.Rx
open Go.RowKit (Below)
set_option linter.unusedVariables false
theorem bump0 {a b c d e : Int} {n : Nat} {f : RF} {x y : Int} {g : RF} (B : Bumped a b c d e n f x y g) (hx : x.toNat = 0) (hv : f 0 1 + y = 8) : g 0 1 = 8 := by
  have z := B.now1
  rw [hx] at z
  omega
theorem place1 {a b c d e : Int} {n : Nat} {f : RF} {st : Int} {i : Nat} {y : Int} {g : RF} (P : Placed a b c d e n f st i y g) (h : lF (sel (selE f 0) n) 0 0 = 1) : i = 1 := by
  have z := P.first
  omega
def con55X : Con := fun vs bs K => con55U vs bs K ∨ con55TG vs bs K
theorem con55X_told : Told 55 (specOf con55X) := Told.or con55U_told con55TG_told fun vs bs K h => h
theorem look_allFB : ∀ p ∈ F ++ FB, Try.prog.funcs[p.1]? = some p.2 ∧ (p.2.name == "runtime.NumGoroutine") = false := by
  intro p hp
  rcases List.mem_append.1 hp with hp | hp
  · exact look_allF p hp
  · simp only [FB, List.mem_cons, List.not_mem_nil, or_false] at hp
    rcases hp with rfl | rfl | rfl | rfl | rfl | rfl | rfl | rfl | rfl | rfl | rfl | rfl | rfl | rfl | rfl | rfl | rfl | rfl | rfl | rfl | rfl | rfl | rfl | rfl | rfl | rfl | rfl | rfl | rfl | rfl | rfl | rfl | rfl | rfl <;> exact ⟨by kernel_rfl, by kernel_rfl⟩
noncomputable def FD : List (Nat × Func) := [(45, Try.f45), (46, Try.f46), (65, Try.f65)]
noncomputable abbrev mkD (X : List (Nat × Rx.Spec)) : Env := ⟨Try.prog, T ++ TB, (F ++ FB) ++ FD, Rx.look X, Q, [4]⟩
theorem mkOkD {X : List (Nat × Rx.Spec)} (h : ∀ p ∈ X, Told p.1 p.2) : EnvOk (mkD X) where
  types := (mkOkB (X := X) h).types
  funcs := look_all (q := fun f fn => Try.prog.funcs[f]? = some fn ∧ (fn.name == "runtime.NumGoroutine") = false) (by
    intro p hp
    rcases List.mem_append.1 hp with hp | hp
    · exact look_allFB p hp
    · simp only [FD, List.mem_cons, List.not_mem_nil, or_false] at hp
      rcases hp with rfl | rfl | rfl <;> exact ⟨by kernel_rfl, by kernel_rfl⟩)
  specs := look_all (q := Told) h
  mixed := mixed
  qs := (mkOk (X := X) h).qs
  bo := (mkOk (X := X) h).bo
@[reducible] def X48 : List (Nat × Rx.Spec) := [(55, specOf con55X), (57, specOf con57I), (61, specOf con61G), (51, specOf con51G), (28, specOf conIntsT)]
theorem X48_told : ∀ p ∈ X48, Told p.1 p.2 := by
  intro p hp
  simp only [List.mem_cons, List.not_mem_nil, or_false] at hp
  rcases hp with rfl | rfl | rfl | rfl | rfl
  · exact con55X_told
  · exact con57I_told
  · exact con61G_told
  · exact con51G_told
  · exact conIntsT_told
def cuts48 : List (Nat × LS) := [(3, { α := (RF × RF × RF × RF) × (Nat × Nat × Nat × Nat), T := fun x => ⟨138, [(1, .pointer (some ⟨0, 0, none⟩)), (2, .int .i64 10), (3, rsl 1 0 7 x.2.1), (4, rsl 2 0 2 x.2.2.1), (5, .int .i64 0)]⟩, S := fun x => ⟨[(2, .row false [.i64] 3 2 x.2.2.1 x.1.2.1), (1, .row false [.i64, .i64] 54 7 x.2.1 x.1.1), (0, .cells [.int .i64 8, .int .i64 7, .int .i64 4, .int .i64 1, .int .i64 2] 23)], 3⟩, I := fun x => (x.1.1 0 1 = 8 ∧ 7 ≤ x.2.1 ∧ 2 ≤ x.2.2.1 ∧ x.1.2.1 0 0 = 2 ∧ x.1.2.1 1 0 = 0) ∧ 0 ≤ x.2.1, m := fun _ => 0, ρ0 := [(0, 1), (1, 4), (2, 5)], ρ1 := [] }),
  (1, { α := (RF × RF × RF × RF) × (Nat × Nat × Nat × Nat), T := fun x => ⟨138, [(1, .pointer (some ⟨0, 0, none⟩)), (2, .int .i64 10), (3, rsl 1 0 7 x.2.1), (4, rsl 2 0 2 x.2.2.1), (5, .int .i64 0), (6, .int .i64 13), (8, rsl 3 0 3 x.2.2.2.1), (9, .int .i64 0)]⟩, S := fun x => ⟨[(3, .row false [.i64] 3 3 x.2.2.2.1 x.1.2.2.1), (2, .row false [.i64] 3 2 x.2.2.1 x.1.2.1), (1, .row false [.i64, .i64] 54 7 x.2.1 x.1.1), (0, .cells [.int .i64 8, .int .i64 7, .int .i64 4, .int .i64 1, .int .i64 2] 23)], 4⟩, I := fun x => (x.1.1 0 1 = 8 ∧ 7 ≤ x.2.1 ∧ 2 ≤ x.2.2.1 ∧ x.1.2.1 0 0 = 2 ∧ x.1.2.1 1 0 = 0) ∧ (3 ≤ x.2.2.2.1 ∧ x.1.2.2.1 0 0 = 2 ∧ x.1.2.2.1 1 0 = 0 ∧ x.1.2.2.1 2 0 = 1), m := fun _ => 0, ρ0 := [(0, 0), (1, 1), (2, 2), (3, 6)], ρ1 := [] }),
  (1, { α := (RF × RF × RF × RF) × (Nat × Nat × Nat × Nat), T := fun x => ⟨138, [(1, .pointer (some ⟨0, 0, none⟩)), (2, .int .i64 10), (3, rsl 1 0 7 x.2.1), (4, rsl 2 0 2 x.2.2.1), (5, .int .i64 0), (6, .int .i64 13), (8, rsl 3 0 3 x.2.2.2.1), (9, .int .i64 0), (12, rsl 4 0 2 x.2.2.2.2), (13, .int .i64 0)]⟩, S := fun x => ⟨[(4, .row false [.i64] 3 2 x.2.2.2.2 x.1.2.2.2), (3, .row false [.i64] 3 3 x.2.2.2.1 x.1.2.2.1), (2, .row false [.i64] 3 2 x.2.2.1 x.1.2.1), (1, .row false [.i64, .i64] 54 7 x.2.1 x.1.1), (0, .cells [.int .i64 8, .int .i64 7, .int .i64 4, .int .i64 1, .int .i64 2] 23)], 5⟩, I := fun x => (x.1.1 0 1 = 8 ∧ 7 ≤ x.2.1 ∧ 2 ≤ x.2.2.1 ∧ x.1.2.1 0 0 = 2 ∧ x.1.2.1 1 0 = 0) ∧ (3 ≤ x.2.2.2.1 ∧ x.1.2.2.1 0 0 = 2 ∧ x.1.2.2.1 1 0 = 0 ∧ x.1.2.2.1 2 0 = 1) ∧ (2 ≤ x.2.2.2.2 ∧ x.1.2.2.2 0 0 = 1 ∧ x.1.2.2.2 1 0 = 0), m := fun _ => 0, ρ0 := [(0, 0), (1, 1), (2, 2), (3, 3), (4, 7)], ρ1 := [] }),
  (1, { α := (RF × RF × RF × RF) × (Nat × Nat × Nat × Nat), T := fun x => ⟨138, [(1, .pointer (some ⟨0, 0, none⟩)), (2, .int .i64 10), (3, rsl 1 0 7 x.2.1), (4, rsl 2 0 2 x.2.2.1), (5, .int .i64 0), (6, .int .i64 13), (8, rsl 3 0 3 x.2.2.2.1), (9, .int .i64 0), (12, rsl 4 0 2 x.2.2.2.2), (13, .int .i64 0), (14, .int .i64 2), (15, .int .i64 0)]⟩, S := fun x => ⟨[(4, .row false [.i64] 3 2 x.2.2.2.2 x.1.2.2.2), (3, .row false [.i64] 3 3 x.2.2.2.1 x.1.2.2.1), (2, .row false [.i64] 3 2 x.2.2.1 x.1.2.1), (1, .row false [.i64, .i64] 54 7 x.2.1 x.1.1), (0, .cells [.int .i64 8, .int .i64 7, .int .i64 4, .int .i64 1, .int .i64 2] 23)], 5⟩, I := fun x => (x.1.1 0 1 = 8 ∧ 7 ≤ x.2.1 ∧ 2 ≤ x.2.2.1 ∧ x.1.2.1 0 0 = 2 ∧ x.1.2.1 1 0 = 0) ∧ (3 ≤ x.2.2.2.1 ∧ x.1.2.2.1 0 0 = 2 ∧ x.1.2.2.1 1 0 = 0 ∧ x.1.2.2.1 2 0 = 1) ∧ (2 ≤ x.2.2.2.2 ∧ x.1.2.2.2 0 0 = 1 ∧ x.1.2.2.2 1 0 = 0), m := fun _ => 0, ρ0 := [(0, 0), (1, 1), (2, 2), (3, 3), (4, 4)], ρ1 := [] }),
  (1, { α := (RF × RF × RF × RF) × (Nat × Nat × Nat × Nat), T := fun x => ⟨138, [(1, .pointer (some ⟨0, 0, none⟩)), (2, .int .i64 10), (3, rsl 1 0 7 x.2.1), (4, rsl 2 0 2 x.2.2.1), (5, .int .i64 0), (6, .int .i64 13), (8, rsl 3 0 3 x.2.2.2.1), (9, .int .i64 0), (12, rsl 4 0 2 x.2.2.2.2), (13, .int .i64 0), (14, .int .i64 2), (15, .int .i64 0), (16, .bool true), (17, .int .i64 0)]⟩, S := fun x => ⟨[(4, .row false [.i64] 3 2 x.2.2.2.2 x.1.2.2.2), (3, .row false [.i64] 3 3 x.2.2.2.1 x.1.2.2.1), (2, .row false [.i64] 3 2 x.2.2.1 x.1.2.1), (1, .row false [.i64, .i64] 54 7 x.2.1 x.1.1), (0, .cells [.int .i64 8, .int .i64 7, .int .i64 4, .int .i64 1, .int .i64 2] 23)], 5⟩, I := fun x => (x.1.1 0 1 = 8 ∧ 7 ≤ x.2.1 ∧ 2 ≤ x.2.2.1 ∧ x.1.2.1 0 0 = 2 ∧ x.1.2.1 1 0 = 0) ∧ (3 ≤ x.2.2.2.1 ∧ x.1.2.2.1 0 0 = 2 ∧ x.1.2.2.1 1 0 = 0 ∧ x.1.2.2.1 2 0 = 1) ∧ (2 ≤ x.2.2.2.2 ∧ x.1.2.2.2 0 0 = 1 ∧ x.1.2.2.2 1 0 = 0), m := fun _ => 0, ρ0 := [(0, 0), (1, 1), (2, 2), (3, 3), (4, 4)], ρ1 := [] })]

def cl48_zV  (K : Value → List Blk → Prop) : Prop := let q0 := (RF × RF × RF × RF); let q1 := ((0 : Nat), (0 : Nat)); let q2 := ((1 : Nat), (1 : Nat)); let q3 := ((2 : Nat), (2 : Nat)); let q4 := ((3 : Nat), (3 : Nat)); let q5 := ((4 : Nat), (4 : Nat)); let q6 := ((3 : Nat), (6 : Nat)); let q7 := ((0 : Nat), (1 : Nat)); let q8 := ((1 : Nat), (4 : Nat)); let q9 := ((2 : Nat), (5 : Nat)); let q10 := ((7 : Nat) ≤ (7 : Nat)); let q11 := ((2 : Nat) ≤ (2 : Nat)); let q12 := ((3 : Nat) ≤ (3 : Nat)); let q13 := ((1 : Nat) ≤ (1 : Nat)); let q14 := ((0 : Nat) < (2 : Nat)); let q15 := eB; let q16 := (List.length [IntKind.i64]); let q17 := ((7 : Nat) ≤ (100000 : Nat)); let q18 := ((2 : Nat) ≤ (100000 : Nat)); let q19 := ((3 : Nat) ≤ (100000 : Nat)); let q20 := (Nat.le (2 : Nat) (2 : Nat)); let q21 := ((1 : Nat) ≤ (100000 : Nat)); let q22 := (Nat.le (1 : Nat) (1 : Nat)); let q23 := (@Eq Nat ((0 : Nat)) ((0 : Nat))); let q24 := (@Eq Nat ((1 : Nat)) ((1 : Nat))); let q25 := (@Eq Nat ((2 : Nat)) ((2 : Nat))); let q26 := (@Eq Nat ((3 : Nat)) ((3 : Nat))); let q27 := (@Eq Int ((0 : Int)) ((0 : Int))); let q28 := (@Eq Nat ((7 : Nat)) ((7 : Nat))); let q29 := (@Eq Nat ((4 : Nat)) ((4 : Nat))); let q30 := (@Eq Int ((1 : Int)) ((1 : Int))); let q31 := (5, vi (0 : Int)); let q32 := (9, vi (0 : Int)); let q33 := (2, vi (10 : Int)); let q34 := (6, vi (13 : Int)); let q35 := (13, vi (0 : Int)); let q36 := (14, vi (2 : Int)); let q37 := (15, vi (0 : Int)); let q38 := (List.length [IntKind.i64, IntKind.i64]); let q39 := TS; let q40 := ((5 : Nat), vi (0 : Int)); let q41 := ((9 : Nat), vi (0 : Int)); let q42 := ((2 : Nat), vi (10 : Int)); let q43 := ((6 : Nat), vi (13 : Int)); let q44 := ((13 : Nat), vi (0 : Int)); let q45 := ((14 : Nat), vi (2 : Int)); let q46 := ((15 : Nat), vi (0 : Int)); let q47 := (@Eq (List IntKind) ([IntKind.i64]) ([IntKind.i64])); let q48 := (InC (8 : Int) (7 : Int) (4 : Int) (1 : Int) (2 : Int)); let q49 := (q20 ∧ q27); let q50 := (1, Value.pointer (some { block := (0 : Nat), off := (0 : Nat) })); let q51 := (1, Value.pointer (some { block := (1 : Nat), off := (0 : Nat) })); let q52 := (litF q16 ([(2 : Int)] ++ ([(0 : Int)] ++ []))); let q53 := ((1 : Nat), Value.pointer (some { block := (0 : Nat), off := (0 : Nat) })); let q54 := (lastC (2 : Nat) q52); let q55 := (Int.toNat q54); let q56 := (¬lastC (2 : Nat) q52 = (-1 : Int)); let q57 := (q47 ∧ (q25 ∧ q25)); let q58 := (q47 ∧ (q24 ∧ q24)); let q59 := (eK ∧ (q28 ∧ q28)); let q60 := (0, Blk.cells [vi (8 : Int), vi (7 : Int), vi (4 : Int), vi (1 : Int), vi (2 : Int)] (23 : Nat)); let q61 := (1, Blk.cells [vi (8 : Int), vi (7 : Int), vi (4 : Int), vi (1 : Int), vi (2 : Int)] (23 : Nat)); let q62 := (some (Blk.cells [vi (8 : Int), vi (7 : Int), vi (4 : Int), vi (1 : Int), vi (2 : Int)] (23 : Nat))); let q63 := ((0 : Nat), Blk.cells [vi (8 : Int), vi (7 : Int), vi (4 : Int), vi (1 : Int), vi (2 : Int)] (23 : Nat)); let q64 := (litF q38 ([(1 : Int), (5 : Int)] ++ ([Int.ofNat (0 : Nat), Int.ofNat (0 : Nat)] ++ ([(2 : Int), (3 : Int)] ++ ([Int.ofNat (0 : Nat), Int.ofNat (0 : Nat)] ++ ([Int.ofNat (0 : Nat), Int.ofNat (0 : Nat)] ++ ([Int.ofNat (0 : Nat), Int.ofNat (0 : Nat)] ++ ([Int.ofNat (0 : Nat), Int.ofNat (0 : Nat)] ++ [])))))))); let q65 := (selE q64 (0 : Int)); let q66 := (@Eq (Option Blk) q62 q62); let q67 := (q66 ∧ (True)); let q68 := ((¬sel q65 (7 : Nat) = []) ∧ (((2 : Nat) ≤ (1000 : Nat)) ∧ q14)); let q69 := (q66 ∧ q67); let q70 := (q39 ∧ (t4 (q69 ∧ (T0 ∧ (q10 ∧ (q11 ∧ (t2 ((q48 ∧ (q23 ∧ (q17 ∧ (q59 ∧ (q24 ∧ (q18 ∧ (q57 ∧ (q15 ∧ ((q20 ∧ (q27 ∧ (q14 ∧ (q30 ∧ (q56 ∧ ((3 : Int) ≤ (8 : Int) - litF q38 ([(1 : Int), (5 : Int)] ++ ([Int.ofNat (0 : Nat), Int.ofNat (0 : Nat)] ++ ([(2 : Int), (3 : Int)] ++ ([Int.ofNat (0 : Nat), Int.ofNat (0 : Nat)] ++ ([Int.ofNat (0 : Nat), Int.ofNat (0 : Nat)] ++ ([Int.ofNat (0 : Nat), Int.ofNat (0 : Nat)] ++ ([Int.ofNat (0 : Nat), Int.ofNat (0 : Nat)] ++ []))))))) q55 (1 : Nat))))))) ∧ (∀ y0 : Nat → Nat → Int, ((Bumped (8 : Int) (7 : Int) (4 : Int) (1 : Int) (2 : Int) (7 : Nat) q64 q54 (3 : Int) y0) → (∀ y1 : Nat, (((7 : Nat) ≤ y1) → (∀ y2 : Nat, (((2 : Nat) ≤ y2) → (q69 ∧ (T0 ∧ (∃ y3 : q0 × Nat × Nat × Nat × Nat, let q193 := (Prod.snd (Prod.fst y3)); let q194 := (Prod.snd (Prod.snd y3)); let q195 := (Prod.fst (Prod.snd y3)); let q196 := (Prod.fst q194); ((Go.Rx.Sub 0 [q7, q8, q9] ⟨138, [q31, (4, rsl (5 : Nat) (0 : Nat) (2 : Nat) y2), (3, rsl (4 : Nat) (0 : Nat) (7 : Nat) y1), q33, q51]⟩ ⟨[(5, Blk.row false [IntKind.i64] (3 : Nat) (2 : Nat) y2 q52), (4, rF (54 : Nat) (7 : Nat) y1 y0), q61], 6⟩ ({ n := (138 : Nat), m := [q53, q42, ((3 : Nat), rsl (1 : Nat) (0 : Nat) (7 : Nat) q195), ((4 : Nat), rsl (2 : Nat) (0 : Nat) (2 : Nat) q196), q40] }) ({ h := [((2 : Nat), Blk.row false [IntKind.i64] (3 : Nat) (2 : Nat) q196 (Prod.fst q193)), ((1 : Nat), rF (54 : Nat) (7 : Nat) q195 (Prod.fst (Prod.fst y3))), q63], next := (3 : Nat) })) ∧ (((@Eq Int (Prod.fst (Prod.fst y3) (0 : Nat) (1 : Nat)) ((8 : Int))) ∧ (((7 : Nat) ≤ Prod.fst (Prod.snd y3)) ∧ (((2 : Nat) ≤ Prod.fst q194) ∧ ((@Eq Int (Prod.fst q193 (0 : Nat) (0 : Nat)) ((2 : Int))) ∧ (@Eq Int (Prod.fst q193 (1 : Nat) (0 : Nat)) ((0 : Int))))))) ∧ ((0 : Nat) ≤ Prod.fst (Prod.snd y3)))))))))))))))))))))) ∨ (q48 ∧ (q23 ∧ (q17 ∧ (q59 ∧ (q24 ∧ (q18 ∧ (q57 ∧ (q15 ∧ ((q20 ∧ (q27 ∧ ((¬useT (8 : Int) q64 (2 : Nat) q52 (-1 : Int) (3 : Int)) ∧ q68))) ∧ (∀ y0 : Nat, (∀ y1 : Nat → Nat → Int, (∀ y2 : Int, ((Placed (8 : Int) (7 : Int) (4 : Int) (1 : Int) (2 : Int) (7 : Nat) q64 (1 : Int) y0 (3 : Int) y1) → ((@Eq Int (y2) ((1 : Int) + (4 : Int) + (↑y0 : Int) * (8 : Int))) → (∀ y3 : Nat → Nat → Int, (((∀ y4 : Nat, ((y4 < (2 : Nat)) → (@Eq Int (y3 y4 (0 : Nat)) (litF q16 ([(2 : Int)] ++ ([(0 : Int)] ++ [])) y4 (0 : Nat))))) ∧ (@Eq Int (y3 (2 : Nat) (0 : Nat)) ((↑y0 : Int)))) → (∀ y4 : Nat, (((7 : Nat) ≤ y4) → (∀ y5 : Nat, (((3 : Nat) ≤ y5) → (q69 ∧ (T0 ∧ (∃ y6 : q0 × Nat × Nat × Nat × Nat, let q189 := (Prod.snd (Prod.fst y6)); let q190 := (Prod.snd (Prod.snd y6)); let q191 := (Prod.fst (Prod.snd y6)); let q192 := (Prod.fst q190); ((Go.Rx.Sub 0 [q7, q8, q9] ⟨138, [q31, (4, rsl (5 : Nat) (0 : Nat) (3 : Nat) y5), (3, rsl (4 : Nat) (0 : Nat) (7 : Nat) y4), (2, vi y2), q51]⟩ ⟨[(5, Blk.row false [IntKind.i64] (3 : Nat) (3 : Nat) y5 y3), (4, rF (54 : Nat) (7 : Nat) y4 y1), q61], 6⟩ ({ n := (138 : Nat), m := [q53, q42, ((3 : Nat), rsl (1 : Nat) (0 : Nat) (7 : Nat) q191), ((4 : Nat), rsl (2 : Nat) (0 : Nat) (2 : Nat) q192), q40] }) ({ h := [((2 : Nat), Blk.row false [IntKind.i64] (3 : Nat) (2 : Nat) q192 (Prod.fst q189)), ((1 : Nat), rF (54 : Nat) (7 : Nat) q191 (Prod.fst (Prod.fst y6))), q63], next := (3 : Nat) })) ∧ (((@Eq Int (Prod.fst (Prod.fst y6) (0 : Nat) (1 : Nat)) ((8 : Int))) ∧ (((7 : Nat) ≤ Prod.fst (Prod.snd y6)) ∧ (((2 : Nat) ≤ Prod.fst q190) ∧ ((@Eq Int (Prod.fst q189 (0 : Nat) (0 : Nat)) ((2 : Int))) ∧ (@Eq Int (Prod.fst q189 (1 : Nat) (0 : Nat)) ((0 : Int))))))) ∧ ((0 : Nat) ≤ Prod.fst (Prod.snd y6))))))))))))))))))))))))))))))))))); (T0 ∧ ((t9 ((T0 ∧ (q39 ∧ (t4 (q69 ∧ q70)))) ∧ (q39 ∧ (t4 (q69 ∧ (T0 ∧ q70)))))) ∧ (∀ y0 : q0 × Nat × Nat × Nat × Nat, let q161 := (Prod.fst (Prod.snd y0)); let q162 := (Prod.fst (Prod.fst y0)); let q163 := (Prod.snd (Prod.fst y0)); let q164 := (Prod.snd (Prod.snd y0)); let q165 := (Prod.fst q164); let q166 := (Prod.fst q163); let q167 := (3, rsl (1 : Nat) (0 : Nat) (7 : Nat) q161); let q168 := (4, rsl (2 : Nat) (0 : Nat) (2 : Nat) q165); let q169 := (1, rF (54 : Nat) (7 : Nat) q161 q162); let q170 := (some (rF (54 : Nat) (7 : Nat) q161 q162)); let q171 := (2, Blk.row false [IntKind.i64] (3 : Nat) (2 : Nat) q165 q166); let q172 := (some (Blk.row false [IntKind.i64] (3 : Nat) (2 : Nat) q165 q166)); let q173 := ((@Eq (Option Blk) q172 q172) ∧ ((@Eq (Option Blk) q170 q170) ∧ q67)); let q174 := (q39 ∧ (t4 (q173 ∧ (T0 ∧ (q10 ∧ (q11 ∧ (t2 ((q48 ∧ (q23 ∧ (q17 ∧ (q59 ∧ (q24 ∧ (q18 ∧ (q57 ∧ (q15 ∧ ((q20 ∧ (q27 ∧ (q14 ∧ (q30 ∧ (q56 ∧ ((4 : Int) ≤ (8 : Int) - litF q38 ([(1 : Int), (5 : Int)] ++ ([Int.ofNat (0 : Nat), Int.ofNat (0 : Nat)] ++ ([(2 : Int), (3 : Int)] ++ ([Int.ofNat (0 : Nat), Int.ofNat (0 : Nat)] ++ ([Int.ofNat (0 : Nat), Int.ofNat (0 : Nat)] ++ ([Int.ofNat (0 : Nat), Int.ofNat (0 : Nat)] ++ ([Int.ofNat (0 : Nat), Int.ofNat (0 : Nat)] ++ []))))))) q55 (1 : Nat))))))) ∧ (∀ y1 : Nat → Nat → Int, ((Bumped (8 : Int) (7 : Int) (4 : Int) (1 : Int) (2 : Int) (7 : Nat) q64 q54 (4 : Int) y1) → (∀ y2 : Nat, (((7 : Nat) ≤ y2) → (∀ y3 : Nat, (((2 : Nat) ≤ y3) → (q173 ∧ (T0 ∧ (∃ y4 : q0 × Nat × Nat × Nat × Nat, let q182 := (Prod.snd (Prod.fst y4)); let q183 := (Prod.snd (Prod.snd y4)); let q184 := (Prod.fst (Prod.snd y4)); let q185 := (Prod.snd q182); let q186 := (Prod.snd q183); let q187 := (Prod.fst q183); let q188 := (Prod.fst q186); ((Go.Rx.Sub 0 [q1, q2, q3, q6] ⟨138, [q32, (8, rsl (6 : Nat) (0 : Nat) (2 : Nat) y3), (6, vi (10 : Int)), q50, q33, q167, q168, q31]⟩ ⟨[(6, Blk.row false [IntKind.i64] (3 : Nat) (2 : Nat) y3 q52), q171, q169, q60], 7⟩ ({ n := (138 : Nat), m := [q53, q42, ((3 : Nat), rsl (1 : Nat) (0 : Nat) (7 : Nat) q184), ((4 : Nat), rsl (2 : Nat) (0 : Nat) (2 : Nat) q187), q40, q43, ((8 : Nat), rsl (3 : Nat) (0 : Nat) (3 : Nat) q188), q41] }) ({ h := [((3 : Nat), Blk.row false [IntKind.i64] (3 : Nat) (3 : Nat) q188 (Prod.fst q185)), ((2 : Nat), Blk.row false [IntKind.i64] (3 : Nat) (2 : Nat) q187 (Prod.fst q182)), ((1 : Nat), rF (54 : Nat) (7 : Nat) q184 (Prod.fst (Prod.fst y4))), q63], next := (4 : Nat) })) ∧ (((@Eq Int (Prod.fst (Prod.fst y4) (0 : Nat) (1 : Nat)) ((8 : Int))) ∧ (((7 : Nat) ≤ Prod.fst (Prod.snd y4)) ∧ (((2 : Nat) ≤ Prod.fst q183) ∧ ((@Eq Int (Prod.fst q182 (0 : Nat) (0 : Nat)) ((2 : Int))) ∧ (@Eq Int (Prod.fst q182 (1 : Nat) (0 : Nat)) ((0 : Int))))))) ∧ (((3 : Nat) ≤ Prod.fst q186) ∧ ((@Eq Int (Prod.fst q185 (0 : Nat) (0 : Nat)) ((2 : Int))) ∧ ((@Eq Int (Prod.fst q185 (1 : Nat) (0 : Nat)) ((0 : Int))) ∧ (@Eq Int (Prod.fst q185 (2 : Nat) (0 : Nat)) ((1 : Int)))))))))))))))))))))))))) ∨ (q48 ∧ (q23 ∧ (q17 ∧ (q59 ∧ (q24 ∧ (q18 ∧ (q57 ∧ (q15 ∧ ((q20 ∧ (q27 ∧ ((¬useT (8 : Int) q64 (2 : Nat) q52 (-1 : Int) (4 : Int)) ∧ q68))) ∧ (∀ y1 : Nat, (∀ y2 : Nat → Nat → Int, (∀ y3 : Int, ((Placed (8 : Int) (7 : Int) (4 : Int) (1 : Int) (2 : Int) (7 : Nat) q64 (1 : Int) y1 (4 : Int) y2) → ((@Eq Int (y3) ((1 : Int) + (4 : Int) + (↑y1 : Int) * (8 : Int))) → (∀ y4 : Nat → Nat → Int, (((∀ y5 : Nat, ((y5 < (2 : Nat)) → (@Eq Int (y4 y5 (0 : Nat)) (litF q16 ([(2 : Int)] ++ ([(0 : Int)] ++ [])) y5 (0 : Nat))))) ∧ (@Eq Int (y4 (2 : Nat) (0 : Nat)) ((↑y1 : Int)))) → (∀ y5 : Nat, (((7 : Nat) ≤ y5) → (∀ y6 : Nat, (((3 : Nat) ≤ y6) → (q173 ∧ (T0 ∧ (∃ y7 : q0 × Nat × Nat × Nat × Nat, let q175 := (Prod.snd (Prod.fst y7)); let q176 := (Prod.snd (Prod.snd y7)); let q177 := (Prod.fst (Prod.snd y7)); let q178 := (Prod.snd q175); let q179 := (Prod.snd q176); let q180 := (Prod.fst q176); let q181 := (Prod.fst q179); ((Go.Rx.Sub 0 [q1, q2, q3, q6] ⟨138, [q32, (8, rsl (6 : Nat) (0 : Nat) (3 : Nat) y6), (6, vi y3), q50, q33, q167, q168, q31]⟩ ⟨[(6, Blk.row false [IntKind.i64] (3 : Nat) (3 : Nat) y6 y4), q171, q169, q60], 7⟩ ({ n := (138 : Nat), m := [q53, q42, ((3 : Nat), rsl (1 : Nat) (0 : Nat) (7 : Nat) q177), ((4 : Nat), rsl (2 : Nat) (0 : Nat) (2 : Nat) q180), q40, q43, ((8 : Nat), rsl (3 : Nat) (0 : Nat) (3 : Nat) q181), q41] }) ({ h := [((3 : Nat), Blk.row false [IntKind.i64] (3 : Nat) (3 : Nat) q181 (Prod.fst q178)), ((2 : Nat), Blk.row false [IntKind.i64] (3 : Nat) (2 : Nat) q180 (Prod.fst q175)), ((1 : Nat), rF (54 : Nat) (7 : Nat) q177 (Prod.fst (Prod.fst y7))), q63], next := (4 : Nat) })) ∧ (((@Eq Int (Prod.fst (Prod.fst y7) (0 : Nat) (1 : Nat)) ((8 : Int))) ∧ (((7 : Nat) ≤ Prod.fst (Prod.snd y7)) ∧ (((2 : Nat) ≤ Prod.fst q176) ∧ ((@Eq Int (Prod.fst q175 (0 : Nat) (0 : Nat)) ((2 : Int))) ∧ (@Eq Int (Prod.fst q175 (1 : Nat) (0 : Nat)) ((0 : Int))))))) ∧ (((3 : Nat) ≤ Prod.fst q179) ∧ ((@Eq Int (Prod.fst q178 (0 : Nat) (0 : Nat)) ((2 : Int))) ∧ ((@Eq Int (Prod.fst q178 (1 : Nat) (0 : Nat)) ((0 : Int))) ∧ (@Eq Int (Prod.fst q178 (2 : Nat) (0 : Nat)) ((1 : Int))))))))))))))))))))))))))))))))))))))); ((((@Eq Int (Prod.fst (Prod.fst y0) (0 : Nat) (1 : Nat)) ((8 : Int))) ∧ (((7 : Nat) ≤ Prod.fst (Prod.snd y0)) ∧ (((2 : Nat) ≤ Prod.fst q164) ∧ ((@Eq Int (Prod.fst q163 (0 : Nat) (0 : Nat)) ((2 : Int))) ∧ (@Eq Int (Prod.fst q163 (1 : Nat) (0 : Nat)) ((0 : Int))))))) ∧ ((0 : Nat) ≤ Prod.fst (Prod.snd y0))) → ((t3 ((T0 ∧ (q39 ∧ (t4 (q173 ∧ q174)))) ∧ (q39 ∧ (t4 (q173 ∧ (T0 ∧ q174)))))) ∧ (∀ y1 : q0 × Nat × Nat × Nat × Nat, let q138 := (Prod.fst (Prod.snd y1)); let q139 := (Prod.fst (Prod.fst y1)); let q140 := (Prod.snd (Prod.fst y1)); let q141 := (Prod.snd (Prod.snd y1)); let q142 := (Prod.fst q141); let q143 := (Prod.fst q140); let q144 := (Prod.snd q140); let q145 := (Prod.snd q141); let q146 := (Prod.fst q145); let q147 := (Prod.fst q144); let q148 := (some (rF (54 : Nat) (7 : Nat) q138 q139)); let q149 := (some (Blk.row false [IntKind.i64] (3 : Nat) (2 : Nat) q142 q143)); let q150 := (some (Blk.row false [IntKind.i64] (3 : Nat) (3 : Nat) q146 q147)); let q151 := ((@Eq (Option Blk) q150 q150) ∧ ((@Eq (Option Blk) q149 q149) ∧ ((@Eq (Option Blk) q148 q148) ∧ q67))); let q152 := (q39 ∧ (t4 (q151 ∧ (T0 ∧ (q10 ∧ (q13 ∧ (T0 ∧ (q48 ∧ (q23 ∧ (q17 ∧ (q59 ∧ (q24 ∧ (q21 ∧ (q58 ∧ (q15 ∧ ((q22 ∧ (q27 ∧ (((1 : Nat) ≤ (1000 : Nat)) ∧ ((¬(sel q65 (7 : Nat) = [] ∨ List.length (sel (selE q64 (2 : Int)) (7 : Nat)) = (2 : Nat))) ∧ (((0 : Nat) < (1 : Nat)) ∧ q30))))) ∧ (∀ y2 : Nat, (∀ y3 : Nat → Nat → Int, (∀ y4 : Int, ((Placed (8 : Int) (7 : Int) (4 : Int) (1 : Int) (2 : Int) (7 : Nat) q64 (2 : Int) y2 (2 : Int) y3) → ((@Eq Int (y4) ((1 : Int) + (4 : Int) + (↑y2 : Int) * (8 : Int))) → (∀ y5 : Nat → Nat → Int, (((∀ y6 : Nat, ((y6 + (1 : Nat) < (1 : Nat)) → (@Eq Int (y5 y6 (0 : Nat)) (litF q16 ([(0 : Int)] ++ []) y6 (0 : Nat))))) ∧ ((@Eq Int (y5 ((1 : Nat) - (1 : Nat)) (0 : Nat)) ((↑y2 : Int))) ∧ (@Eq Int (y5 (1 : Nat) (0 : Nat)) ((0 : Int))))) → (∀ y6 : Nat, (((7 : Nat) ≤ y6) → (∀ y7 : Nat, (((2 : Nat) ≤ y7) → (q151 ∧ (T0 ∧ (∃ y8 : q0 × Nat × Nat × Nat × Nat, let q153 := (Prod.snd (Prod.fst y8)); let q154 := (Prod.snd (Prod.snd y8)); let q155 := (Prod.fst (Prod.snd y8)); let q156 := (Prod.snd q153); let q157 := (Prod.snd q154); let q158 := (Prod.fst q154); let q159 := (Prod.fst q157); let q160 := (Prod.snd q157); ((Go.Rx.Sub 0 [q1, q2, q3, q4, ((4 : Nat), (7 : Nat))] ⟨138, [q35, (12, rsl (7 : Nat) (0 : Nat) (2 : Nat) y7), q50, q33, (3, rsl (1 : Nat) (0 : Nat) (7 : Nat) q138), (4, rsl (2 : Nat) (0 : Nat) (2 : Nat) q142), q31, q34, (8, rsl (3 : Nat) (0 : Nat) (3 : Nat) q146), q32]⟩ ⟨[(7, Blk.row false [IntKind.i64] (3 : Nat) (2 : Nat) y7 y5), (3, Blk.row false [IntKind.i64] (3 : Nat) (3 : Nat) q146 q147), (2, Blk.row false [IntKind.i64] (3 : Nat) (2 : Nat) q142 q143), (1, rF (54 : Nat) (7 : Nat) q138 q139), q60], 8⟩ ({ n := (138 : Nat), m := [q53, q42, ((3 : Nat), rsl (1 : Nat) (0 : Nat) (7 : Nat) q155), ((4 : Nat), rsl (2 : Nat) (0 : Nat) (2 : Nat) q158), q40, q43, ((8 : Nat), rsl (3 : Nat) (0 : Nat) (3 : Nat) q159), q41, ((12 : Nat), rsl (4 : Nat) (0 : Nat) (2 : Nat) q160), q44] }) ({ h := [((4 : Nat), Blk.row false [IntKind.i64] (3 : Nat) (2 : Nat) q160 (Prod.snd q156)), ((3 : Nat), Blk.row false [IntKind.i64] (3 : Nat) (3 : Nat) q159 (Prod.fst q156)), ((2 : Nat), Blk.row false [IntKind.i64] (3 : Nat) (2 : Nat) q158 (Prod.fst q153)), ((1 : Nat), rF (54 : Nat) (7 : Nat) q155 (Prod.fst (Prod.fst y8))), q63], next := (5 : Nat) })) ∧ (((@Eq Int (Prod.fst (Prod.fst y8) (0 : Nat) (1 : Nat)) ((8 : Int))) ∧ (((7 : Nat) ≤ Prod.fst (Prod.snd y8)) ∧ (((2 : Nat) ≤ Prod.fst q154) ∧ ((@Eq Int (Prod.fst q153 (0 : Nat) (0 : Nat)) ((2 : Int))) ∧ (@Eq Int (Prod.fst q153 (1 : Nat) (0 : Nat)) ((0 : Int))))))) ∧ ((((3 : Nat) ≤ Prod.fst q157) ∧ ((@Eq Int (Prod.fst q156 (0 : Nat) (0 : Nat)) ((2 : Int))) ∧ ((@Eq Int (Prod.fst q156 (1 : Nat) (0 : Nat)) ((0 : Int))) ∧ (@Eq Int (Prod.fst q156 (2 : Nat) (0 : Nat)) ((1 : Int)))))) ∧ (((2 : Nat) ≤ Prod.snd q157) ∧ ((@Eq Int (Prod.snd q156 (0 : Nat) (0 : Nat)) ((1 : Int))) ∧ (@Eq Int (Prod.snd q156 (1 : Nat) (0 : Nat)) ((0 : Int)))))))))))))))))))))))))))))))))))))); ((((@Eq Int (Prod.fst (Prod.fst y1) (0 : Nat) (1 : Nat)) ((8 : Int))) ∧ (((7 : Nat) ≤ Prod.fst (Prod.snd y1)) ∧ (((2 : Nat) ≤ Prod.fst q141) ∧ ((@Eq Int (Prod.fst q140 (0 : Nat) (0 : Nat)) ((2 : Int))) ∧ (@Eq Int (Prod.fst q140 (1 : Nat) (0 : Nat)) ((0 : Int))))))) ∧ (((3 : Nat) ≤ Prod.fst q145) ∧ ((@Eq Int (Prod.fst q144 (0 : Nat) (0 : Nat)) ((2 : Int))) ∧ ((@Eq Int (Prod.fst q144 (1 : Nat) (0 : Nat)) ((0 : Int))) ∧ (@Eq Int (Prod.fst q144 (2 : Nat) (0 : Nat)) ((1 : Int))))))) → ((t3 ((T0 ∧ (q39 ∧ (t4 (q151 ∧ q152)))) ∧ (q39 ∧ (t4 (q151 ∧ (T0 ∧ q152)))))) ∧ (∀ y2 : q0 × Nat × Nat × Nat × Nat, let q110 := (Prod.fst (Prod.snd y2)); let q111 := (Prod.fst (Prod.fst y2)); let q112 := (Prod.snd (Prod.fst y2)); let q113 := (Prod.snd (Prod.snd y2)); let q114 := (Prod.fst q113); let q115 := (Prod.fst q112); let q116 := (Prod.snd q112); let q117 := (Prod.snd q113); let q118 := (Prod.fst q117); let q119 := (Prod.fst q116); let q120 := (Prod.snd q117); let q121 := (Prod.snd q116); let q122 := (some (rF (54 : Nat) (7 : Nat) q110 q111)); let q123 := (some (Blk.row false [IntKind.i64] (3 : Nat) (2 : Nat) q114 q115)); let q124 := (some (Blk.row false [IntKind.i64] (3 : Nat) (3 : Nat) q118 q119)); let q125 := (some (Blk.row false [IntKind.i64] (3 : Nat) (2 : Nat) q120 q121)); let q126 := ((@Eq (Option Blk) q125 q125) ∧ ((@Eq (Option Blk) q124 q124) ∧ ((@Eq (Option Blk) q123 q123) ∧ ((@Eq (Option Blk) q122 q122) ∧ q67)))); let q127 := (q39 ∧ (t4 (q126 ∧ (T0 ∧ (q10 ∧ (q13 ∧ (T0 ∧ (((4 : Nat) ≤ (4 : Nat)) ∧ (q48 ∧ (q23 ∧ (q17 ∧ (q59 ∧ (q24 ∧ (q21 ∧ (q58 ∧ (q25 ∧ (((4 : Nat) ≤ (100000 : Nat)) ∧ ((q47 ∧ (q29 ∧ q29)) ∧ (q15 ∧ ((q22 ∧ (q27 ∧ ((@Eq Int ((-1 : Int)) ((-1 : Int))) ∧ ((∀ y3 : Nat, ((y3 < (4 : Nat)) → (((1 : Int) ≤ litF q16 ([(4 : Int)] ++ ([(4 : Int)] ++ ([(4 : Int)] ++ ([(4 : Int)] ++ [])))) y3 (0 : Nat)) ∧ (litF q16 ([(4 : Int)] ++ ([(4 : Int)] ++ ([(4 : Int)] ++ ([(4 : Int)] ++ [])))) y3 (0 : Nat) ≤ (8 : Int))))) ∧ ((4 : Nat) ≤ (200 : Nat)))))) ∧ (q126 ∧ (T0 ∧ (∃ y3 : q0 × Nat × Nat × Nat × Nat, let q130 := (Prod.snd (Prod.fst y3)); let q131 := (Prod.snd (Prod.snd y3)); let q132 := (Prod.fst (Prod.snd y3)); let q133 := (Prod.snd q130); let q134 := (Prod.snd q131); let q135 := (Prod.fst q131); let q136 := (Prod.fst q134); let q137 := (Prod.snd q134); ((Go.Rx.Sub 0 [q1, q2, q3, q4, q5] ⟨138, [q37, q36, q50, q33, (3, rsl (1 : Nat) (0 : Nat) (7 : Nat) q110), (4, rsl (2 : Nat) (0 : Nat) (2 : Nat) q114), q31, q34, (8, rsl (3 : Nat) (0 : Nat) (3 : Nat) q118), q32, (12, rsl (4 : Nat) (0 : Nat) (2 : Nat) q120), q35]⟩ ⟨[(4, Blk.row false [IntKind.i64] (3 : Nat) (2 : Nat) q120 q121), (3, Blk.row false [IntKind.i64] (3 : Nat) (3 : Nat) q118 q119), (2, Blk.row false [IntKind.i64] (3 : Nat) (2 : Nat) q114 q115), (1, rF (54 : Nat) (7 : Nat) q110 q111), q60], 8⟩ ({ n := (138 : Nat), m := [q53, q42, ((3 : Nat), rsl (1 : Nat) (0 : Nat) (7 : Nat) q132), ((4 : Nat), rsl (2 : Nat) (0 : Nat) (2 : Nat) q135), q40, q43, ((8 : Nat), rsl (3 : Nat) (0 : Nat) (3 : Nat) q136), q41, ((12 : Nat), rsl (4 : Nat) (0 : Nat) (2 : Nat) q137), q44, q45, q46] }) ({ h := [((4 : Nat), Blk.row false [IntKind.i64] (3 : Nat) (2 : Nat) q137 (Prod.snd q133)), ((3 : Nat), Blk.row false [IntKind.i64] (3 : Nat) (3 : Nat) q136 (Prod.fst q133)), ((2 : Nat), Blk.row false [IntKind.i64] (3 : Nat) (2 : Nat) q135 (Prod.fst q130)), ((1 : Nat), rF (54 : Nat) (7 : Nat) q132 (Prod.fst (Prod.fst y3))), q63], next := (5 : Nat) })) ∧ (((@Eq Int (Prod.fst (Prod.fst y3) (0 : Nat) (1 : Nat)) ((8 : Int))) ∧ (((7 : Nat) ≤ Prod.fst (Prod.snd y3)) ∧ (((2 : Nat) ≤ Prod.fst q131) ∧ ((@Eq Int (Prod.fst q130 (0 : Nat) (0 : Nat)) ((2 : Int))) ∧ (@Eq Int (Prod.fst q130 (1 : Nat) (0 : Nat)) ((0 : Int))))))) ∧ ((((3 : Nat) ≤ Prod.fst q134) ∧ ((@Eq Int (Prod.fst q133 (0 : Nat) (0 : Nat)) ((2 : Int))) ∧ ((@Eq Int (Prod.fst q133 (1 : Nat) (0 : Nat)) ((0 : Int))) ∧ (@Eq Int (Prod.fst q133 (2 : Nat) (0 : Nat)) ((1 : Int)))))) ∧ (((2 : Nat) ≤ Prod.snd q134) ∧ ((@Eq Int (Prod.snd q133 (0 : Nat) (0 : Nat)) ((1 : Int))) ∧ (@Eq Int (Prod.snd q133 (1 : Nat) (0 : Nat)) ((0 : Int))))))))))))))))))))))))))))))); let q128 := (q39 ∧ (t4 (q126 ∧ q127))); let q129 := (q39 ∧ (t4 (q126 ∧ ((T0 ∧ q128) ∧ (q39 ∧ (t4 (q126 ∧ (T0 ∧ q127)))))))); ((((@Eq Int (Prod.fst (Prod.fst y2) (0 : Nat) (1 : Nat)) ((8 : Int))) ∧ (((7 : Nat) ≤ Prod.fst (Prod.snd y2)) ∧ (((2 : Nat) ≤ Prod.fst q113) ∧ ((@Eq Int (Prod.fst q112 (0 : Nat) (0 : Nat)) ((2 : Int))) ∧ (@Eq Int (Prod.fst q112 (1 : Nat) (0 : Nat)) ((0 : Int))))))) ∧ ((((3 : Nat) ≤ Prod.fst q117) ∧ ((@Eq Int (Prod.fst q116 (0 : Nat) (0 : Nat)) ((2 : Int))) ∧ ((@Eq Int (Prod.fst q116 (1 : Nat) (0 : Nat)) ((0 : Int))) ∧ (@Eq Int (Prod.fst q116 (2 : Nat) (0 : Nat)) ((1 : Int)))))) ∧ (((2 : Nat) ≤ Prod.snd q117) ∧ ((@Eq Int (Prod.snd q116 (0 : Nat) (0 : Nat)) ((1 : Int))) ∧ (@Eq Int (Prod.snd q116 (1 : Nat) (0 : Nat)) ((0 : Int))))))) → ((t3 ((T0 ∧ (q39 ∧ (t4 (q126 ∧ (q128 ∧ q128))))) ∧ (q129 ∧ q129))) ∧ (∀ y3 : q0 × Nat × Nat × Nat × Nat, let q84 := (Prod.fst (Prod.snd y3)); let q85 := (Prod.fst (Prod.fst y3)); let q86 := (Prod.snd (Prod.fst y3)); let q87 := (Prod.snd (Prod.snd y3)); let q88 := (Prod.fst q87); let q89 := (Prod.fst q86); let q90 := (Prod.snd q86); let q91 := (Prod.snd q87); let q92 := (Prod.fst q91); let q93 := (Prod.fst q90); let q94 := (Prod.snd q91); let q95 := (Prod.snd q90); let q96 := (some (rF (54 : Nat) (7 : Nat) q84 q85)); let q97 := (some (Blk.row false [IntKind.i64] (3 : Nat) (2 : Nat) q88 q89)); let q98 := (some (Blk.row false [IntKind.i64] (3 : Nat) (3 : Nat) q92 q93)); let q99 := (some (Blk.row false [IntKind.i64] (3 : Nat) (2 : Nat) q94 q95)); let q100 := ((@Eq (Option Blk) q99 q99) ∧ ((@Eq (Option Blk) q98 q98) ∧ ((@Eq (Option Blk) q97 q97) ∧ ((@Eq (Option Blk) q96 q96) ∧ q67)))); let q101 := (q39 ∧ (t4 (q100 ∧ (T0 ∧ (q10 ∧ (q11 ∧ (q48 ∧ (q23 ∧ (q17 ∧ (q59 ∧ (q24 ∧ (q18 ∧ (q57 ∧ (q15 ∧ (q49 ∧ (∀ y4 : Bool, ((y4 = true ↔ sndP (8 : Int) q64 (2 : Nat) q52) → (q100 ∧ (T0 ∧ (∃ y5 : q0 × Nat × Nat × Nat × Nat, let q102 := (Prod.snd (Prod.fst y5)); let q103 := (Prod.snd (Prod.snd y5)); let q104 := (Prod.fst (Prod.snd y5)); let q105 := (Prod.snd q102); let q106 := (Prod.snd q103); let q107 := (Prod.fst q103); let q108 := (Prod.fst q106); let q109 := (Prod.snd q106); ((Go.Rx.Sub 0 [q1, q2, q3, q4, q5] ⟨138, [(17, vi (0 : Int)), (16, Value.bool y4), q50, q33, (3, rsl (1 : Nat) (0 : Nat) (7 : Nat) q84), (4, rsl (2 : Nat) (0 : Nat) (2 : Nat) q88), q31, q34, (8, rsl (3 : Nat) (0 : Nat) (3 : Nat) q92), q32, (12, rsl (4 : Nat) (0 : Nat) (2 : Nat) q94), q35, q36, q37]⟩ ⟨[(4, Blk.row false [IntKind.i64] (3 : Nat) (2 : Nat) q94 q95), (3, Blk.row false [IntKind.i64] (3 : Nat) (3 : Nat) q92 q93), (2, Blk.row false [IntKind.i64] (3 : Nat) (2 : Nat) q88 q89), (1, rF (54 : Nat) (7 : Nat) q84 q85), q60], 7⟩ ({ n := (138 : Nat), m := [q53, q42, ((3 : Nat), rsl (1 : Nat) (0 : Nat) (7 : Nat) q104), ((4 : Nat), rsl (2 : Nat) (0 : Nat) (2 : Nat) q107), q40, q43, ((8 : Nat), rsl (3 : Nat) (0 : Nat) (3 : Nat) q108), q41, ((12 : Nat), rsl (4 : Nat) (0 : Nat) (2 : Nat) q109), q44, q45, q46, ((16 : Nat), Value.bool true), ((17 : Nat), vi (0 : Int))] }) ({ h := [((4 : Nat), Blk.row false [IntKind.i64] (3 : Nat) (2 : Nat) q109 (Prod.snd q105)), ((3 : Nat), Blk.row false [IntKind.i64] (3 : Nat) (3 : Nat) q108 (Prod.fst q105)), ((2 : Nat), Blk.row false [IntKind.i64] (3 : Nat) (2 : Nat) q107 (Prod.fst q102)), ((1 : Nat), rF (54 : Nat) (7 : Nat) q104 (Prod.fst (Prod.fst y5))), q63], next := (5 : Nat) })) ∧ (((@Eq Int (Prod.fst (Prod.fst y5) (0 : Nat) (1 : Nat)) ((8 : Int))) ∧ (((7 : Nat) ≤ Prod.fst (Prod.snd y5)) ∧ (((2 : Nat) ≤ Prod.fst q103) ∧ ((@Eq Int (Prod.fst q102 (0 : Nat) (0 : Nat)) ((2 : Int))) ∧ (@Eq Int (Prod.fst q102 (1 : Nat) (0 : Nat)) ((0 : Int))))))) ∧ ((((3 : Nat) ≤ Prod.fst q106) ∧ ((@Eq Int (Prod.fst q105 (0 : Nat) (0 : Nat)) ((2 : Int))) ∧ ((@Eq Int (Prod.fst q105 (1 : Nat) (0 : Nat)) ((0 : Int))) ∧ (@Eq Int (Prod.fst q105 (2 : Nat) (0 : Nat)) ((1 : Int)))))) ∧ (((2 : Nat) ≤ Prod.snd q106) ∧ ((@Eq Int (Prod.snd q105 (0 : Nat) (0 : Nat)) ((1 : Int))) ∧ (@Eq Int (Prod.snd q105 (1 : Nat) (0 : Nat)) ((0 : Int)))))))))))))))))))))))))))); ((((@Eq Int (Prod.fst (Prod.fst y3) (0 : Nat) (1 : Nat)) ((8 : Int))) ∧ (((7 : Nat) ≤ Prod.fst (Prod.snd y3)) ∧ (((2 : Nat) ≤ Prod.fst q87) ∧ ((@Eq Int (Prod.fst q86 (0 : Nat) (0 : Nat)) ((2 : Int))) ∧ (@Eq Int (Prod.fst q86 (1 : Nat) (0 : Nat)) ((0 : Int))))))) ∧ ((((3 : Nat) ≤ Prod.fst q91) ∧ ((@Eq Int (Prod.fst q90 (0 : Nat) (0 : Nat)) ((2 : Int))) ∧ ((@Eq Int (Prod.fst q90 (1 : Nat) (0 : Nat)) ((0 : Int))) ∧ (@Eq Int (Prod.fst q90 (2 : Nat) (0 : Nat)) ((1 : Int)))))) ∧ (((2 : Nat) ≤ Prod.snd q91) ∧ ((@Eq Int (Prod.snd q90 (0 : Nat) (0 : Nat)) ((1 : Int))) ∧ (@Eq Int (Prod.snd q90 (1 : Nat) (0 : Nat)) ((0 : Int))))))) → ((t3 ((T0 ∧ (q39 ∧ (t4 (q100 ∧ q101)))) ∧ (q39 ∧ (t4 (q100 ∧ (T0 ∧ q101)))))) ∧ (∀ y4 : q0 × Nat × Nat × Nat × Nat, let q71 := (Prod.snd (Prod.fst y4)); let q72 := (Prod.snd (Prod.snd y4)); let q73 := (Prod.snd q71); let q74 := (Prod.snd q72); let q75 := (Prod.fst q72); let q76 := (Prod.snd q74); let q77 := (Prod.fst q74); let q78 := (some (rF (54 : Nat) (7 : Nat) (Prod.fst (Prod.snd y4)) (Prod.fst (Prod.fst y4)))); let q79 := (some (Blk.row false [IntKind.i64] (3 : Nat) (2 : Nat) q75 (Prod.fst q71))); let q80 := (some (Blk.row false [IntKind.i64] (3 : Nat) (3 : Nat) q77 (Prod.fst q73))); let q81 := (some (Blk.row false [IntKind.i64] (3 : Nat) (2 : Nat) q76 (Prod.snd q73))); let q82 := ((@Eq (Option Blk) q81 q81) ∧ ((@Eq (Option Blk) q80 q80) ∧ ((@Eq (Option Blk) q79 q79) ∧ ((@Eq (Option Blk) q78 q78) ∧ q67)))); let q83 := (q39 ∧ (t4 (q82 ∧ (T0 ∧ (q10 ∧ (q11 ∧ (q48 ∧ (q23 ∧ (q17 ∧ (q59 ∧ (q24 ∧ (q18 ∧ (q57 ∧ (q15 ∧ (q49 ∧ (∀ y5 : Bool, ((y5 = true ↔ sndP (8 : Int) q64 (2 : Nat) (litF q16 ([(0 : Int)] ++ ([(2 : Int)] ++ [])))) → (q82 ∧ (t8 (q39 ∧ (T0 ∧ ((q39 ∧ q25) ∧ ((((0 : Int) ≤ (0 : Int)) ∧ ((0 : Int) < (↑(7 : Nat) : Int))) ∧ (T0 ∧ ((Int.toNat (0 : Int) < (7 : Nat)) ∧ (T0 ∧ (if (@Eq Int (Prod.fst (Prod.fst y4) (Int.toNat (0 : Int)) (1 : Nat)) ((8 : Int))) then (q39 ∧ (t4 (q11 ∧ (q11 ∧ (q23 ∧ (q18 ∧ ((q47 ∧ (q25 ∧ (@Eq Nat q75 q75))) ∧ (q24 ∧ (q18 ∧ (q57 ∧ (q15 ∧ ((q25 ∧ (∀ y6 : Nat, ((y6 < (2 : Nat)) → (@Eq Int (Prod.fst q71 y6 (0 : Nat)) (litF q16 ([(2 : Int)] ++ ([(0 : Int)] ++ [])) y6 (0 : Nat)))))) ∧ (T0 ∧ (q39 ∧ (t4 (q12 ∧ (q12 ∧ (q23 ∧ (q19 ∧ ((q47 ∧ (q26 ∧ (@Eq Nat q77 q77))) ∧ (q24 ∧ (q19 ∧ ((q47 ∧ (q26 ∧ q26)) ∧ (q15 ∧ ((q26 ∧ (∀ y6 : Nat, ((y6 < (3 : Nat)) → (@Eq Int (Prod.fst q73 y6 (0 : Nat)) (litF q16 ([(2 : Int)] ++ ([(0 : Int)] ++ ([(1 : Int)] ++ []))) y6 (0 : Nat)))))) ∧ (q39 ∧ (t4 (q11 ∧ (q11 ∧ (q23 ∧ (q18 ∧ ((q47 ∧ (q25 ∧ (@Eq Nat q76 q76))) ∧ (q24 ∧ (q18 ∧ (q57 ∧ (q15 ∧ ((q25 ∧ (∀ y6 : Nat, ((y6 < (2 : Nat)) → (@Eq Int (Prod.snd q73 y6 (0 : Nat)) (litF q16 ([(1 : Int)] ++ ([(0 : Int)] ++ [])) y6 (0 : Nat)))))) ∧ (T0 ∧ (@Eq (Value) (Value.bool !y5) (Value.bool true)))))))))))))))))))))))))))))))))))))))) else (@Eq (Value) (Value.bool false) (Value.bool true))))))))))))))))))))))))))))); ((((@Eq Int (Prod.fst (Prod.fst y4) (0 : Nat) (1 : Nat)) ((8 : Int))) ∧ (((7 : Nat) ≤ Prod.fst (Prod.snd y4)) ∧ (((2 : Nat) ≤ Prod.fst q72) ∧ ((@Eq Int (Prod.fst q71 (0 : Nat) (0 : Nat)) ((2 : Int))) ∧ (@Eq Int (Prod.fst q71 (1 : Nat) (0 : Nat)) ((0 : Int))))))) ∧ ((((3 : Nat) ≤ Prod.fst q74) ∧ ((@Eq Int (Prod.fst q73 (0 : Nat) (0 : Nat)) ((2 : Int))) ∧ ((@Eq Int (Prod.fst q73 (1 : Nat) (0 : Nat)) ((0 : Int))) ∧ (@Eq Int (Prod.fst q73 (2 : Nat) (0 : Nat)) ((1 : Int)))))) ∧ (((2 : Nat) ≤ Prod.snd q74) ∧ ((@Eq Int (Prod.snd q73 (0 : Nat) (0 : Nat)) ((1 : Int))) ∧ (@Eq Int (Prod.snd q73 (1 : Nat) (0 : Nat)) ((0 : Int))))))) → (t3 ((T0 ∧ (q39 ∧ (t4 (q82 ∧ q83)))) ∧ (q39 ∧ (t4 (q82 ∧ (T0 ∧ q83))))))))))))))))))))))
theorem cl48_zE  (K : Value → List Blk → Prop) : cl48_zV  K = bodyK (mkD X48) (callN (mkD X48) 9) (fun _ _ _ => none) cuts48 Try.f48 [] (stOf []) fun v _ => v = .bool true := by kernel_rfl
set_option tactic.hygienic false in
theorem cl48_zP  (K : Value → List Blk → Prop)  : cl48_zV  K := by
  unfold cl48_zV
  conv => zeta

  repeat' (first | (with_reducible first | exact rfl | exact trivial | refine And.intro ?_ ?_ | refine br_intro (fun hq => ?_) fun hq => ?_ | refine if_both (fun hz => ?_) fun hz => ?_) | (intro) | fail)

  all_goals first
    | omega
    | assumption
    | (refine Or.inl ?_
       repeat' (first | (with_reducible first | exact rfl | exact trivial | refine And.intro ?_ ?_ | refine br_intro (fun hq => ?_) fun hq => ?_ | refine if_both (fun hz => ?_) fun hz => ?_) | (intro) | fail)
       all_goals first
      | (with_reducible exact rfl)
      | omega
      | assumption
      | (constructor <;> exact ⟨by decide, by decide⟩)
      | exact Nat.le_refl _
      | (decide +kernel)
      | (unfold useT; decide +kernel)
      | (rename lastC _ _ = _ => hh; exact absurd hh (by decide +kernel))
      | (rename useT _ _ _ _ _ _ => hh; exact absurd hh (by unfold useT; decide +kernel))
      | (rename sel _ _ = [] => hh; exact absurd hh (by decide +kernel))
      | (rename _ ∨ _ => hh; exact absurd hh (by decide +kernel))
      | (rename _ ∧ _ => hh; exact absurd hh (by decide +kernel))
      | (rename Bumped _ _ _ _ _ _ _ _ _ _ => B
         have b := bump0 B (by decide +kernel) (by decide +kernel)
         refine ⟨((y0, litF 1 ([2] ++ ([0] ++ [])), fun _ _ => 0, fun _ _ => 0), (y1, y2, 0, 0)), ?_, ⟨⟨b, ?_, ?_, rfl, rfl⟩, Nat.zero_le _⟩⟩
         · (refine And.intro (And.intro rfl (And.intro rfl (And.intro rfl rfl))) ?_; (repeat' (first | exact trivial | exact rfl | exact fun _ _ _ _ => rfl | refine And.intro ?_ ?_ | omega | (decide +kernel) | fail)); done)
         · (show 7 ≤ y1; omega)
         · (show 2 ≤ y2; omega))
      | (rename Placed _ _ _ _ _ _ _ 1 _ _ _ => P
         have p1 := place1 P (by decide +kernel)
         rename (∀ _ : Nat, _) ∧ _ => AP
         rename (_ ∧ _ ∧ _ ∧ _ ∧ _) ∧ _ => I
         obtain ⟨⟨i1, i2, i3, i4, i5⟩, i0⟩ := I
         refine ⟨((y0.1.1, y0.1.2.1, y4, y0.1.2.2.2), (y0.2.1, y0.2.2.1, y6, 0)), ?_, ⟨⟨i1, i2, i3, i4, i5⟩, ?_, ?_, ?_, ?_⟩⟩
         · (refine And.intro (And.intro rfl (And.intro rfl (And.intro rfl rfl))) ?_; (repeat' (first | exact trivial | exact rfl | exact fun _ _ _ _ => rfl | refine And.intro ?_ ?_ | omega | (decide +kernel) | fail)); done)
         · (show 3 ≤ y6; omega)
         · exact (AP.1 0 (by omega)).trans rfl
         · exact (AP.1 1 (by omega)).trans rfl
         · (have z := AP.2; show y4 2 0 = 1; omega)))
    | (refine Or.inr ?_
       repeat' (first | (with_reducible first | exact rfl | exact trivial | refine And.intro ?_ ?_ | refine br_intro (fun hq => ?_) fun hq => ?_ | refine if_both (fun hz => ?_) fun hz => ?_) | (intro) | fail)
       all_goals first
      | (with_reducible exact rfl)
      | omega
      | assumption
      | (constructor <;> exact ⟨by decide, by decide⟩)
      | exact Nat.le_refl _
      | (decide +kernel)
      | (unfold useT; decide +kernel)
      | (rename lastC _ _ = _ => hh; exact absurd hh (by decide +kernel))
      | (rename useT _ _ _ _ _ _ => hh; exact absurd hh (by unfold useT; decide +kernel))
      | (rename sel _ _ = [] => hh; exact absurd hh (by decide +kernel))
      | (rename _ ∨ _ => hh; exact absurd hh (by decide +kernel))
      | (rename _ ∧ _ => hh; exact absurd hh (by decide +kernel))
      | (rename Bumped _ _ _ _ _ _ _ _ _ _ => B
         have b := bump0 B (by decide +kernel) (by decide +kernel)
         refine ⟨((y0, litF 1 ([2] ++ ([0] ++ [])), fun _ _ => 0, fun _ _ => 0), (y1, y2, 0, 0)), ?_, ⟨⟨b, ?_, ?_, rfl, rfl⟩, Nat.zero_le _⟩⟩
         · (refine And.intro (And.intro rfl (And.intro rfl (And.intro rfl rfl))) ?_; (repeat' (first | exact trivial | exact rfl | exact fun _ _ _ _ => rfl | refine And.intro ?_ ?_ | omega | (decide +kernel) | fail)); done)
         · (show 7 ≤ y1; omega)
         · (show 2 ≤ y2; omega))
      | (rename Placed _ _ _ _ _ _ _ 1 _ _ _ => P
         have p1 := place1 P (by decide +kernel)
         rename (∀ _ : Nat, _) ∧ _ => AP
         rename (_ ∧ _ ∧ _ ∧ _ ∧ _) ∧ _ => I
         obtain ⟨⟨i1, i2, i3, i4, i5⟩, i0⟩ := I
         refine ⟨((y0.1.1, y0.1.2.1, y4, y0.1.2.2.2), (y0.2.1, y0.2.2.1, y6, 0)), ?_, ⟨⟨i1, i2, i3, i4, i5⟩, ?_, ?_, ?_, ?_⟩⟩
         · (refine And.intro (And.intro rfl (And.intro rfl (And.intro rfl rfl))) ?_; (repeat' (first | exact trivial | exact rfl | exact fun _ _ _ _ => rfl | refine And.intro ?_ ?_ | omega | (decide +kernel) | fail)); done)
         · (show 3 ≤ y6; omega)
         · exact (AP.1 0 (by omega)).trans rfl
         · exact (AP.1 1 (by omega)).trans rfl
         · (have z := AP.2; show y4 2 0 = 1; omega)))
    | (constructor <;> exact ⟨by decide, by decide⟩)
    | exact Nat.le_refl _
    | (decide +kernel)
    | (revert y3; decide +kernel)
    | (rename _ ∨ _ => hh; exact absurd hh (by decide +kernel))
    | (rename Placed _ _ _ _ _ _ _ 2 _ _ _ => P
       have p1 := place1 P (by decide +kernel)
       rename (∀ _ : Nat, _) ∧ _ ∧ _ => AP
       rename (_ ∧ _ ∧ _ ∧ _ ∧ _) ∧ _ => I
       obtain ⟨⟨i1, i2, i3, i4, i5⟩, i6, i7, i8, i9⟩ := I
       refine ⟨((y1.1.1, y1.1.2.1, y1.1.2.2.1, y5), (y1.2.1, y1.2.2.1, y1.2.2.2.1, y7)), ?_, ⟨⟨i1, i2, i3, i4, i5⟩, ⟨i6, i7, i8, i9⟩, ?_, ?_, ?_⟩⟩
       · (refine And.intro (And.intro rfl (And.intro rfl (And.intro rfl rfl))) ?_; (repeat' (first | exact trivial | exact rfl | exact fun _ _ _ _ => rfl | refine And.intro ?_ ?_ | omega | (decide +kernel) | fail)); done)
       · (show 2 ≤ y7; omega)
       · (have z : y5 0 0 = (y2 : Int) := AP.2.1; show y5 0 0 = 1; omega)
       · exact AP.2.2.trans rfl)
    | (rename Bool => q
       rename _ ↔ _ => hq1
       have q1 : q = true := hq1.2 (by first | (decide +kernel) | (unfold sndP; decide +kernel))
       subst q1
       refine ⟨y3, ?_, ?_⟩
       · (refine And.intro (And.intro rfl (And.intro rfl (And.intro rfl rfl))) ?_; (repeat' (first | exact trivial | exact rfl | exact fun _ _ _ _ => rfl | refine And.intro ?_ ?_ | omega | (decide +kernel) | fail)); done)
       · assumption)
    | (refine ⟨y2, ?_, ?_⟩
       · (refine And.intro (And.intro rfl (And.intro rfl (And.intro rfl rfl))) ?_; (repeat' (first | exact trivial | exact rfl | exact fun _ _ _ _ => rfl | refine And.intro ?_ ?_ | omega | (decide +kernel) | fail)); done)
       · assumption)
    | (rename Bool => q
       rename _ ↔ _ => hq1
       cases q with
       | false => exact rfl
       | true => exact absurd (hq1.1 rfl) (by first | (decide +kernel) | (unfold sndP; decide +kernel)))
    | (rename (_ ∧ _ ∧ _ ∧ _ ∧ _) ∧ _ => I
       obtain ⟨⟨i1, i2, i3, i4, i5⟩, ⟨i6, i7, i8, i9⟩, i10, i11, i12⟩ := I
       have hc : y6 = 0 ∨ y6 = 1 ∨ y6 = 2 := (by omega)
       rcases hc with rfl | rfl | rfl <;> first | exact i4 | exact i5 | exact i7 | exact i8 | exact i9 | exact i11 | exact i12 | (exfalso; omega))
    | (rename (_ ∧ _ ∧ _ ∧ _ ∧ _) ∧ _ => I
       obtain ⟨⟨i1, i2, i3, i4, i5⟩, ⟨i6, i7, i8, i9⟩, i10, i11, i12⟩ := I
       exfalso
       first | omega | exact absurd i1 ‹_›)
theorem closed48 (w : World) : Calls Try.prog 48 #[] w fun e w' => e = .returned (.bool true) ∧ Below w.heap.size w w' :=
  closedK_ok (E := mkD X48) (mkOkD X48_told) (A := fun _ _ _ => none) (cuts := cuts48) (I := noI) (f := 48) (n := 9) (fn := Try.f48) (by kernel_rfl) (cast (cl48_zE fun _ _ => True) (cl48_zP fun _ _ => True)) w
def sp48 : Rx.Spec := fun args s K => args = [] ∧ K (.bool true) s
theorem told48 : Told 48 sp48 := ⟨⟨Try.f48, by kernel_rfl, by kernel_rfl, by kernel_rfl⟩, specTrue_ok closed48⟩
end Go.Proofs.Ytkflmglpniebfaa.Fr
