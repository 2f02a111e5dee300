/-
  Frames: take, the reference. No project text.
-/
import Derived.Test.YtkflmglpniebfaaFr13
namespace Go.Proofs.Ytkflmglpniebfaa.Fr
open Go.Rx
open Go.RowKit (Below)
set_option linter.unusedVariables false
def con38BF : Con := fun vs bs K => match vs with
  | [u, vl, .bool false] => five u fun a b c d e => parse [.i64, .i64] 0 vl bs fun nl fl j0 bs0 => bs0 = [] ∧ ((¬ (ckF a b c d e nl fl).2 = 0)) ∧ (K (.tuple ⟨[.slice none 0 0, .int .i64 0, .int .i64 (ckF a b c d e nl fl).2]⟩) [])
  | _ => False

def con38BF_nA (a b c d e : Int) : Ann := fun _ => none
def con38BF_rA (a b c d e : Int) (el nl cl : Nat) (fl : RF) : Ann := fun _ => none
def con38EF : Con := fun vs bs K => match vs with
  | [u, vl, .bool false] => five u fun a b c d e => parseR [.i64, .i64] 0 vl bs fun nl fl j0 bs0 => bs0 = [] ∧ (((ckF a b c d e nl fl).2 = 0) ∧ (sel (selE fl 0) nl = [])) ∧ (K (.tuple ⟨[.slice none 0 0, .int .i64 0, .int .i64 5]⟩) [])
  | _ => False

def con38EF_rA (a b c d e : Int) (el nl cl : Nat) (fl : RF) : Ann := fun _ => none
def con38BT : Con := fun vs bs K => match vs with
  | [u, vl, .bool true] => five u fun a b c d e => parse [.i64, .i64] 0 vl bs fun nl fl j0 bs0 => bs0 = [] ∧ ((¬ (ckF a b c d e nl fl).2 = 0)) ∧ (K (.tuple ⟨[.slice none 0 0, .int .i64 0, .int .i64 (ckF a b c d e nl fl).2]⟩) [])
  | _ => False

def con38BT_nA (a b c d e : Int) : Ann := fun _ => none
def con38BT_rA (a b c d e : Int) (el nl cl : Nat) (fl : RF) : Ann := fun _ => none
def con38ET : Con := fun vs bs K => match vs with
  | [u, vl, .bool true] => five u fun a b c d e => parseR [.i64, .i64] 0 vl bs fun nl fl j0 bs0 => bs0 = [] ∧ (((ckF a b c d e nl fl).2 = 0) ∧ (sel (selE fl 0) nl = [])) ∧ (K (.tuple ⟨[.slice none 0 0, .int .i64 0, .int .i64 5]⟩) [])
  | _ => False

def con38ET_rA (a b c d e : Int) (el nl cl : Nat) (fl : RF) : Ann := fun _ => none
def con38GF : Con := fun vs bs K => match vs with
  | [u, vl, .bool false] => five u fun a b c d e => parseR [.i64, .i64] 0 vl bs fun nl fl j0 bs0 => bs0 = [] ∧ (((ckF a b c d e nl fl).2 = 0) ∧ (¬ sel (selE fl 0) nl = [])) ∧ (∀ cp, nl ≤ cp → K (.tuple ⟨[rsl j0 0 nl cp, .int .i64 (lF (sel (selE fl 0) nl) 0 0), .int .i64 0]⟩) [.row false [.i64, .i64] 54 nl cp (putE fl (lF (sel (selE fl 0) nl) 0 0).toNat [1, 0])])
  | _ => False

def con38GF_rA (a b c d e : Int) (el nl cl : Nat) (fl : RF) : Ann := fun _ => none
def con38FT : Con := fun vs bs K => match vs with
  | [u, vl, .bool true] => five u fun a b c d e => parseR [.i64, .i64] 0 vl bs fun nl fl j0 bs0 => bs0 = [] ∧ (((ckF a b c d e nl fl).2 = 0) ∧ (¬ sel (selE fl 0) nl = []) ∧ (¬ sel (selE fl 2) nl = []) ∧ (List.length (sel (selE fl 2) nl) = 2)) ∧ (K (.tuple ⟨[.slice none 0 0, .int .i64 0, .int .i64 5]⟩) [])
  | _ => False

def con38FT_rA (a b c d e : Int) (el nl cl : Nat) (fl : RF) : Ann := fun _ => none
def con38GT : Con := fun vs bs K => match vs with
  | [u, vl, .bool true] => five u fun a b c d e => parseR [.i64, .i64] 0 vl bs fun nl fl j0 bs0 => bs0 = [] ∧ (((ckF a b c d e nl fl).2 = 0) ∧ (¬ sel (selE fl 0) nl = []) ∧ (¬ sel (selE fl 2) nl = []) ∧ (¬ List.length (sel (selE fl 2) nl) = 2)) ∧ (∀ cp, nl ≤ cp → K (.tuple ⟨[rsl j0 0 nl cp, .int .i64 (lF (sel (selE fl 0) nl) 0 0), .int .i64 0]⟩) [.row false [.i64, .i64] 54 nl cp (putE fl (lF (sel (selE fl 0) nl) 0 0).toNat [2, 0])])
  | _ => False

def con38GT_rA (a b c d e : Int) (el nl cl : Nat) (fl : RF) : Ann := fun _ => none
def con38HT : Con := fun vs bs K => match vs with
  | [u, vl, .bool true] => five u fun a b c d e => parseR [.i64, .i64] 0 vl bs fun nl fl j0 bs0 => bs0 = [] ∧ (((ckF a b c d e nl fl).2 = 0) ∧ (¬ sel (selE fl 0) nl = []) ∧ (sel (selE fl 2) nl = [])) ∧ (∀ cp, nl ≤ cp → K (.tuple ⟨[rsl j0 0 nl cp, .int .i64 (lF (sel (selE fl 0) nl) 0 0), .int .i64 0]⟩) [.row false [.i64, .i64] 54 nl cp (putE fl (lF (sel (selE fl 0) nl) 0 0).toNat [2, 0])])
  | _ => False

def con38HT_rA (a b c d e : Int) (el nl cl : Nat) (fl : RF) : Ann := fun _ => none
def con38BF_nV (a b c d e : Int) (K : Value → List Blk → Prop) : Prop := (T0 ∧ (T0 ∧ (T0 ∧ (T0 ∧ ((InC a b c d e) ∧ (eB ∧ ((¬Prod.snd (ckF a b c d e 0 zF) = 0) ∧ (T0 ∧ (if (@Eq Int (Prod.snd (ckF a b c d e 0 zF)) (0)) then (T0 ∧ (T0 ∧ (T0 ∧ ((InC a b c d e) ∧ (eB ∧ ((¬Prod.snd (ckF a b c d e 0 zF) = 0) ∧ (TS ∧ (T0 ∧ (∃ y0 : Value, (∃ y1 : List Blk, ((Go.Rx.Found 0 (vt [vn, vi 0, vi 5]) ({ h := [(0, CB a b c d e)], next := 1 }) (y0) (y1)) ∧ (K y0 y1)))))))))))) else (∃ y0 : Value, (∃ y1 : List Blk, ((Go.Rx.Found 0 (vt [vn, vi 0, vi (Prod.snd (ckF a b c d e 0 zF))]) ({ h := [(0, CB a b c d e)], next := 1 }) (y0) (y1)) ∧ (K y0 y1)))))))))))))
theorem con38BF_nE (a b c d e : Int) (K : Value → List Blk → Prop) : con38BF_nV a b c d e K = bodyX (mk X38BF) (callN (mk X38BF) 4) (con38BF_nA a b c d e) Try.f38 [.agg ⟨[.int .i64 a, .int .i64 b, .int .i64 c, .int .i64 d, .int .i64 e]⟩, .slice none 0 0, .bool false] (stOf []) fun v s' => ∃ v1 news, Rx.Found 0 v s' v1 news ∧ K v1 news := by kernel_rfl
set_option maxHeartbeats 4000000 in
set_option tactic.hygienic false in
theorem con38BF_nP (a b c d e : Int) (K : Value → List Blk → Prop)  (hI : InC a b c d e) (h1 : ¬ (ckF a b c d e 0 zF).2 = 0) (h : K (.tuple ⟨[.slice none 0 0, .int .i64 0, .int .i64 (ckF a b c d e 0 zF).2]⟩) []) : con38BF_nV a b c d e K := by
  unfold con38BF_nV
  have G : (ckF a b c d e 0 zF).2 = 0 → good a b c d e ∧ ((0 : Nat) : Int) = b ∧ ∀ i, i < 0 → fok a zF i := ckF_zero
  have SL0 := sel_len (p := selE zF 0) (n := 0)
  have SL2 := sel_len (p := selE zF 2) (n := 0)
  repeat' (first | (with_reducible exact rfl) | (with_reducible exact trivial) | (with_reducible refine And.intro ?_ ?_) | (intro) | (with_reducible refine br_intro (fun hq => ?_) (fun hq => ?_)) | (with_reducible refine if_both (fun hz => ?_) (fun hz => ?_)) | fail)
  all_goals first
    | omega
    | assumption
    | contradiction
    | exact fin0 (by kernel_rfl) (by kernel_rfl) (by first | exact h | simpa using h)
    | (simp only [Int.toNat_zero, hi4, hi2]; first | done | omega | rfl)
    | (refine fin1t rfl ?_ (by kernel_rfl) (by kernel_rfl) (h _ (by omega)); (intro i j hi hj; have hj' : j = 0 ∨ j = 1 := (by simp at hj; omega); simp only [putE, putF, cpyF, appF, shiftF, zF, Nat.min_self, Nat.sub_zero, Nat.add_zero, Nat.zero_add, Int.toNat_natCast, Int.toNat_zero]; rcases hj' with rfl | rfl <;> (repeat' split) <;> first | rfl | omega | (simp_all; done) | (simp_all; omega)))
    | (exfalso; simp at hq; omega)
def con38BF_rV (a b c d e : Int) (el nl cl : Nat) (fl : RF) (K : Value → List Blk → Prop) : Prop := (T0 ∧ (T0 ∧ (T0 ∧ ((0 + nl ≤ nl) ∧ ((InC a b c d e) ∧ ((eN 0) ∧ ((nl ≤ 100000) ∧ ((eK ∧ ((eN nl) ∧ (eN cl))) ∧ (eB ∧ ((¬Prod.snd (ckF a b c d e nl fl) = 0) ∧ (T0 ∧ (if (@Eq Int (Prod.snd (ckF a b c d e nl fl)) (0)) then (T0 ∧ (T0 ∧ ((0 + nl ≤ nl) ∧ ((InC a b c d e) ∧ ((eN 0) ∧ ((nl ≤ 100000) ∧ ((eK ∧ ((eN nl) ∧ (eN cl))) ∧ (eB ∧ ((¬Prod.snd (ckF a b c d e nl fl) = 0) ∧ (TS ∧ (T0 ∧ (∃ y0 : Value, (∃ y1 : List Blk, ((Go.Rx.Found 1 (vt [vn, vi 0, vi 5]) ({ h := [(1, CB a b c d e), (0, rT el nl cl fl)], next := 2 }) (y0) (y1)) ∧ (K y0 y1))))))))))))))) else (∃ y0 : Value, (∃ y1 : List Blk, ((Go.Rx.Found 1 (vt [vn, vi 0, vi (Prod.snd (ckF a b c d e nl fl))]) ({ h := [(1, CB a b c d e), (0, rT el nl cl fl)], next := 2 }) (y0) (y1)) ∧ (K y0 y1))))))))))))))))
theorem con38BF_rE (a b c d e : Int) (el nl cl : Nat) (fl : RF) (K : Value → List Blk → Prop) : con38BF_rV a b c d e el nl cl fl K = bodyX (mk X38BF) (callN (mk X38BF) 4) (con38BF_rA a b c d e el nl cl fl) Try.f38 [.agg ⟨[.int .i64 a, .int .i64 b, .int .i64 c, .int .i64 d, .int .i64 e]⟩, rsl 0 0 nl cl, .bool false] (stOf [.row true [.i64, .i64] el nl cl fl]) fun v s' => ∃ v1 news, Rx.Found 1 v s' v1 news ∧ K v1 news := by kernel_rfl
set_option maxHeartbeats 4000000 in
set_option tactic.hygienic false in
theorem con38BF_rP (a b c d e : Int) (el nl cl : Nat) (fl : RF) (K : Value → List Blk → Prop)  (hI : InC a b c d e) (hnl : nl ≤ 100000) (h1 : ¬ (ckF a b c d e nl fl).2 = 0) (h : K (.tuple ⟨[.slice none 0 0, .int .i64 0, .int .i64 (ckF a b c d e nl fl).2]⟩) []) : con38BF_rV a b c d e el nl cl fl K := by
  unfold con38BF_rV
  have G : (ckF a b c d e nl fl).2 = 0 → good a b c d e ∧ ((nl : Nat) : Int) = b ∧ ∀ i, i < nl → fok a fl i := ckF_zero
  have SL0 := sel_len (p := selE fl 0) (n := nl)
  have SL2 := sel_len (p := selE fl 2) (n := nl)
  repeat' (first | (with_reducible exact rfl) | (with_reducible exact trivial) | (with_reducible refine And.intro ?_ ?_) | (intro) | (with_reducible refine br_intro (fun hq => ?_) (fun hq => ?_)) | (with_reducible refine if_both (fun hz => ?_) (fun hz => ?_)) | fail)
  all_goals first
    | omega
    | assumption
    | contradiction
    | exact fin0 (by kernel_rfl) (by kernel_rfl) (by first | exact h | simpa using h)
    | (simp only [Int.toNat_zero, hi4, hi2]; first | done | omega | rfl)
    | (refine fin1t rfl ?_ (by kernel_rfl) (by kernel_rfl) (h _ (by omega)); (intro i j hi hj; have hj' : j = 0 ∨ j = 1 := (by simp at hj; omega); simp only [putE, putF, cpyF, appF, shiftF, zF, Nat.min_self, Nat.sub_zero, Nat.add_zero, Nat.zero_add, Int.toNat_natCast, Int.toNat_zero]; rcases hj' with rfl | rfl <;> (repeat' split) <;> first | rfl | omega | (simp_all; done) | (simp_all; omega)))
    | (exfalso; simp at hq; omega)
theorem con38BF_ok : BodyOk (mk X38BF) 4 Try.f38 con38BF := by
  intro vs bs K hh hro
  clear hro
  unfold con38BF at hh
  split at hh
  · rename_i u vl
    obtain ⟨a, b, c, d, e, rfl, hI, hh0⟩ := five_inv hh
    rcases parse_inv hh0 with ⟨rfl, hh1⟩ | ⟨el, nl, cl, fl, btl, rfl, hnl, rfl, hh1⟩ <;> clear hh0
    · obtain ⟨rfl, h1, hc⟩ := hh1
      exact ⟨_, cast (con38BF_nE a b c d e   K) (con38BF_nP a b c d e   K hI  h1 hc)⟩
    · obtain ⟨rfl, h1, hc⟩ := hh1
      exact ⟨_, cast (con38BF_rE a b c d e el nl cl fl  K) (con38BF_rP a b c d e el nl cl fl  K hI hnl h1 hc)⟩
  · exact hh.elim
theorem con38BF_told : Told 38 (specOf con38BF) := told (X := X38BF) X38BF_told (by kernel_rfl) (by kernel_rfl) (by kernel_rfl) con38BF_ok
def con38EF_rV (a b c d e : Int) (el nl cl : Nat) (fl : RF) (K : Value → List Blk → Prop) : Prop := (T0 ∧ (T0 ∧ (T0 ∧ ((0 + nl ≤ nl) ∧ ((InC a b c d e) ∧ ((eN 0) ∧ ((nl ≤ 100000) ∧ ((eK ∧ ((eN nl) ∧ (eN cl))) ∧ (eB ∧ (((@Eq Int (Prod.snd (ckF a b c d e nl fl)) (0)) ∧ (sel (selE fl 0) nl = [])) ∧ (T0 ∧ (T0 ∧ (T0 ∧ ((0 + nl ≤ nl) ∧ ((InC a b c d e) ∧ ((eN 0) ∧ ((nl ≤ 100000) ∧ ((eK ∧ ((eN nl) ∧ (eN cl))) ∧ (eB ∧ ((@Eq Int (Prod.snd (ckF a b c d e nl fl)) (0)) ∧ (((sel (selE fl 2) nl = []) → (TS ∧ (T0 ∧ (∃ y0 : Value, (∃ y1 : List Blk, ((Go.Rx.Found 1 (vt [vn, vi 0, vi 5]) ({ h := [(1, CB a b c d e), (0, rT el nl cl fl)], next := 2 }) (y0) (y1)) ∧ (K y0 y1))))))) ∧ ((¬sel (selE fl 2) nl = []) → (∀ y0 : Nat, ((List.length (sel (selE fl 2) nl) ≤ y0) → (TS ∧ (T0 ∧ (∃ y1 : Value, (∃ y2 : List Blk, ((Go.Rx.Found 1 (vt [vn, vi 0, vi 5]) ({ h := [(2, Blk.row false [IntKind.i64] 3 (List.length (sel (selE fl 2) nl)) y0 (lF (sel (selE fl 2) nl))), (1, CB a b c d e), (0, rT el nl cl fl)], next := 3 }) (y1) (y2)) ∧ (K y1 y2))))))))))))))))))))))))))))))
theorem con38EF_rE (a b c d e : Int) (el nl cl : Nat) (fl : RF) (K : Value → List Blk → Prop) : con38EF_rV a b c d e el nl cl fl K = bodyX (mk X38EF) (callN (mk X38EF) 4) (con38EF_rA a b c d e el nl cl fl) Try.f38 [.agg ⟨[.int .i64 a, .int .i64 b, .int .i64 c, .int .i64 d, .int .i64 e]⟩, rsl 0 0 nl cl, .bool false] (stOf [.row true [.i64, .i64] el nl cl fl]) fun v s' => ∃ v1 news, Rx.Found 1 v s' v1 news ∧ K v1 news := by kernel_rfl
set_option maxHeartbeats 4000000 in
set_option tactic.hygienic false in
theorem con38EF_rP (a b c d e : Int) (el nl cl : Nat) (fl : RF) (K : Value → List Blk → Prop)  (hI : InC a b c d e) (hnl : nl ≤ 100000) (h1 : (ckF a b c d e nl fl).2 = 0) (h2 : sel (selE fl 0) nl = []) (h : K (.tuple ⟨[.slice none 0 0, .int .i64 0, .int .i64 5]⟩) []) : con38EF_rV a b c d e el nl cl fl K := by
  unfold con38EF_rV
  have G : (ckF a b c d e nl fl).2 = 0 → good a b c d e ∧ ((nl : Nat) : Int) = b ∧ ∀ i, i < nl → fok a fl i := ckF_zero
  have SL0 := sel_len (p := selE fl 0) (n := nl)
  have SL2 := sel_len (p := selE fl 2) (n := nl)
  repeat' (first | (with_reducible exact rfl) | (with_reducible exact trivial) | (with_reducible refine And.intro ?_ ?_) | (intro) | (with_reducible refine br_intro (fun hq => ?_) (fun hq => ?_)) | (with_reducible refine if_both (fun hz => ?_) (fun hz => ?_)) | fail)
  all_goals first
    | omega
    | assumption
    | contradiction
    | exact fin0 (by kernel_rfl) (by kernel_rfl) (by first | exact h | simpa using h)
    | (simp only [Int.toNat_zero, hi4, hi2]; first | done | omega | rfl)
    | (refine fin1t rfl ?_ (by kernel_rfl) (by kernel_rfl) (h _ (by omega)); (intro i j hi hj; have hj' : j = 0 ∨ j = 1 := (by simp at hj; omega); simp only [putE, putF, cpyF, appF, shiftF, zF, Nat.min_self, Nat.sub_zero, Nat.add_zero, Nat.zero_add, Int.toNat_natCast, Int.toNat_zero]; rcases hj' with rfl | rfl <;> (repeat' split) <;> first | rfl | omega | (simp_all; done) | (simp_all; omega)))
    | (exfalso; simp at hq; omega)
theorem con38EF_ok : BodyOk (mk X38EF) 4 Try.f38 con38EF := by
  intro vs bs K hh hro
  clear hro
  unfold con38EF at hh
  split at hh
  · rename_i u vl
    obtain ⟨a, b, c, d, e, rfl, hI, hh0⟩ := five_inv hh
    obtain ⟨el, nl, cl, fl, btl, rfl, hnl, rfl, hh1⟩ := parseR_inv hh0
    obtain ⟨rfl, ⟨h1, h2⟩, hc⟩ := hh1
    exact ⟨_, cast (con38EF_rE a b c d e el nl cl fl  K) (con38EF_rP a b c d e el nl cl fl  K hI hnl h1 h2 hc)⟩
  · exact hh.elim
theorem con38EF_told : Told 38 (specOf con38EF) := told (X := X38EF) X38EF_told (by kernel_rfl) (by kernel_rfl) (by kernel_rfl) con38EF_ok
def con38BT_nV (a b c d e : Int) (K : Value → List Blk → Prop) : Prop := (T0 ∧ (T0 ∧ (T0 ∧ (T0 ∧ ((InC a b c d e) ∧ (eB ∧ ((¬Prod.snd (ckF a b c d e 0 zF) = 0) ∧ (T0 ∧ (if (@Eq Int (Prod.snd (ckF a b c d e 0 zF)) (0)) then (T0 ∧ (T0 ∧ (T0 ∧ ((InC a b c d e) ∧ (eB ∧ ((¬Prod.snd (ckF a b c d e 0 zF) = 0) ∧ (TS ∧ (T0 ∧ (∃ y0 : Value, (∃ y1 : List Blk, ((Go.Rx.Found 0 (vt [vn, vi 0, vi 5]) ({ h := [(0, CB a b c d e)], next := 1 }) (y0) (y1)) ∧ (K y0 y1)))))))))))) else (∃ y0 : Value, (∃ y1 : List Blk, ((Go.Rx.Found 0 (vt [vn, vi 0, vi (Prod.snd (ckF a b c d e 0 zF))]) ({ h := [(0, CB a b c d e)], next := 1 }) (y0) (y1)) ∧ (K y0 y1)))))))))))))
theorem con38BT_nE (a b c d e : Int) (K : Value → List Blk → Prop) : con38BT_nV a b c d e K = bodyX (mk X38BT) (callN (mk X38BT) 4) (con38BT_nA a b c d e) Try.f38 [.agg ⟨[.int .i64 a, .int .i64 b, .int .i64 c, .int .i64 d, .int .i64 e]⟩, .slice none 0 0, .bool true] (stOf []) fun v s' => ∃ v1 news, Rx.Found 0 v s' v1 news ∧ K v1 news := by kernel_rfl
set_option maxHeartbeats 4000000 in
set_option tactic.hygienic false in
theorem con38BT_nP (a b c d e : Int) (K : Value → List Blk → Prop)  (hI : InC a b c d e) (h1 : ¬ (ckF a b c d e 0 zF).2 = 0) (h : K (.tuple ⟨[.slice none 0 0, .int .i64 0, .int .i64 (ckF a b c d e 0 zF).2]⟩) []) : con38BT_nV a b c d e K := by
  unfold con38BT_nV
  have G : (ckF a b c d e 0 zF).2 = 0 → good a b c d e ∧ ((0 : Nat) : Int) = b ∧ ∀ i, i < 0 → fok a zF i := ckF_zero
  have SL0 := sel_len (p := selE zF 0) (n := 0)
  have SL2 := sel_len (p := selE zF 2) (n := 0)
  repeat' (first | (with_reducible exact rfl) | (with_reducible exact trivial) | (with_reducible refine And.intro ?_ ?_) | (intro) | (with_reducible refine br_intro (fun hq => ?_) (fun hq => ?_)) | (with_reducible refine if_both (fun hz => ?_) (fun hz => ?_)) | fail)
  all_goals first
    | omega
    | assumption
    | contradiction
    | exact fin0 (by kernel_rfl) (by kernel_rfl) (by first | exact h | simpa using h)
    | (simp only [Int.toNat_zero, hi4, hi2]; first | done | omega | rfl)
    | (refine fin1t rfl ?_ (by kernel_rfl) (by kernel_rfl) (h _ (by omega)); (intro i j hi hj; have hj' : j = 0 ∨ j = 1 := (by simp at hj; omega); simp only [putE, putF, cpyF, appF, shiftF, zF, Nat.min_self, Nat.sub_zero, Nat.add_zero, Nat.zero_add, Int.toNat_natCast, Int.toNat_zero]; rcases hj' with rfl | rfl <;> (repeat' split) <;> first | rfl | omega | (simp_all; done) | (simp_all; omega)))
    | (exfalso; simp at hq; omega)
def con38BT_rV (a b c d e : Int) (el nl cl : Nat) (fl : RF) (K : Value → List Blk → Prop) : Prop := (T0 ∧ (T0 ∧ (T0 ∧ ((0 + nl ≤ nl) ∧ ((InC a b c d e) ∧ ((eN 0) ∧ ((nl ≤ 100000) ∧ ((eK ∧ ((eN nl) ∧ (eN cl))) ∧ (eB ∧ ((¬Prod.snd (ckF a b c d e nl fl) = 0) ∧ (T0 ∧ (if (@Eq Int (Prod.snd (ckF a b c d e nl fl)) (0)) then (T0 ∧ (T0 ∧ ((0 + nl ≤ nl) ∧ ((InC a b c d e) ∧ ((eN 0) ∧ ((nl ≤ 100000) ∧ ((eK ∧ ((eN nl) ∧ (eN cl))) ∧ (eB ∧ ((¬Prod.snd (ckF a b c d e nl fl) = 0) ∧ (TS ∧ (T0 ∧ (∃ y0 : Value, (∃ y1 : List Blk, ((Go.Rx.Found 1 (vt [vn, vi 0, vi 5]) ({ h := [(1, CB a b c d e), (0, rT el nl cl fl)], next := 2 }) (y0) (y1)) ∧ (K y0 y1))))))))))))))) else (∃ y0 : Value, (∃ y1 : List Blk, ((Go.Rx.Found 1 (vt [vn, vi 0, vi (Prod.snd (ckF a b c d e nl fl))]) ({ h := [(1, CB a b c d e), (0, rT el nl cl fl)], next := 2 }) (y0) (y1)) ∧ (K y0 y1))))))))))))))))
theorem con38BT_rE (a b c d e : Int) (el nl cl : Nat) (fl : RF) (K : Value → List Blk → Prop) : con38BT_rV a b c d e el nl cl fl K = bodyX (mk X38BT) (callN (mk X38BT) 4) (con38BT_rA a b c d e el nl cl fl) Try.f38 [.agg ⟨[.int .i64 a, .int .i64 b, .int .i64 c, .int .i64 d, .int .i64 e]⟩, rsl 0 0 nl cl, .bool true] (stOf [.row true [.i64, .i64] el nl cl fl]) fun v s' => ∃ v1 news, Rx.Found 1 v s' v1 news ∧ K v1 news := by kernel_rfl
set_option maxHeartbeats 4000000 in
set_option tactic.hygienic false in
theorem con38BT_rP (a b c d e : Int) (el nl cl : Nat) (fl : RF) (K : Value → List Blk → Prop)  (hI : InC a b c d e) (hnl : nl ≤ 100000) (h1 : ¬ (ckF a b c d e nl fl).2 = 0) (h : K (.tuple ⟨[.slice none 0 0, .int .i64 0, .int .i64 (ckF a b c d e nl fl).2]⟩) []) : con38BT_rV a b c d e el nl cl fl K := by
  unfold con38BT_rV
  have G : (ckF a b c d e nl fl).2 = 0 → good a b c d e ∧ ((nl : Nat) : Int) = b ∧ ∀ i, i < nl → fok a fl i := ckF_zero
  have SL0 := sel_len (p := selE fl 0) (n := nl)
  have SL2 := sel_len (p := selE fl 2) (n := nl)
  repeat' (first | (with_reducible exact rfl) | (with_reducible exact trivial) | (with_reducible refine And.intro ?_ ?_) | (intro) | (with_reducible refine br_intro (fun hq => ?_) (fun hq => ?_)) | (with_reducible refine if_both (fun hz => ?_) (fun hz => ?_)) | fail)
  all_goals first
    | omega
    | assumption
    | contradiction
    | exact fin0 (by kernel_rfl) (by kernel_rfl) (by first | exact h | simpa using h)
    | (simp only [Int.toNat_zero, hi4, hi2]; first | done | omega | rfl)
    | (refine fin1t rfl ?_ (by kernel_rfl) (by kernel_rfl) (h _ (by omega)); (intro i j hi hj; have hj' : j = 0 ∨ j = 1 := (by simp at hj; omega); simp only [putE, putF, cpyF, appF, shiftF, zF, Nat.min_self, Nat.sub_zero, Nat.add_zero, Nat.zero_add, Int.toNat_natCast, Int.toNat_zero]; rcases hj' with rfl | rfl <;> (repeat' split) <;> first | rfl | omega | (simp_all; done) | (simp_all; omega)))
    | (exfalso; simp at hq; omega)
theorem con38BT_ok : BodyOk (mk X38BT) 4 Try.f38 con38BT := by
  intro vs bs K hh hro
  clear hro
  unfold con38BT at hh
  split at hh
  · rename_i u vl
    obtain ⟨a, b, c, d, e, rfl, hI, hh0⟩ := five_inv hh
    rcases parse_inv hh0 with ⟨rfl, hh1⟩ | ⟨el, nl, cl, fl, btl, rfl, hnl, rfl, hh1⟩ <;> clear hh0
    · obtain ⟨rfl, h1, hc⟩ := hh1
      exact ⟨_, cast (con38BT_nE a b c d e   K) (con38BT_nP a b c d e   K hI  h1 hc)⟩
    · obtain ⟨rfl, h1, hc⟩ := hh1
      exact ⟨_, cast (con38BT_rE a b c d e el nl cl fl  K) (con38BT_rP a b c d e el nl cl fl  K hI hnl h1 hc)⟩
  · exact hh.elim
theorem con38BT_told : Told 38 (specOf con38BT) := told (X := X38BT) X38BT_told (by kernel_rfl) (by kernel_rfl) (by kernel_rfl) con38BT_ok
def con38ET_rV (a b c d e : Int) (el nl cl : Nat) (fl : RF) (K : Value → List Blk → Prop) : Prop := (T0 ∧ (T0 ∧ (T0 ∧ ((0 + nl ≤ nl) ∧ ((InC a b c d e) ∧ ((eN 0) ∧ ((nl ≤ 100000) ∧ ((eK ∧ ((eN nl) ∧ (eN cl))) ∧ (eB ∧ (((@Eq Int (Prod.snd (ckF a b c d e nl fl)) (0)) ∧ (sel (selE fl 0) nl = [])) ∧ (T0 ∧ (T0 ∧ (T0 ∧ ((0 + nl ≤ nl) ∧ ((InC a b c d e) ∧ ((eN 0) ∧ ((nl ≤ 100000) ∧ ((eK ∧ ((eN nl) ∧ (eN cl))) ∧ (eB ∧ ((@Eq Int (Prod.snd (ckF a b c d e nl fl)) (0)) ∧ (((sel (selE fl 2) nl = []) → (TS ∧ (T0 ∧ (∃ y0 : Value, (∃ y1 : List Blk, ((Go.Rx.Found 1 (vt [vn, vi 0, vi 5]) ({ h := [(1, CB a b c d e), (0, rT el nl cl fl)], next := 2 }) (y0) (y1)) ∧ (K y0 y1))))))) ∧ ((¬sel (selE fl 2) nl = []) → (∀ y0 : Nat, ((List.length (sel (selE fl 2) nl) ≤ y0) → (TS ∧ (T0 ∧ (∃ y1 : Value, (∃ y2 : List Blk, ((Go.Rx.Found 1 (vt [vn, vi 0, vi 5]) ({ h := [(2, Blk.row false [IntKind.i64] 3 (List.length (sel (selE fl 2) nl)) y0 (lF (sel (selE fl 2) nl))), (1, CB a b c d e), (0, rT el nl cl fl)], next := 3 }) (y1) (y2)) ∧ (K y1 y2))))))))))))))))))))))))))))))
theorem con38ET_rE (a b c d e : Int) (el nl cl : Nat) (fl : RF) (K : Value → List Blk → Prop) : con38ET_rV a b c d e el nl cl fl K = bodyX (mk X38ET) (callN (mk X38ET) 4) (con38ET_rA a b c d e el nl cl fl) Try.f38 [.agg ⟨[.int .i64 a, .int .i64 b, .int .i64 c, .int .i64 d, .int .i64 e]⟩, rsl 0 0 nl cl, .bool true] (stOf [.row true [.i64, .i64] el nl cl fl]) fun v s' => ∃ v1 news, Rx.Found 1 v s' v1 news ∧ K v1 news := by kernel_rfl
set_option maxHeartbeats 4000000 in
set_option tactic.hygienic false in
theorem con38ET_rP (a b c d e : Int) (el nl cl : Nat) (fl : RF) (K : Value → List Blk → Prop)  (hI : InC a b c d e) (hnl : nl ≤ 100000) (h1 : (ckF a b c d e nl fl).2 = 0) (h2 : sel (selE fl 0) nl = []) (h : K (.tuple ⟨[.slice none 0 0, .int .i64 0, .int .i64 5]⟩) []) : con38ET_rV a b c d e el nl cl fl K := by
  unfold con38ET_rV
  have G : (ckF a b c d e nl fl).2 = 0 → good a b c d e ∧ ((nl : Nat) : Int) = b ∧ ∀ i, i < nl → fok a fl i := ckF_zero
  have SL0 := sel_len (p := selE fl 0) (n := nl)
  have SL2 := sel_len (p := selE fl 2) (n := nl)
  repeat' (first | (with_reducible exact rfl) | (with_reducible exact trivial) | (with_reducible refine And.intro ?_ ?_) | (intro) | (with_reducible refine br_intro (fun hq => ?_) (fun hq => ?_)) | (with_reducible refine if_both (fun hz => ?_) (fun hz => ?_)) | fail)
  all_goals first
    | omega
    | assumption
    | contradiction
    | exact fin0 (by kernel_rfl) (by kernel_rfl) (by first | exact h | simpa using h)
    | (simp only [Int.toNat_zero, hi4, hi2]; first | done | omega | rfl)
    | (refine fin1t rfl ?_ (by kernel_rfl) (by kernel_rfl) (h _ (by omega)); (intro i j hi hj; have hj' : j = 0 ∨ j = 1 := (by simp at hj; omega); simp only [putE, putF, cpyF, appF, shiftF, zF, Nat.min_self, Nat.sub_zero, Nat.add_zero, Nat.zero_add, Int.toNat_natCast, Int.toNat_zero]; rcases hj' with rfl | rfl <;> (repeat' split) <;> first | rfl | omega | (simp_all; done) | (simp_all; omega)))
    | (exfalso; simp at hq; omega)
theorem con38ET_ok : BodyOk (mk X38ET) 4 Try.f38 con38ET := by
  intro vs bs K hh hro
  clear hro
  unfold con38ET at hh
  split at hh
  · rename_i u vl
    obtain ⟨a, b, c, d, e, rfl, hI, hh0⟩ := five_inv hh
    obtain ⟨el, nl, cl, fl, btl, rfl, hnl, rfl, hh1⟩ := parseR_inv hh0
    obtain ⟨rfl, ⟨h1, h2⟩, hc⟩ := hh1
    exact ⟨_, cast (con38ET_rE a b c d e el nl cl fl  K) (con38ET_rP a b c d e el nl cl fl  K hI hnl h1 h2 hc)⟩
  · exact hh.elim
theorem con38ET_told : Told 38 (specOf con38ET) := told (X := X38ET) X38ET_told (by kernel_rfl) (by kernel_rfl) (by kernel_rfl) con38ET_ok
def con38GF_rV (a b c d e : Int) (el nl cl : Nat) (fl : RF) (K : Value → List Blk → Prop) : Prop := (T0 ∧ (T0 ∧ (T0 ∧ ((0 + nl ≤ nl) ∧ ((InC a b c d e) ∧ ((eN 0) ∧ ((nl ≤ 100000) ∧ ((eK ∧ ((eN nl) ∧ (eN cl))) ∧ (eB ∧ (((@Eq Int (Prod.snd (ckF a b c d e nl fl)) (0)) ∧ (¬sel (selE fl 0) nl = [])) ∧ (∀ y0 : Nat, ((List.length (sel (selE fl 0) nl) ≤ y0) → (T0 ∧ (T0 ∧ (T0 ∧ ((0 + nl ≤ nl) ∧ ((InC a b c d e) ∧ ((eN 0) ∧ ((nl ≤ 100000) ∧ ((eK ∧ ((eN nl) ∧ (eN cl))) ∧ (eB ∧ ((@Eq Int (Prod.snd (ckF a b c d e nl fl)) (0)) ∧ (((sel (selE fl 2) nl = []) → (TS ∧ (T0 ∧ (if (@Eq Int ((↑(List.length (sel (selE fl 0) nl)) : Int)) (0)) then (∃ y1 : Value, (∃ y2 : List Blk, ((Go.Rx.Found 1 (vt [vn, vi 0, vi 5]) ({ h := [(2, Blk.row false [IntKind.i64] 3 (List.length (sel (selE fl 0) nl)) y0 (lF (sel (selE fl 0) nl))), (1, CB a b c d e), (0, rT el nl cl fl)], next := 3 }) (y1) (y2)) ∧ (K y1 y2)))) else (T0 ∧ (T0 ∧ (T0 ∧ (T0 ∧ (T0 ∧ (T0 ∧ ((TS ∧ (eN 1)) ∧ ((((0 : Int) ≤ 0) ∧ (0 < (↑(List.length (sel (selE fl 0) nl)) : Int))) ∧ (T0 ∧ ((Int.toNat 0 < List.length (sel (selE fl 0) nl)) ∧ (T0 ∧ (T0 ∧ (T0 ∧ (T0 ∧ ((TS ∧ (eN 1)) ∧ ((((0 : Int) ≤ 0) ∧ (0 < (↑(List.length (sel (selE fl 0) nl)) : Int))) ∧ (T0 ∧ ((Int.toNat 0 < List.length (sel (selE fl 0) nl)) ∧ (T0 ∧ (TS ∧ (T0 ∧ (T0 ∧ (T0 ∧ (T0 ∧ (TS ∧ (TS ∧ (T0 ∧ (T0 ∧ (T0 ∧ (T0 ∧ ((0 + nl ≤ nl) ∧ ((nl ≤ 100000) ∧ (T0 ∧ ((eN 0) ∧ (Go.Rx.br (decide (0 < nl)) (∀ y1 : Nat, ((nl ≤ y1) → (T0 ∧ ((TS ∧ (eN 2)) ∧ (((0 ≤ lF (sel (selE fl 0) nl) (Int.toNat 0) 0) ∧ (lF (sel (selE fl 0) nl) (Int.toNat 0) 0 < (↑nl : Int))) ∧ ((false = false) ∧ ((Int.toNat (lF (sel (selE fl 0) nl) (Int.toNat 0) 0) < nl) ∧ (((eN 0) ∧ (eN 2)) ∧ (((@Eq (Option Blk) (some (Blk.cells [vi 1, vi 0] 54)) (some (Blk.cells [vi 1, vi 0] 54))) ∧ ((@Eq (Option Blk) (some (Blk.row false [IntKind.i64] 3 (List.length (sel (selE fl 0) nl)) y0 (lF (sel (selE fl 0) nl)))) (some (Blk.row false [IntKind.i64] 3 (List.length (sel (selE fl 0) nl)) y0 (lF (sel (selE fl 0) nl))))) ∧ ((@Eq (Option Blk) (some (CB a b c d e)) (some (CB a b c d e))) ∧ ((@Eq (Option Blk) (some (rT el nl cl fl)) (some (rT el nl cl fl))) ∧ (True))))) ∧ (∃ y2 : Value, (∃ y3 : List Blk, ((Go.Rx.Found 1 (vt [rsl 6 0 nl y1, vi (lF (sel (selE fl 0) nl) (Int.toNat 0) 0), vi 0]) ({ h := [(6, rF 54 nl y1 (putE (appF (fun x x_1 ↦ 0) 0 fl 0) (Int.toNat (lF (sel (selE fl 0) nl) (Int.toNat 0) 0)) [1, Int.ofNat 0])), (5, rF 54 0 0 (litF (List.length [IntKind.i64, IntKind.i64]) [])), (4, Blk.cells [vi 1, vi 0] 54), (3, Blk.cells [vi 1, vi 0] 54), (2, Blk.row false [IntKind.i64] 3 (List.length (sel (selE fl 0) nl)) y0 (lF (sel (selE fl 0) nl))), (1, CB a b c d e), (0, rT el nl cl fl)], next := 7 }) (y2) (y3)) ∧ (K y2 y3))))))))))))) (T0 ∧ ((TS ∧ (eN 2)) ∧ (((0 ≤ lF (sel (selE fl 0) nl) (Int.toNat 0) 0) ∧ (lF (sel (selE fl 0) nl) (Int.toNat 0) 0 < (↑0 : Int))) ∧ ((false = false) ∧ ((Int.toNat (lF (sel (selE fl 0) nl) (Int.toNat 0) 0) < 0) ∧ (((eN 0) ∧ (eN 2)) ∧ (((@Eq (Option Blk) (some (Blk.cells [vi 1, vi 0] 54)) (some (Blk.cells [vi 1, vi 0] 54))) ∧ ((@Eq (Option Blk) (some (Blk.row false [IntKind.i64] 3 (List.length (sel (selE fl 0) nl)) y0 (lF (sel (selE fl 0) nl)))) (some (Blk.row false [IntKind.i64] 3 (List.length (sel (selE fl 0) nl)) y0 (lF (sel (selE fl 0) nl))))) ∧ ((@Eq (Option Blk) (some (CB a b c d e)) (some (CB a b c d e))) ∧ ((@Eq (Option Blk) (some (rT el nl cl fl)) (some (rT el nl cl fl))) ∧ (True))))) ∧ (∃ y1 : Value, (∃ y2 : List Blk, ((Go.Rx.Found 1 (vt [rsl 5 0 0 0, vi (lF (sel (selE fl 0) nl) (Int.toNat 0) 0), vi 0]) ({ h := [(5, rF 54 0 0 (putE (litF (List.length [IntKind.i64, IntKind.i64]) []) (Int.toNat (lF (sel (selE fl 0) nl) (Int.toNat 0) 0)) [1, Int.ofNat 0])), (4, Blk.cells [vi 1, vi 0] 54), (3, Blk.cells [vi 1, vi 0] 54), (2, Blk.row false [IntKind.i64] 3 (List.length (sel (selE fl 0) nl)) y0 (lF (sel (selE fl 0) nl))), (1, CB a b c d e), (0, rT el nl cl fl)], next := 6 }) (y1) (y2)) ∧ (K y1 y2)))))))))))))))))))))))))))))))))))))))))))))))))) ∧ ((¬sel (selE fl 2) nl = []) → (∀ y1 : Nat, ((List.length (sel (selE fl 2) nl) ≤ y1) → (TS ∧ (T0 ∧ (if (@Eq Int ((↑(List.length (sel (selE fl 0) nl)) : Int)) (0)) then (∃ y2 : Value, (∃ y3 : List Blk, ((Go.Rx.Found 1 (vt [vn, vi 0, vi 5]) ({ h := [(3, Blk.row false [IntKind.i64] 3 (List.length (sel (selE fl 2) nl)) y1 (lF (sel (selE fl 2) nl))), (2, Blk.row false [IntKind.i64] 3 (List.length (sel (selE fl 0) nl)) y0 (lF (sel (selE fl 0) nl))), (1, CB a b c d e), (0, rT el nl cl fl)], next := 4 }) (y2) (y3)) ∧ (K y2 y3)))) else (T0 ∧ (T0 ∧ (T0 ∧ (T0 ∧ (T0 ∧ (T0 ∧ ((TS ∧ (eN 1)) ∧ ((((0 : Int) ≤ 0) ∧ (0 < (↑(List.length (sel (selE fl 0) nl)) : Int))) ∧ (T0 ∧ ((Int.toNat 0 < List.length (sel (selE fl 0) nl)) ∧ (T0 ∧ (T0 ∧ (T0 ∧ (T0 ∧ ((TS ∧ (eN 1)) ∧ ((((0 : Int) ≤ 0) ∧ (0 < (↑(List.length (sel (selE fl 0) nl)) : Int))) ∧ (T0 ∧ ((Int.toNat 0 < List.length (sel (selE fl 0) nl)) ∧ (T0 ∧ (TS ∧ (T0 ∧ (T0 ∧ (T0 ∧ (T0 ∧ (TS ∧ (TS ∧ (T0 ∧ (T0 ∧ (T0 ∧ (T0 ∧ ((0 + nl ≤ nl) ∧ ((nl ≤ 100000) ∧ (T0 ∧ ((eN 0) ∧ (Go.Rx.br (decide (0 < nl)) (∀ y2 : Nat, ((nl ≤ y2) → (T0 ∧ ((TS ∧ (eN 2)) ∧ (((0 ≤ lF (sel (selE fl 0) nl) (Int.toNat 0) 0) ∧ (lF (sel (selE fl 0) nl) (Int.toNat 0) 0 < (↑nl : Int))) ∧ ((false = false) ∧ ((Int.toNat (lF (sel (selE fl 0) nl) (Int.toNat 0) 0) < nl) ∧ (((eN 0) ∧ (eN 2)) ∧ (((@Eq (Option Blk) (some (Blk.cells [vi 1, vi 0] 54)) (some (Blk.cells [vi 1, vi 0] 54))) ∧ ((@Eq (Option Blk) (some (Blk.row false [IntKind.i64] 3 (List.length (sel (selE fl 2) nl)) y1 (lF (sel (selE fl 2) nl)))) (some (Blk.row false [IntKind.i64] 3 (List.length (sel (selE fl 2) nl)) y1 (lF (sel (selE fl 2) nl))))) ∧ ((@Eq (Option Blk) (some (Blk.row false [IntKind.i64] 3 (List.length (sel (selE fl 0) nl)) y0 (lF (sel (selE fl 0) nl)))) (some (Blk.row false [IntKind.i64] 3 (List.length (sel (selE fl 0) nl)) y0 (lF (sel (selE fl 0) nl))))) ∧ ((@Eq (Option Blk) (some (CB a b c d e)) (some (CB a b c d e))) ∧ ((@Eq (Option Blk) (some (rT el nl cl fl)) (some (rT el nl cl fl))) ∧ (True)))))) ∧ (∃ y3 : Value, (∃ y4 : List Blk, ((Go.Rx.Found 1 (vt [rsl 7 0 nl y2, vi (lF (sel (selE fl 0) nl) (Int.toNat 0) 0), vi 0]) ({ h := [(7, rF 54 nl y2 (putE (appF (fun x x_1 ↦ 0) 0 fl 0) (Int.toNat (lF (sel (selE fl 0) nl) (Int.toNat 0) 0)) [1, Int.ofNat 0])), (6, rF 54 0 0 (litF (List.length [IntKind.i64, IntKind.i64]) [])), (5, Blk.cells [vi 1, vi 0] 54), (4, Blk.cells [vi 1, vi 0] 54), (3, Blk.row false [IntKind.i64] 3 (List.length (sel (selE fl 2) nl)) y1 (lF (sel (selE fl 2) nl))), (2, Blk.row false [IntKind.i64] 3 (List.length (sel (selE fl 0) nl)) y0 (lF (sel (selE fl 0) nl))), (1, CB a b c d e), (0, rT el nl cl fl)], next := 8 }) (y3) (y4)) ∧ (K y3 y4))))))))))))) (T0 ∧ ((TS ∧ (eN 2)) ∧ (((0 ≤ lF (sel (selE fl 0) nl) (Int.toNat 0) 0) ∧ (lF (sel (selE fl 0) nl) (Int.toNat 0) 0 < (↑0 : Int))) ∧ ((false = false) ∧ ((Int.toNat (lF (sel (selE fl 0) nl) (Int.toNat 0) 0) < 0) ∧ (((eN 0) ∧ (eN 2)) ∧ (((@Eq (Option Blk) (some (Blk.cells [vi 1, vi 0] 54)) (some (Blk.cells [vi 1, vi 0] 54))) ∧ ((@Eq (Option Blk) (some (Blk.row false [IntKind.i64] 3 (List.length (sel (selE fl 2) nl)) y1 (lF (sel (selE fl 2) nl)))) (some (Blk.row false [IntKind.i64] 3 (List.length (sel (selE fl 2) nl)) y1 (lF (sel (selE fl 2) nl))))) ∧ ((@Eq (Option Blk) (some (Blk.row false [IntKind.i64] 3 (List.length (sel (selE fl 0) nl)) y0 (lF (sel (selE fl 0) nl)))) (some (Blk.row false [IntKind.i64] 3 (List.length (sel (selE fl 0) nl)) y0 (lF (sel (selE fl 0) nl))))) ∧ ((@Eq (Option Blk) (some (CB a b c d e)) (some (CB a b c d e))) ∧ ((@Eq (Option Blk) (some (rT el nl cl fl)) (some (rT el nl cl fl))) ∧ (True)))))) ∧ (∃ y2 : Value, (∃ y3 : List Blk, ((Go.Rx.Found 1 (vt [rsl 6 0 0 0, vi (lF (sel (selE fl 0) nl) (Int.toNat 0) 0), vi 0]) ({ h := [(6, rF 54 0 0 (putE (litF (List.length [IntKind.i64, IntKind.i64]) []) (Int.toNat (lF (sel (selE fl 0) nl) (Int.toNat 0) 0)) [1, Int.ofNat 0])), (5, Blk.cells [vi 1, vi 0] 54), (4, Blk.cells [vi 1, vi 0] 54), (3, Blk.row false [IntKind.i64] 3 (List.length (sel (selE fl 2) nl)) y1 (lF (sel (selE fl 2) nl))), (2, Blk.row false [IntKind.i64] 3 (List.length (sel (selE fl 0) nl)) y0 (lF (sel (selE fl 0) nl))), (1, CB a b c d e), (0, rT el nl cl fl)], next := 7 }) (y2) (y3)) ∧ (K y2 y3)))))))))))))))))))))))))))))))))))))))))))))))))))))))))))))))))))))))))))
theorem con38GF_rE (a b c d e : Int) (el nl cl : Nat) (fl : RF) (K : Value → List Blk → Prop) : con38GF_rV a b c d e el nl cl fl K = bodyX (mk X38GF) (callN (mk X38GF) 4) (con38GF_rA a b c d e el nl cl fl) Try.f38 [.agg ⟨[.int .i64 a, .int .i64 b, .int .i64 c, .int .i64 d, .int .i64 e]⟩, rsl 0 0 nl cl, .bool false] (stOf [.row true [.i64, .i64] el nl cl fl]) fun v s' => ∃ v1 news, Rx.Found 1 v s' v1 news ∧ K v1 news := by kernel_rfl
set_option maxHeartbeats 4000000 in
set_option tactic.hygienic false in
theorem con38GF_rP (a b c d e : Int) (el nl cl : Nat) (fl : RF) (K : Value → List Blk → Prop)  (hI : InC a b c d e) (hnl : nl ≤ 100000) (h1 : (ckF a b c d e nl fl).2 = 0) (h2 : ¬ sel (selE fl 0) nl = []) (h : ∀ cp, nl ≤ cp → K (.tuple ⟨[rsl 1 0 nl cp, .int .i64 (lF (sel (selE fl 0) nl) 0 0), .int .i64 0]⟩) [.row false [.i64, .i64] 54 nl cp (putE fl (lF (sel (selE fl 0) nl) 0 0).toNat [1, 0])]) : con38GF_rV a b c d e el nl cl fl K := by
  unfold con38GF_rV
  have G : (ckF a b c d e nl fl).2 = 0 → good a b c d e ∧ ((nl : Nat) : Int) = b ∧ ∀ i, i < nl → fok a fl i := ckF_zero
  have SL0 := sel_len (p := selE fl 0) (n := nl)
  have SL2 := sel_len (p := selE fl 2) (n := nl)
  obtain ⟨i0, hi1, hi2, hi3⟩ := sel0_mem h2
  have hi4 : (lF (sel (selE fl 0) nl) 0 0).toNat = i0 := (by rw [hi2]; rfl)
  have L0 : 0 < List.length (sel (selE fl 0) nl) := List.length_pos_iff.2 h2
  repeat' (first | (with_reducible exact rfl) | (with_reducible exact trivial) | (with_reducible refine And.intro ?_ ?_) | (intro) | (with_reducible refine br_intro (fun hq => ?_) (fun hq => ?_)) | (with_reducible refine if_both (fun hz => ?_) (fun hz => ?_)) | fail)
  all_goals first
    | omega
    | assumption
    | contradiction
    | exact fin0 (by kernel_rfl) (by kernel_rfl) (by first | exact h | simpa using h)
    | (simp only [Int.toNat_zero, hi4, hi2]; first | done | omega | rfl)
    | (refine fin1t rfl ?_ (by kernel_rfl) (by kernel_rfl) (h _ (by omega)); (intro i j hi hj; have hj' : j = 0 ∨ j = 1 := (by simp at hj; omega); simp only [putE, putF, cpyF, appF, shiftF, zF, Nat.min_self, Nat.sub_zero, Nat.add_zero, Nat.zero_add, Int.toNat_natCast, Int.toNat_zero]; rcases hj' with rfl | rfl <;> (repeat' split) <;> first | rfl | omega | (simp_all; done) | (simp_all; omega)))
    | (exfalso; simp at hq; omega)
theorem con38GF_ok : BodyOk (mk X38GF) 4 Try.f38 con38GF := by
  intro vs bs K hh hro
  clear hro
  unfold con38GF at hh
  split at hh
  · rename_i u vl
    obtain ⟨a, b, c, d, e, rfl, hI, hh0⟩ := five_inv hh
    obtain ⟨el, nl, cl, fl, btl, rfl, hnl, rfl, hh1⟩ := parseR_inv hh0
    obtain ⟨rfl, ⟨h1, h2⟩, hc⟩ := hh1
    exact ⟨_, cast (con38GF_rE a b c d e el nl cl fl  K) (con38GF_rP a b c d e el nl cl fl  K hI hnl h1 h2 hc)⟩
  · exact hh.elim
theorem con38GF_told : Told 38 (specOf con38GF) := told (X := X38GF) X38GF_told (by kernel_rfl) (by kernel_rfl) (by kernel_rfl) con38GF_ok
def con38FT_rV (a b c d e : Int) (el nl cl : Nat) (fl : RF) (K : Value → List Blk → Prop) : Prop := (T0 ∧ (T0 ∧ (T0 ∧ ((0 + nl ≤ nl) ∧ ((InC a b c d e) ∧ ((eN 0) ∧ ((nl ≤ 100000) ∧ ((eK ∧ ((eN nl) ∧ (eN cl))) ∧ (eB ∧ (((@Eq Int (Prod.snd (ckF a b c d e nl fl)) (0)) ∧ (¬sel (selE fl 0) nl = [])) ∧ (∀ y0 : Nat, ((List.length (sel (selE fl 0) nl) ≤ y0) → (T0 ∧ (T0 ∧ (T0 ∧ ((0 + nl ≤ nl) ∧ ((InC a b c d e) ∧ ((eN 0) ∧ ((nl ≤ 100000) ∧ ((eK ∧ ((eN nl) ∧ (eN cl))) ∧ (eB ∧ (((@Eq Int (Prod.snd (ckF a b c d e nl fl)) (0)) ∧ (¬sel (selE fl 2) nl = [])) ∧ (∀ y1 : Nat, ((List.length (sel (selE fl 2) nl) ≤ y1) → (TS ∧ (T0 ∧ (if (@Eq Int ((↑(List.length (sel (selE fl 0) nl)) : Int)) (0)) then (∃ y2 : Value, (∃ y3 : List Blk, ((Go.Rx.Found 1 (vt [vn, vi 0, vi 5]) ({ h := [(3, Blk.row false [IntKind.i64] 3 (List.length (sel (selE fl 2) nl)) y1 (lF (sel (selE fl 2) nl))), (2, Blk.row false [IntKind.i64] 3 (List.length (sel (selE fl 0) nl)) y0 (lF (sel (selE fl 0) nl))), (1, CB a b c d e), (0, rT el nl cl fl)], next := 4 }) (y2) (y3)) ∧ (K y2 y3)))) else (TS ∧ (T0 ∧ (if (@Eq Int ((↑(List.length (sel (selE fl 2) nl)) : Int)) (2)) then (∃ y2 : Value, (∃ y3 : List Blk, ((Go.Rx.Found 1 (vt [vn, vi 0, vi 5]) ({ h := [(3, Blk.row false [IntKind.i64] 3 (List.length (sel (selE fl 2) nl)) y1 (lF (sel (selE fl 2) nl))), (2, Blk.row false [IntKind.i64] 3 (List.length (sel (selE fl 0) nl)) y0 (lF (sel (selE fl 0) nl))), (1, CB a b c d e), (0, rT el nl cl fl)], next := 4 }) (y2) (y3)) ∧ (K y2 y3)))) else (T0 ∧ (T0 ∧ (T0 ∧ (T0 ∧ (T0 ∧ (T0 ∧ (T0 ∧ (T0 ∧ (T0 ∧ ((TS ∧ (eN 1)) ∧ ((((0 : Int) ≤ 0) ∧ (0 < (↑(List.length (sel (selE fl 0) nl)) : Int))) ∧ (T0 ∧ ((Int.toNat 0 < List.length (sel (selE fl 0) nl)) ∧ (T0 ∧ (T0 ∧ (T0 ∧ (T0 ∧ ((TS ∧ (eN 1)) ∧ ((((0 : Int) ≤ 0) ∧ (0 < (↑(List.length (sel (selE fl 0) nl)) : Int))) ∧ (T0 ∧ ((Int.toNat 0 < List.length (sel (selE fl 0) nl)) ∧ (T0 ∧ (TS ∧ (T0 ∧ (T0 ∧ (T0 ∧ (T0 ∧ (TS ∧ (TS ∧ (T0 ∧ (T0 ∧ (T0 ∧ (T0 ∧ ((0 + nl ≤ nl) ∧ ((nl ≤ 100000) ∧ (T0 ∧ ((eN 0) ∧ (Go.Rx.br (decide (0 < nl)) (∀ y2 : Nat, ((nl ≤ y2) → (T0 ∧ ((TS ∧ (eN 2)) ∧ (((0 ≤ lF (sel (selE fl 0) nl) (Int.toNat 0) 0) ∧ (lF (sel (selE fl 0) nl) (Int.toNat 0) 0 < (↑nl : Int))) ∧ ((false = false) ∧ ((Int.toNat (lF (sel (selE fl 0) nl) (Int.toNat 0) 0) < nl) ∧ (((eN 0) ∧ (eN 2)) ∧ (((@Eq (Option Blk) (some (Blk.cells [vi 2, vi 0] 54)) (some (Blk.cells [vi 2, vi 0] 54))) ∧ ((@Eq (Option Blk) (some (Blk.row false [IntKind.i64] 3 (List.length (sel (selE fl 2) nl)) y1 (lF (sel (selE fl 2) nl)))) (some (Blk.row false [IntKind.i64] 3 (List.length (sel (selE fl 2) nl)) y1 (lF (sel (selE fl 2) nl))))) ∧ ((@Eq (Option Blk) (some (Blk.row false [IntKind.i64] 3 (List.length (sel (selE fl 0) nl)) y0 (lF (sel (selE fl 0) nl)))) (some (Blk.row false [IntKind.i64] 3 (List.length (sel (selE fl 0) nl)) y0 (lF (sel (selE fl 0) nl))))) ∧ ((@Eq (Option Blk) (some (CB a b c d e)) (some (CB a b c d e))) ∧ ((@Eq (Option Blk) (some (rT el nl cl fl)) (some (rT el nl cl fl))) ∧ (True)))))) ∧ (∃ y3 : Value, (∃ y4 : List Blk, ((Go.Rx.Found 1 (vt [rsl 7 0 nl y2, vi (lF (sel (selE fl 0) nl) (Int.toNat 0) 0), vi 0]) ({ h := [(7, rF 54 nl y2 (putE (appF (fun x x_1 ↦ 0) 0 fl 0) (Int.toNat (lF (sel (selE fl 0) nl) (Int.toNat 0) 0)) [2, Int.ofNat 0])), (6, rF 54 0 0 (litF (List.length [IntKind.i64, IntKind.i64]) [])), (5, Blk.cells [vi 2, vi 0] 54), (4, Blk.cells [vi 2, vi 0] 54), (3, Blk.row false [IntKind.i64] 3 (List.length (sel (selE fl 2) nl)) y1 (lF (sel (selE fl 2) nl))), (2, Blk.row false [IntKind.i64] 3 (List.length (sel (selE fl 0) nl)) y0 (lF (sel (selE fl 0) nl))), (1, CB a b c d e), (0, rT el nl cl fl)], next := 8 }) (y3) (y4)) ∧ (K y3 y4))))))))))))) (T0 ∧ ((TS ∧ (eN 2)) ∧ (((0 ≤ lF (sel (selE fl 0) nl) (Int.toNat 0) 0) ∧ (lF (sel (selE fl 0) nl) (Int.toNat 0) 0 < (↑0 : Int))) ∧ ((false = false) ∧ ((Int.toNat (lF (sel (selE fl 0) nl) (Int.toNat 0) 0) < 0) ∧ (((eN 0) ∧ (eN 2)) ∧ (((@Eq (Option Blk) (some (Blk.cells [vi 2, vi 0] 54)) (some (Blk.cells [vi 2, vi 0] 54))) ∧ ((@Eq (Option Blk) (some (Blk.row false [IntKind.i64] 3 (List.length (sel (selE fl 2) nl)) y1 (lF (sel (selE fl 2) nl)))) (some (Blk.row false [IntKind.i64] 3 (List.length (sel (selE fl 2) nl)) y1 (lF (sel (selE fl 2) nl))))) ∧ ((@Eq (Option Blk) (some (Blk.row false [IntKind.i64] 3 (List.length (sel (selE fl 0) nl)) y0 (lF (sel (selE fl 0) nl)))) (some (Blk.row false [IntKind.i64] 3 (List.length (sel (selE fl 0) nl)) y0 (lF (sel (selE fl 0) nl))))) ∧ ((@Eq (Option Blk) (some (CB a b c d e)) (some (CB a b c d e))) ∧ ((@Eq (Option Blk) (some (rT el nl cl fl)) (some (rT el nl cl fl))) ∧ (True)))))) ∧ (∃ y2 : Value, (∃ y3 : List Blk, ((Go.Rx.Found 1 (vt [rsl 6 0 0 0, vi (lF (sel (selE fl 0) nl) (Int.toNat 0) 0), vi 0]) ({ h := [(6, rF 54 0 0 (putE (litF (List.length [IntKind.i64, IntKind.i64]) []) (Int.toNat (lF (sel (selE fl 0) nl) (Int.toNat 0) 0)) [2, Int.ofNat 0])), (5, Blk.cells [vi 2, vi 0] 54), (4, Blk.cells [vi 2, vi 0] 54), (3, Blk.row false [IntKind.i64] 3 (List.length (sel (selE fl 2) nl)) y1 (lF (sel (selE fl 2) nl))), (2, Blk.row false [IntKind.i64] 3 (List.length (sel (selE fl 0) nl)) y0 (lF (sel (selE fl 0) nl))), (1, CB a b c d e), (0, rT el nl cl fl)], next := 7 }) (y2) (y3)) ∧ (K y2 y3)))))))))))))))))))))))))))))))))))))))))))))))))))))))))))))))))))))))))))))))
theorem con38FT_rE (a b c d e : Int) (el nl cl : Nat) (fl : RF) (K : Value → List Blk → Prop) : con38FT_rV a b c d e el nl cl fl K = bodyX (mk X38FT) (callN (mk X38FT) 4) (con38FT_rA a b c d e el nl cl fl) Try.f38 [.agg ⟨[.int .i64 a, .int .i64 b, .int .i64 c, .int .i64 d, .int .i64 e]⟩, rsl 0 0 nl cl, .bool true] (stOf [.row true [.i64, .i64] el nl cl fl]) fun v s' => ∃ v1 news, Rx.Found 1 v s' v1 news ∧ K v1 news := by kernel_rfl
set_option maxHeartbeats 4000000 in
set_option tactic.hygienic false in
theorem con38FT_rP (a b c d e : Int) (el nl cl : Nat) (fl : RF) (K : Value → List Blk → Prop)  (hI : InC a b c d e) (hnl : nl ≤ 100000) (h1 : (ckF a b c d e nl fl).2 = 0) (h2 : ¬ sel (selE fl 0) nl = []) (h3 : ¬ sel (selE fl 2) nl = []) (h4 : List.length (sel (selE fl 2) nl) = 2) (h : K (.tuple ⟨[.slice none 0 0, .int .i64 0, .int .i64 5]⟩) []) : con38FT_rV a b c d e el nl cl fl K := by
  unfold con38FT_rV
  have G : (ckF a b c d e nl fl).2 = 0 → good a b c d e ∧ ((nl : Nat) : Int) = b ∧ ∀ i, i < nl → fok a fl i := ckF_zero
  have SL0 := sel_len (p := selE fl 0) (n := nl)
  have SL2 := sel_len (p := selE fl 2) (n := nl)
  obtain ⟨i0, hi1, hi2, hi3⟩ := sel0_mem h2
  have hi4 : (lF (sel (selE fl 0) nl) 0 0).toNat = i0 := (by rw [hi2]; rfl)
  have L0 : 0 < List.length (sel (selE fl 0) nl) := List.length_pos_iff.2 h2
  repeat' (first | (with_reducible exact rfl) | (with_reducible exact trivial) | (with_reducible refine And.intro ?_ ?_) | (intro) | (with_reducible refine br_intro (fun hq => ?_) (fun hq => ?_)) | (with_reducible refine if_both (fun hz => ?_) (fun hz => ?_)) | fail)
  all_goals first
    | omega
    | assumption
    | contradiction
    | exact fin0 (by kernel_rfl) (by kernel_rfl) (by first | exact h | simpa using h)
    | (simp only [Int.toNat_zero, hi4, hi2]; first | done | omega | rfl)
    | (refine fin1t rfl ?_ (by kernel_rfl) (by kernel_rfl) (h _ (by omega)); (intro i j hi hj; have hj' : j = 0 ∨ j = 1 := (by simp at hj; omega); simp only [putE, putF, cpyF, appF, shiftF, zF, Nat.min_self, Nat.sub_zero, Nat.add_zero, Nat.zero_add, Int.toNat_natCast, Int.toNat_zero]; rcases hj' with rfl | rfl <;> (repeat' split) <;> first | rfl | omega | (simp_all; done) | (simp_all; omega)))
    | (exfalso; simp at hq; omega)
theorem con38FT_ok : BodyOk (mk X38FT) 4 Try.f38 con38FT := by
  intro vs bs K hh hro
  clear hro
  unfold con38FT at hh
  split at hh
  · rename_i u vl
    obtain ⟨a, b, c, d, e, rfl, hI, hh0⟩ := five_inv hh
    obtain ⟨el, nl, cl, fl, btl, rfl, hnl, rfl, hh1⟩ := parseR_inv hh0
    obtain ⟨rfl, ⟨h1, h2, h3, h4⟩, hc⟩ := hh1
    exact ⟨_, cast (con38FT_rE a b c d e el nl cl fl  K) (con38FT_rP a b c d e el nl cl fl  K hI hnl h1 h2 h3 h4 hc)⟩
  · exact hh.elim
theorem con38FT_told : Told 38 (specOf con38FT) := told (X := X38FT) X38FT_told (by kernel_rfl) (by kernel_rfl) (by kernel_rfl) con38FT_ok
def con38GT_rV (a b c d e : Int) (el nl cl : Nat) (fl : RF) (K : Value → List Blk → Prop) : Prop := (T0 ∧ (T0 ∧ (T0 ∧ ((0 + nl ≤ nl) ∧ ((InC a b c d e) ∧ ((eN 0) ∧ ((nl ≤ 100000) ∧ ((eK ∧ ((eN nl) ∧ (eN cl))) ∧ (eB ∧ (((@Eq Int (Prod.snd (ckF a b c d e nl fl)) (0)) ∧ (¬sel (selE fl 0) nl = [])) ∧ (∀ y0 : Nat, ((List.length (sel (selE fl 0) nl) ≤ y0) → (T0 ∧ (T0 ∧ (T0 ∧ ((0 + nl ≤ nl) ∧ ((InC a b c d e) ∧ ((eN 0) ∧ ((nl ≤ 100000) ∧ ((eK ∧ ((eN nl) ∧ (eN cl))) ∧ (eB ∧ (((@Eq Int (Prod.snd (ckF a b c d e nl fl)) (0)) ∧ (¬sel (selE fl 2) nl = [])) ∧ (∀ y1 : Nat, ((List.length (sel (selE fl 2) nl) ≤ y1) → (TS ∧ (T0 ∧ (if (@Eq Int ((↑(List.length (sel (selE fl 0) nl)) : Int)) (0)) then (∃ y2 : Value, (∃ y3 : List Blk, ((Go.Rx.Found 1 (vt [vn, vi 0, vi 5]) ({ h := [(3, Blk.row false [IntKind.i64] 3 (List.length (sel (selE fl 2) nl)) y1 (lF (sel (selE fl 2) nl))), (2, Blk.row false [IntKind.i64] 3 (List.length (sel (selE fl 0) nl)) y0 (lF (sel (selE fl 0) nl))), (1, CB a b c d e), (0, rT el nl cl fl)], next := 4 }) (y2) (y3)) ∧ (K y2 y3)))) else (TS ∧ (T0 ∧ (if (@Eq Int ((↑(List.length (sel (selE fl 2) nl)) : Int)) (2)) then (∃ y2 : Value, (∃ y3 : List Blk, ((Go.Rx.Found 1 (vt [vn, vi 0, vi 5]) ({ h := [(3, Blk.row false [IntKind.i64] 3 (List.length (sel (selE fl 2) nl)) y1 (lF (sel (selE fl 2) nl))), (2, Blk.row false [IntKind.i64] 3 (List.length (sel (selE fl 0) nl)) y0 (lF (sel (selE fl 0) nl))), (1, CB a b c d e), (0, rT el nl cl fl)], next := 4 }) (y2) (y3)) ∧ (K y2 y3)))) else (T0 ∧ (T0 ∧ (T0 ∧ (T0 ∧ (T0 ∧ (T0 ∧ (T0 ∧ (T0 ∧ (T0 ∧ ((TS ∧ (eN 1)) ∧ ((((0 : Int) ≤ 0) ∧ (0 < (↑(List.length (sel (selE fl 0) nl)) : Int))) ∧ (T0 ∧ ((Int.toNat 0 < List.length (sel (selE fl 0) nl)) ∧ (T0 ∧ (T0 ∧ (T0 ∧ (T0 ∧ ((TS ∧ (eN 1)) ∧ ((((0 : Int) ≤ 0) ∧ (0 < (↑(List.length (sel (selE fl 0) nl)) : Int))) ∧ (T0 ∧ ((Int.toNat 0 < List.length (sel (selE fl 0) nl)) ∧ (T0 ∧ (TS ∧ (T0 ∧ (T0 ∧ (T0 ∧ (T0 ∧ (TS ∧ (TS ∧ (T0 ∧ (T0 ∧ (T0 ∧ (T0 ∧ ((0 + nl ≤ nl) ∧ ((nl ≤ 100000) ∧ (T0 ∧ ((eN 0) ∧ (Go.Rx.br (decide (0 < nl)) (∀ y2 : Nat, ((nl ≤ y2) → (T0 ∧ ((TS ∧ (eN 2)) ∧ (((0 ≤ lF (sel (selE fl 0) nl) (Int.toNat 0) 0) ∧ (lF (sel (selE fl 0) nl) (Int.toNat 0) 0 < (↑nl : Int))) ∧ ((false = false) ∧ ((Int.toNat (lF (sel (selE fl 0) nl) (Int.toNat 0) 0) < nl) ∧ (((eN 0) ∧ (eN 2)) ∧ (((@Eq (Option Blk) (some (Blk.cells [vi 2, vi 0] 54)) (some (Blk.cells [vi 2, vi 0] 54))) ∧ ((@Eq (Option Blk) (some (Blk.row false [IntKind.i64] 3 (List.length (sel (selE fl 2) nl)) y1 (lF (sel (selE fl 2) nl)))) (some (Blk.row false [IntKind.i64] 3 (List.length (sel (selE fl 2) nl)) y1 (lF (sel (selE fl 2) nl))))) ∧ ((@Eq (Option Blk) (some (Blk.row false [IntKind.i64] 3 (List.length (sel (selE fl 0) nl)) y0 (lF (sel (selE fl 0) nl)))) (some (Blk.row false [IntKind.i64] 3 (List.length (sel (selE fl 0) nl)) y0 (lF (sel (selE fl 0) nl))))) ∧ ((@Eq (Option Blk) (some (CB a b c d e)) (some (CB a b c d e))) ∧ ((@Eq (Option Blk) (some (rT el nl cl fl)) (some (rT el nl cl fl))) ∧ (True)))))) ∧ (∃ y3 : Value, (∃ y4 : List Blk, ((Go.Rx.Found 1 (vt [rsl 7 0 nl y2, vi (lF (sel (selE fl 0) nl) (Int.toNat 0) 0), vi 0]) ({ h := [(7, rF 54 nl y2 (putE (appF (fun x x_1 ↦ 0) 0 fl 0) (Int.toNat (lF (sel (selE fl 0) nl) (Int.toNat 0) 0)) [2, Int.ofNat 0])), (6, rF 54 0 0 (litF (List.length [IntKind.i64, IntKind.i64]) [])), (5, Blk.cells [vi 2, vi 0] 54), (4, Blk.cells [vi 2, vi 0] 54), (3, Blk.row false [IntKind.i64] 3 (List.length (sel (selE fl 2) nl)) y1 (lF (sel (selE fl 2) nl))), (2, Blk.row false [IntKind.i64] 3 (List.length (sel (selE fl 0) nl)) y0 (lF (sel (selE fl 0) nl))), (1, CB a b c d e), (0, rT el nl cl fl)], next := 8 }) (y3) (y4)) ∧ (K y3 y4))))))))))))) (T0 ∧ ((TS ∧ (eN 2)) ∧ (((0 ≤ lF (sel (selE fl 0) nl) (Int.toNat 0) 0) ∧ (lF (sel (selE fl 0) nl) (Int.toNat 0) 0 < (↑0 : Int))) ∧ ((false = false) ∧ ((Int.toNat (lF (sel (selE fl 0) nl) (Int.toNat 0) 0) < 0) ∧ (((eN 0) ∧ (eN 2)) ∧ (((@Eq (Option Blk) (some (Blk.cells [vi 2, vi 0] 54)) (some (Blk.cells [vi 2, vi 0] 54))) ∧ ((@Eq (Option Blk) (some (Blk.row false [IntKind.i64] 3 (List.length (sel (selE fl 2) nl)) y1 (lF (sel (selE fl 2) nl)))) (some (Blk.row false [IntKind.i64] 3 (List.length (sel (selE fl 2) nl)) y1 (lF (sel (selE fl 2) nl))))) ∧ ((@Eq (Option Blk) (some (Blk.row false [IntKind.i64] 3 (List.length (sel (selE fl 0) nl)) y0 (lF (sel (selE fl 0) nl)))) (some (Blk.row false [IntKind.i64] 3 (List.length (sel (selE fl 0) nl)) y0 (lF (sel (selE fl 0) nl))))) ∧ ((@Eq (Option Blk) (some (CB a b c d e)) (some (CB a b c d e))) ∧ ((@Eq (Option Blk) (some (rT el nl cl fl)) (some (rT el nl cl fl))) ∧ (True)))))) ∧ (∃ y2 : Value, (∃ y3 : List Blk, ((Go.Rx.Found 1 (vt [rsl 6 0 0 0, vi (lF (sel (selE fl 0) nl) (Int.toNat 0) 0), vi 0]) ({ h := [(6, rF 54 0 0 (putE (litF (List.length [IntKind.i64, IntKind.i64]) []) (Int.toNat (lF (sel (selE fl 0) nl) (Int.toNat 0) 0)) [2, Int.ofNat 0])), (5, Blk.cells [vi 2, vi 0] 54), (4, Blk.cells [vi 2, vi 0] 54), (3, Blk.row false [IntKind.i64] 3 (List.length (sel (selE fl 2) nl)) y1 (lF (sel (selE fl 2) nl))), (2, Blk.row false [IntKind.i64] 3 (List.length (sel (selE fl 0) nl)) y0 (lF (sel (selE fl 0) nl))), (1, CB a b c d e), (0, rT el nl cl fl)], next := 7 }) (y2) (y3)) ∧ (K y2 y3)))))))))))))))))))))))))))))))))))))))))))))))))))))))))))))))))))))))))))))))
theorem con38GT_rE (a b c d e : Int) (el nl cl : Nat) (fl : RF) (K : Value → List Blk → Prop) : con38GT_rV a b c d e el nl cl fl K = bodyX (mk X38GT) (callN (mk X38GT) 4) (con38GT_rA a b c d e el nl cl fl) Try.f38 [.agg ⟨[.int .i64 a, .int .i64 b, .int .i64 c, .int .i64 d, .int .i64 e]⟩, rsl 0 0 nl cl, .bool true] (stOf [.row true [.i64, .i64] el nl cl fl]) fun v s' => ∃ v1 news, Rx.Found 1 v s' v1 news ∧ K v1 news := by kernel_rfl
set_option maxHeartbeats 4000000 in
set_option tactic.hygienic false in
theorem con38GT_rP (a b c d e : Int) (el nl cl : Nat) (fl : RF) (K : Value → List Blk → Prop)  (hI : InC a b c d e) (hnl : nl ≤ 100000) (h1 : (ckF a b c d e nl fl).2 = 0) (h2 : ¬ sel (selE fl 0) nl = []) (h3 : ¬ sel (selE fl 2) nl = []) (h4 : ¬ List.length (sel (selE fl 2) nl) = 2) (h : ∀ cp, nl ≤ cp → K (.tuple ⟨[rsl 1 0 nl cp, .int .i64 (lF (sel (selE fl 0) nl) 0 0), .int .i64 0]⟩) [.row false [.i64, .i64] 54 nl cp (putE fl (lF (sel (selE fl 0) nl) 0 0).toNat [2, 0])]) : con38GT_rV a b c d e el nl cl fl K := by
  unfold con38GT_rV
  have G : (ckF a b c d e nl fl).2 = 0 → good a b c d e ∧ ((nl : Nat) : Int) = b ∧ ∀ i, i < nl → fok a fl i := ckF_zero
  have SL0 := sel_len (p := selE fl 0) (n := nl)
  have SL2 := sel_len (p := selE fl 2) (n := nl)
  obtain ⟨i0, hi1, hi2, hi3⟩ := sel0_mem h2
  have hi4 : (lF (sel (selE fl 0) nl) 0 0).toNat = i0 := (by rw [hi2]; rfl)
  have L0 : 0 < List.length (sel (selE fl 0) nl) := List.length_pos_iff.2 h2
  repeat' (first | (with_reducible exact rfl) | (with_reducible exact trivial) | (with_reducible refine And.intro ?_ ?_) | (intro) | (with_reducible refine br_intro (fun hq => ?_) (fun hq => ?_)) | (with_reducible refine if_both (fun hz => ?_) (fun hz => ?_)) | fail)
  all_goals first
    | omega
    | assumption
    | contradiction
    | exact fin0 (by kernel_rfl) (by kernel_rfl) (by first | exact h | simpa using h)
    | (simp only [Int.toNat_zero, hi4, hi2]; first | done | omega | rfl)
    | (refine fin1t rfl ?_ (by kernel_rfl) (by kernel_rfl) (h _ (by omega)); (intro i j hi hj; have hj' : j = 0 ∨ j = 1 := (by simp at hj; omega); simp only [putE, putF, cpyF, appF, shiftF, zF, Nat.min_self, Nat.sub_zero, Nat.add_zero, Nat.zero_add, Int.toNat_natCast, Int.toNat_zero]; rcases hj' with rfl | rfl <;> (repeat' split) <;> first | rfl | omega | (simp_all; done) | (simp_all; omega)))
    | (exfalso; simp at hq; omega)
theorem con38GT_ok : BodyOk (mk X38GT) 4 Try.f38 con38GT := by
  intro vs bs K hh hro
  clear hro
  unfold con38GT at hh
  split at hh
  · rename_i u vl
    obtain ⟨a, b, c, d, e, rfl, hI, hh0⟩ := five_inv hh
    obtain ⟨el, nl, cl, fl, btl, rfl, hnl, rfl, hh1⟩ := parseR_inv hh0
    obtain ⟨rfl, ⟨h1, h2, h3, h4⟩, hc⟩ := hh1
    exact ⟨_, cast (con38GT_rE a b c d e el nl cl fl  K) (con38GT_rP a b c d e el nl cl fl  K hI hnl h1 h2 h3 h4 hc)⟩
  · exact hh.elim
theorem con38GT_told : Told 38 (specOf con38GT) := told (X := X38GT) X38GT_told (by kernel_rfl) (by kernel_rfl) (by kernel_rfl) con38GT_ok
def con38HT_rV (a b c d e : Int) (el nl cl : Nat) (fl : RF) (K : Value → List Blk → Prop) : Prop := (T0 ∧ (T0 ∧ (T0 ∧ ((0 + nl ≤ nl) ∧ ((InC a b c d e) ∧ ((eN 0) ∧ ((nl ≤ 100000) ∧ ((eK ∧ ((eN nl) ∧ (eN cl))) ∧ (eB ∧ (((@Eq Int (Prod.snd (ckF a b c d e nl fl)) (0)) ∧ (¬sel (selE fl 0) nl = [])) ∧ (∀ y0 : Nat, ((List.length (sel (selE fl 0) nl) ≤ y0) → (T0 ∧ (T0 ∧ (T0 ∧ ((0 + nl ≤ nl) ∧ ((InC a b c d e) ∧ ((eN 0) ∧ ((nl ≤ 100000) ∧ ((eK ∧ ((eN nl) ∧ (eN cl))) ∧ (eB ∧ (((@Eq Int (Prod.snd (ckF a b c d e nl fl)) (0)) ∧ (sel (selE fl 2) nl = [])) ∧ (TS ∧ (T0 ∧ (if (@Eq Int ((↑(List.length (sel (selE fl 0) nl)) : Int)) (0)) then (∃ y1 : Value, (∃ y2 : List Blk, ((Go.Rx.Found 1 (vt [vn, vi 0, vi 5]) ({ h := [(2, Blk.row false [IntKind.i64] 3 (List.length (sel (selE fl 0) nl)) y0 (lF (sel (selE fl 0) nl))), (1, CB a b c d e), (0, rT el nl cl fl)], next := 3 }) (y1) (y2)) ∧ (K y1 y2)))) else (TS ∧ (T0 ∧ (T0 ∧ (T0 ∧ (T0 ∧ (T0 ∧ (T0 ∧ (T0 ∧ (T0 ∧ (T0 ∧ (T0 ∧ ((TS ∧ (eN 1)) ∧ ((((0 : Int) ≤ 0) ∧ (0 < (↑(List.length (sel (selE fl 0) nl)) : Int))) ∧ (T0 ∧ ((Int.toNat 0 < List.length (sel (selE fl 0) nl)) ∧ (T0 ∧ (T0 ∧ (T0 ∧ (T0 ∧ ((TS ∧ (eN 1)) ∧ ((((0 : Int) ≤ 0) ∧ (0 < (↑(List.length (sel (selE fl 0) nl)) : Int))) ∧ (T0 ∧ ((Int.toNat 0 < List.length (sel (selE fl 0) nl)) ∧ (T0 ∧ (TS ∧ (T0 ∧ (T0 ∧ (T0 ∧ (T0 ∧ (TS ∧ (TS ∧ (T0 ∧ (T0 ∧ (T0 ∧ (T0 ∧ ((0 + nl ≤ nl) ∧ ((nl ≤ 100000) ∧ (T0 ∧ ((eN 0) ∧ (Go.Rx.br (decide (0 < nl)) (∀ y1 : Nat, ((nl ≤ y1) → (T0 ∧ ((TS ∧ (eN 2)) ∧ (((0 ≤ lF (sel (selE fl 0) nl) (Int.toNat 0) 0) ∧ (lF (sel (selE fl 0) nl) (Int.toNat 0) 0 < (↑nl : Int))) ∧ ((false = false) ∧ ((Int.toNat (lF (sel (selE fl 0) nl) (Int.toNat 0) 0) < nl) ∧ (((eN 0) ∧ (eN 2)) ∧ (((@Eq (Option Blk) (some (Blk.cells [vi 2, vi 0] 54)) (some (Blk.cells [vi 2, vi 0] 54))) ∧ ((@Eq (Option Blk) (some (Blk.row false [IntKind.i64] 3 (List.length (sel (selE fl 0) nl)) y0 (lF (sel (selE fl 0) nl)))) (some (Blk.row false [IntKind.i64] 3 (List.length (sel (selE fl 0) nl)) y0 (lF (sel (selE fl 0) nl))))) ∧ ((@Eq (Option Blk) (some (CB a b c d e)) (some (CB a b c d e))) ∧ ((@Eq (Option Blk) (some (rT el nl cl fl)) (some (rT el nl cl fl))) ∧ (True))))) ∧ (∃ y2 : Value, (∃ y3 : List Blk, ((Go.Rx.Found 1 (vt [rsl 6 0 nl y1, vi (lF (sel (selE fl 0) nl) (Int.toNat 0) 0), vi 0]) ({ h := [(6, rF 54 nl y1 (putE (appF (fun x x_1 ↦ 0) 0 fl 0) (Int.toNat (lF (sel (selE fl 0) nl) (Int.toNat 0) 0)) [2, Int.ofNat 0])), (5, rF 54 0 0 (litF (List.length [IntKind.i64, IntKind.i64]) [])), (4, Blk.cells [vi 2, vi 0] 54), (3, Blk.cells [vi 2, vi 0] 54), (2, Blk.row false [IntKind.i64] 3 (List.length (sel (selE fl 0) nl)) y0 (lF (sel (selE fl 0) nl))), (1, CB a b c d e), (0, rT el nl cl fl)], next := 7 }) (y2) (y3)) ∧ (K y2 y3))))))))))))) (T0 ∧ ((TS ∧ (eN 2)) ∧ (((0 ≤ lF (sel (selE fl 0) nl) (Int.toNat 0) 0) ∧ (lF (sel (selE fl 0) nl) (Int.toNat 0) 0 < (↑0 : Int))) ∧ ((false = false) ∧ ((Int.toNat (lF (sel (selE fl 0) nl) (Int.toNat 0) 0) < 0) ∧ (((eN 0) ∧ (eN 2)) ∧ (((@Eq (Option Blk) (some (Blk.cells [vi 2, vi 0] 54)) (some (Blk.cells [vi 2, vi 0] 54))) ∧ ((@Eq (Option Blk) (some (Blk.row false [IntKind.i64] 3 (List.length (sel (selE fl 0) nl)) y0 (lF (sel (selE fl 0) nl)))) (some (Blk.row false [IntKind.i64] 3 (List.length (sel (selE fl 0) nl)) y0 (lF (sel (selE fl 0) nl))))) ∧ ((@Eq (Option Blk) (some (CB a b c d e)) (some (CB a b c d e))) ∧ ((@Eq (Option Blk) (some (rT el nl cl fl)) (some (rT el nl cl fl))) ∧ (True))))) ∧ (∃ y1 : Value, (∃ y2 : List Blk, ((Go.Rx.Found 1 (vt [rsl 5 0 0 0, vi (lF (sel (selE fl 0) nl) (Int.toNat 0) 0), vi 0]) ({ h := [(5, rF 54 0 0 (putE (litF (List.length [IntKind.i64, IntKind.i64]) []) (Int.toNat (lF (sel (selE fl 0) nl) (Int.toNat 0) 0)) [2, Int.ofNat 0])), (4, Blk.cells [vi 2, vi 0] 54), (3, Blk.cells [vi 2, vi 0] 54), (2, Blk.row false [IntKind.i64] 3 (List.length (sel (selE fl 0) nl)) y0 (lF (sel (selE fl 0) nl))), (1, CB a b c d e), (0, rT el nl cl fl)], next := 6 }) (y1) (y2)) ∧ (K y1 y2))))))))))))))))))))))))))))))))))))))))))))))))))))))))))))))))))))))))))))
theorem con38HT_rE (a b c d e : Int) (el nl cl : Nat) (fl : RF) (K : Value → List Blk → Prop) : con38HT_rV a b c d e el nl cl fl K = bodyX (mk X38HT) (callN (mk X38HT) 4) (con38HT_rA a b c d e el nl cl fl) Try.f38 [.agg ⟨[.int .i64 a, .int .i64 b, .int .i64 c, .int .i64 d, .int .i64 e]⟩, rsl 0 0 nl cl, .bool true] (stOf [.row true [.i64, .i64] el nl cl fl]) fun v s' => ∃ v1 news, Rx.Found 1 v s' v1 news ∧ K v1 news := by kernel_rfl
set_option maxHeartbeats 4000000 in
set_option tactic.hygienic false in
theorem con38HT_rP (a b c d e : Int) (el nl cl : Nat) (fl : RF) (K : Value → List Blk → Prop)  (hI : InC a b c d e) (hnl : nl ≤ 100000) (h1 : (ckF a b c d e nl fl).2 = 0) (h2 : ¬ sel (selE fl 0) nl = []) (h3 : sel (selE fl 2) nl = []) (h : ∀ cp, nl ≤ cp → K (.tuple ⟨[rsl 1 0 nl cp, .int .i64 (lF (sel (selE fl 0) nl) 0 0), .int .i64 0]⟩) [.row false [.i64, .i64] 54 nl cp (putE fl (lF (sel (selE fl 0) nl) 0 0).toNat [2, 0])]) : con38HT_rV a b c d e el nl cl fl K := by
  unfold con38HT_rV
  have G : (ckF a b c d e nl fl).2 = 0 → good a b c d e ∧ ((nl : Nat) : Int) = b ∧ ∀ i, i < nl → fok a fl i := ckF_zero
  have SL0 := sel_len (p := selE fl 0) (n := nl)
  have SL2 := sel_len (p := selE fl 2) (n := nl)
  obtain ⟨i0, hi1, hi2, hi3⟩ := sel0_mem h2
  have hi4 : (lF (sel (selE fl 0) nl) 0 0).toNat = i0 := (by rw [hi2]; rfl)
  have L0 : 0 < List.length (sel (selE fl 0) nl) := List.length_pos_iff.2 h2
  repeat' (first | (with_reducible exact rfl) | (with_reducible exact trivial) | (with_reducible refine And.intro ?_ ?_) | (intro) | (with_reducible refine br_intro (fun hq => ?_) (fun hq => ?_)) | (with_reducible refine if_both (fun hz => ?_) (fun hz => ?_)) | fail)
  all_goals first
    | omega
    | assumption
    | contradiction
    | exact fin0 (by kernel_rfl) (by kernel_rfl) (by first | exact h | simpa using h)
    | (simp only [Int.toNat_zero, hi4, hi2]; first | done | omega | rfl)
    | (refine fin1t rfl ?_ (by kernel_rfl) (by kernel_rfl) (h _ (by omega)); (intro i j hi hj; have hj' : j = 0 ∨ j = 1 := (by simp at hj; omega); simp only [putE, putF, cpyF, appF, shiftF, zF, Nat.min_self, Nat.sub_zero, Nat.add_zero, Nat.zero_add, Int.toNat_natCast, Int.toNat_zero]; rcases hj' with rfl | rfl <;> (repeat' split) <;> first | rfl | omega | (simp_all; done) | (simp_all; omega)))
    | (exfalso; simp at hq; omega)
theorem con38HT_ok : BodyOk (mk X38HT) 4 Try.f38 con38HT := by
  intro vs bs K hh hro
  clear hro
  unfold con38HT at hh
  split at hh
  · rename_i u vl
    obtain ⟨a, b, c, d, e, rfl, hI, hh0⟩ := five_inv hh
    obtain ⟨el, nl, cl, fl, btl, rfl, hnl, rfl, hh1⟩ := parseR_inv hh0
    obtain ⟨rfl, ⟨h1, h2, h3⟩, hc⟩ := hh1
    exact ⟨_, cast (con38HT_rE a b c d e el nl cl fl  K) (con38HT_rP a b c d e el nl cl fl  K hI hnl h1 h2 h3 hc)⟩
  · exact hh.elim
theorem con38HT_told : Told 38 (specOf con38HT) := told (X := X38HT) X38HT_told (by kernel_rfl) (by kernel_rfl) (by kernel_rfl) con38HT_ok
end Go.Proofs.Ytkflmglpniebfaa.Fr
