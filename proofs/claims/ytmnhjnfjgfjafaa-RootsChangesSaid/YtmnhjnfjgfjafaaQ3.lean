/-
  Roots: get, move, alike. No project text.
-/
import Derived.Test.YtmnhjnfjgfjafaaR4
namespace Go.Proofs.Ytmnhjnfjgfjafaa.Fr
open Go.Rx
open Go.RowKit (Below)
set_option linter.unusedVariables false
def con9B : Con := fun vs bs K => match vs with
  | [vr, .int .i64 x] => parse [.i64] 0 vr bs fun nr fr j0 bs0 => bs0 = [] ∧ ((¬ (rck nr fr).2 = 0)) ∧ (K (.tuple ⟨[.int .i64 0, .int .i64 ((rck nr fr).2)]⟩) [])
  | _ => False

def con9B_nA (x : Int) : Ann := fun _ => none
def con9B_rA (er nr cr : Nat) (fr : RF) (x : Int) : Ann := fun _ => none
def con9X : Con := fun vs bs K => match vs with
  | [vr, .int .i64 x] => parseR [.i64] 0 vr bs fun nr fr j0 bs0 => bs0 = [] ∧ (((rck nr fr).2 = 0) ∧ (¬ (0 ≤ x ∧ x < (nr : Nat)))) ∧ (K (.tuple ⟨[.int .i64 0, .int .i64 (10)]⟩) [])
  | _ => False

def con9X_rA (er nr cr : Nat) (fr : RF) (x : Int) : Ann := fun _ => none
def con13B : Con := fun vs bs K => match vs with
  | [vr, .int .i64 x, .int .i64 y] => parse [.i64] 0 vr bs fun nr fr j0 bs0 => bs0 = [] ∧ ((¬ (rck nr fr).2 = 0)) ∧ (K (.tuple ⟨[.slice none 0 0, .int .i64 ((rck nr fr).2)]⟩) [])
  | _ => False

def con13B_nA (x : Int) (y : Int) : Ann := fun _ => none
def con13B_rA (er nr cr : Nat) (fr : RF) (x : Int) (y : Int) : Ann := fun _ => none
def con13Y : Con := fun vs bs K => match vs with
  | [vr, .int .i64 x, .int .i64 y] => parseR [.i64] 0 vr bs fun nr fr j0 bs0 => bs0 = [] ∧ (((rck nr fr).2 = 0) ∧ (¬ ((0 ≤ x ∧ x < (nr : Nat)) ∧ (0 ≤ y ∧ y < (nr : Nat))))) ∧ (K (.tuple ⟨[.slice none 0 0, .int .i64 (10)]⟩) [])
  | _ => False

def con13Y_rA (er nr cr : Nat) (fr : RF) (x : Int) (y : Int) : Ann := fun _ => none
def con18B : Con := fun vs bs K => match vs with
  | [vr, .int .i64 x, .int .i64 y] => parse [.i64] 0 vr bs fun nr fr j0 bs0 => bs0 = [] ∧ ((¬ (rck nr fr).2 = 0)) ∧ (K (.tuple ⟨[.bool false, .int .i64 ((rck nr fr).2)]⟩) [])
  | _ => False

def con18B_nA (x : Int) (y : Int) : Ann := fun _ => none
def con18B_rA (er nr cr : Nat) (fr : RF) (x : Int) (y : Int) : Ann := fun _ => none
def con18X : Con := fun vs bs K => match vs with
  | [vr, .int .i64 x, .int .i64 y] => parseR [.i64] 0 vr bs fun nr fr j0 bs0 => bs0 = [] ∧ (((rck nr fr).2 = 0) ∧ (¬ ((0 ≤ x ∧ x < (nr : Nat)) ∧ (0 ≤ y ∧ y < (nr : Nat))))) ∧ (K (.tuple ⟨[.bool false, .int .i64 (10)]⟩) [])
  | _ => False

def con18X_rA (er nr cr : Nat) (fr : RF) (x : Int) (y : Int) : Ann := fun _ => none
def con18A : Con := fun vs bs K => match vs with
  | [vr, .int .i64 x, .int .i64 y] => parseR [.i64] 0 vr bs fun nr fr j0 bs0 => bs0 = [] ∧ (((rck nr fr).2 = 0) ∧ (0 ≤ x ∧ x < (nr : Nat)) ∧ (0 ≤ y ∧ y < (nr : Nat))) ∧ (∀ bb : Bool, (bb = true ↔ fr x.toNat 0 = fr y.toNat 0) → K (.tuple ⟨[.bool bb, .int .i64 0]⟩) [])
  | _ => False

def con18A_rA (er nr cr : Nat) (fr : RF) (x : Int) (y : Int) : Ann := fun _ => none
def con9B_nV (x : Int) (K : Value → List Blk → Prop) : Prop := (T0 ∧ (TS ∧ (T0 ∧ (T0 ∧ (T0 ∧ (T0 ∧ (T0 ∧ ((1 ≤ 1) ∧ ((eN 0) ∧ ((1 ≤ 100000) ∧ (((@Eq (List IntKind) ([IntKind.i64]) ([IntKind.i64])) ∧ ((eN 1) ∧ (eN 1))) ∧ (eB ∧ ((¬Prod.snd (rck 0 zF) = 0) ∧ (T0 ∧ (∃ y0 : Value, (∃ y1 : List Blk, ((Go.Rx.Found 0 (vt [vi 0, vi 7]) ({ h := [(0, Blk.row false [IntKind.i64] 3 1 1 (litF (List.length [IntKind.i64]) ([x] ++ [])))], next := 1 }) (y0) (y1)) ∧ (K y0 y1))))))))))))))))))
theorem con9B_nE (x : Int) (K : Value → List Blk → Prop) : con9B_nV x K = bodyX (mk XB) (callN (mk XB) 4) (con9B_nA x) Try.f9 [.slice none 0 0, .int .i64 x] (stOf []) fun v s' => ∃ v1 news, Rx.Found 0 v s' v1 news ∧ K v1 news := by kernel_rfl
set_option maxRecDepth 100000 in
set_option maxHeartbeats 4000000 in
set_option tactic.hygienic false in
theorem con9B_nP (x : Int) (K : Value → List Blk → Prop)  (h1 : ¬ (rck 0 zF).2 = 0) (h : K (.tuple ⟨[.int .i64 0, .int .i64 ((rck 0 zF).2)]⟩) []) : con9B_nV x K := by
  unfold con9B_nV

  repeat' (first | (with_reducible exact rfl) | (with_reducible exact trivial) | (with_reducible refine And.intro ?_ ?_) | (intro) | (with_reducible refine br_intro (fun hq => ?_) (fun hq => ?_)) | (with_reducible refine if_both (fun hz => ?_) (fun hz => ?_)) | fail)

  all_goals first
    | omega
    | assumption
    | contradiction
    | exact fin0 (by kernel_rfl) (by kernel_rfl) (by first | exact h | simpa using h)
    | (show 0 ≤ x; omega)
    | (show x < (nr : Int); omega)
    | exact absurd ((show inr _ _ _ by assumption) 0 (by omega)) h2
    | (rename Nat => i; have hi : i = 0 := (by omega); subst hi
       first | (show 0 ≤ x; omega) | (show x < (nr : Int); omega))
    | (rename Nat => i; have hi : i = 0 ∨ i = 1 := (by omega)
       rcases hi with rfl | rfl
       · first | (show 0 ≤ x; omega) | (show x < (nr : Int); omega)
       · first | (show 0 ≤ y; omega) | (show y < (nr : Int); omega))
    | (refine fin1t rfl ?_ (by kernel_rfl) (by kernel_rfl) (h _ (setR h1 (by omega)) _ (by assumption)); (intro i j hi hj; obtain rfl : j = 0 := (by simp at hj; omega); simp only [putF, cpyF, appF, shiftF, zF, Nat.min_self, Nat.sub_zero, Nat.add_zero, Nat.zero_add, Int.toNat_natCast, Int.toNat_zero]; repeat' split; all_goals first | rfl | omega | (simp_all; done) | (simp_all; omega)))
    | (exfalso; simp at hq; omega)
    | exact fin0 (by kernel_rfl) (by kernel_rfl) (h true ⟨fun _ => by assumption, fun _ => rfl⟩)
    | exact fin0 (by kernel_rfl) (by kernel_rfl) (h false ⟨fun e => (by cases e), fun e => absurd e (by assumption)⟩)
def con9B_rV (er nr cr : Nat) (fr : RF) (x : Int) (K : Value → List Blk → Prop) : Prop := (T0 ∧ (TS ∧ (T0 ∧ (T0 ∧ (T0 ∧ (T0 ∧ ((0 + nr ≤ nr) ∧ ((1 ≤ 1) ∧ ((eN 0) ∧ ((nr ≤ 100000) ∧ (((@Eq (List IntKind) ([IntKind.i64]) ([IntKind.i64])) ∧ ((eN nr) ∧ (eN cr))) ∧ ((eN 1) ∧ ((1 ≤ 100000) ∧ (((@Eq (List IntKind) ([IntKind.i64]) ([IntKind.i64])) ∧ ((eN 1) ∧ (eN 1))) ∧ (eB ∧ ((¬Prod.snd (rck nr fr) = 0) ∧ (T0 ∧ (if (@Eq Int (Prod.snd (rck nr fr)) (0)) then (False) else (∃ y0 : Value, (∃ y1 : List Blk, ((Go.Rx.Found 1 (vt [vi 0, vi (Prod.snd (rck nr fr))]) ({ h := [(1, Blk.row false [IntKind.i64] 3 1 1 (litF (List.length [IntKind.i64]) ([x] ++ []))), (0, Blk.row true [IntKind.i64] er nr cr fr)], next := 2 }) (y0) (y1)) ∧ (K y0 y1))))))))))))))))))))))
theorem con9B_rE (er nr cr : Nat) (fr : RF) (x : Int) (K : Value → List Blk → Prop) : con9B_rV er nr cr fr x K = bodyX (mk XB) (callN (mk XB) 4) (con9B_rA er nr cr fr x) Try.f9 [rsl 0 0 nr cr, .int .i64 x] (stOf [.row true [.i64] er nr cr fr]) fun v s' => ∃ v1 news, Rx.Found 1 v s' v1 news ∧ K v1 news := by kernel_rfl
set_option maxRecDepth 100000 in
set_option maxHeartbeats 4000000 in
set_option tactic.hygienic false in
theorem con9B_rP (er nr cr : Nat) (fr : RF) (x : Int) (K : Value → List Blk → Prop)  (hnr : nr ≤ 100000) (h1 : ¬ (rck nr fr).2 = 0) (h : K (.tuple ⟨[.int .i64 0, .int .i64 ((rck nr fr).2)]⟩) []) : con9B_rV er nr cr fr x K := by
  unfold con9B_rV

  repeat' (first | (with_reducible exact rfl) | (with_reducible exact trivial) | (with_reducible refine And.intro ?_ ?_) | (intro) | (with_reducible refine br_intro (fun hq => ?_) (fun hq => ?_)) | (with_reducible refine if_both (fun hz => ?_) (fun hz => ?_)) | fail)

  all_goals first
    | omega
    | assumption
    | contradiction
    | exact fin0 (by kernel_rfl) (by kernel_rfl) (by first | exact h | simpa using h)
    | (show 0 ≤ x; omega)
    | (show x < (nr : Int); omega)
    | exact absurd ((show inr _ _ _ by assumption) 0 (by omega)) h2
    | (rename Nat => i; have hi : i = 0 := (by omega); subst hi
       first | (show 0 ≤ x; omega) | (show x < (nr : Int); omega))
    | (rename Nat => i; have hi : i = 0 ∨ i = 1 := (by omega)
       rcases hi with rfl | rfl
       · first | (show 0 ≤ x; omega) | (show x < (nr : Int); omega)
       · first | (show 0 ≤ y; omega) | (show y < (nr : Int); omega))
    | (refine fin1t rfl ?_ (by kernel_rfl) (by kernel_rfl) (h _ (setR h1 (by omega)) _ (by assumption)); (intro i j hi hj; obtain rfl : j = 0 := (by simp at hj; omega); simp only [putF, cpyF, appF, shiftF, zF, Nat.min_self, Nat.sub_zero, Nat.add_zero, Nat.zero_add, Int.toNat_natCast, Int.toNat_zero]; repeat' split; all_goals first | rfl | omega | (simp_all; done) | (simp_all; omega)))
    | (exfalso; simp at hq; omega)
    | exact fin0 (by kernel_rfl) (by kernel_rfl) (h true ⟨fun _ => by assumption, fun _ => rfl⟩)
    | exact fin0 (by kernel_rfl) (by kernel_rfl) (h false ⟨fun e => (by cases e), fun e => absurd e (by assumption)⟩)
theorem con9B_ok : BodyOk (mk XB) 4 Try.f9 con9B := by
  intro vs bs K hh hro
  clear hro
  unfold con9B at hh
  split at hh
  · rename_i vr x
    rcases parse_inv hh with ⟨rfl, hh0⟩ | ⟨er, nr, cr, fr, btr, rfl, hnr, rfl, hh0⟩ <;> clear hh
    · obtain ⟨rfl, h1, hc⟩ := hh0
      exact ⟨_, cast (con9B_nE  x K) (con9B_nP  x K  h1 hc)⟩
    · obtain ⟨rfl, h1, hc⟩ := hh0
      exact ⟨_, cast (con9B_rE er nr cr fr x K) (con9B_rP er nr cr fr x K hnr h1 hc)⟩
  · exact hh.elim
theorem con9B_told : Told 9 (specOf con9B) := told (X := XB) XB_told (by kernel_rfl) (by kernel_rfl) (by kernel_rfl) con9B_ok
def con9X_rV (er nr cr : Nat) (fr : RF) (x : Int) (K : Value → List Blk → Prop) : Prop := (T0 ∧ (TS ∧ (T0 ∧ (T0 ∧ (T0 ∧ (T0 ∧ ((0 + nr ≤ nr) ∧ ((1 ≤ 1) ∧ ((eN 0) ∧ ((nr ≤ 100000) ∧ (((@Eq (List IntKind) ([IntKind.i64]) ([IntKind.i64])) ∧ ((eN nr) ∧ (eN cr))) ∧ ((eN 1) ∧ ((1 ≤ 100000) ∧ (((@Eq (List IntKind) ([IntKind.i64]) ([IntKind.i64])) ∧ ((eN 1) ∧ (eN 1))) ∧ (eB ∧ (((@Eq Int (Prod.snd (rck nr fr)) (0)) ∧ (¬inr nr 1 (litF (List.length [IntKind.i64]) ([x] ++ [])))) ∧ (T0 ∧ (∃ y0 : Value, (∃ y1 : List Blk, ((Go.Rx.Found 1 (vt [vi 0, vi 10]) ({ h := [(1, Blk.row false [IntKind.i64] 3 1 1 (litF (List.length [IntKind.i64]) ([x] ++ []))), (0, Blk.row true [IntKind.i64] er nr cr fr)], next := 2 }) (y0) (y1)) ∧ (K y0 y1)))))))))))))))))))))
theorem con9X_rE (er nr cr : Nat) (fr : RF) (x : Int) (K : Value → List Blk → Prop) : con9X_rV er nr cr fr x K = bodyX (mk XX) (callN (mk XX) 4) (con9X_rA er nr cr fr x) Try.f9 [rsl 0 0 nr cr, .int .i64 x] (stOf [.row true [.i64] er nr cr fr]) fun v s' => ∃ v1 news, Rx.Found 1 v s' v1 news ∧ K v1 news := by kernel_rfl
set_option maxRecDepth 100000 in
set_option maxHeartbeats 4000000 in
set_option tactic.hygienic false in
theorem con9X_rP (er nr cr : Nat) (fr : RF) (x : Int) (K : Value → List Blk → Prop)  (hnr : nr ≤ 100000) (h1 : (rck nr fr).2 = 0) (h2 : ¬ (0 ≤ x ∧ x < (nr : Nat))) (h : K (.tuple ⟨[.int .i64 0, .int .i64 (10)]⟩) []) : con9X_rV er nr cr fr x K := by
  unfold con9X_rV
  obtain ⟨g1, g2, g3⟩ := rck_ok h1

  repeat' (first | (with_reducible exact rfl) | (with_reducible exact trivial) | (with_reducible refine And.intro ?_ ?_) | (intro) | (with_reducible refine br_intro (fun hq => ?_) (fun hq => ?_)) | (with_reducible refine if_both (fun hz => ?_) (fun hz => ?_)) | fail)

  all_goals first
    | omega
    | assumption
    | contradiction
    | exact fin0 (by kernel_rfl) (by kernel_rfl) (by first | exact h | simpa using h)
    | (show 0 ≤ x; omega)
    | (show x < (nr : Int); omega)
    | exact absurd ((show inr _ _ _ by assumption) 0 (by omega)) h2
    | (rename Nat => i; have hi : i = 0 := (by omega); subst hi
       first | (show 0 ≤ x; omega) | (show x < (nr : Int); omega))
    | (rename Nat => i; have hi : i = 0 ∨ i = 1 := (by omega)
       rcases hi with rfl | rfl
       · first | (show 0 ≤ x; omega) | (show x < (nr : Int); omega)
       · first | (show 0 ≤ y; omega) | (show y < (nr : Int); omega))
    | (refine fin1t rfl ?_ (by kernel_rfl) (by kernel_rfl) (h _ (setR h1 (by omega)) _ (by assumption)); (intro i j hi hj; obtain rfl : j = 0 := (by simp at hj; omega); simp only [putF, cpyF, appF, shiftF, zF, Nat.min_self, Nat.sub_zero, Nat.add_zero, Nat.zero_add, Int.toNat_natCast, Int.toNat_zero]; repeat' split; all_goals first | rfl | omega | (simp_all; done) | (simp_all; omega)))
    | (exfalso; simp at hq; omega)
    | exact fin0 (by kernel_rfl) (by kernel_rfl) (h true ⟨fun _ => by assumption, fun _ => rfl⟩)
    | exact fin0 (by kernel_rfl) (by kernel_rfl) (h false ⟨fun e => (by cases e), fun e => absurd e (by assumption)⟩)
theorem con9X_ok : BodyOk (mk XX) 4 Try.f9 con9X := by
  intro vs bs K hh hro
  clear hro
  unfold con9X at hh
  split at hh
  · rename_i vr x
    obtain ⟨er, nr, cr, fr, btr, rfl, hnr, rfl, hh0⟩ := parseR_inv hh
    obtain ⟨rfl, ⟨h1, h2⟩, hc⟩ := hh0
    exact ⟨_, cast (con9X_rE er nr cr fr x K) (con9X_rP er nr cr fr x K hnr h1 h2 hc)⟩
  · exact hh.elim
theorem con9X_told : Told 9 (specOf con9X) := told (X := XX) XX_told (by kernel_rfl) (by kernel_rfl) (by kernel_rfl) con9X_ok
def con13B_nV (x : Int) (y : Int) (K : Value → List Blk → Prop) : Prop := (T0 ∧ (TS ∧ (T0 ∧ (T0 ∧ (T0 ∧ (T0 ∧ (T0 ∧ ((2 ≤ 2) ∧ ((eN 0) ∧ ((2 ≤ 100000) ∧ (((@Eq (List IntKind) ([IntKind.i64]) ([IntKind.i64])) ∧ ((eN 2) ∧ (eN 2))) ∧ (eB ∧ ((¬Prod.snd (rck 0 zF) = 0) ∧ (T0 ∧ (∃ y0 : Value, (∃ y1 : List Blk, ((Go.Rx.Found 0 (vt [vn, vi 7]) ({ h := [(0, Blk.row false [IntKind.i64] 3 2 2 (litF (List.length [IntKind.i64]) ([x] ++ ([y] ++ []))))], next := 1 }) (y0) (y1)) ∧ (K y0 y1))))))))))))))))))
theorem con13B_nE (x : Int) (y : Int) (K : Value → List Blk → Prop) : con13B_nV x y K = bodyX (mk XB) (callN (mk XB) 4) (con13B_nA x y) Try.f13 [.slice none 0 0, .int .i64 x, .int .i64 y] (stOf []) fun v s' => ∃ v1 news, Rx.Found 0 v s' v1 news ∧ K v1 news := by kernel_rfl
set_option maxRecDepth 100000 in
set_option maxHeartbeats 4000000 in
set_option tactic.hygienic false in
theorem con13B_nP (x : Int) (y : Int) (K : Value → List Blk → Prop)  (h1 : ¬ (rck 0 zF).2 = 0) (h : K (.tuple ⟨[.slice none 0 0, .int .i64 ((rck 0 zF).2)]⟩) []) : con13B_nV x y K := by
  unfold con13B_nV

  repeat' (first | (with_reducible exact rfl) | (with_reducible exact trivial) | (with_reducible refine And.intro ?_ ?_) | (intro) | (with_reducible refine br_intro (fun hq => ?_) (fun hq => ?_)) | (with_reducible refine if_both (fun hz => ?_) (fun hz => ?_)) | fail)

  all_goals first
    | omega
    | assumption
    | contradiction
    | exact fin0 (by kernel_rfl) (by kernel_rfl) (by first | exact h | simpa using h)
    | (show 0 ≤ x; omega)
    | (show x < (nr : Int); omega)
    | exact absurd ((show inr _ _ _ by assumption) 0 (by omega)) h2
    | (rename Nat => i; have hi : i = 0 := (by omega); subst hi
       first | (show 0 ≤ x; omega) | (show x < (nr : Int); omega))
    | (rename Nat => i; have hi : i = 0 ∨ i = 1 := (by omega)
       rcases hi with rfl | rfl
       · first | (show 0 ≤ x; omega) | (show x < (nr : Int); omega)
       · first | (show 0 ≤ y; omega) | (show y < (nr : Int); omega))
    | (refine fin1t rfl ?_ (by kernel_rfl) (by kernel_rfl) (h _ (setR h1 (by omega)) _ (by assumption)); (intro i j hi hj; obtain rfl : j = 0 := (by simp at hj; omega); simp only [putF, cpyF, appF, shiftF, zF, Nat.min_self, Nat.sub_zero, Nat.add_zero, Nat.zero_add, Int.toNat_natCast, Int.toNat_zero]; repeat' split; all_goals first | rfl | omega | (simp_all; done) | (simp_all; omega)))
    | (exfalso; simp at hq; omega)
    | exact fin0 (by kernel_rfl) (by kernel_rfl) (h true ⟨fun _ => by assumption, fun _ => rfl⟩)
    | exact fin0 (by kernel_rfl) (by kernel_rfl) (h false ⟨fun e => (by cases e), fun e => absurd e (by assumption)⟩)
def con13B_rV (er nr cr : Nat) (fr : RF) (x : Int) (y : Int) (K : Value → List Blk → Prop) : Prop := (T0 ∧ (TS ∧ (T0 ∧ (T0 ∧ (T0 ∧ (T0 ∧ ((0 + nr ≤ nr) ∧ ((2 ≤ 2) ∧ ((eN 0) ∧ ((nr ≤ 100000) ∧ (((@Eq (List IntKind) ([IntKind.i64]) ([IntKind.i64])) ∧ ((eN nr) ∧ (eN cr))) ∧ ((eN 1) ∧ ((2 ≤ 100000) ∧ (((@Eq (List IntKind) ([IntKind.i64]) ([IntKind.i64])) ∧ ((eN 2) ∧ (eN 2))) ∧ (eB ∧ ((¬Prod.snd (rck nr fr) = 0) ∧ (T0 ∧ (if (@Eq Int (Prod.snd (rck nr fr)) (0)) then ((TS ∧ (eN 1)) ∧ (((0 ≤ y) ∧ (y < (↑nr : Int))) ∧ ((Int.toNat y < nr) ∧ (False)))) else (∃ y0 : Value, (∃ y1 : List Blk, ((Go.Rx.Found 1 (vt [vn, vi (Prod.snd (rck nr fr))]) ({ h := [(1, Blk.row false [IntKind.i64] 3 2 2 (litF (List.length [IntKind.i64]) ([x] ++ ([y] ++ [])))), (0, Blk.row true [IntKind.i64] er nr cr fr)], next := 2 }) (y0) (y1)) ∧ (K y0 y1))))))))))))))))))))))
theorem con13B_rE (er nr cr : Nat) (fr : RF) (x : Int) (y : Int) (K : Value → List Blk → Prop) : con13B_rV er nr cr fr x y K = bodyX (mk XB) (callN (mk XB) 4) (con13B_rA er nr cr fr x y) Try.f13 [rsl 0 0 nr cr, .int .i64 x, .int .i64 y] (stOf [.row true [.i64] er nr cr fr]) fun v s' => ∃ v1 news, Rx.Found 1 v s' v1 news ∧ K v1 news := by kernel_rfl
set_option maxRecDepth 100000 in
set_option maxHeartbeats 4000000 in
set_option tactic.hygienic false in
theorem con13B_rP (er nr cr : Nat) (fr : RF) (x : Int) (y : Int) (K : Value → List Blk → Prop)  (hnr : nr ≤ 100000) (h1 : ¬ (rck nr fr).2 = 0) (h : K (.tuple ⟨[.slice none 0 0, .int .i64 ((rck nr fr).2)]⟩) []) : con13B_rV er nr cr fr x y K := by
  unfold con13B_rV

  repeat' (first | (with_reducible exact rfl) | (with_reducible exact trivial) | (with_reducible refine And.intro ?_ ?_) | (intro) | (with_reducible refine br_intro (fun hq => ?_) (fun hq => ?_)) | (with_reducible refine if_both (fun hz => ?_) (fun hz => ?_)) | fail)

  all_goals first
    | omega
    | assumption
    | contradiction
    | exact fin0 (by kernel_rfl) (by kernel_rfl) (by first | exact h | simpa using h)
    | (show 0 ≤ x; omega)
    | (show x < (nr : Int); omega)
    | exact absurd ((show inr _ _ _ by assumption) 0 (by omega)) h2
    | (rename Nat => i; have hi : i = 0 := (by omega); subst hi
       first | (show 0 ≤ x; omega) | (show x < (nr : Int); omega))
    | (rename Nat => i; have hi : i = 0 ∨ i = 1 := (by omega)
       rcases hi with rfl | rfl
       · first | (show 0 ≤ x; omega) | (show x < (nr : Int); omega)
       · first | (show 0 ≤ y; omega) | (show y < (nr : Int); omega))
    | (refine fin1t rfl ?_ (by kernel_rfl) (by kernel_rfl) (h _ (setR h1 (by omega)) _ (by assumption)); (intro i j hi hj; obtain rfl : j = 0 := (by simp at hj; omega); simp only [putF, cpyF, appF, shiftF, zF, Nat.min_self, Nat.sub_zero, Nat.add_zero, Nat.zero_add, Int.toNat_natCast, Int.toNat_zero]; repeat' split; all_goals first | rfl | omega | (simp_all; done) | (simp_all; omega)))
    | (exfalso; simp at hq; omega)
    | exact fin0 (by kernel_rfl) (by kernel_rfl) (h true ⟨fun _ => by assumption, fun _ => rfl⟩)
    | exact fin0 (by kernel_rfl) (by kernel_rfl) (h false ⟨fun e => (by cases e), fun e => absurd e (by assumption)⟩)
theorem con13B_ok : BodyOk (mk XB) 4 Try.f13 con13B := by
  intro vs bs K hh hro
  clear hro
  unfold con13B at hh
  split at hh
  · rename_i vr x y
    rcases parse_inv hh with ⟨rfl, hh0⟩ | ⟨er, nr, cr, fr, btr, rfl, hnr, rfl, hh0⟩ <;> clear hh
    · obtain ⟨rfl, h1, hc⟩ := hh0
      exact ⟨_, cast (con13B_nE  x y K) (con13B_nP  x y K  h1 hc)⟩
    · obtain ⟨rfl, h1, hc⟩ := hh0
      exact ⟨_, cast (con13B_rE er nr cr fr x y K) (con13B_rP er nr cr fr x y K hnr h1 hc)⟩
  · exact hh.elim
theorem con13B_told : Told 13 (specOf con13B) := told (X := XB) XB_told (by kernel_rfl) (by kernel_rfl) (by kernel_rfl) con13B_ok
def con13Y_rV (er nr cr : Nat) (fr : RF) (x : Int) (y : Int) (K : Value → List Blk → Prop) : Prop := (T0 ∧ (TS ∧ (T0 ∧ (T0 ∧ (T0 ∧ (T0 ∧ ((0 + nr ≤ nr) ∧ ((2 ≤ 2) ∧ ((eN 0) ∧ ((nr ≤ 100000) ∧ (((@Eq (List IntKind) ([IntKind.i64]) ([IntKind.i64])) ∧ ((eN nr) ∧ (eN cr))) ∧ ((eN 1) ∧ ((2 ≤ 100000) ∧ (((@Eq (List IntKind) ([IntKind.i64]) ([IntKind.i64])) ∧ ((eN 2) ∧ (eN 2))) ∧ (eB ∧ (((@Eq Int (Prod.snd (rck nr fr)) (0)) ∧ (¬inr nr 2 (litF (List.length [IntKind.i64]) ([x] ++ ([y] ++ []))))) ∧ (T0 ∧ (∃ y0 : Value, (∃ y1 : List Blk, ((Go.Rx.Found 1 (vt [vn, vi 10]) ({ h := [(1, Blk.row false [IntKind.i64] 3 2 2 (litF (List.length [IntKind.i64]) ([x] ++ ([y] ++ [])))), (0, Blk.row true [IntKind.i64] er nr cr fr)], next := 2 }) (y0) (y1)) ∧ (K y0 y1)))))))))))))))))))))
theorem con13Y_rE (er nr cr : Nat) (fr : RF) (x : Int) (y : Int) (K : Value → List Blk → Prop) : con13Y_rV er nr cr fr x y K = bodyX (mk XX) (callN (mk XX) 4) (con13Y_rA er nr cr fr x y) Try.f13 [rsl 0 0 nr cr, .int .i64 x, .int .i64 y] (stOf [.row true [.i64] er nr cr fr]) fun v s' => ∃ v1 news, Rx.Found 1 v s' v1 news ∧ K v1 news := by kernel_rfl
set_option maxRecDepth 100000 in
set_option maxHeartbeats 4000000 in
set_option tactic.hygienic false in
theorem con13Y_rP (er nr cr : Nat) (fr : RF) (x : Int) (y : Int) (K : Value → List Blk → Prop)  (hnr : nr ≤ 100000) (h1 : (rck nr fr).2 = 0) (h2 : ¬ ((0 ≤ x ∧ x < (nr : Nat)) ∧ (0 ≤ y ∧ y < (nr : Nat)))) (h : K (.tuple ⟨[.slice none 0 0, .int .i64 (10)]⟩) []) : con13Y_rV er nr cr fr x y K := by
  unfold con13Y_rV
  obtain ⟨g1, g2, g3⟩ := rck_ok h1

  repeat' (first | (with_reducible exact rfl) | (with_reducible exact trivial) | (with_reducible refine And.intro ?_ ?_) | (intro) | (with_reducible refine br_intro (fun hq => ?_) (fun hq => ?_)) | (with_reducible refine if_both (fun hz => ?_) (fun hz => ?_)) | fail)

  all_goals first
    | omega
    | assumption
    | contradiction
    | exact fin0 (by kernel_rfl) (by kernel_rfl) (by first | exact h | simpa using h)
    | (show 0 ≤ x; omega)
    | (show x < (nr : Int); omega)
    | exact absurd ((show inr _ _ _ by assumption) 0 (by omega)) h2
    | (rename Nat => i; have hi : i = 0 := (by omega); subst hi
       first | (show 0 ≤ x; omega) | (show x < (nr : Int); omega))
    | (rename Nat => i; have hi : i = 0 ∨ i = 1 := (by omega)
       rcases hi with rfl | rfl
       · first | (show 0 ≤ x; omega) | (show x < (nr : Int); omega)
       · first | (show 0 ≤ y; omega) | (show y < (nr : Int); omega))
    | (refine fin1t rfl ?_ (by kernel_rfl) (by kernel_rfl) (h _ (setR h1 (by omega)) _ (by assumption)); (intro i j hi hj; obtain rfl : j = 0 := (by simp at hj; omega); simp only [putF, cpyF, appF, shiftF, zF, Nat.min_self, Nat.sub_zero, Nat.add_zero, Nat.zero_add, Int.toNat_natCast, Int.toNat_zero]; repeat' split; all_goals first | rfl | omega | (simp_all; done) | (simp_all; omega)))
    | (exfalso; simp at hq; omega)
    | exact fin0 (by kernel_rfl) (by kernel_rfl) (h true ⟨fun _ => by assumption, fun _ => rfl⟩)
    | exact fin0 (by kernel_rfl) (by kernel_rfl) (h false ⟨fun e => (by cases e), fun e => absurd e (by assumption)⟩)
    | exact absurd ⟨(show inr _ _ _ by assumption) 0 (by omega), (show inr _ _ _ by assumption) 1 (by omega)⟩ h2
theorem con13Y_ok : BodyOk (mk XX) 4 Try.f13 con13Y := by
  intro vs bs K hh hro
  clear hro
  unfold con13Y at hh
  split at hh
  · rename_i vr x y
    obtain ⟨er, nr, cr, fr, btr, rfl, hnr, rfl, hh0⟩ := parseR_inv hh
    obtain ⟨rfl, ⟨h1, h2⟩, hc⟩ := hh0
    exact ⟨_, cast (con13Y_rE er nr cr fr x y K) (con13Y_rP er nr cr fr x y K hnr h1 h2 hc)⟩
  · exact hh.elim
theorem con13Y_told : Told 13 (specOf con13Y) := told (X := XX) XX_told (by kernel_rfl) (by kernel_rfl) (by kernel_rfl) con13Y_ok
def con18B_nV (x : Int) (y : Int) (K : Value → List Blk → Prop) : Prop := (T0 ∧ (TS ∧ (T0 ∧ (T0 ∧ (T0 ∧ (T0 ∧ (T0 ∧ ((2 ≤ 2) ∧ ((eN 0) ∧ ((2 ≤ 100000) ∧ (((@Eq (List IntKind) ([IntKind.i64]) ([IntKind.i64])) ∧ ((eN 2) ∧ (eN 2))) ∧ (eB ∧ ((¬Prod.snd (rck 0 zF) = 0) ∧ (T0 ∧ (∃ y0 : Value, (∃ y1 : List Blk, ((Go.Rx.Found 0 (vt [Value.bool false, vi 7]) ({ h := [(0, Blk.row false [IntKind.i64] 3 2 2 (litF (List.length [IntKind.i64]) ([x] ++ ([y] ++ []))))], next := 1 }) (y0) (y1)) ∧ (K y0 y1))))))))))))))))))
theorem con18B_nE (x : Int) (y : Int) (K : Value → List Blk → Prop) : con18B_nV x y K = bodyX (mk XB) (callN (mk XB) 4) (con18B_nA x y) Try.f18 [.slice none 0 0, .int .i64 x, .int .i64 y] (stOf []) fun v s' => ∃ v1 news, Rx.Found 0 v s' v1 news ∧ K v1 news := by kernel_rfl
set_option maxRecDepth 100000 in
set_option maxHeartbeats 4000000 in
set_option tactic.hygienic false in
theorem con18B_nP (x : Int) (y : Int) (K : Value → List Blk → Prop)  (h1 : ¬ (rck 0 zF).2 = 0) (h : K (.tuple ⟨[.bool false, .int .i64 ((rck 0 zF).2)]⟩) []) : con18B_nV x y K := by
  unfold con18B_nV

  repeat' (first | (with_reducible exact rfl) | (with_reducible exact trivial) | (with_reducible refine And.intro ?_ ?_) | (intro) | (with_reducible refine br_intro (fun hq => ?_) (fun hq => ?_)) | (with_reducible refine if_both (fun hz => ?_) (fun hz => ?_)) | fail)

  all_goals first
    | omega
    | assumption
    | contradiction
    | exact fin0 (by kernel_rfl) (by kernel_rfl) (by first | exact h | simpa using h)
    | (show 0 ≤ x; omega)
    | (show x < (nr : Int); omega)
    | exact absurd ((show inr _ _ _ by assumption) 0 (by omega)) h2
    | (rename Nat => i; have hi : i = 0 := (by omega); subst hi
       first | (show 0 ≤ x; omega) | (show x < (nr : Int); omega))
    | (rename Nat => i; have hi : i = 0 ∨ i = 1 := (by omega)
       rcases hi with rfl | rfl
       · first | (show 0 ≤ x; omega) | (show x < (nr : Int); omega)
       · first | (show 0 ≤ y; omega) | (show y < (nr : Int); omega))
    | (refine fin1t rfl ?_ (by kernel_rfl) (by kernel_rfl) (h _ (setR h1 (by omega)) _ (by assumption)); (intro i j hi hj; obtain rfl : j = 0 := (by simp at hj; omega); simp only [putF, cpyF, appF, shiftF, zF, Nat.min_self, Nat.sub_zero, Nat.add_zero, Nat.zero_add, Int.toNat_natCast, Int.toNat_zero]; repeat' split; all_goals first | rfl | omega | (simp_all; done) | (simp_all; omega)))
    | (exfalso; simp at hq; omega)
    | exact fin0 (by kernel_rfl) (by kernel_rfl) (h true ⟨fun _ => by assumption, fun _ => rfl⟩)
    | exact fin0 (by kernel_rfl) (by kernel_rfl) (h false ⟨fun e => (by cases e), fun e => absurd e (by assumption)⟩)
def con18B_rV (er nr cr : Nat) (fr : RF) (x : Int) (y : Int) (K : Value → List Blk → Prop) : Prop := (T0 ∧ (TS ∧ (T0 ∧ (T0 ∧ (T0 ∧ (T0 ∧ ((0 + nr ≤ nr) ∧ ((2 ≤ 2) ∧ ((eN 0) ∧ ((nr ≤ 100000) ∧ (((@Eq (List IntKind) ([IntKind.i64]) ([IntKind.i64])) ∧ ((eN nr) ∧ (eN cr))) ∧ ((eN 1) ∧ ((2 ≤ 100000) ∧ (((@Eq (List IntKind) ([IntKind.i64]) ([IntKind.i64])) ∧ ((eN 2) ∧ (eN 2))) ∧ (eB ∧ ((¬Prod.snd (rck nr fr) = 0) ∧ (T0 ∧ (if (@Eq Int (Prod.snd (rck nr fr)) (0)) then (T0 ∧ (T0 ∧ (T0 ∧ (T0 ∧ ((TS ∧ (eN 1)) ∧ (((0 ≤ x) ∧ (x < (↑nr : Int))) ∧ (T0 ∧ ((Int.toNat x < nr) ∧ (T0 ∧ (T0 ∧ (T0 ∧ ((TS ∧ (eN 1)) ∧ (((0 ≤ y) ∧ (y < (↑nr : Int))) ∧ (T0 ∧ ((Int.toNat y < nr) ∧ (T0 ∧ (T0 ∧ (if (@Eq Int (fr (Int.toNat x) 0) (fr (Int.toNat y) 0)) then (T0 ∧ (T0 ∧ (∃ y0 : Value, (∃ y1 : List Blk, ((Go.Rx.Found 1 (vt [Value.bool true, vi 0]) ({ h := [(1, Blk.row false [IntKind.i64] 3 2 2 (litF (List.length [IntKind.i64]) ([x] ++ ([y] ++ [])))), (0, Blk.row true [IntKind.i64] er nr cr fr)], next := 2 }) (y0) (y1)) ∧ (K y0 y1)))))) else (T0 ∧ (T0 ∧ (∃ y0 : Value, (∃ y1 : List Blk, ((Go.Rx.Found 1 (vt [Value.bool false, vi 0]) ({ h := [(1, Blk.row false [IntKind.i64] 3 2 2 (litF (List.length [IntKind.i64]) ([x] ++ ([y] ++ [])))), (0, Blk.row true [IntKind.i64] er nr cr fr)], next := 2 }) (y0) (y1)) ∧ (K y0 y1)))))))))))))))))))))))) else (∃ y0 : Value, (∃ y1 : List Blk, ((Go.Rx.Found 1 (vt [Value.bool false, vi (Prod.snd (rck nr fr))]) ({ h := [(1, Blk.row false [IntKind.i64] 3 2 2 (litF (List.length [IntKind.i64]) ([x] ++ ([y] ++ [])))), (0, Blk.row true [IntKind.i64] er nr cr fr)], next := 2 }) (y0) (y1)) ∧ (K y0 y1))))))))))))))))))))))
theorem con18B_rE (er nr cr : Nat) (fr : RF) (x : Int) (y : Int) (K : Value → List Blk → Prop) : con18B_rV er nr cr fr x y K = bodyX (mk XB) (callN (mk XB) 4) (con18B_rA er nr cr fr x y) Try.f18 [rsl 0 0 nr cr, .int .i64 x, .int .i64 y] (stOf [.row true [.i64] er nr cr fr]) fun v s' => ∃ v1 news, Rx.Found 1 v s' v1 news ∧ K v1 news := by kernel_rfl
set_option maxRecDepth 100000 in
set_option maxHeartbeats 4000000 in
set_option tactic.hygienic false in
theorem con18B_rP (er nr cr : Nat) (fr : RF) (x : Int) (y : Int) (K : Value → List Blk → Prop)  (hnr : nr ≤ 100000) (h1 : ¬ (rck nr fr).2 = 0) (h : K (.tuple ⟨[.bool false, .int .i64 ((rck nr fr).2)]⟩) []) : con18B_rV er nr cr fr x y K := by
  unfold con18B_rV

  repeat' (first | (with_reducible exact rfl) | (with_reducible exact trivial) | (with_reducible refine And.intro ?_ ?_) | (intro) | (with_reducible refine br_intro (fun hq => ?_) (fun hq => ?_)) | (with_reducible refine if_both (fun hz => ?_) (fun hz => ?_)) | fail)

  all_goals first
    | omega
    | assumption
    | contradiction
    | exact fin0 (by kernel_rfl) (by kernel_rfl) (by first | exact h | simpa using h)
    | (show 0 ≤ x; omega)
    | (show x < (nr : Int); omega)
    | exact absurd ((show inr _ _ _ by assumption) 0 (by omega)) h2
    | (rename Nat => i; have hi : i = 0 := (by omega); subst hi
       first | (show 0 ≤ x; omega) | (show x < (nr : Int); omega))
    | (rename Nat => i; have hi : i = 0 ∨ i = 1 := (by omega)
       rcases hi with rfl | rfl
       · first | (show 0 ≤ x; omega) | (show x < (nr : Int); omega)
       · first | (show 0 ≤ y; omega) | (show y < (nr : Int); omega))
    | (refine fin1t rfl ?_ (by kernel_rfl) (by kernel_rfl) (h _ (setR h1 (by omega)) _ (by assumption)); (intro i j hi hj; obtain rfl : j = 0 := (by simp at hj; omega); simp only [putF, cpyF, appF, shiftF, zF, Nat.min_self, Nat.sub_zero, Nat.add_zero, Nat.zero_add, Int.toNat_natCast, Int.toNat_zero]; repeat' split; all_goals first | rfl | omega | (simp_all; done) | (simp_all; omega)))
    | (exfalso; simp at hq; omega)
    | exact fin0 (by kernel_rfl) (by kernel_rfl) (h true ⟨fun _ => by assumption, fun _ => rfl⟩)
    | exact fin0 (by kernel_rfl) (by kernel_rfl) (h false ⟨fun e => (by cases e), fun e => absurd e (by assumption)⟩)
theorem con18B_ok : BodyOk (mk XB) 4 Try.f18 con18B := by
  intro vs bs K hh hro
  clear hro
  unfold con18B at hh
  split at hh
  · rename_i vr x y
    rcases parse_inv hh with ⟨rfl, hh0⟩ | ⟨er, nr, cr, fr, btr, rfl, hnr, rfl, hh0⟩ <;> clear hh
    · obtain ⟨rfl, h1, hc⟩ := hh0
      exact ⟨_, cast (con18B_nE  x y K) (con18B_nP  x y K  h1 hc)⟩
    · obtain ⟨rfl, h1, hc⟩ := hh0
      exact ⟨_, cast (con18B_rE er nr cr fr x y K) (con18B_rP er nr cr fr x y K hnr h1 hc)⟩
  · exact hh.elim
theorem con18B_told : Told 18 (specOf con18B) := told (X := XB) XB_told (by kernel_rfl) (by kernel_rfl) (by kernel_rfl) con18B_ok
def con18X_rV (er nr cr : Nat) (fr : RF) (x : Int) (y : Int) (K : Value → List Blk → Prop) : Prop := (T0 ∧ (TS ∧ (T0 ∧ (T0 ∧ (T0 ∧ (T0 ∧ ((0 + nr ≤ nr) ∧ ((2 ≤ 2) ∧ ((eN 0) ∧ ((nr ≤ 100000) ∧ (((@Eq (List IntKind) ([IntKind.i64]) ([IntKind.i64])) ∧ ((eN nr) ∧ (eN cr))) ∧ ((eN 1) ∧ ((2 ≤ 100000) ∧ (((@Eq (List IntKind) ([IntKind.i64]) ([IntKind.i64])) ∧ ((eN 2) ∧ (eN 2))) ∧ (eB ∧ (((@Eq Int (Prod.snd (rck nr fr)) (0)) ∧ (¬inr nr 2 (litF (List.length [IntKind.i64]) ([x] ++ ([y] ++ []))))) ∧ (T0 ∧ (∃ y0 : Value, (∃ y1 : List Blk, ((Go.Rx.Found 1 (vt [Value.bool false, vi 10]) ({ h := [(1, Blk.row false [IntKind.i64] 3 2 2 (litF (List.length [IntKind.i64]) ([x] ++ ([y] ++ [])))), (0, Blk.row true [IntKind.i64] er nr cr fr)], next := 2 }) (y0) (y1)) ∧ (K y0 y1)))))))))))))))))))))
theorem con18X_rE (er nr cr : Nat) (fr : RF) (x : Int) (y : Int) (K : Value → List Blk → Prop) : con18X_rV er nr cr fr x y K = bodyX (mk XX) (callN (mk XX) 4) (con18X_rA er nr cr fr x y) Try.f18 [rsl 0 0 nr cr, .int .i64 x, .int .i64 y] (stOf [.row true [.i64] er nr cr fr]) fun v s' => ∃ v1 news, Rx.Found 1 v s' v1 news ∧ K v1 news := by kernel_rfl
set_option maxRecDepth 100000 in
set_option maxHeartbeats 4000000 in
set_option tactic.hygienic false in
theorem con18X_rP (er nr cr : Nat) (fr : RF) (x : Int) (y : Int) (K : Value → List Blk → Prop)  (hnr : nr ≤ 100000) (h1 : (rck nr fr).2 = 0) (h2 : ¬ ((0 ≤ x ∧ x < (nr : Nat)) ∧ (0 ≤ y ∧ y < (nr : Nat)))) (h : K (.tuple ⟨[.bool false, .int .i64 (10)]⟩) []) : con18X_rV er nr cr fr x y K := by
  unfold con18X_rV
  obtain ⟨g1, g2, g3⟩ := rck_ok h1

  repeat' (first | (with_reducible exact rfl) | (with_reducible exact trivial) | (with_reducible refine And.intro ?_ ?_) | (intro) | (with_reducible refine br_intro (fun hq => ?_) (fun hq => ?_)) | (with_reducible refine if_both (fun hz => ?_) (fun hz => ?_)) | fail)

  all_goals first
    | omega
    | assumption
    | contradiction
    | exact fin0 (by kernel_rfl) (by kernel_rfl) (by first | exact h | simpa using h)
    | (show 0 ≤ x; omega)
    | (show x < (nr : Int); omega)
    | exact absurd ((show inr _ _ _ by assumption) 0 (by omega)) h2
    | (rename Nat => i; have hi : i = 0 := (by omega); subst hi
       first | (show 0 ≤ x; omega) | (show x < (nr : Int); omega))
    | (rename Nat => i; have hi : i = 0 ∨ i = 1 := (by omega)
       rcases hi with rfl | rfl
       · first | (show 0 ≤ x; omega) | (show x < (nr : Int); omega)
       · first | (show 0 ≤ y; omega) | (show y < (nr : Int); omega))
    | (refine fin1t rfl ?_ (by kernel_rfl) (by kernel_rfl) (h _ (setR h1 (by omega)) _ (by assumption)); (intro i j hi hj; obtain rfl : j = 0 := (by simp at hj; omega); simp only [putF, cpyF, appF, shiftF, zF, Nat.min_self, Nat.sub_zero, Nat.add_zero, Nat.zero_add, Int.toNat_natCast, Int.toNat_zero]; repeat' split; all_goals first | rfl | omega | (simp_all; done) | (simp_all; omega)))
    | (exfalso; simp at hq; omega)
    | exact fin0 (by kernel_rfl) (by kernel_rfl) (h true ⟨fun _ => by assumption, fun _ => rfl⟩)
    | exact fin0 (by kernel_rfl) (by kernel_rfl) (h false ⟨fun e => (by cases e), fun e => absurd e (by assumption)⟩)
    | exact absurd ⟨(show inr _ _ _ by assumption) 0 (by omega), (show inr _ _ _ by assumption) 1 (by omega)⟩ h2
theorem con18X_ok : BodyOk (mk XX) 4 Try.f18 con18X := by
  intro vs bs K hh hro
  clear hro
  unfold con18X at hh
  split at hh
  · rename_i vr x y
    obtain ⟨er, nr, cr, fr, btr, rfl, hnr, rfl, hh0⟩ := parseR_inv hh
    obtain ⟨rfl, ⟨h1, h2⟩, hc⟩ := hh0
    exact ⟨_, cast (con18X_rE er nr cr fr x y K) (con18X_rP er nr cr fr x y K hnr h1 h2 hc)⟩
  · exact hh.elim
theorem con18X_told : Told 18 (specOf con18X) := told (X := XX) XX_told (by kernel_rfl) (by kernel_rfl) (by kernel_rfl) con18X_ok
def con18A_rV (er nr cr : Nat) (fr : RF) (x : Int) (y : Int) (K : Value → List Blk → Prop) : Prop := (T0 ∧ (TS ∧ (T0 ∧ (T0 ∧ (T0 ∧ (T0 ∧ ((0 + nr ≤ nr) ∧ ((2 ≤ 2) ∧ ((eN 0) ∧ ((nr ≤ 100000) ∧ (((@Eq (List IntKind) ([IntKind.i64]) ([IntKind.i64])) ∧ ((eN nr) ∧ (eN cr))) ∧ ((eN 1) ∧ ((2 ≤ 100000) ∧ (((@Eq (List IntKind) ([IntKind.i64]) ([IntKind.i64])) ∧ ((eN 2) ∧ (eN 2))) ∧ (eB ∧ (((@Eq Int (Prod.snd (rck nr fr)) (0)) ∧ (∀ y0 : Nat, ((y0 < 2) → ((0 ≤ litF (List.length [IntKind.i64]) ([x] ++ ([y] ++ [])) y0 0) ∧ (litF (List.length [IntKind.i64]) ([x] ++ ([y] ++ [])) y0 0 < (↑nr : Int)))))) ∧ (∀ y0 : Nat, ((nr ≤ y0) → (T0 ∧ (T0 ∧ (T0 ∧ (T0 ∧ (T0 ∧ ((TS ∧ (eN 1)) ∧ (((0 ≤ x) ∧ (x < (↑nr : Int))) ∧ (T0 ∧ ((Int.toNat x < nr) ∧ (T0 ∧ (T0 ∧ (T0 ∧ ((TS ∧ (eN 1)) ∧ (((0 ≤ y) ∧ (y < (↑nr : Int))) ∧ (T0 ∧ ((Int.toNat y < nr) ∧ (T0 ∧ (T0 ∧ (if (@Eq Int (fr (Int.toNat x) 0) (fr (Int.toNat y) 0)) then (T0 ∧ (T0 ∧ (∃ y1 : Value, (∃ y2 : List Blk, ((Go.Rx.Found 1 (vt [Value.bool true, vi 0]) ({ h := [(2, Blk.row false [IntKind.i64] 3 nr y0 fr), (1, Blk.row false [IntKind.i64] 3 2 2 (litF (List.length [IntKind.i64]) ([x] ++ ([y] ++ [])))), (0, Blk.row true [IntKind.i64] er nr cr fr)], next := 3 }) (y1) (y2)) ∧ (K y1 y2)))))) else (T0 ∧ (T0 ∧ (∃ y1 : Value, (∃ y2 : List Blk, ((Go.Rx.Found 1 (vt [Value.bool false, vi 0]) ({ h := [(2, Blk.row false [IntKind.i64] 3 nr y0 fr), (1, Blk.row false [IntKind.i64] 3 2 2 (litF (List.length [IntKind.i64]) ([x] ++ ([y] ++ [])))), (0, Blk.row true [IntKind.i64] er nr cr fr)], next := 3 }) (y1) (y2)) ∧ (K y1 y2)))))))))))))))))))))))))))))))))))))))))))
theorem con18A_rE (er nr cr : Nat) (fr : RF) (x : Int) (y : Int) (K : Value → List Blk → Prop) : con18A_rV er nr cr fr x y K = bodyX (mk XG) (callN (mk XG) 4) (con18A_rA er nr cr fr x y) Try.f18 [rsl 0 0 nr cr, .int .i64 x, .int .i64 y] (stOf [.row true [.i64] er nr cr fr]) fun v s' => ∃ v1 news, Rx.Found 1 v s' v1 news ∧ K v1 news := by kernel_rfl
set_option maxRecDepth 100000 in
set_option maxHeartbeats 4000000 in
set_option tactic.hygienic false in
theorem con18A_rP (er nr cr : Nat) (fr : RF) (x : Int) (y : Int) (K : Value → List Blk → Prop)  (hnr : nr ≤ 100000) (h1 : (rck nr fr).2 = 0) (h2 : 0 ≤ x ∧ x < (nr : Nat)) (h3 : 0 ≤ y ∧ y < (nr : Nat)) (h : ∀ bb : Bool, (bb = true ↔ fr x.toNat 0 = fr y.toNat 0) → K (.tuple ⟨[.bool bb, .int .i64 0]⟩) []) : con18A_rV er nr cr fr x y K := by
  unfold con18A_rV
  obtain ⟨g1, g2, g3⟩ := rck_ok h1

  repeat' (first | (with_reducible exact rfl) | (with_reducible exact trivial) | (with_reducible refine And.intro ?_ ?_) | (intro) | (with_reducible refine br_intro (fun hq => ?_) (fun hq => ?_)) | (with_reducible refine if_both (fun hz => ?_) (fun hz => ?_)) | fail)

  all_goals first
    | omega
    | assumption
    | contradiction
    | exact fin0 (by kernel_rfl) (by kernel_rfl) (by first | exact h | simpa using h)
    | (show 0 ≤ x; omega)
    | (show x < (nr : Int); omega)
    | exact absurd ((show inr _ _ _ by assumption) 0 (by omega)) h2
    | (rename Nat => i; have hi : i = 0 := (by omega); subst hi
       first | (show 0 ≤ x; omega) | (show x < (nr : Int); omega))
    | (rename Nat => i; have hi : i = 0 ∨ i = 1 := (by omega)
       rcases hi with rfl | rfl
       · first | (show 0 ≤ x; omega) | (show x < (nr : Int); omega)
       · first | (show 0 ≤ y; omega) | (show y < (nr : Int); omega))
    | (refine fin1t rfl ?_ (by kernel_rfl) (by kernel_rfl) (h _ (setR h1 (by omega)) _ (by assumption)); (intro i j hi hj; obtain rfl : j = 0 := (by simp at hj; omega); simp only [putF, cpyF, appF, shiftF, zF, Nat.min_self, Nat.sub_zero, Nat.add_zero, Nat.zero_add, Int.toNat_natCast, Int.toNat_zero]; repeat' split; all_goals first | rfl | omega | (simp_all; done) | (simp_all; omega)))
    | (exfalso; simp at hq; omega)
    | exact fin0 (by kernel_rfl) (by kernel_rfl) (h true ⟨fun _ => by assumption, fun _ => rfl⟩)
    | exact fin0 (by kernel_rfl) (by kernel_rfl) (h false ⟨fun e => (by cases e), fun e => absurd e (by assumption)⟩)
theorem con18A_ok : BodyOk (mk XG) 4 Try.f18 con18A := by
  intro vs bs K hh hro
  clear hro
  unfold con18A at hh
  split at hh
  · rename_i vr x y
    obtain ⟨er, nr, cr, fr, btr, rfl, hnr, rfl, hh0⟩ := parseR_inv hh
    obtain ⟨rfl, ⟨h1, h2, h3⟩, hc⟩ := hh0
    exact ⟨_, cast (con18A_rE er nr cr fr x y K) (con18A_rP er nr cr fr x y K hnr h1 h2 h3 hc)⟩
  · exact hh.elim
theorem con18A_told : Told 18 (specOf con18A) := told (X := XG) XG_told (by kernel_rfl) (by kernel_rfl) (by kernel_rfl) con18A_ok
end Go.Proofs.Ytmnhjnfjgfjafaa.Fr
