/-
  Roots: get, set, move, alike. No project text.
-/
import Derived.Test.YtmnhjnfjgfjafaaR2
namespace Go.Proofs.Ytmnhjnfjgfjafaa.Fr
open Go.Rx
open Go.RowKit (Below)
set_option linter.unusedVariables false
@[reducible] def XB : List (Nat × Rx.Spec) := [(25, specOf con25B)]
theorem XB_told : ∀ p ∈ XB, Told p.1 p.2 := by
  intro p hp
  simp only [List.mem_cons, List.not_mem_nil, or_false] at hp
  rcases hp with rfl
  · exact con25B_told
@[reducible] def XX : List (Nat × Rx.Spec) := [(25, specOf con25X)]
theorem XX_told : ∀ p ∈ XX, Told p.1 p.2 := by
  intro p hp
  simp only [List.mem_cons, List.not_mem_nil, or_false] at hp
  rcases hp with rfl
  · exact con25X_told
@[reducible] def XG : List (Nat × Rx.Spec) := [(25, specOf con25G)]
theorem XG_told : ∀ p ∈ XG, Told p.1 p.2 := by
  intro p hp
  simp only [List.mem_cons, List.not_mem_nil, or_false] at hp
  rcases hp with rfl
  · exact con25G_told
def con9G : Con := fun vs bs K => match vs with
  | [vr, .int .i64 x] => parseR [.i64] 0 vr bs fun nr fr j0 bs0 => bs0 = [] ∧ (((rck nr fr).2 = 0) ∧ (0 ≤ x ∧ x < (nr : Nat))) ∧ (K (.tuple ⟨[.int .i64 (fr x.toNat 0), .int .i64 (0)]⟩) [])
  | _ => False

def con9G_rA (er nr cr : Nat) (fr : RF) (x : Int) : Ann := fun _ => none
def con11B : Con := fun vs bs K => match vs with
  | [vr, .int .i64 x, .int .i64 v] => parse [.i64] 0 vr bs fun nr fr j0 bs0 => bs0 = [] ∧ ((¬ (rck nr fr).2 = 0)) ∧ (K (.tuple ⟨[.slice none 0 0, .int .i64 ((rck nr fr).2)]⟩) [])
  | _ => False

def con11B_nA (x : Int) (v : Int) : Ann := fun _ => none
def con11B_rA (er nr cr : Nat) (fr : RF) (x : Int) (v : Int) : Ann := fun _ => none
def con11X : Con := fun vs bs K => match vs with
  | [vr, .int .i64 x, .int .i64 v] => parseR [.i64] 0 vr bs fun nr fr j0 bs0 => bs0 = [] ∧ (((rck nr fr).2 = 0) ∧ (¬ (0 ≤ x ∧ x < (nr : Nat)))) ∧ (K (.tuple ⟨[.slice none 0 0, .int .i64 (10)]⟩) [])
  | _ => False

def con11X_rA (er nr cr : Nat) (fr : RF) (x : Int) (v : Int) : Ann := fun _ => none
def con11R : Con := fun vs bs K => match vs with
  | [vr, .int .i64 x, .int .i64 v] => parseR [.i64] 0 vr bs fun nr fr j0 bs0 => bs0 = [] ∧ (((rck nr fr).2 = 0) ∧ (0 ≤ x ∧ x < (nr : Nat)) ∧ (¬ (0 ≤ v ∧ v ≤ 1600))) ∧ (K (.tuple ⟨[.slice none 0 0, .int .i64 (7)]⟩) [])
  | _ => False

def con11R_rA (er nr cr : Nat) (fr : RF) (x : Int) (v : Int) : Ann := fun _ => none
def con11G : Con := fun vs bs K => match vs with
  | [vr, .int .i64 x, .int .i64 v] => parseR [.i64] 0 vr bs fun nr fr j0 bs0 => bs0 = [] ∧ (((rck nr fr).2 = 0) ∧ (0 ≤ x ∧ x < (nr : Nat)) ∧ (0 ≤ v ∧ v ≤ 1600)) ∧ (∀ g, SetR nr fr x (v) g → ∀ cp, nr ≤ cp → K (.tuple ⟨[rsl j0 0 nr cp, .int .i64 0]⟩) [.row false [.i64] 3 nr cp g])
  | _ => False

def con11G_rA (er nr cr : Nat) (fr : RF) (x : Int) (v : Int) : Ann := fun _ => none
def con13G : Con := fun vs bs K => match vs with
  | [vr, .int .i64 x, .int .i64 y] => parseR [.i64] 0 vr bs fun nr fr j0 bs0 => bs0 = [] ∧ (((rck nr fr).2 = 0) ∧ (0 ≤ x ∧ x < (nr : Nat)) ∧ (0 ≤ y ∧ y < (nr : Nat))) ∧ (∀ g, SetR nr fr x (fr y.toNat 0) g → ∀ cp, nr ≤ cp → K (.tuple ⟨[rsl j0 0 nr cp, .int .i64 0]⟩) [.row false [.i64] 3 nr cp g])
  | _ => False

def con13G_rA (er nr cr : Nat) (fr : RF) (x : Int) (y : Int) : Ann := fun _ => none
def con9G_rV (er nr cr : Nat) (fr : RF) (x : Int) (K : Value → List Blk → Prop) : Prop := (T0 ∧ (TS ∧ (T0 ∧ (T0 ∧ (T0 ∧ (T0 ∧ ((0 + nr ≤ nr) ∧ ((1 ≤ 1) ∧ ((eN 0) ∧ ((nr ≤ 100000) ∧ (((@Eq (List IntKind) ([IntKind.i64]) ([IntKind.i64])) ∧ ((eN nr) ∧ (eN cr))) ∧ ((eN 1) ∧ ((1 ≤ 100000) ∧ (((@Eq (List IntKind) ([IntKind.i64]) ([IntKind.i64])) ∧ ((eN 1) ∧ (eN 1))) ∧ (eB ∧ (((@Eq Int (Prod.snd (rck nr fr)) (0)) ∧ (∀ y0 : Nat, ((y0 < 1) → ((0 ≤ litF (List.length [IntKind.i64]) ([x] ++ []) y0 0) ∧ (litF (List.length [IntKind.i64]) ([x] ++ []) y0 0 < (↑nr : Int)))))) ∧ (∀ y0 : Nat, ((nr ≤ y0) → (T0 ∧ ((TS ∧ (eN 1)) ∧ (((0 ≤ x) ∧ (x < (↑nr : Int))) ∧ ((Int.toNat x < nr) ∧ (∃ y1 : Value, (∃ y2 : List Blk, ((Go.Rx.Found 1 (vt [vi (fr (Int.toNat x) 0), vi 0]) ({ h := [(2, Blk.row false [IntKind.i64] 3 nr y0 fr), (1, Blk.row false [IntKind.i64] 3 1 1 (litF (List.length [IntKind.i64]) ([x] ++ []))), (0, Blk.row true [IntKind.i64] er nr cr fr)], next := 3 }) (y1) (y2)) ∧ (K y1 y2))))))))))))))))))))))))))
theorem con9G_rE (er nr cr : Nat) (fr : RF) (x : Int) (K : Value → List Blk → Prop) : con9G_rV er nr cr fr x K = bodyX (mk XG) (callN (mk XG) 4) (con9G_rA er nr cr fr x) Try.f9 [rsl 0 0 nr cr, .int .i64 x] (stOf [.row true [.i64] er nr cr fr]) fun v s' => ∃ v1 news, Rx.Found 1 v s' v1 news ∧ K v1 news := by kernel_rfl
set_option maxRecDepth 100000 in
set_option maxHeartbeats 4000000 in
set_option tactic.hygienic false in
theorem con9G_rP (er nr cr : Nat) (fr : RF) (x : Int) (K : Value → List Blk → Prop)  (hnr : nr ≤ 100000) (h1 : (rck nr fr).2 = 0) (h2 : 0 ≤ x ∧ x < (nr : Nat)) (h : K (.tuple ⟨[.int .i64 (fr x.toNat 0), .int .i64 (0)]⟩) []) : con9G_rV er nr cr fr x K := by
  unfold con9G_rV
  obtain ⟨g1, g2, g3⟩ := rck_ok h1

  repeat' (first | (with_reducible exact rfl) | (with_reducible exact trivial) | (with_reducible refine And.intro ?_ ?_) | (intro) | (with_reducible refine br_intro (fun hq => ?_) (fun hq => ?_)) | (with_reducible refine if_both (fun hz => ?_) (fun hz => ?_)) | fail)

  all_goals first
    | omega
    | assumption
    | contradiction
    | exact fin0 (by kernel_rfl) (by kernel_rfl) (by first | exact h | simpa using h)
    | (show 0 ≤ x; omega)
    | (show x < (nr : Int); omega)
    | exact absurd ((show inr _ _ _ by assumption) 0 (by omega)) h2
    | (rename Nat => i; have hi : i = 0 := (by omega); subst hi
       first | (show 0 ≤ x; omega) | (show x < (nr : Int); omega))
    | (rename Nat => i; have hi : i = 0 ∨ i = 1 := (by omega)
       rcases hi with rfl | rfl
       · first | (show 0 ≤ x; omega) | (show x < (nr : Int); omega)
       · first | (show 0 ≤ y; omega) | (show y < (nr : Int); omega))
    | (refine fin1t rfl ?_ (by kernel_rfl) (by kernel_rfl) (h _ (setR h1 (by omega)) _ (by assumption)); (intro i j hi hj; obtain rfl : j = 0 := (by simp at hj; omega); simp only [putF, cpyF, appF, shiftF, zF, Nat.min_self, Nat.sub_zero, Nat.add_zero, Nat.zero_add, Int.toNat_natCast, Int.toNat_zero]; repeat' split; all_goals first | rfl | omega | (simp_all; done) | (simp_all; omega)))
    | (exfalso; simp at hq; omega)
theorem con9G_ok : BodyOk (mk XG) 4 Try.f9 con9G := by
  intro vs bs K hh hro
  clear hro
  unfold con9G at hh
  split at hh
  · rename_i vr x
    obtain ⟨er, nr, cr, fr, btr, rfl, hnr, rfl, hh0⟩ := parseR_inv hh
    obtain ⟨rfl, ⟨h1, h2⟩, hc⟩ := hh0
    exact ⟨_, cast (con9G_rE er nr cr fr x K) (con9G_rP er nr cr fr x K hnr h1 h2 hc)⟩
  · exact hh.elim
theorem con9G_told : Told 9 (specOf con9G) := told (X := XG) XG_told (by kernel_rfl) (by kernel_rfl) (by kernel_rfl) con9G_ok
def con11B_nV (x : Int) (v : Int) (K : Value → List Blk → Prop) : Prop := (T0 ∧ (TS ∧ (T0 ∧ (T0 ∧ (T0 ∧ (T0 ∧ (T0 ∧ ((1 ≤ 1) ∧ ((eN 0) ∧ ((1 ≤ 100000) ∧ (((@Eq (List IntKind) ([IntKind.i64]) ([IntKind.i64])) ∧ ((eN 1) ∧ (eN 1))) ∧ (eB ∧ ((¬Prod.snd (rck 0 zF) = 0) ∧ (T0 ∧ (∃ y0 : Value, (∃ y1 : List Blk, ((Go.Rx.Found 0 (vt [vn, vi 7]) ({ h := [(0, Blk.row false [IntKind.i64] 3 1 1 (litF (List.length [IntKind.i64]) ([x] ++ [])))], next := 1 }) (y0) (y1)) ∧ (K y0 y1))))))))))))))))))
theorem con11B_nE (x : Int) (v : Int) (K : Value → List Blk → Prop) : con11B_nV x v K = bodyX (mk XB) (callN (mk XB) 4) (con11B_nA x v) Try.f11 [.slice none 0 0, .int .i64 x, .int .i64 v] (stOf []) fun v s' => ∃ v1 news, Rx.Found 0 v s' v1 news ∧ K v1 news := by kernel_rfl
set_option maxRecDepth 100000 in
set_option maxHeartbeats 4000000 in
set_option tactic.hygienic false in
theorem con11B_nP (x : Int) (v : Int) (K : Value → List Blk → Prop)  (h1 : ¬ (rck 0 zF).2 = 0) (h : K (.tuple ⟨[.slice none 0 0, .int .i64 ((rck 0 zF).2)]⟩) []) : con11B_nV x v K := by
  unfold con11B_nV

  repeat' (first | (with_reducible exact rfl) | (with_reducible exact trivial) | (with_reducible refine And.intro ?_ ?_) | (intro) | (with_reducible refine br_intro (fun hq => ?_) (fun hq => ?_)) | (with_reducible refine if_both (fun hz => ?_) (fun hz => ?_)) | fail)

  all_goals first
    | omega
    | assumption
    | contradiction
    | exact fin0 (by kernel_rfl) (by kernel_rfl) (by first | exact h | simpa using h)
    | (show 0 ≤ x; omega)
    | (show x < (nr : Int); omega)
    | exact absurd ((show inr _ _ _ by assumption) 0 (by omega)) h2
    | (rename Nat => i; have hi : i = 0 := (by omega); subst hi
       first | (show 0 ≤ x; omega) | (show x < (nr : Int); omega))
    | (rename Nat => i; have hi : i = 0 ∨ i = 1 := (by omega)
       rcases hi with rfl | rfl
       · first | (show 0 ≤ x; omega) | (show x < (nr : Int); omega)
       · first | (show 0 ≤ y; omega) | (show y < (nr : Int); omega))
    | (refine fin1t rfl ?_ (by kernel_rfl) (by kernel_rfl) (h _ (setR h1 (by omega)) _ (by assumption)); (intro i j hi hj; obtain rfl : j = 0 := (by simp at hj; omega); simp only [putF, cpyF, appF, shiftF, zF, Nat.min_self, Nat.sub_zero, Nat.add_zero, Nat.zero_add, Int.toNat_natCast, Int.toNat_zero]; repeat' split; all_goals first | rfl | omega | (simp_all; done) | (simp_all; omega)))
    | (exfalso; simp at hq; omega)
def con11B_rV (er nr cr : Nat) (fr : RF) (x : Int) (v : Int) (K : Value → List Blk → Prop) : Prop := (T0 ∧ (TS ∧ (T0 ∧ (T0 ∧ (T0 ∧ (T0 ∧ ((0 + nr ≤ nr) ∧ ((1 ≤ 1) ∧ ((eN 0) ∧ ((nr ≤ 100000) ∧ (((@Eq (List IntKind) ([IntKind.i64]) ([IntKind.i64])) ∧ ((eN nr) ∧ (eN cr))) ∧ ((eN 1) ∧ ((1 ≤ 100000) ∧ (((@Eq (List IntKind) ([IntKind.i64]) ([IntKind.i64])) ∧ ((eN 1) ∧ (eN 1))) ∧ (eB ∧ ((¬Prod.snd (rck nr fr) = 0) ∧ (T0 ∧ (if (@Eq Int (Prod.snd (rck nr fr)) (0)) then (T0 ∧ (T0 ∧ (if (@Eq Int (v) (0)) then (False) else (T0 ∧ (T0 ∧ (if (1 ≤ v) then (T0 ∧ (if (v ≤ 1600) then (False) else (∃ y0 : Value, (∃ y1 : List Blk, ((Go.Rx.Found 1 (vt [vn, vi 7]) ({ h := [(1, Blk.row false [IntKind.i64] 3 1 1 (litF (List.length [IntKind.i64]) ([x] ++ []))), (0, Blk.row true [IntKind.i64] er nr cr fr)], next := 2 }) (y0) (y1)) ∧ (K y0 y1)))))) else (∃ y0 : Value, (∃ y1 : List Blk, ((Go.Rx.Found 1 (vt [vn, vi 7]) ({ h := [(1, Blk.row false [IntKind.i64] 3 1 1 (litF (List.length [IntKind.i64]) ([x] ++ []))), (0, Blk.row true [IntKind.i64] er nr cr fr)], next := 2 }) (y0) (y1)) ∧ (K y0 y1)))))))))) else (∃ y0 : Value, (∃ y1 : List Blk, ((Go.Rx.Found 1 (vt [vn, vi (Prod.snd (rck nr fr))]) ({ h := [(1, Blk.row false [IntKind.i64] 3 1 1 (litF (List.length [IntKind.i64]) ([x] ++ []))), (0, Blk.row true [IntKind.i64] er nr cr fr)], next := 2 }) (y0) (y1)) ∧ (K y0 y1))))))))))))))))))))))
theorem con11B_rE (er nr cr : Nat) (fr : RF) (x : Int) (v : Int) (K : Value → List Blk → Prop) : con11B_rV er nr cr fr x v K = bodyX (mk XB) (callN (mk XB) 4) (con11B_rA er nr cr fr x v) Try.f11 [rsl 0 0 nr cr, .int .i64 x, .int .i64 v] (stOf [.row true [.i64] er nr cr fr]) fun v s' => ∃ v1 news, Rx.Found 1 v s' v1 news ∧ K v1 news := by kernel_rfl
set_option maxRecDepth 100000 in
set_option maxHeartbeats 4000000 in
set_option tactic.hygienic false in
theorem con11B_rP (er nr cr : Nat) (fr : RF) (x : Int) (v : Int) (K : Value → List Blk → Prop)  (hnr : nr ≤ 100000) (h1 : ¬ (rck nr fr).2 = 0) (h : K (.tuple ⟨[.slice none 0 0, .int .i64 ((rck nr fr).2)]⟩) []) : con11B_rV er nr cr fr x v K := by
  unfold con11B_rV

  repeat' (first | (with_reducible exact rfl) | (with_reducible exact trivial) | (with_reducible refine And.intro ?_ ?_) | (intro) | (with_reducible refine br_intro (fun hq => ?_) (fun hq => ?_)) | (with_reducible refine if_both (fun hz => ?_) (fun hz => ?_)) | fail)

  all_goals first
    | omega
    | assumption
    | contradiction
    | exact fin0 (by kernel_rfl) (by kernel_rfl) (by first | exact h | simpa using h)
    | (show 0 ≤ x; omega)
    | (show x < (nr : Int); omega)
    | exact absurd ((show inr _ _ _ by assumption) 0 (by omega)) h2
    | (rename Nat => i; have hi : i = 0 := (by omega); subst hi
       first | (show 0 ≤ x; omega) | (show x < (nr : Int); omega))
    | (rename Nat => i; have hi : i = 0 ∨ i = 1 := (by omega)
       rcases hi with rfl | rfl
       · first | (show 0 ≤ x; omega) | (show x < (nr : Int); omega)
       · first | (show 0 ≤ y; omega) | (show y < (nr : Int); omega))
    | (refine fin1t rfl ?_ (by kernel_rfl) (by kernel_rfl) (h _ (setR h1 (by omega)) _ (by assumption)); (intro i j hi hj; obtain rfl : j = 0 := (by simp at hj; omega); simp only [putF, cpyF, appF, shiftF, zF, Nat.min_self, Nat.sub_zero, Nat.add_zero, Nat.zero_add, Int.toNat_natCast, Int.toNat_zero]; repeat' split; all_goals first | rfl | omega | (simp_all; done) | (simp_all; omega)))
    | (exfalso; simp at hq; omega)
theorem con11B_ok : BodyOk (mk XB) 4 Try.f11 con11B := by
  intro vs bs K hh hro
  clear hro
  unfold con11B at hh
  split at hh
  · rename_i vr x v
    rcases parse_inv hh with ⟨rfl, hh0⟩ | ⟨er, nr, cr, fr, btr, rfl, hnr, rfl, hh0⟩ <;> clear hh
    · obtain ⟨rfl, h1, hc⟩ := hh0
      exact ⟨_, cast (con11B_nE  x v K) (con11B_nP  x v K  h1 hc)⟩
    · obtain ⟨rfl, h1, hc⟩ := hh0
      exact ⟨_, cast (con11B_rE er nr cr fr x v K) (con11B_rP er nr cr fr x v K hnr h1 hc)⟩
  · exact hh.elim
theorem con11B_told : Told 11 (specOf con11B) := told (X := XB) XB_told (by kernel_rfl) (by kernel_rfl) (by kernel_rfl) con11B_ok
def con11X_rV (er nr cr : Nat) (fr : RF) (x : Int) (v : Int) (K : Value → List Blk → Prop) : Prop := (T0 ∧ (TS ∧ (T0 ∧ (T0 ∧ (T0 ∧ (T0 ∧ ((0 + nr ≤ nr) ∧ ((1 ≤ 1) ∧ ((eN 0) ∧ ((nr ≤ 100000) ∧ (((@Eq (List IntKind) ([IntKind.i64]) ([IntKind.i64])) ∧ ((eN nr) ∧ (eN cr))) ∧ ((eN 1) ∧ ((1 ≤ 100000) ∧ (((@Eq (List IntKind) ([IntKind.i64]) ([IntKind.i64])) ∧ ((eN 1) ∧ (eN 1))) ∧ (eB ∧ (((@Eq Int (Prod.snd (rck nr fr)) (0)) ∧ (¬inr nr 1 (litF (List.length [IntKind.i64]) ([x] ++ [])))) ∧ (T0 ∧ (∃ y0 : Value, (∃ y1 : List Blk, ((Go.Rx.Found 1 (vt [vn, vi 10]) ({ h := [(1, Blk.row false [IntKind.i64] 3 1 1 (litF (List.length [IntKind.i64]) ([x] ++ []))), (0, Blk.row true [IntKind.i64] er nr cr fr)], next := 2 }) (y0) (y1)) ∧ (K y0 y1)))))))))))))))))))))
theorem con11X_rE (er nr cr : Nat) (fr : RF) (x : Int) (v : Int) (K : Value → List Blk → Prop) : con11X_rV er nr cr fr x v K = bodyX (mk XX) (callN (mk XX) 4) (con11X_rA er nr cr fr x v) Try.f11 [rsl 0 0 nr cr, .int .i64 x, .int .i64 v] (stOf [.row true [.i64] er nr cr fr]) fun v s' => ∃ v1 news, Rx.Found 1 v s' v1 news ∧ K v1 news := by kernel_rfl
set_option maxRecDepth 100000 in
set_option maxHeartbeats 4000000 in
set_option tactic.hygienic false in
theorem con11X_rP (er nr cr : Nat) (fr : RF) (x : Int) (v : Int) (K : Value → List Blk → Prop)  (hnr : nr ≤ 100000) (h1 : (rck nr fr).2 = 0) (h2 : ¬ (0 ≤ x ∧ x < (nr : Nat))) (h : K (.tuple ⟨[.slice none 0 0, .int .i64 (10)]⟩) []) : con11X_rV er nr cr fr x v K := by
  unfold con11X_rV
  obtain ⟨g1, g2, g3⟩ := rck_ok h1

  repeat' (first | (with_reducible exact rfl) | (with_reducible exact trivial) | (with_reducible refine And.intro ?_ ?_) | (intro) | (with_reducible refine br_intro (fun hq => ?_) (fun hq => ?_)) | (with_reducible refine if_both (fun hz => ?_) (fun hz => ?_)) | fail)

  all_goals first
    | omega
    | assumption
    | contradiction
    | exact fin0 (by kernel_rfl) (by kernel_rfl) (by first | exact h | simpa using h)
    | (show 0 ≤ x; omega)
    | (show x < (nr : Int); omega)
    | exact absurd ((show inr _ _ _ by assumption) 0 (by omega)) h2
    | (rename Nat => i; have hi : i = 0 := (by omega); subst hi
       first | (show 0 ≤ x; omega) | (show x < (nr : Int); omega))
    | (rename Nat => i; have hi : i = 0 ∨ i = 1 := (by omega)
       rcases hi with rfl | rfl
       · first | (show 0 ≤ x; omega) | (show x < (nr : Int); omega)
       · first | (show 0 ≤ y; omega) | (show y < (nr : Int); omega))
    | (refine fin1t rfl ?_ (by kernel_rfl) (by kernel_rfl) (h _ (setR h1 (by omega)) _ (by assumption)); (intro i j hi hj; obtain rfl : j = 0 := (by simp at hj; omega); simp only [putF, cpyF, appF, shiftF, zF, Nat.min_self, Nat.sub_zero, Nat.add_zero, Nat.zero_add, Int.toNat_natCast, Int.toNat_zero]; repeat' split; all_goals first | rfl | omega | (simp_all; done) | (simp_all; omega)))
    | (exfalso; simp at hq; omega)
theorem con11X_ok : BodyOk (mk XX) 4 Try.f11 con11X := by
  intro vs bs K hh hro
  clear hro
  unfold con11X at hh
  split at hh
  · rename_i vr x v
    obtain ⟨er, nr, cr, fr, btr, rfl, hnr, rfl, hh0⟩ := parseR_inv hh
    obtain ⟨rfl, ⟨h1, h2⟩, hc⟩ := hh0
    exact ⟨_, cast (con11X_rE er nr cr fr x v K) (con11X_rP er nr cr fr x v K hnr h1 h2 hc)⟩
  · exact hh.elim
theorem con11X_told : Told 11 (specOf con11X) := told (X := XX) XX_told (by kernel_rfl) (by kernel_rfl) (by kernel_rfl) con11X_ok
def con11R_rV (er nr cr : Nat) (fr : RF) (x : Int) (v : Int) (K : Value → List Blk → Prop) : Prop := (T0 ∧ (TS ∧ (T0 ∧ (T0 ∧ (T0 ∧ (T0 ∧ ((0 + nr ≤ nr) ∧ ((1 ≤ 1) ∧ ((eN 0) ∧ ((nr ≤ 100000) ∧ (((@Eq (List IntKind) ([IntKind.i64]) ([IntKind.i64])) ∧ ((eN nr) ∧ (eN cr))) ∧ ((eN 1) ∧ ((1 ≤ 100000) ∧ (((@Eq (List IntKind) ([IntKind.i64]) ([IntKind.i64])) ∧ ((eN 1) ∧ (eN 1))) ∧ (eB ∧ (((@Eq Int (Prod.snd (rck nr fr)) (0)) ∧ (∀ y0 : Nat, ((y0 < 1) → ((0 ≤ litF (List.length [IntKind.i64]) ([x] ++ []) y0 0) ∧ (litF (List.length [IntKind.i64]) ([x] ++ []) y0 0 < (↑nr : Int)))))) ∧ (∀ y0 : Nat, ((nr ≤ y0) → (T0 ∧ (T0 ∧ (T0 ∧ (if (@Eq Int (v) (0)) then ((TS ∧ (eN 1)) ∧ (((0 ≤ x) ∧ (x < (↑nr : Int))) ∧ ((false = false) ∧ ((Int.toNat x < nr) ∧ (T0 ∧ (T0 ∧ (∃ y1 : Value, (∃ y2 : List Blk, ((Go.Rx.Found 1 (vt [rsl 2 0 nr y0, vi 0]) ({ h := [(2, Blk.row false [IntKind.i64] 3 nr y0 (putF fr (Int.toNat x) 0 v)), (1, Blk.row false [IntKind.i64] 3 1 1 (litF (List.length [IntKind.i64]) ([x] ++ []))), (0, Blk.row true [IntKind.i64] er nr cr fr)], next := 3 }) (y1) (y2)) ∧ (K y1 y2)))))))))) else (T0 ∧ (T0 ∧ (if (1 ≤ v) then (T0 ∧ (if (v ≤ 1600) then ((TS ∧ (eN 1)) ∧ (((0 ≤ x) ∧ (x < (↑nr : Int))) ∧ ((false = false) ∧ ((Int.toNat x < nr) ∧ (T0 ∧ (T0 ∧ (∃ y1 : Value, (∃ y2 : List Blk, ((Go.Rx.Found 1 (vt [rsl 2 0 nr y0, vi 0]) ({ h := [(2, Blk.row false [IntKind.i64] 3 nr y0 (putF fr (Int.toNat x) 0 v)), (1, Blk.row false [IntKind.i64] 3 1 1 (litF (List.length [IntKind.i64]) ([x] ++ []))), (0, Blk.row true [IntKind.i64] er nr cr fr)], next := 3 }) (y1) (y2)) ∧ (K y1 y2)))))))))) else (∃ y1 : Value, (∃ y2 : List Blk, ((Go.Rx.Found 1 (vt [vn, vi 7]) ({ h := [(2, Blk.row false [IntKind.i64] 3 nr y0 fr), (1, Blk.row false [IntKind.i64] 3 1 1 (litF (List.length [IntKind.i64]) ([x] ++ []))), (0, Blk.row true [IntKind.i64] er nr cr fr)], next := 3 }) (y1) (y2)) ∧ (K y1 y2)))))) else (∃ y1 : Value, (∃ y2 : List Blk, ((Go.Rx.Found 1 (vt [vn, vi 7]) ({ h := [(2, Blk.row false [IntKind.i64] 3 nr y0 fr), (1, Blk.row false [IntKind.i64] 3 1 1 (litF (List.length [IntKind.i64]) ([x] ++ []))), (0, Blk.row true [IntKind.i64] er nr cr fr)], next := 3 }) (y1) (y2)) ∧ (K y1 y2)))))))))))))))))))))))))))))
theorem con11R_rE (er nr cr : Nat) (fr : RF) (x : Int) (v : Int) (K : Value → List Blk → Prop) : con11R_rV er nr cr fr x v K = bodyX (mk XG) (callN (mk XG) 4) (con11R_rA er nr cr fr x v) Try.f11 [rsl 0 0 nr cr, .int .i64 x, .int .i64 v] (stOf [.row true [.i64] er nr cr fr]) fun v s' => ∃ v1 news, Rx.Found 1 v s' v1 news ∧ K v1 news := by kernel_rfl
set_option maxRecDepth 100000 in
set_option maxHeartbeats 4000000 in
set_option tactic.hygienic false in
theorem con11R_rP (er nr cr : Nat) (fr : RF) (x : Int) (v : Int) (K : Value → List Blk → Prop)  (hnr : nr ≤ 100000) (h1 : (rck nr fr).2 = 0) (h2 : 0 ≤ x ∧ x < (nr : Nat)) (h3 : ¬ (0 ≤ v ∧ v ≤ 1600)) (h : K (.tuple ⟨[.slice none 0 0, .int .i64 (7)]⟩) []) : con11R_rV er nr cr fr x v K := by
  unfold con11R_rV
  obtain ⟨g1, g2, g3⟩ := rck_ok h1

  repeat' (first | (with_reducible exact rfl) | (with_reducible exact trivial) | (with_reducible refine And.intro ?_ ?_) | (intro) | (with_reducible refine br_intro (fun hq => ?_) (fun hq => ?_)) | (with_reducible refine if_both (fun hz => ?_) (fun hz => ?_)) | fail)

  all_goals first
    | omega
    | assumption
    | contradiction
    | exact fin0 (by kernel_rfl) (by kernel_rfl) (by first | exact h | simpa using h)
    | (show 0 ≤ x; omega)
    | (show x < (nr : Int); omega)
    | exact absurd ((show inr _ _ _ by assumption) 0 (by omega)) h2
    | (rename Nat => i; have hi : i = 0 := (by omega); subst hi
       first | (show 0 ≤ x; omega) | (show x < (nr : Int); omega))
    | (rename Nat => i; have hi : i = 0 ∨ i = 1 := (by omega)
       rcases hi with rfl | rfl
       · first | (show 0 ≤ x; omega) | (show x < (nr : Int); omega)
       · first | (show 0 ≤ y; omega) | (show y < (nr : Int); omega))
    | (refine fin1t rfl ?_ (by kernel_rfl) (by kernel_rfl) (h _ (setR h1 (by omega)) _ (by assumption)); (intro i j hi hj; obtain rfl : j = 0 := (by simp at hj; omega); simp only [putF, cpyF, appF, shiftF, zF, Nat.min_self, Nat.sub_zero, Nat.add_zero, Nat.zero_add, Int.toNat_natCast, Int.toNat_zero]; repeat' split; all_goals first | rfl | omega | (simp_all; done) | (simp_all; omega)))
    | (exfalso; simp at hq; omega)
theorem con11R_ok : BodyOk (mk XG) 4 Try.f11 con11R := by
  intro vs bs K hh hro
  clear hro
  unfold con11R at hh
  split at hh
  · rename_i vr x v
    obtain ⟨er, nr, cr, fr, btr, rfl, hnr, rfl, hh0⟩ := parseR_inv hh
    obtain ⟨rfl, ⟨h1, h2, h3⟩, hc⟩ := hh0
    exact ⟨_, cast (con11R_rE er nr cr fr x v K) (con11R_rP er nr cr fr x v K hnr h1 h2 h3 hc)⟩
  · exact hh.elim
theorem con11R_told : Told 11 (specOf con11R) := told (X := XG) XG_told (by kernel_rfl) (by kernel_rfl) (by kernel_rfl) con11R_ok
def con11G_rV (er nr cr : Nat) (fr : RF) (x : Int) (v : Int) (K : Value → List Blk → Prop) : Prop := (T0 ∧ (TS ∧ (T0 ∧ (T0 ∧ (T0 ∧ (T0 ∧ ((0 + nr ≤ nr) ∧ ((1 ≤ 1) ∧ ((eN 0) ∧ ((nr ≤ 100000) ∧ (((@Eq (List IntKind) ([IntKind.i64]) ([IntKind.i64])) ∧ ((eN nr) ∧ (eN cr))) ∧ ((eN 1) ∧ ((1 ≤ 100000) ∧ (((@Eq (List IntKind) ([IntKind.i64]) ([IntKind.i64])) ∧ ((eN 1) ∧ (eN 1))) ∧ (eB ∧ (((@Eq Int (Prod.snd (rck nr fr)) (0)) ∧ (∀ y0 : Nat, ((y0 < 1) → ((0 ≤ litF (List.length [IntKind.i64]) ([x] ++ []) y0 0) ∧ (litF (List.length [IntKind.i64]) ([x] ++ []) y0 0 < (↑nr : Int)))))) ∧ (∀ y0 : Nat, ((nr ≤ y0) → (T0 ∧ (T0 ∧ (T0 ∧ (if (@Eq Int (v) (0)) then ((TS ∧ (eN 1)) ∧ (((0 ≤ x) ∧ (x < (↑nr : Int))) ∧ ((false = false) ∧ ((Int.toNat x < nr) ∧ (T0 ∧ (T0 ∧ (∃ y1 : Value, (∃ y2 : List Blk, ((Go.Rx.Found 1 (vt [rsl 2 0 nr y0, vi 0]) ({ h := [(2, Blk.row false [IntKind.i64] 3 nr y0 (putF fr (Int.toNat x) 0 v)), (1, Blk.row false [IntKind.i64] 3 1 1 (litF (List.length [IntKind.i64]) ([x] ++ []))), (0, Blk.row true [IntKind.i64] er nr cr fr)], next := 3 }) (y1) (y2)) ∧ (K y1 y2)))))))))) else (T0 ∧ (T0 ∧ (if (1 ≤ v) then (T0 ∧ (if (v ≤ 1600) then ((TS ∧ (eN 1)) ∧ (((0 ≤ x) ∧ (x < (↑nr : Int))) ∧ ((false = false) ∧ ((Int.toNat x < nr) ∧ (T0 ∧ (T0 ∧ (∃ y1 : Value, (∃ y2 : List Blk, ((Go.Rx.Found 1 (vt [rsl 2 0 nr y0, vi 0]) ({ h := [(2, Blk.row false [IntKind.i64] 3 nr y0 (putF fr (Int.toNat x) 0 v)), (1, Blk.row false [IntKind.i64] 3 1 1 (litF (List.length [IntKind.i64]) ([x] ++ []))), (0, Blk.row true [IntKind.i64] er nr cr fr)], next := 3 }) (y1) (y2)) ∧ (K y1 y2)))))))))) else (∃ y1 : Value, (∃ y2 : List Blk, ((Go.Rx.Found 1 (vt [vn, vi 7]) ({ h := [(2, Blk.row false [IntKind.i64] 3 nr y0 fr), (1, Blk.row false [IntKind.i64] 3 1 1 (litF (List.length [IntKind.i64]) ([x] ++ []))), (0, Blk.row true [IntKind.i64] er nr cr fr)], next := 3 }) (y1) (y2)) ∧ (K y1 y2)))))) else (∃ y1 : Value, (∃ y2 : List Blk, ((Go.Rx.Found 1 (vt [vn, vi 7]) ({ h := [(2, Blk.row false [IntKind.i64] 3 nr y0 fr), (1, Blk.row false [IntKind.i64] 3 1 1 (litF (List.length [IntKind.i64]) ([x] ++ []))), (0, Blk.row true [IntKind.i64] er nr cr fr)], next := 3 }) (y1) (y2)) ∧ (K y1 y2)))))))))))))))))))))))))))))
theorem con11G_rE (er nr cr : Nat) (fr : RF) (x : Int) (v : Int) (K : Value → List Blk → Prop) : con11G_rV er nr cr fr x v K = bodyX (mk XG) (callN (mk XG) 4) (con11G_rA er nr cr fr x v) Try.f11 [rsl 0 0 nr cr, .int .i64 x, .int .i64 v] (stOf [.row true [.i64] er nr cr fr]) fun v s' => ∃ v1 news, Rx.Found 1 v s' v1 news ∧ K v1 news := by kernel_rfl
set_option maxRecDepth 100000 in
set_option maxHeartbeats 4000000 in
set_option tactic.hygienic false in
theorem con11G_rP (er nr cr : Nat) (fr : RF) (x : Int) (v : Int) (K : Value → List Blk → Prop)  (hnr : nr ≤ 100000) (h1 : (rck nr fr).2 = 0) (h2 : 0 ≤ x ∧ x < (nr : Nat)) (h3 : 0 ≤ v ∧ v ≤ 1600) (h : ∀ g, SetR nr fr x (v) g → ∀ cp, nr ≤ cp → K (.tuple ⟨[rsl 1 0 nr cp, .int .i64 0]⟩) [.row false [.i64] 3 nr cp g]) : con11G_rV er nr cr fr x v K := by
  unfold con11G_rV
  obtain ⟨g1, g2, g3⟩ := rck_ok h1

  repeat' (first | (with_reducible exact rfl) | (with_reducible exact trivial) | (with_reducible refine And.intro ?_ ?_) | (intro) | (with_reducible refine br_intro (fun hq => ?_) (fun hq => ?_)) | (with_reducible refine if_both (fun hz => ?_) (fun hz => ?_)) | fail)

  all_goals first
    | omega
    | assumption
    | contradiction
    | exact fin0 (by kernel_rfl) (by kernel_rfl) (by first | exact h | simpa using h)
    | (show 0 ≤ x; omega)
    | (show x < (nr : Int); omega)
    | exact absurd ((show inr _ _ _ by assumption) 0 (by omega)) h2
    | (rename Nat => i; have hi : i = 0 := (by omega); subst hi
       first | (show 0 ≤ x; omega) | (show x < (nr : Int); omega))
    | (rename Nat => i; have hi : i = 0 ∨ i = 1 := (by omega)
       rcases hi with rfl | rfl
       · first | (show 0 ≤ x; omega) | (show x < (nr : Int); omega)
       · first | (show 0 ≤ y; omega) | (show y < (nr : Int); omega))
    | (refine fin1t rfl ?_ (by kernel_rfl) (by kernel_rfl) (h _ (setR h1 h3) _ (by assumption)); (intro i j hi hj; obtain rfl : j = 0 := (by simp at hj; omega); simp only [putF, cpyF, appF, shiftF, zF, Nat.min_self, Nat.sub_zero, Nat.add_zero, Nat.zero_add, Int.toNat_natCast, Int.toNat_zero]; repeat' split; all_goals first | rfl | omega | (simp_all; done) | (simp_all; omega)))
    | (exfalso; simp at hq; omega)
theorem con11G_ok : BodyOk (mk XG) 4 Try.f11 con11G := by
  intro vs bs K hh hro
  clear hro
  unfold con11G at hh
  split at hh
  · rename_i vr x v
    obtain ⟨er, nr, cr, fr, btr, rfl, hnr, rfl, hh0⟩ := parseR_inv hh
    obtain ⟨rfl, ⟨h1, h2, h3⟩, hc⟩ := hh0
    exact ⟨_, cast (con11G_rE er nr cr fr x v K) (con11G_rP er nr cr fr x v K hnr h1 h2 h3 hc)⟩
  · exact hh.elim
theorem con11G_told : Told 11 (specOf con11G) := told (X := XG) XG_told (by kernel_rfl) (by kernel_rfl) (by kernel_rfl) con11G_ok
def con13G_rV (er nr cr : Nat) (fr : RF) (x : Int) (y : Int) (K : Value → List Blk → Prop) : Prop := (T0 ∧ (TS ∧ (T0 ∧ (T0 ∧ (T0 ∧ (T0 ∧ ((0 + nr ≤ nr) ∧ ((2 ≤ 2) ∧ ((eN 0) ∧ ((nr ≤ 100000) ∧ (((@Eq (List IntKind) ([IntKind.i64]) ([IntKind.i64])) ∧ ((eN nr) ∧ (eN cr))) ∧ ((eN 1) ∧ ((2 ≤ 100000) ∧ (((@Eq (List IntKind) ([IntKind.i64]) ([IntKind.i64])) ∧ ((eN 2) ∧ (eN 2))) ∧ (eB ∧ (((@Eq Int (Prod.snd (rck nr fr)) (0)) ∧ (∀ y0 : Nat, ((y0 < 2) → ((0 ≤ litF (List.length [IntKind.i64]) ([x] ++ ([y] ++ [])) y0 0) ∧ (litF (List.length [IntKind.i64]) ([x] ++ ([y] ++ [])) y0 0 < (↑nr : Int)))))) ∧ (∀ y0 : Nat, ((nr ≤ y0) → (T0 ∧ ((TS ∧ (eN 1)) ∧ (((0 ≤ y) ∧ (y < (↑nr : Int))) ∧ ((Int.toNat y < nr) ∧ ((TS ∧ (eN 1)) ∧ (((0 ≤ x) ∧ (x < (↑nr : Int))) ∧ ((false = false) ∧ ((Int.toNat x < nr) ∧ (T0 ∧ (T0 ∧ (∃ y1 : Value, (∃ y2 : List Blk, ((Go.Rx.Found 1 (vt [rsl 2 0 nr y0, vi 0]) ({ h := [(2, Blk.row false [IntKind.i64] 3 nr y0 (putF fr (Int.toNat x) 0 (fr (Int.toNat y) 0))), (1, Blk.row false [IntKind.i64] 3 2 2 (litF (List.length [IntKind.i64]) ([x] ++ ([y] ++ [])))), (0, Blk.row true [IntKind.i64] er nr cr fr)], next := 3 }) (y1) (y2)) ∧ (K y1 y2))))))))))))))))))))))))))))))))
theorem con13G_rE (er nr cr : Nat) (fr : RF) (x : Int) (y : Int) (K : Value → List Blk → Prop) : con13G_rV er nr cr fr x y K = bodyX (mk XG) (callN (mk XG) 4) (con13G_rA er nr cr fr x y) Try.f13 [rsl 0 0 nr cr, .int .i64 x, .int .i64 y] (stOf [.row true [.i64] er nr cr fr]) fun v s' => ∃ v1 news, Rx.Found 1 v s' v1 news ∧ K v1 news := by kernel_rfl
set_option maxRecDepth 100000 in
set_option maxHeartbeats 4000000 in
set_option tactic.hygienic false in
theorem con13G_rP (er nr cr : Nat) (fr : RF) (x : Int) (y : Int) (K : Value → List Blk → Prop)  (hnr : nr ≤ 100000) (h1 : (rck nr fr).2 = 0) (h2 : 0 ≤ x ∧ x < (nr : Nat)) (h3 : 0 ≤ y ∧ y < (nr : Nat)) (h : ∀ g, SetR nr fr x (fr y.toNat 0) g → ∀ cp, nr ≤ cp → K (.tuple ⟨[rsl 1 0 nr cp, .int .i64 0]⟩) [.row false [.i64] 3 nr cp g]) : con13G_rV er nr cr fr x y K := by
  unfold con13G_rV
  obtain ⟨g1, g2, g3⟩ := rck_ok h1

  repeat' (first | (with_reducible exact rfl) | (with_reducible exact trivial) | (with_reducible refine And.intro ?_ ?_) | (intro) | (with_reducible refine br_intro (fun hq => ?_) (fun hq => ?_)) | (with_reducible refine if_both (fun hz => ?_) (fun hz => ?_)) | fail)

  all_goals first
    | omega
    | assumption
    | contradiction
    | exact fin0 (by kernel_rfl) (by kernel_rfl) (by first | exact h | simpa using h)
    | (show 0 ≤ x; omega)
    | (show x < (nr : Int); omega)
    | exact absurd ((show inr _ _ _ by assumption) 0 (by omega)) h2
    | (rename Nat => i; have hi : i = 0 := (by omega); subst hi
       first | (show 0 ≤ x; omega) | (show x < (nr : Int); omega))
    | (rename Nat => i; have hi : i = 0 ∨ i = 1 := (by omega)
       rcases hi with rfl | rfl
       · first | (show 0 ≤ x; omega) | (show x < (nr : Int); omega)
       · first | (show 0 ≤ y; omega) | (show y < (nr : Int); omega))
    | (refine fin1t rfl ?_ (by kernel_rfl) (by kernel_rfl) (h _ (setR h1 (g3 y.toNat (by omega))) _ (by assumption)); (intro i j hi hj; obtain rfl : j = 0 := (by simp at hj; omega); simp only [putF, cpyF, appF, shiftF, zF, Nat.min_self, Nat.sub_zero, Nat.add_zero, Nat.zero_add, Int.toNat_natCast, Int.toNat_zero]; repeat' split; all_goals first | rfl | omega | (simp_all; done) | (simp_all; omega)))
    | (exfalso; simp at hq; omega)
theorem con13G_ok : BodyOk (mk XG) 4 Try.f13 con13G := by
  intro vs bs K hh hro
  clear hro
  unfold con13G at hh
  split at hh
  · rename_i vr x y
    obtain ⟨er, nr, cr, fr, btr, rfl, hnr, rfl, hh0⟩ := parseR_inv hh
    obtain ⟨rfl, ⟨h1, h2, h3⟩, hc⟩ := hh0
    exact ⟨_, cast (con13G_rE er nr cr fr x y K) (con13G_rP er nr cr fr x y K hnr h1 h2 h3 hc)⟩
  · exact hh.elim
theorem con13G_told : Told 13 (specOf con13G) := told (X := XG) XG_told (by kernel_rfl) (by kernel_rfl) (by kernel_rfl) con13G_ok
end Go.Proofs.Ytmnhjnfjgfjafaa.Fr
