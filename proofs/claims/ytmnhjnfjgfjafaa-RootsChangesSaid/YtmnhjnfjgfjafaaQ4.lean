/-
  Roots: the reference: get, set, move, alike. No project text.
-/
import Derived.Test.YtmnhjnfjgfjafaaR4
import Derived.Test.YtmnhjnfjgfjafaaQ2
namespace Go.Proofs.Ytmnhjnfjgfjafaa.Fr
open Go.Rx
open Go.RowKit (Below)
set_option linter.unusedVariables false
@[reducible] def XKB : List (Nat × Rx.Spec) := [(26, specOf con26B)]
theorem XKB_told : ∀ p ∈ XKB, Told p.1 p.2 := by
  intro p hp
  simp only [List.mem_cons, List.not_mem_nil, or_false] at hp
  rcases hp with rfl
  · exact con26B_told
@[reducible] def XKX : List (Nat × Rx.Spec) := [(26, specOf con26X)]
theorem XKX_told : ∀ p ∈ XKX, Told p.1 p.2 := by
  intro p hp
  simp only [List.mem_cons, List.not_mem_nil, or_false] at hp
  rcases hp with rfl
  · exact con26X_told
@[reducible] def XKG : List (Nat × Rx.Spec) := [(26, specOf con26G)]
theorem XKG_told : ∀ p ∈ XKG, Told p.1 p.2 := by
  intro p hp
  simp only [List.mem_cons, List.not_mem_nil, or_false] at hp
  rcases hp with rfl
  · exact con26G_told
def con10B : Con := fun vs bs K => match vs with
  | [vr, .int .i64 x] => parse [.i64] 0 vr bs fun nr fr j0 bs0 => bs0 = [] ∧ ((¬ (rck nr fr).2 = 0)) ∧ (K (.tuple ⟨[.int .i64 0, .int .i64 ((rck nr fr).2)]⟩) [])
  | _ => False

def con10B_nA (x : Int) : Ann := fun _ => none
def con10B_rA (er nr cr : Nat) (fr : RF) (x : Int) : Ann := fun _ => none
def con10X : Con := fun vs bs K => match vs with
  | [vr, .int .i64 x] => parseR [.i64] 0 vr bs fun nr fr j0 bs0 => bs0 = [] ∧ (((rck nr fr).2 = 0) ∧ (¬ (0 ≤ x ∧ x < (nr : Nat)))) ∧ (K (.tuple ⟨[.int .i64 0, .int .i64 (10)]⟩) [])
  | _ => False

def con10X_rA (er nr cr : Nat) (fr : RF) (x : Int) : Ann := fun _ => none
def con10G : Con := fun vs bs K => match vs with
  | [vr, .int .i64 x] => parseR [.i64] 0 vr bs fun nr fr j0 bs0 => bs0 = [] ∧ (((rck nr fr).2 = 0) ∧ (0 ≤ x ∧ x < (nr : Nat))) ∧ (K (.tuple ⟨[.int .i64 (fr x.toNat 0), .int .i64 (0)]⟩) [])
  | _ => False

def con10G_rA (er nr cr : Nat) (fr : RF) (x : Int) : Ann := fun _ => none
def con12B : Con := fun vs bs K => match vs with
  | [vr, .int .i64 x, .int .i64 v] => parse [.i64] 0 vr bs fun nr fr j0 bs0 => bs0 = [] ∧ ((¬ (rck nr fr).2 = 0)) ∧ (K (.tuple ⟨[.slice none 0 0, .int .i64 ((rck nr fr).2)]⟩) [])
  | _ => False

def con12B_nA (x : Int) (v : Int) : Ann := fun _ => none
def con12B_rA (er nr cr : Nat) (fr : RF) (x : Int) (v : Int) : Ann := fun _ => none
def con12X : Con := fun vs bs K => match vs with
  | [vr, .int .i64 x, .int .i64 v] => parseR [.i64] 0 vr bs fun nr fr j0 bs0 => bs0 = [] ∧ (((rck nr fr).2 = 0) ∧ (¬ (0 ≤ x ∧ x < (nr : Nat)))) ∧ (K (.tuple ⟨[.slice none 0 0, .int .i64 (10)]⟩) [])
  | _ => False

def con12X_rA (er nr cr : Nat) (fr : RF) (x : Int) (v : Int) : Ann := fun _ => none
def con12R : Con := fun vs bs K => match vs with
  | [vr, .int .i64 x, .int .i64 v] => parseR [.i64] 0 vr bs fun nr fr j0 bs0 => bs0 = [] ∧ (((rck nr fr).2 = 0) ∧ (0 ≤ x ∧ x < (nr : Nat)) ∧ (¬ (0 ≤ v ∧ v ≤ 1600))) ∧ (K (.tuple ⟨[.slice none 0 0, .int .i64 (7)]⟩) [])
  | _ => False

def con12R_rA (er nr cr : Nat) (fr : RF) (x : Int) (v : Int) : Ann := fun _ => none
def con12G : Con := fun vs bs K => match vs with
  | [vr, .int .i64 x, .int .i64 v] => parseR [.i64] 0 vr bs fun nr fr j0 bs0 => bs0 = [] ∧ (((rck nr fr).2 = 0) ∧ (0 ≤ x ∧ x < (nr : Nat)) ∧ (0 ≤ v ∧ v ≤ 1600)) ∧ (∀ g, SetR nr fr x (v) g → ∀ cp, nr ≤ cp → K (.tuple ⟨[rsl j0 0 nr cp, .int .i64 0]⟩) [.row false [.i64] 3 nr cp g])
  | _ => False

def con12G_rA (er nr cr : Nat) (fr : RF) (x : Int) (v : Int) : Ann := fun _ => none
def con14B : Con := fun vs bs K => match vs with
  | [vr, .int .i64 x, .int .i64 y] => parse [.i64] 0 vr bs fun nr fr j0 bs0 => bs0 = [] ∧ ((¬ (rck nr fr).2 = 0)) ∧ (K (.tuple ⟨[.slice none 0 0, .int .i64 ((rck nr fr).2)]⟩) [])
  | _ => False

def con14B_nA (x : Int) (y : Int) : Ann := fun _ => none
def con14B_rA (er nr cr : Nat) (fr : RF) (x : Int) (y : Int) : Ann := fun _ => none
def con14X : Con := fun vs bs K => match vs with
  | [vr, .int .i64 x, .int .i64 y] => parseR [.i64] 0 vr bs fun nr fr j0 bs0 => bs0 = [] ∧ (((rck nr fr).2 = 0) ∧ (¬ ((0 ≤ x ∧ x < (nr : Nat)) ∧ (0 ≤ y ∧ y < (nr : Nat))))) ∧ (K (.tuple ⟨[.slice none 0 0, .int .i64 (10)]⟩) [])
  | _ => False

def con14X_rA (er nr cr : Nat) (fr : RF) (x : Int) (y : Int) : Ann := fun _ => none
def con14G : Con := fun vs bs K => match vs with
  | [vr, .int .i64 x, .int .i64 y] => parseR [.i64] 0 vr bs fun nr fr j0 bs0 => bs0 = [] ∧ (((rck nr fr).2 = 0) ∧ (0 ≤ x ∧ x < (nr : Nat)) ∧ (0 ≤ y ∧ y < (nr : Nat))) ∧ (∀ g, SetR nr fr x (fr y.toNat 0) g → ∀ cp, nr ≤ cp → K (.tuple ⟨[rsl j0 0 nr cp, .int .i64 0]⟩) [.row false [.i64] 3 nr cp g])
  | _ => False

def con14G_rA (er nr cr : Nat) (fr : RF) (x : Int) (y : Int) : Ann := fun _ => none
def con19B : Con := fun vs bs K => match vs with
  | [vr, .int .i64 x, .int .i64 y] => parse [.i64] 0 vr bs fun nr fr j0 bs0 => bs0 = [] ∧ ((¬ (rck nr fr).2 = 0)) ∧ (K (.tuple ⟨[.bool false, .int .i64 ((rck nr fr).2)]⟩) [])
  | _ => False

def con19B_nA (x : Int) (y : Int) : Ann := fun _ => none
def con19B_rA (er nr cr : Nat) (fr : RF) (x : Int) (y : Int) : Ann := fun _ => none
def con19X : Con := fun vs bs K => match vs with
  | [vr, .int .i64 x, .int .i64 y] => parseR [.i64] 0 vr bs fun nr fr j0 bs0 => bs0 = [] ∧ (((rck nr fr).2 = 0) ∧ (¬ ((0 ≤ x ∧ x < (nr : Nat)) ∧ (0 ≤ y ∧ y < (nr : Nat))))) ∧ (K (.tuple ⟨[.bool false, .int .i64 (10)]⟩) [])
  | _ => False

def con19X_rA (er nr cr : Nat) (fr : RF) (x : Int) (y : Int) : Ann := fun _ => none
def con19A : Con := fun vs bs K => match vs with
  | [vr, .int .i64 x, .int .i64 y] => parseR [.i64] 0 vr bs fun nr fr j0 bs0 => bs0 = [] ∧ (((rck nr fr).2 = 0) ∧ (0 ≤ x ∧ x < (nr : Nat)) ∧ (0 ≤ y ∧ y < (nr : Nat))) ∧ (∀ bb : Bool, (bb = true ↔ fr x.toNat 0 = fr y.toNat 0) → K (.tuple ⟨[.bool bb, .int .i64 0]⟩) [])
  | _ => False

def con19A_rA (er nr cr : Nat) (fr : RF) (x : Int) (y : Int) : Ann := fun _ => none
def con10B_nV (x : Int) (K : Value → List Blk → Prop) : Prop := (T0 ∧ (TS ∧ (T0 ∧ (T0 ∧ (T0 ∧ (T0 ∧ (T0 ∧ ((1 ≤ 1) ∧ ((eN 0) ∧ ((1 ≤ 100000) ∧ (((@Eq (List IntKind) ([IntKind.i64]) ([IntKind.i64])) ∧ ((eN 1) ∧ (eN 1))) ∧ (eB ∧ ((¬Prod.snd (rck 0 zF) = 0) ∧ (T0 ∧ (∃ y0 : Value, (∃ y1 : List Blk, ((Go.Rx.Found 0 (vt [vi 0, vi 7]) ({ h := [(0, Blk.row false [IntKind.i64] 3 1 1 (litF (List.length [IntKind.i64]) ([x] ++ [])))], next := 1 }) (y0) (y1)) ∧ (K y0 y1))))))))))))))))))
theorem con10B_nE (x : Int) (K : Value → List Blk → Prop) : con10B_nV x K = bodyX (mk XKB) (callN (mk XKB) 4) (con10B_nA x) Try.f10 [.slice none 0 0, .int .i64 x] (stOf []) fun v s' => ∃ v1 news, Rx.Found 0 v s' v1 news ∧ K v1 news := by kernel_rfl
set_option maxRecDepth 100000 in
set_option maxHeartbeats 4000000 in
set_option tactic.hygienic false in
theorem con10B_nP (x : Int) (K : Value → List Blk → Prop)  (h1 : ¬ (rck 0 zF).2 = 0) (h : K (.tuple ⟨[.int .i64 0, .int .i64 ((rck 0 zF).2)]⟩) []) : con10B_nV x K := by
  unfold con10B_nV

  repeat' (first | (with_reducible exact rfl) | (with_reducible exact trivial) | (with_reducible refine And.intro ?_ ?_) | (intro) | (with_reducible refine br_intro (fun hq => ?_) (fun hq => ?_)) | (with_reducible refine if_both (fun hz => ?_) (fun hz => ?_)) | fail)

  all_goals first
    | omega
    | assumption
    | contradiction
    | exact fin0 (by kernel_rfl) (by kernel_rfl) (by first | exact h | simpa using h)
    | (show 0 ≤ x; omega)
    | (show x < (nr : Int); omega)
    | exact absurd ((show inr _ _ _ by assumption) 0 (by omega)) h2
    | (rename Nat => i; have hi : i = 0 := (by omega); subst hi
       first | (show 0 ≤ x; omega) | (show x < (nr : Int); omega))
    | (rename Nat => i; have hi : i = 0 ∨ i = 1 := (by omega)
       rcases hi with rfl | rfl
       · first | (show 0 ≤ x; omega) | (show x < (nr : Int); omega)
       · first | (show 0 ≤ y; omega) | (show y < (nr : Int); omega))
    | (refine fin1t rfl ?_ (by kernel_rfl) (by kernel_rfl) (h _ (setR h1 (by omega)) _ (by assumption)); (intro i j hi hj; obtain rfl : j = 0 := (by simp at hj; omega); simp only [putF, cpyF, appF, shiftF, zF, Nat.min_self, Nat.sub_zero, Nat.add_zero, Nat.zero_add, Int.toNat_natCast, Int.toNat_zero]; repeat' split; all_goals first | rfl | omega | (simp_all; done) | (simp_all; omega)))
    | (exfalso; simp at hq; omega)
    | exact fin0 (by kernel_rfl) (by kernel_rfl) (h true ⟨fun _ => by assumption, fun _ => rfl⟩)
    | exact fin0 (by kernel_rfl) (by kernel_rfl) (h false ⟨fun e => (by cases e), fun e => absurd e (by assumption)⟩)
def con10B_rV (er nr cr : Nat) (fr : RF) (x : Int) (K : Value → List Blk → Prop) : Prop := (T0 ∧ (TS ∧ (T0 ∧ (T0 ∧ (T0 ∧ (T0 ∧ ((0 + nr ≤ nr) ∧ ((1 ≤ 1) ∧ ((eN 0) ∧ ((nr ≤ 100000) ∧ (((@Eq (List IntKind) ([IntKind.i64]) ([IntKind.i64])) ∧ ((eN nr) ∧ (eN cr))) ∧ ((eN 1) ∧ ((1 ≤ 100000) ∧ (((@Eq (List IntKind) ([IntKind.i64]) ([IntKind.i64])) ∧ ((eN 1) ∧ (eN 1))) ∧ (eB ∧ ((¬Prod.snd (rck nr fr) = 0) ∧ (T0 ∧ (if (@Eq Int (Prod.snd (rck nr fr)) (0)) then ((TS ∧ (eN 1)) ∧ (((0 ≤ x) ∧ (x < (↑nr : Int))) ∧ ((Int.toNat x < nr) ∧ (∃ y0 : Value, (∃ y1 : List Blk, ((Go.Rx.Found 1 (vt [vi (fr (Int.toNat x) 0), vi 0]) ({ h := [(1, Blk.row false [IntKind.i64] 3 1 1 (litF (List.length [IntKind.i64]) ([x] ++ []))), (0, Blk.row true [IntKind.i64] er nr cr fr)], next := 2 }) (y0) (y1)) ∧ (K y0 y1))))))) else (∃ y0 : Value, (∃ y1 : List Blk, ((Go.Rx.Found 1 (vt [vi 0, vi (Prod.snd (rck nr fr))]) ({ h := [(1, Blk.row false [IntKind.i64] 3 1 1 (litF (List.length [IntKind.i64]) ([x] ++ []))), (0, Blk.row true [IntKind.i64] er nr cr fr)], next := 2 }) (y0) (y1)) ∧ (K y0 y1))))))))))))))))))))))
theorem con10B_rE (er nr cr : Nat) (fr : RF) (x : Int) (K : Value → List Blk → Prop) : con10B_rV er nr cr fr x K = bodyX (mk XKB) (callN (mk XKB) 4) (con10B_rA er nr cr fr x) Try.f10 [rsl 0 0 nr cr, .int .i64 x] (stOf [.row true [.i64] er nr cr fr]) fun v s' => ∃ v1 news, Rx.Found 1 v s' v1 news ∧ K v1 news := by kernel_rfl
set_option maxRecDepth 100000 in
set_option maxHeartbeats 4000000 in
set_option tactic.hygienic false in
theorem con10B_rP (er nr cr : Nat) (fr : RF) (x : Int) (K : Value → List Blk → Prop)  (hnr : nr ≤ 100000) (h1 : ¬ (rck nr fr).2 = 0) (h : K (.tuple ⟨[.int .i64 0, .int .i64 ((rck nr fr).2)]⟩) []) : con10B_rV er nr cr fr x K := by
  unfold con10B_rV

  repeat' (first | (with_reducible exact rfl) | (with_reducible exact trivial) | (with_reducible refine And.intro ?_ ?_) | (intro) | (with_reducible refine br_intro (fun hq => ?_) (fun hq => ?_)) | (with_reducible refine if_both (fun hz => ?_) (fun hz => ?_)) | fail)

  all_goals first
    | omega
    | assumption
    | contradiction
    | exact fin0 (by kernel_rfl) (by kernel_rfl) (by first | exact h | simpa using h)
    | (show 0 ≤ x; omega)
    | (show x < (nr : Int); omega)
    | exact absurd ((show inr _ _ _ by assumption) 0 (by omega)) h2
    | (rename Nat => i; have hi : i = 0 := (by omega); subst hi
       first | (show 0 ≤ x; omega) | (show x < (nr : Int); omega))
    | (rename Nat => i; have hi : i = 0 ∨ i = 1 := (by omega)
       rcases hi with rfl | rfl
       · first | (show 0 ≤ x; omega) | (show x < (nr : Int); omega)
       · first | (show 0 ≤ y; omega) | (show y < (nr : Int); omega))
    | (refine fin1t rfl ?_ (by kernel_rfl) (by kernel_rfl) (h _ (setR h1 (by omega)) _ (by assumption)); (intro i j hi hj; obtain rfl : j = 0 := (by simp at hj; omega); simp only [putF, cpyF, appF, shiftF, zF, Nat.min_self, Nat.sub_zero, Nat.add_zero, Nat.zero_add, Int.toNat_natCast, Int.toNat_zero]; repeat' split; all_goals first | rfl | omega | (simp_all; done) | (simp_all; omega)))
    | (exfalso; simp at hq; omega)
    | exact fin0 (by kernel_rfl) (by kernel_rfl) (h true ⟨fun _ => by assumption, fun _ => rfl⟩)
    | exact fin0 (by kernel_rfl) (by kernel_rfl) (h false ⟨fun e => (by cases e), fun e => absurd e (by assumption)⟩)
theorem con10B_ok : BodyOk (mk XKB) 4 Try.f10 con10B := by
  intro vs bs K hh hro
  clear hro
  unfold con10B at hh
  split at hh
  · rename_i vr x
    rcases parse_inv hh with ⟨rfl, hh0⟩ | ⟨er, nr, cr, fr, btr, rfl, hnr, rfl, hh0⟩ <;> clear hh
    · obtain ⟨rfl, h1, hc⟩ := hh0
      exact ⟨_, cast (con10B_nE  x K) (con10B_nP  x K  h1 hc)⟩
    · obtain ⟨rfl, h1, hc⟩ := hh0
      exact ⟨_, cast (con10B_rE er nr cr fr x K) (con10B_rP er nr cr fr x K hnr h1 hc)⟩
  · exact hh.elim
theorem con10B_told : Told 10 (specOf con10B) := told (X := XKB) XKB_told (by kernel_rfl) (by kernel_rfl) (by kernel_rfl) con10B_ok
def con10X_rV (er nr cr : Nat) (fr : RF) (x : Int) (K : Value → List Blk → Prop) : Prop := (T0 ∧ (TS ∧ (T0 ∧ (T0 ∧ (T0 ∧ (T0 ∧ ((0 + nr ≤ nr) ∧ ((1 ≤ 1) ∧ ((eN 0) ∧ ((nr ≤ 100000) ∧ (((@Eq (List IntKind) ([IntKind.i64]) ([IntKind.i64])) ∧ ((eN nr) ∧ (eN cr))) ∧ ((eN 1) ∧ ((1 ≤ 100000) ∧ (((@Eq (List IntKind) ([IntKind.i64]) ([IntKind.i64])) ∧ ((eN 1) ∧ (eN 1))) ∧ (eB ∧ (((@Eq Int (Prod.snd (rck nr fr)) (0)) ∧ (¬inr nr 1 (litF (List.length [IntKind.i64]) ([x] ++ [])))) ∧ (T0 ∧ (∃ y0 : Value, (∃ y1 : List Blk, ((Go.Rx.Found 1 (vt [vi 0, vi 10]) ({ h := [(1, Blk.row false [IntKind.i64] 3 1 1 (litF (List.length [IntKind.i64]) ([x] ++ []))), (0, Blk.row true [IntKind.i64] er nr cr fr)], next := 2 }) (y0) (y1)) ∧ (K y0 y1)))))))))))))))))))))
theorem con10X_rE (er nr cr : Nat) (fr : RF) (x : Int) (K : Value → List Blk → Prop) : con10X_rV er nr cr fr x K = bodyX (mk XKX) (callN (mk XKX) 4) (con10X_rA er nr cr fr x) Try.f10 [rsl 0 0 nr cr, .int .i64 x] (stOf [.row true [.i64] er nr cr fr]) fun v s' => ∃ v1 news, Rx.Found 1 v s' v1 news ∧ K v1 news := by kernel_rfl
set_option maxRecDepth 100000 in
set_option maxHeartbeats 4000000 in
set_option tactic.hygienic false in
theorem con10X_rP (er nr cr : Nat) (fr : RF) (x : Int) (K : Value → List Blk → Prop)  (hnr : nr ≤ 100000) (h1 : (rck nr fr).2 = 0) (h2 : ¬ (0 ≤ x ∧ x < (nr : Nat))) (h : K (.tuple ⟨[.int .i64 0, .int .i64 (10)]⟩) []) : con10X_rV er nr cr fr x K := by
  unfold con10X_rV
  obtain ⟨g1, g2, g3⟩ := rck_ok h1

  repeat' (first | (with_reducible exact rfl) | (with_reducible exact trivial) | (with_reducible refine And.intro ?_ ?_) | (intro) | (with_reducible refine br_intro (fun hq => ?_) (fun hq => ?_)) | (with_reducible refine if_both (fun hz => ?_) (fun hz => ?_)) | fail)

  all_goals first
    | omega
    | assumption
    | contradiction
    | exact fin0 (by kernel_rfl) (by kernel_rfl) (by first | exact h | simpa using h)
    | (show 0 ≤ x; omega)
    | (show x < (nr : Int); omega)
    | exact absurd ((show inr _ _ _ by assumption) 0 (by omega)) h2
    | (rename Nat => i; have hi : i = 0 := (by omega); subst hi
       first | (show 0 ≤ x; omega) | (show x < (nr : Int); omega))
    | (rename Nat => i; have hi : i = 0 ∨ i = 1 := (by omega)
       rcases hi with rfl | rfl
       · first | (show 0 ≤ x; omega) | (show x < (nr : Int); omega)
       · first | (show 0 ≤ y; omega) | (show y < (nr : Int); omega))
    | (refine fin1t rfl ?_ (by kernel_rfl) (by kernel_rfl) (h _ (setR h1 (by omega)) _ (by assumption)); (intro i j hi hj; obtain rfl : j = 0 := (by simp at hj; omega); simp only [putF, cpyF, appF, shiftF, zF, Nat.min_self, Nat.sub_zero, Nat.add_zero, Nat.zero_add, Int.toNat_natCast, Int.toNat_zero]; repeat' split; all_goals first | rfl | omega | (simp_all; done) | (simp_all; omega)))
    | (exfalso; simp at hq; omega)
    | exact fin0 (by kernel_rfl) (by kernel_rfl) (h true ⟨fun _ => by assumption, fun _ => rfl⟩)
    | exact fin0 (by kernel_rfl) (by kernel_rfl) (h false ⟨fun e => (by cases e), fun e => absurd e (by assumption)⟩)
theorem con10X_ok : BodyOk (mk XKX) 4 Try.f10 con10X := by
  intro vs bs K hh hro
  clear hro
  unfold con10X at hh
  split at hh
  · rename_i vr x
    obtain ⟨er, nr, cr, fr, btr, rfl, hnr, rfl, hh0⟩ := parseR_inv hh
    obtain ⟨rfl, ⟨h1, h2⟩, hc⟩ := hh0
    exact ⟨_, cast (con10X_rE er nr cr fr x K) (con10X_rP er nr cr fr x K hnr h1 h2 hc)⟩
  · exact hh.elim
theorem con10X_told : Told 10 (specOf con10X) := told (X := XKX) XKX_told (by kernel_rfl) (by kernel_rfl) (by kernel_rfl) con10X_ok
def con10G_rV (er nr cr : Nat) (fr : RF) (x : Int) (K : Value → List Blk → Prop) : Prop := (T0 ∧ (TS ∧ (T0 ∧ (T0 ∧ (T0 ∧ (T0 ∧ ((0 + nr ≤ nr) ∧ ((1 ≤ 1) ∧ ((eN 0) ∧ ((nr ≤ 100000) ∧ (((@Eq (List IntKind) ([IntKind.i64]) ([IntKind.i64])) ∧ ((eN nr) ∧ (eN cr))) ∧ ((eN 1) ∧ ((1 ≤ 100000) ∧ (((@Eq (List IntKind) ([IntKind.i64]) ([IntKind.i64])) ∧ ((eN 1) ∧ (eN 1))) ∧ (eB ∧ (((@Eq Int (Prod.snd (rck nr fr)) (0)) ∧ (∀ y0 : Nat, ((y0 < 1) → ((0 ≤ litF (List.length [IntKind.i64]) ([x] ++ []) y0 0) ∧ (litF (List.length [IntKind.i64]) ([x] ++ []) y0 0 < (↑nr : Int)))))) ∧ (T0 ∧ ((TS ∧ (eN 1)) ∧ (((0 ≤ x) ∧ (x < (↑nr : Int))) ∧ ((Int.toNat x < nr) ∧ (∃ y0 : Value, (∃ y1 : List Blk, ((Go.Rx.Found 1 (vt [vi (fr (Int.toNat x) 0), vi 0]) ({ h := [(1, Blk.row false [IntKind.i64] 3 1 1 (litF (List.length [IntKind.i64]) ([x] ++ []))), (0, Blk.row true [IntKind.i64] er nr cr fr)], next := 2 }) (y0) (y1)) ∧ (K y0 y1))))))))))))))))))))))))
theorem con10G_rE (er nr cr : Nat) (fr : RF) (x : Int) (K : Value → List Blk → Prop) : con10G_rV er nr cr fr x K = bodyX (mk XKG) (callN (mk XKG) 4) (con10G_rA er nr cr fr x) Try.f10 [rsl 0 0 nr cr, .int .i64 x] (stOf [.row true [.i64] er nr cr fr]) fun v s' => ∃ v1 news, Rx.Found 1 v s' v1 news ∧ K v1 news := by kernel_rfl
set_option maxRecDepth 100000 in
set_option maxHeartbeats 4000000 in
set_option tactic.hygienic false in
theorem con10G_rP (er nr cr : Nat) (fr : RF) (x : Int) (K : Value → List Blk → Prop)  (hnr : nr ≤ 100000) (h1 : (rck nr fr).2 = 0) (h2 : 0 ≤ x ∧ x < (nr : Nat)) (h : K (.tuple ⟨[.int .i64 (fr x.toNat 0), .int .i64 (0)]⟩) []) : con10G_rV er nr cr fr x K := by
  unfold con10G_rV
  obtain ⟨g1, g2, g3⟩ := rck_ok h1

  repeat' (first | (with_reducible exact rfl) | (with_reducible exact trivial) | (with_reducible refine And.intro ?_ ?_) | (intro) | (with_reducible refine br_intro (fun hq => ?_) (fun hq => ?_)) | (with_reducible refine if_both (fun hz => ?_) (fun hz => ?_)) | fail)

  all_goals first
    | omega
    | assumption
    | contradiction
    | exact fin0 (by kernel_rfl) (by kernel_rfl) (by first | exact h | simpa using h)
    | (show 0 ≤ x; omega)
    | (show x < (nr : Int); omega)
    | exact absurd ((show inr _ _ _ by assumption) 0 (by omega)) h2
    | (rename Nat => i; have hi : i = 0 := (by omega); subst hi
       first | (show 0 ≤ x; omega) | (show x < (nr : Int); omega))
    | (rename Nat => i; have hi : i = 0 ∨ i = 1 := (by omega)
       rcases hi with rfl | rfl
       · first | (show 0 ≤ x; omega) | (show x < (nr : Int); omega)
       · first | (show 0 ≤ y; omega) | (show y < (nr : Int); omega))
    | (refine fin1t rfl ?_ (by kernel_rfl) (by kernel_rfl) (h _ (setR h1 (by omega)) _ (by assumption)); (intro i j hi hj; obtain rfl : j = 0 := (by simp at hj; omega); simp only [putF, cpyF, appF, shiftF, zF, Nat.min_self, Nat.sub_zero, Nat.add_zero, Nat.zero_add, Int.toNat_natCast, Int.toNat_zero]; repeat' split; all_goals first | rfl | omega | (simp_all; done) | (simp_all; omega)))
    | (exfalso; simp at hq; omega)
    | exact fin0 (by kernel_rfl) (by kernel_rfl) (h true ⟨fun _ => by assumption, fun _ => rfl⟩)
    | exact fin0 (by kernel_rfl) (by kernel_rfl) (h false ⟨fun e => (by cases e), fun e => absurd e (by assumption)⟩)
theorem con10G_ok : BodyOk (mk XKG) 4 Try.f10 con10G := by
  intro vs bs K hh hro
  clear hro
  unfold con10G at hh
  split at hh
  · rename_i vr x
    obtain ⟨er, nr, cr, fr, btr, rfl, hnr, rfl, hh0⟩ := parseR_inv hh
    obtain ⟨rfl, ⟨h1, h2⟩, hc⟩ := hh0
    exact ⟨_, cast (con10G_rE er nr cr fr x K) (con10G_rP er nr cr fr x K hnr h1 h2 hc)⟩
  · exact hh.elim
theorem con10G_told : Told 10 (specOf con10G) := told (X := XKG) XKG_told (by kernel_rfl) (by kernel_rfl) (by kernel_rfl) con10G_ok
def con12B_nV (x : Int) (v : Int) (K : Value → List Blk → Prop) : Prop := (T0 ∧ (TS ∧ (T0 ∧ (T0 ∧ (T0 ∧ (T0 ∧ (T0 ∧ ((1 ≤ 1) ∧ ((eN 0) ∧ ((1 ≤ 100000) ∧ (((@Eq (List IntKind) ([IntKind.i64]) ([IntKind.i64])) ∧ ((eN 1) ∧ (eN 1))) ∧ (eB ∧ ((¬Prod.snd (rck 0 zF) = 0) ∧ (T0 ∧ (T0 ∧ (∃ y0 : Value, (∃ y1 : List Blk, ((Go.Rx.Found 0 (vt [vn, vi 7]) ({ h := [(0, Blk.row false [IntKind.i64] 3 1 1 (litF (List.length [IntKind.i64]) ([x] ++ [])))], next := 1 }) (y0) (y1)) ∧ (K y0 y1)))))))))))))))))))
theorem con12B_nE (x : Int) (v : Int) (K : Value → List Blk → Prop) : con12B_nV x v K = bodyX (mk XKB) (callN (mk XKB) 4) (con12B_nA x v) Try.f12 [.slice none 0 0, .int .i64 x, .int .i64 v] (stOf []) fun v s' => ∃ v1 news, Rx.Found 0 v s' v1 news ∧ K v1 news := by kernel_rfl
set_option maxRecDepth 100000 in
set_option maxHeartbeats 4000000 in
set_option tactic.hygienic false in
theorem con12B_nP (x : Int) (v : Int) (K : Value → List Blk → Prop)  (h1 : ¬ (rck 0 zF).2 = 0) (h : K (.tuple ⟨[.slice none 0 0, .int .i64 ((rck 0 zF).2)]⟩) []) : con12B_nV x v K := by
  unfold con12B_nV

  repeat' (first | (with_reducible exact rfl) | (with_reducible exact trivial) | (with_reducible refine And.intro ?_ ?_) | (intro) | (with_reducible refine br_intro (fun hq => ?_) (fun hq => ?_)) | (with_reducible refine if_both (fun hz => ?_) (fun hz => ?_)) | fail)

  all_goals first
    | omega
    | assumption
    | contradiction
    | exact fin0 (by kernel_rfl) (by kernel_rfl) (by first | exact h | simpa using h)
    | (show 0 ≤ x; omega)
    | (show x < (nr : Int); omega)
    | exact absurd ((show inr _ _ _ by assumption) 0 (by omega)) h2
    | (rename Nat => i; have hi : i = 0 := (by omega); subst hi
       first | (show 0 ≤ x; omega) | (show x < (nr : Int); omega))
    | (rename Nat => i; have hi : i = 0 ∨ i = 1 := (by omega)
       rcases hi with rfl | rfl
       · first | (show 0 ≤ x; omega) | (show x < (nr : Int); omega)
       · first | (show 0 ≤ y; omega) | (show y < (nr : Int); omega))
    | (refine fin1t rfl ?_ (by kernel_rfl) (by kernel_rfl) (h _ (setR h1 (by omega)) _ (by assumption)); (intro i j hi hj; obtain rfl : j = 0 := (by simp at hj; omega); simp only [putF, cpyF, appF, shiftF, zF, Nat.min_self, Nat.sub_zero, Nat.add_zero, Nat.zero_add, Int.toNat_natCast, Int.toNat_zero]; repeat' split; all_goals first | rfl | omega | (simp_all; done) | (simp_all; omega)))
    | (exfalso; simp at hq; omega)
    | exact fin0 (by kernel_rfl) (by kernel_rfl) (h true ⟨fun _ => by assumption, fun _ => rfl⟩)
    | exact fin0 (by kernel_rfl) (by kernel_rfl) (h false ⟨fun e => (by cases e), fun e => absurd e (by assumption)⟩)
def con12B_rV (er nr cr : Nat) (fr : RF) (x : Int) (v : Int) (K : Value → List Blk → Prop) : Prop := (T0 ∧ (TS ∧ (T0 ∧ (T0 ∧ (T0 ∧ (T0 ∧ ((0 + nr ≤ nr) ∧ ((1 ≤ 1) ∧ ((eN 0) ∧ ((nr ≤ 100000) ∧ (((@Eq (List IntKind) ([IntKind.i64]) ([IntKind.i64])) ∧ ((eN nr) ∧ (eN cr))) ∧ ((eN 1) ∧ ((1 ≤ 100000) ∧ (((@Eq (List IntKind) ([IntKind.i64]) ([IntKind.i64])) ∧ ((eN 1) ∧ (eN 1))) ∧ (eB ∧ ((¬Prod.snd (rck nr fr) = 0) ∧ (T0 ∧ (if (@Eq Int (Prod.snd (rck nr fr)) (0)) then (T0 ∧ (if (v < 0) then (T0 ∧ (∃ y0 : Value, (∃ y1 : List Blk, ((Go.Rx.Found 1 (vt [vn, vi 7]) ({ h := [(1, Blk.row false [IntKind.i64] 3 1 1 (litF (List.length [IntKind.i64]) ([x] ++ []))), (0, Blk.row true [IntKind.i64] er nr cr fr)], next := 2 }) (y0) (y1)) ∧ (K y0 y1))))) else (T0 ∧ (if (1600 < v) then (T0 ∧ (∃ y0 : Value, (∃ y1 : List Blk, ((Go.Rx.Found 1 (vt [vn, vi 7]) ({ h := [(1, Blk.row false [IntKind.i64] 3 1 1 (litF (List.length [IntKind.i64]) ([x] ++ []))), (0, Blk.row true [IntKind.i64] er nr cr fr)], next := 2 }) (y0) (y1)) ∧ (K y0 y1))))) else (T0 ∧ (if (@Eq Int (Prod.snd (rck nr fr)) (0)) then (T0 ∧ (TS ∧ (T0 ∧ (T0 ∧ (T0 ∧ (T0 ∧ (TS ∧ (TS ∧ (T0 ∧ (T0 ∧ (T0 ∧ (T0 ∧ ((0 + nr ≤ nr) ∧ ((nr ≤ 100000) ∧ (T0 ∧ ((eN 0) ∧ (Go.Rx.br (decide (0 < nr)) (∀ y0 : Nat, ((nr ≤ y0) → ((TS ∧ (eN 1)) ∧ (((0 ≤ x) ∧ (x < (↑nr : Int))) ∧ ((false = false) ∧ ((Int.toNat x < nr) ∧ (T0 ∧ (T0 ∧ (∃ y1 : Value, (∃ y2 : List Blk, ((Go.Rx.Found 1 (vt [rsl 3 0 nr y0, vi 0]) ({ h := [(3, Blk.row false [IntKind.i64] 3 nr y0 (putF (appF (fun x x_1 ↦ 0) 0 fr 0) (Int.toNat x) 0 v)), (2, Blk.row false [IntKind.i64] 3 0 0 (litF (List.length [IntKind.i64]) [])), (1, Blk.row false [IntKind.i64] 3 1 1 (litF (List.length [IntKind.i64]) ([x] ++ []))), (0, Blk.row true [IntKind.i64] er nr cr fr)], next := 4 }) (y1) (y2)) ∧ (K y1 y2)))))))))))) ((TS ∧ (eN 1)) ∧ (((0 ≤ x) ∧ (x < (↑0 : Int))) ∧ ((false = false) ∧ ((Int.toNat x < 0) ∧ (T0 ∧ (T0 ∧ (∃ y0 : Value, (∃ y1 : List Blk, ((Go.Rx.Found 1 (vt [rsl 2 0 0 0, vi 0]) ({ h := [(2, Blk.row false [IntKind.i64] 3 0 0 (putF (litF (List.length [IntKind.i64]) []) (Int.toNat x) 0 v)), (1, Blk.row false [IntKind.i64] 3 1 1 (litF (List.length [IntKind.i64]) ([x] ++ []))), (0, Blk.row true [IntKind.i64] er nr cr fr)], next := 3 }) (y0) (y1)) ∧ (K y0 y1))))))))))))))))))))))))))) else (∃ y0 : Value, (∃ y1 : List Blk, ((Go.Rx.Found 1 (vt [vn, vi (Prod.snd (rck nr fr))]) ({ h := [(1, Blk.row false [IntKind.i64] 3 1 1 (litF (List.length [IntKind.i64]) ([x] ++ []))), (0, Blk.row true [IntKind.i64] er nr cr fr)], next := 2 }) (y0) (y1)) ∧ (K y0 y1)))))))))) else (T0 ∧ (if (@Eq Int (Prod.snd (rck nr fr)) (0)) then (T0 ∧ (TS ∧ (T0 ∧ (T0 ∧ (T0 ∧ (T0 ∧ (TS ∧ (TS ∧ (T0 ∧ (T0 ∧ (T0 ∧ (T0 ∧ ((0 + nr ≤ nr) ∧ ((nr ≤ 100000) ∧ (T0 ∧ ((eN 0) ∧ (Go.Rx.br (decide (0 < nr)) (∀ y0 : Nat, ((nr ≤ y0) → ((TS ∧ (eN 1)) ∧ (((0 ≤ x) ∧ (x < (↑nr : Int))) ∧ ((false = false) ∧ ((Int.toNat x < nr) ∧ (T0 ∧ (T0 ∧ (∃ y1 : Value, (∃ y2 : List Blk, ((Go.Rx.Found 1 (vt [rsl 3 0 nr y0, vi 0]) ({ h := [(3, Blk.row false [IntKind.i64] 3 nr y0 (putF (appF (fun x x_1 ↦ 0) 0 fr 0) (Int.toNat x) 0 v)), (2, Blk.row false [IntKind.i64] 3 0 0 (litF (List.length [IntKind.i64]) [])), (1, Blk.row false [IntKind.i64] 3 1 1 (litF (List.length [IntKind.i64]) ([x] ++ []))), (0, Blk.row true [IntKind.i64] er nr cr fr)], next := 4 }) (y1) (y2)) ∧ (K y1 y2)))))))))))) ((TS ∧ (eN 1)) ∧ (((0 ≤ x) ∧ (x < (↑0 : Int))) ∧ ((false = false) ∧ ((Int.toNat x < 0) ∧ (T0 ∧ (T0 ∧ (∃ y0 : Value, (∃ y1 : List Blk, ((Go.Rx.Found 1 (vt [rsl 2 0 0 0, vi 0]) ({ h := [(2, Blk.row false [IntKind.i64] 3 0 0 (putF (litF (List.length [IntKind.i64]) []) (Int.toNat x) 0 v)), (1, Blk.row false [IntKind.i64] 3 1 1 (litF (List.length [IntKind.i64]) ([x] ++ []))), (0, Blk.row true [IntKind.i64] er nr cr fr)], next := 3 }) (y0) (y1)) ∧ (K y0 y1))))))))))))))))))))))))))) else (∃ y0 : Value, (∃ y1 : List Blk, ((Go.Rx.Found 1 (vt [vn, vi (Prod.snd (rck nr fr))]) ({ h := [(1, Blk.row false [IntKind.i64] 3 1 1 (litF (List.length [IntKind.i64]) ([x] ++ []))), (0, Blk.row true [IntKind.i64] er nr cr fr)], next := 2 }) (y0) (y1)) ∧ (K y0 y1))))))))))))))))))))))))
theorem con12B_rE (er nr cr : Nat) (fr : RF) (x : Int) (v : Int) (K : Value → List Blk → Prop) : con12B_rV er nr cr fr x v K = bodyX (mk XKB) (callN (mk XKB) 4) (con12B_rA er nr cr fr x v) Try.f12 [rsl 0 0 nr cr, .int .i64 x, .int .i64 v] (stOf [.row true [.i64] er nr cr fr]) fun v s' => ∃ v1 news, Rx.Found 1 v s' v1 news ∧ K v1 news := by kernel_rfl
set_option maxRecDepth 100000 in
set_option maxHeartbeats 4000000 in
set_option tactic.hygienic false in
theorem con12B_rP (er nr cr : Nat) (fr : RF) (x : Int) (v : Int) (K : Value → List Blk → Prop)  (hnr : nr ≤ 100000) (h1 : ¬ (rck nr fr).2 = 0) (h : K (.tuple ⟨[.slice none 0 0, .int .i64 ((rck nr fr).2)]⟩) []) : con12B_rV er nr cr fr x v K := by
  unfold con12B_rV

  repeat' (first | (with_reducible exact rfl) | (with_reducible exact trivial) | (with_reducible refine And.intro ?_ ?_) | (intro) | (with_reducible refine br_intro (fun hq => ?_) (fun hq => ?_)) | (with_reducible refine if_both (fun hz => ?_) (fun hz => ?_)) | fail)

  all_goals first
    | omega
    | assumption
    | contradiction
    | exact fin0 (by kernel_rfl) (by kernel_rfl) (by first | exact h | simpa using h)
    | (show 0 ≤ x; omega)
    | (show x < (nr : Int); omega)
    | exact absurd ((show inr _ _ _ by assumption) 0 (by omega)) h2
    | (rename Nat => i; have hi : i = 0 := (by omega); subst hi
       first | (show 0 ≤ x; omega) | (show x < (nr : Int); omega))
    | (rename Nat => i; have hi : i = 0 ∨ i = 1 := (by omega)
       rcases hi with rfl | rfl
       · first | (show 0 ≤ x; omega) | (show x < (nr : Int); omega)
       · first | (show 0 ≤ y; omega) | (show y < (nr : Int); omega))
    | (refine fin1t rfl ?_ (by kernel_rfl) (by kernel_rfl) (h _ (setR h1 (by omega)) _ (by assumption)); (intro i j hi hj; obtain rfl : j = 0 := (by simp at hj; omega); simp only [putF, cpyF, appF, shiftF, zF, Nat.min_self, Nat.sub_zero, Nat.add_zero, Nat.zero_add, Int.toNat_natCast, Int.toNat_zero]; repeat' split; all_goals first | rfl | omega | (simp_all; done) | (simp_all; omega)))
    | (exfalso; simp at hq; omega)
    | exact fin0 (by kernel_rfl) (by kernel_rfl) (h true ⟨fun _ => by assumption, fun _ => rfl⟩)
    | exact fin0 (by kernel_rfl) (by kernel_rfl) (h false ⟨fun e => (by cases e), fun e => absurd e (by assumption)⟩)
theorem con12B_ok : BodyOk (mk XKB) 4 Try.f12 con12B := by
  intro vs bs K hh hro
  clear hro
  unfold con12B at hh
  split at hh
  · rename_i vr x v
    rcases parse_inv hh with ⟨rfl, hh0⟩ | ⟨er, nr, cr, fr, btr, rfl, hnr, rfl, hh0⟩ <;> clear hh
    · obtain ⟨rfl, h1, hc⟩ := hh0
      exact ⟨_, cast (con12B_nE  x v K) (con12B_nP  x v K  h1 hc)⟩
    · obtain ⟨rfl, h1, hc⟩ := hh0
      exact ⟨_, cast (con12B_rE er nr cr fr x v K) (con12B_rP er nr cr fr x v K hnr h1 hc)⟩
  · exact hh.elim
theorem con12B_told : Told 12 (specOf con12B) := told (X := XKB) XKB_told (by kernel_rfl) (by kernel_rfl) (by kernel_rfl) con12B_ok
def con12X_rV (er nr cr : Nat) (fr : RF) (x : Int) (v : Int) (K : Value → List Blk → Prop) : Prop := (T0 ∧ (TS ∧ (T0 ∧ (T0 ∧ (T0 ∧ (T0 ∧ ((0 + nr ≤ nr) ∧ ((1 ≤ 1) ∧ ((eN 0) ∧ ((nr ≤ 100000) ∧ (((@Eq (List IntKind) ([IntKind.i64]) ([IntKind.i64])) ∧ ((eN nr) ∧ (eN cr))) ∧ ((eN 1) ∧ ((1 ≤ 100000) ∧ (((@Eq (List IntKind) ([IntKind.i64]) ([IntKind.i64])) ∧ ((eN 1) ∧ (eN 1))) ∧ (eB ∧ (((@Eq Int (Prod.snd (rck nr fr)) (0)) ∧ (¬inr nr 1 (litF (List.length [IntKind.i64]) ([x] ++ [])))) ∧ (T0 ∧ (T0 ∧ (∃ y0 : Value, (∃ y1 : List Blk, ((Go.Rx.Found 1 (vt [vn, vi 10]) ({ h := [(1, Blk.row false [IntKind.i64] 3 1 1 (litF (List.length [IntKind.i64]) ([x] ++ []))), (0, Blk.row true [IntKind.i64] er nr cr fr)], next := 2 }) (y0) (y1)) ∧ (K y0 y1))))))))))))))))))))))
theorem con12X_rE (er nr cr : Nat) (fr : RF) (x : Int) (v : Int) (K : Value → List Blk → Prop) : con12X_rV er nr cr fr x v K = bodyX (mk XKX) (callN (mk XKX) 4) (con12X_rA er nr cr fr x v) Try.f12 [rsl 0 0 nr cr, .int .i64 x, .int .i64 v] (stOf [.row true [.i64] er nr cr fr]) fun v s' => ∃ v1 news, Rx.Found 1 v s' v1 news ∧ K v1 news := by kernel_rfl
set_option maxRecDepth 100000 in
set_option maxHeartbeats 4000000 in
set_option tactic.hygienic false in
theorem con12X_rP (er nr cr : Nat) (fr : RF) (x : Int) (v : Int) (K : Value → List Blk → Prop)  (hnr : nr ≤ 100000) (h1 : (rck nr fr).2 = 0) (h2 : ¬ (0 ≤ x ∧ x < (nr : Nat))) (h : K (.tuple ⟨[.slice none 0 0, .int .i64 (10)]⟩) []) : con12X_rV er nr cr fr x v K := by
  unfold con12X_rV
  obtain ⟨g1, g2, g3⟩ := rck_ok h1

  repeat' (first | (with_reducible exact rfl) | (with_reducible exact trivial) | (with_reducible refine And.intro ?_ ?_) | (intro) | (with_reducible refine br_intro (fun hq => ?_) (fun hq => ?_)) | (with_reducible refine if_both (fun hz => ?_) (fun hz => ?_)) | fail)

  all_goals first
    | omega
    | assumption
    | contradiction
    | exact fin0 (by kernel_rfl) (by kernel_rfl) (by first | exact h | simpa using h)
    | (show 0 ≤ x; omega)
    | (show x < (nr : Int); omega)
    | exact absurd ((show inr _ _ _ by assumption) 0 (by omega)) h2
    | (rename Nat => i; have hi : i = 0 := (by omega); subst hi
       first | (show 0 ≤ x; omega) | (show x < (nr : Int); omega))
    | (rename Nat => i; have hi : i = 0 ∨ i = 1 := (by omega)
       rcases hi with rfl | rfl
       · first | (show 0 ≤ x; omega) | (show x < (nr : Int); omega)
       · first | (show 0 ≤ y; omega) | (show y < (nr : Int); omega))
    | (refine fin1t rfl ?_ (by kernel_rfl) (by kernel_rfl) (h _ (setR h1 (by omega)) _ (by assumption)); (intro i j hi hj; obtain rfl : j = 0 := (by simp at hj; omega); simp only [putF, cpyF, appF, shiftF, zF, Nat.min_self, Nat.sub_zero, Nat.add_zero, Nat.zero_add, Int.toNat_natCast, Int.toNat_zero]; repeat' split; all_goals first | rfl | omega | (simp_all; done) | (simp_all; omega)))
    | (exfalso; simp at hq; omega)
    | exact fin0 (by kernel_rfl) (by kernel_rfl) (h true ⟨fun _ => by assumption, fun _ => rfl⟩)
    | exact fin0 (by kernel_rfl) (by kernel_rfl) (h false ⟨fun e => (by cases e), fun e => absurd e (by assumption)⟩)
theorem con12X_ok : BodyOk (mk XKX) 4 Try.f12 con12X := by
  intro vs bs K hh hro
  clear hro
  unfold con12X at hh
  split at hh
  · rename_i vr x v
    obtain ⟨er, nr, cr, fr, btr, rfl, hnr, rfl, hh0⟩ := parseR_inv hh
    obtain ⟨rfl, ⟨h1, h2⟩, hc⟩ := hh0
    exact ⟨_, cast (con12X_rE er nr cr fr x v K) (con12X_rP er nr cr fr x v K hnr h1 h2 hc)⟩
  · exact hh.elim
theorem con12X_told : Told 12 (specOf con12X) := told (X := XKX) XKX_told (by kernel_rfl) (by kernel_rfl) (by kernel_rfl) con12X_ok
def con12R_rV (er nr cr : Nat) (fr : RF) (x : Int) (v : Int) (K : Value → List Blk → Prop) : Prop := (T0 ∧ (TS ∧ (T0 ∧ (T0 ∧ (T0 ∧ (T0 ∧ ((0 + nr ≤ nr) ∧ ((1 ≤ 1) ∧ ((eN 0) ∧ ((nr ≤ 100000) ∧ (((@Eq (List IntKind) ([IntKind.i64]) ([IntKind.i64])) ∧ ((eN nr) ∧ (eN cr))) ∧ ((eN 1) ∧ ((1 ≤ 100000) ∧ (((@Eq (List IntKind) ([IntKind.i64]) ([IntKind.i64])) ∧ ((eN 1) ∧ (eN 1))) ∧ (eB ∧ (((@Eq Int (Prod.snd (rck nr fr)) (0)) ∧ (∀ y0 : Nat, ((y0 < 1) → ((0 ≤ litF (List.length [IntKind.i64]) ([x] ++ []) y0 0) ∧ (litF (List.length [IntKind.i64]) ([x] ++ []) y0 0 < (↑nr : Int)))))) ∧ (T0 ∧ (T0 ∧ (if (v < 0) then (T0 ∧ (∃ y0 : Value, (∃ y1 : List Blk, ((Go.Rx.Found 1 (vt [vn, vi 7]) ({ h := [(1, Blk.row false [IntKind.i64] 3 1 1 (litF (List.length [IntKind.i64]) ([x] ++ []))), (0, Blk.row true [IntKind.i64] er nr cr fr)], next := 2 }) (y0) (y1)) ∧ (K y0 y1))))) else (T0 ∧ (if (1600 < v) then (T0 ∧ (∃ y0 : Value, (∃ y1 : List Blk, ((Go.Rx.Found 1 (vt [vn, vi 7]) ({ h := [(1, Blk.row false [IntKind.i64] 3 1 1 (litF (List.length [IntKind.i64]) ([x] ++ []))), (0, Blk.row true [IntKind.i64] er nr cr fr)], next := 2 }) (y0) (y1)) ∧ (K y0 y1))))) else (T0 ∧ (T0 ∧ (TS ∧ (T0 ∧ (T0 ∧ (T0 ∧ (T0 ∧ (TS ∧ (TS ∧ (T0 ∧ (T0 ∧ (T0 ∧ (T0 ∧ ((0 + nr ≤ nr) ∧ ((nr ≤ 100000) ∧ (T0 ∧ ((eN 0) ∧ (Go.Rx.br (decide (0 < nr)) (∀ y0 : Nat, ((nr ≤ y0) → ((TS ∧ (eN 1)) ∧ (((0 ≤ x) ∧ (x < (↑nr : Int))) ∧ ((false = false) ∧ ((Int.toNat x < nr) ∧ (T0 ∧ (T0 ∧ (∃ y1 : Value, (∃ y2 : List Blk, ((Go.Rx.Found 1 (vt [rsl 3 0 nr y0, vi 0]) ({ h := [(3, Blk.row false [IntKind.i64] 3 nr y0 (putF (appF (fun x x_1 ↦ 0) 0 fr 0) (Int.toNat x) 0 v)), (2, Blk.row false [IntKind.i64] 3 0 0 (litF (List.length [IntKind.i64]) [])), (1, Blk.row false [IntKind.i64] 3 1 1 (litF (List.length [IntKind.i64]) ([x] ++ []))), (0, Blk.row true [IntKind.i64] er nr cr fr)], next := 4 }) (y1) (y2)) ∧ (K y1 y2)))))))))))) ((TS ∧ (eN 1)) ∧ (((0 ≤ x) ∧ (x < (↑0 : Int))) ∧ ((false = false) ∧ ((Int.toNat x < 0) ∧ (T0 ∧ (T0 ∧ (∃ y0 : Value, (∃ y1 : List Blk, ((Go.Rx.Found 1 (vt [rsl 2 0 0 0, vi 0]) ({ h := [(2, Blk.row false [IntKind.i64] 3 0 0 (putF (litF (List.length [IntKind.i64]) []) (Int.toNat x) 0 v)), (1, Blk.row false [IntKind.i64] 3 1 1 (litF (List.length [IntKind.i64]) ([x] ++ []))), (0, Blk.row true [IntKind.i64] er nr cr fr)], next := 3 }) (y0) (y1)) ∧ (K y0 y1)))))))))))))))))))))))))))))))))))))))))))))))))
theorem con12R_rE (er nr cr : Nat) (fr : RF) (x : Int) (v : Int) (K : Value → List Blk → Prop) : con12R_rV er nr cr fr x v K = bodyX (mk XKG) (callN (mk XKG) 4) (con12R_rA er nr cr fr x v) Try.f12 [rsl 0 0 nr cr, .int .i64 x, .int .i64 v] (stOf [.row true [.i64] er nr cr fr]) fun v s' => ∃ v1 news, Rx.Found 1 v s' v1 news ∧ K v1 news := by kernel_rfl
set_option maxRecDepth 100000 in
set_option maxHeartbeats 4000000 in
set_option tactic.hygienic false in
theorem con12R_rP (er nr cr : Nat) (fr : RF) (x : Int) (v : Int) (K : Value → List Blk → Prop)  (hnr : nr ≤ 100000) (h1 : (rck nr fr).2 = 0) (h2 : 0 ≤ x ∧ x < (nr : Nat)) (h3 : ¬ (0 ≤ v ∧ v ≤ 1600)) (h : K (.tuple ⟨[.slice none 0 0, .int .i64 (7)]⟩) []) : con12R_rV er nr cr fr x v K := by
  unfold con12R_rV
  obtain ⟨g1, g2, g3⟩ := rck_ok h1

  repeat' (first | (with_reducible exact rfl) | (with_reducible exact trivial) | (with_reducible refine And.intro ?_ ?_) | (intro) | (with_reducible refine br_intro (fun hq => ?_) (fun hq => ?_)) | (with_reducible refine if_both (fun hz => ?_) (fun hz => ?_)) | fail)

  all_goals first
    | omega
    | assumption
    | contradiction
    | exact fin0 (by kernel_rfl) (by kernel_rfl) (by first | exact h | simpa using h)
    | (show 0 ≤ x; omega)
    | (show x < (nr : Int); omega)
    | exact absurd ((show inr _ _ _ by assumption) 0 (by omega)) h2
    | (rename Nat => i; have hi : i = 0 := (by omega); subst hi
       first | (show 0 ≤ x; omega) | (show x < (nr : Int); omega))
    | (rename Nat => i; have hi : i = 0 ∨ i = 1 := (by omega)
       rcases hi with rfl | rfl
       · first | (show 0 ≤ x; omega) | (show x < (nr : Int); omega)
       · first | (show 0 ≤ y; omega) | (show y < (nr : Int); omega))
    | (refine fin1t rfl ?_ (by kernel_rfl) (by kernel_rfl) (h _ (setR h1 (by omega)) _ (by assumption)); (intro i j hi hj; obtain rfl : j = 0 := (by simp at hj; omega); simp only [putF, cpyF, appF, shiftF, zF, Nat.min_self, Nat.sub_zero, Nat.add_zero, Nat.zero_add, Int.toNat_natCast, Int.toNat_zero]; repeat' split; all_goals first | rfl | omega | (simp_all; done) | (simp_all; omega)))
    | (exfalso; simp at hq; omega)
    | exact fin0 (by kernel_rfl) (by kernel_rfl) (h true ⟨fun _ => by assumption, fun _ => rfl⟩)
    | exact fin0 (by kernel_rfl) (by kernel_rfl) (h false ⟨fun e => (by cases e), fun e => absurd e (by assumption)⟩)
theorem con12R_ok : BodyOk (mk XKG) 4 Try.f12 con12R := by
  intro vs bs K hh hro
  clear hro
  unfold con12R at hh
  split at hh
  · rename_i vr x v
    obtain ⟨er, nr, cr, fr, btr, rfl, hnr, rfl, hh0⟩ := parseR_inv hh
    obtain ⟨rfl, ⟨h1, h2, h3⟩, hc⟩ := hh0
    exact ⟨_, cast (con12R_rE er nr cr fr x v K) (con12R_rP er nr cr fr x v K hnr h1 h2 h3 hc)⟩
  · exact hh.elim
theorem con12R_told : Told 12 (specOf con12R) := told (X := XKG) XKG_told (by kernel_rfl) (by kernel_rfl) (by kernel_rfl) con12R_ok
def con12G_rV (er nr cr : Nat) (fr : RF) (x : Int) (v : Int) (K : Value → List Blk → Prop) : Prop := (T0 ∧ (TS ∧ (T0 ∧ (T0 ∧ (T0 ∧ (T0 ∧ ((0 + nr ≤ nr) ∧ ((1 ≤ 1) ∧ ((eN 0) ∧ ((nr ≤ 100000) ∧ (((@Eq (List IntKind) ([IntKind.i64]) ([IntKind.i64])) ∧ ((eN nr) ∧ (eN cr))) ∧ ((eN 1) ∧ ((1 ≤ 100000) ∧ (((@Eq (List IntKind) ([IntKind.i64]) ([IntKind.i64])) ∧ ((eN 1) ∧ (eN 1))) ∧ (eB ∧ (((@Eq Int (Prod.snd (rck nr fr)) (0)) ∧ (∀ y0 : Nat, ((y0 < 1) → ((0 ≤ litF (List.length [IntKind.i64]) ([x] ++ []) y0 0) ∧ (litF (List.length [IntKind.i64]) ([x] ++ []) y0 0 < (↑nr : Int)))))) ∧ (T0 ∧ (T0 ∧ (if (v < 0) then (T0 ∧ (∃ y0 : Value, (∃ y1 : List Blk, ((Go.Rx.Found 1 (vt [vn, vi 7]) ({ h := [(1, Blk.row false [IntKind.i64] 3 1 1 (litF (List.length [IntKind.i64]) ([x] ++ []))), (0, Blk.row true [IntKind.i64] er nr cr fr)], next := 2 }) (y0) (y1)) ∧ (K y0 y1))))) else (T0 ∧ (if (1600 < v) then (T0 ∧ (∃ y0 : Value, (∃ y1 : List Blk, ((Go.Rx.Found 1 (vt [vn, vi 7]) ({ h := [(1, Blk.row false [IntKind.i64] 3 1 1 (litF (List.length [IntKind.i64]) ([x] ++ []))), (0, Blk.row true [IntKind.i64] er nr cr fr)], next := 2 }) (y0) (y1)) ∧ (K y0 y1))))) else (T0 ∧ (T0 ∧ (TS ∧ (T0 ∧ (T0 ∧ (T0 ∧ (T0 ∧ (TS ∧ (TS ∧ (T0 ∧ (T0 ∧ (T0 ∧ (T0 ∧ ((0 + nr ≤ nr) ∧ ((nr ≤ 100000) ∧ (T0 ∧ ((eN 0) ∧ (Go.Rx.br (decide (0 < nr)) (∀ y0 : Nat, ((nr ≤ y0) → ((TS ∧ (eN 1)) ∧ (((0 ≤ x) ∧ (x < (↑nr : Int))) ∧ ((false = false) ∧ ((Int.toNat x < nr) ∧ (T0 ∧ (T0 ∧ (∃ y1 : Value, (∃ y2 : List Blk, ((Go.Rx.Found 1 (vt [rsl 3 0 nr y0, vi 0]) ({ h := [(3, Blk.row false [IntKind.i64] 3 nr y0 (putF (appF (fun x x_1 ↦ 0) 0 fr 0) (Int.toNat x) 0 v)), (2, Blk.row false [IntKind.i64] 3 0 0 (litF (List.length [IntKind.i64]) [])), (1, Blk.row false [IntKind.i64] 3 1 1 (litF (List.length [IntKind.i64]) ([x] ++ []))), (0, Blk.row true [IntKind.i64] er nr cr fr)], next := 4 }) (y1) (y2)) ∧ (K y1 y2)))))))))))) ((TS ∧ (eN 1)) ∧ (((0 ≤ x) ∧ (x < (↑0 : Int))) ∧ ((false = false) ∧ ((Int.toNat x < 0) ∧ (T0 ∧ (T0 ∧ (∃ y0 : Value, (∃ y1 : List Blk, ((Go.Rx.Found 1 (vt [rsl 2 0 0 0, vi 0]) ({ h := [(2, Blk.row false [IntKind.i64] 3 0 0 (putF (litF (List.length [IntKind.i64]) []) (Int.toNat x) 0 v)), (1, Blk.row false [IntKind.i64] 3 1 1 (litF (List.length [IntKind.i64]) ([x] ++ []))), (0, Blk.row true [IntKind.i64] er nr cr fr)], next := 3 }) (y0) (y1)) ∧ (K y0 y1)))))))))))))))))))))))))))))))))))))))))))))))))
theorem con12G_rE (er nr cr : Nat) (fr : RF) (x : Int) (v : Int) (K : Value → List Blk → Prop) : con12G_rV er nr cr fr x v K = bodyX (mk XKG) (callN (mk XKG) 4) (con12G_rA er nr cr fr x v) Try.f12 [rsl 0 0 nr cr, .int .i64 x, .int .i64 v] (stOf [.row true [.i64] er nr cr fr]) fun v s' => ∃ v1 news, Rx.Found 1 v s' v1 news ∧ K v1 news := by kernel_rfl
set_option maxRecDepth 100000 in
set_option maxHeartbeats 4000000 in
set_option tactic.hygienic false in
theorem con12G_rP (er nr cr : Nat) (fr : RF) (x : Int) (v : Int) (K : Value → List Blk → Prop)  (hnr : nr ≤ 100000) (h1 : (rck nr fr).2 = 0) (h2 : 0 ≤ x ∧ x < (nr : Nat)) (h3 : 0 ≤ v ∧ v ≤ 1600) (h : ∀ g, SetR nr fr x (v) g → ∀ cp, nr ≤ cp → K (.tuple ⟨[rsl 1 0 nr cp, .int .i64 0]⟩) [.row false [.i64] 3 nr cp g]) : con12G_rV er nr cr fr x v K := by
  unfold con12G_rV
  obtain ⟨g1, g2, g3⟩ := rck_ok h1

  repeat' (first | (with_reducible exact rfl) | (with_reducible exact trivial) | (with_reducible refine And.intro ?_ ?_) | (intro) | (with_reducible refine br_intro (fun hq => ?_) (fun hq => ?_)) | (with_reducible refine if_both (fun hz => ?_) (fun hz => ?_)) | fail)

  all_goals first
    | omega
    | assumption
    | contradiction
    | exact fin0 (by kernel_rfl) (by kernel_rfl) (by first | exact h | simpa using h)
    | (show 0 ≤ x; omega)
    | (show x < (nr : Int); omega)
    | exact absurd ((show inr _ _ _ by assumption) 0 (by omega)) h2
    | (rename Nat => i; have hi : i = 0 := (by omega); subst hi
       first | (show 0 ≤ x; omega) | (show x < (nr : Int); omega))
    | (rename Nat => i; have hi : i = 0 ∨ i = 1 := (by omega)
       rcases hi with rfl | rfl
       · first | (show 0 ≤ x; omega) | (show x < (nr : Int); omega)
       · first | (show 0 ≤ y; omega) | (show y < (nr : Int); omega))
    | (refine fin1t rfl ?_ (by kernel_rfl) (by kernel_rfl) (h _ (setR h1 h3) _ (by assumption)); (intro i j hi hj; obtain rfl : j = 0 := (by simp at hj; omega); simp only [putF, cpyF, appF, shiftF, zF, Nat.min_self, Nat.sub_zero, Nat.add_zero, Nat.zero_add, Int.toNat_natCast, Int.toNat_zero]; repeat' split; all_goals first | rfl | omega | (simp_all; done) | (simp_all; omega)))
    | (exfalso; simp at hq; omega)
    | exact fin0 (by kernel_rfl) (by kernel_rfl) (h true ⟨fun _ => by assumption, fun _ => rfl⟩)
    | exact fin0 (by kernel_rfl) (by kernel_rfl) (h false ⟨fun e => (by cases e), fun e => absurd e (by assumption)⟩)
theorem con12G_ok : BodyOk (mk XKG) 4 Try.f12 con12G := by
  intro vs bs K hh hro
  clear hro
  unfold con12G at hh
  split at hh
  · rename_i vr x v
    obtain ⟨er, nr, cr, fr, btr, rfl, hnr, rfl, hh0⟩ := parseR_inv hh
    obtain ⟨rfl, ⟨h1, h2, h3⟩, hc⟩ := hh0
    exact ⟨_, cast (con12G_rE er nr cr fr x v K) (con12G_rP er nr cr fr x v K hnr h1 h2 h3 hc)⟩
  · exact hh.elim
theorem con12G_told : Told 12 (specOf con12G) := told (X := XKG) XKG_told (by kernel_rfl) (by kernel_rfl) (by kernel_rfl) con12G_ok
def con14B_nV (x : Int) (y : Int) (K : Value → List Blk → Prop) : Prop := (T0 ∧ (TS ∧ (T0 ∧ (T0 ∧ (T0 ∧ (T0 ∧ (T0 ∧ ((2 ≤ 2) ∧ ((eN 0) ∧ ((2 ≤ 100000) ∧ (((@Eq (List IntKind) ([IntKind.i64]) ([IntKind.i64])) ∧ ((eN 2) ∧ (eN 2))) ∧ (eB ∧ ((¬Prod.snd (rck 0 zF) = 0) ∧ (T0 ∧ (∃ y0 : Value, (∃ y1 : List Blk, ((Go.Rx.Found 0 (vt [vn, vi 7]) ({ h := [(0, Blk.row false [IntKind.i64] 3 2 2 (litF (List.length [IntKind.i64]) ([x] ++ ([y] ++ []))))], next := 1 }) (y0) (y1)) ∧ (K y0 y1))))))))))))))))))
theorem con14B_nE (x : Int) (y : Int) (K : Value → List Blk → Prop) : con14B_nV x y K = bodyX (mk XKB) (callN (mk XKB) 4) (con14B_nA x y) Try.f14 [.slice none 0 0, .int .i64 x, .int .i64 y] (stOf []) fun v s' => ∃ v1 news, Rx.Found 0 v s' v1 news ∧ K v1 news := by kernel_rfl
set_option maxRecDepth 100000 in
set_option maxHeartbeats 4000000 in
set_option tactic.hygienic false in
theorem con14B_nP (x : Int) (y : Int) (K : Value → List Blk → Prop)  (h1 : ¬ (rck 0 zF).2 = 0) (h : K (.tuple ⟨[.slice none 0 0, .int .i64 ((rck 0 zF).2)]⟩) []) : con14B_nV x y K := by
  unfold con14B_nV

  repeat' (first | (with_reducible exact rfl) | (with_reducible exact trivial) | (with_reducible refine And.intro ?_ ?_) | (intro) | (with_reducible refine br_intro (fun hq => ?_) (fun hq => ?_)) | (with_reducible refine if_both (fun hz => ?_) (fun hz => ?_)) | fail)

  all_goals first
    | omega
    | assumption
    | contradiction
    | exact fin0 (by kernel_rfl) (by kernel_rfl) (by first | exact h | simpa using h)
    | (show 0 ≤ x; omega)
    | (show x < (nr : Int); omega)
    | exact absurd ((show inr _ _ _ by assumption) 0 (by omega)) h2
    | (rename Nat => i; have hi : i = 0 := (by omega); subst hi
       first | (show 0 ≤ x; omega) | (show x < (nr : Int); omega))
    | (rename Nat => i; have hi : i = 0 ∨ i = 1 := (by omega)
       rcases hi with rfl | rfl
       · first | (show 0 ≤ x; omega) | (show x < (nr : Int); omega)
       · first | (show 0 ≤ y; omega) | (show y < (nr : Int); omega))
    | (refine fin1t rfl ?_ (by kernel_rfl) (by kernel_rfl) (h _ (setR h1 (by omega)) _ (by assumption)); (intro i j hi hj; obtain rfl : j = 0 := (by simp at hj; omega); simp only [putF, cpyF, appF, shiftF, zF, Nat.min_self, Nat.sub_zero, Nat.add_zero, Nat.zero_add, Int.toNat_natCast, Int.toNat_zero]; repeat' split; all_goals first | rfl | omega | (simp_all; done) | (simp_all; omega)))
    | (exfalso; simp at hq; omega)
    | exact fin0 (by kernel_rfl) (by kernel_rfl) (h true ⟨fun _ => by assumption, fun _ => rfl⟩)
    | exact fin0 (by kernel_rfl) (by kernel_rfl) (h false ⟨fun e => (by cases e), fun e => absurd e (by assumption)⟩)
def con14B_rV (er nr cr : Nat) (fr : RF) (x : Int) (y : Int) (K : Value → List Blk → Prop) : Prop := (T0 ∧ (TS ∧ (T0 ∧ (T0 ∧ (T0 ∧ (T0 ∧ ((0 + nr ≤ nr) ∧ ((2 ≤ 2) ∧ ((eN 0) ∧ ((nr ≤ 100000) ∧ (((@Eq (List IntKind) ([IntKind.i64]) ([IntKind.i64])) ∧ ((eN nr) ∧ (eN cr))) ∧ ((eN 1) ∧ ((2 ≤ 100000) ∧ (((@Eq (List IntKind) ([IntKind.i64]) ([IntKind.i64])) ∧ ((eN 2) ∧ (eN 2))) ∧ (eB ∧ ((¬Prod.snd (rck nr fr) = 0) ∧ (T0 ∧ (if (@Eq Int (Prod.snd (rck nr fr)) (0)) then ((TS ∧ (eN 1)) ∧ (((0 ≤ y) ∧ (y < (↑nr : Int))) ∧ ((Int.toNat y < nr) ∧ (T0 ∧ (TS ∧ (T0 ∧ (T0 ∧ (T0 ∧ (T0 ∧ (TS ∧ (TS ∧ (T0 ∧ (T0 ∧ (T0 ∧ (T0 ∧ ((0 + nr ≤ nr) ∧ ((nr ≤ 100000) ∧ (T0 ∧ ((eN 0) ∧ (Go.Rx.br (decide (0 < nr)) (∀ y0 : Nat, ((nr ≤ y0) → ((TS ∧ (eN 1)) ∧ (((0 ≤ x) ∧ (x < (↑nr : Int))) ∧ ((false = false) ∧ ((Int.toNat x < nr) ∧ (T0 ∧ (T0 ∧ (∃ y1 : Value, (∃ y2 : List Blk, ((Go.Rx.Found 1 (vt [rsl 3 0 nr y0, vi 0]) ({ h := [(3, Blk.row false [IntKind.i64] 3 nr y0 (putF (appF (fun x x_1 ↦ 0) 0 fr 0) (Int.toNat x) 0 (fr (Int.toNat y) 0))), (2, Blk.row false [IntKind.i64] 3 0 0 (litF (List.length [IntKind.i64]) [])), (1, Blk.row false [IntKind.i64] 3 2 2 (litF (List.length [IntKind.i64]) ([x] ++ ([y] ++ [])))), (0, Blk.row true [IntKind.i64] er nr cr fr)], next := 4 }) (y1) (y2)) ∧ (K y1 y2)))))))))))) ((TS ∧ (eN 1)) ∧ (((0 ≤ x) ∧ (x < (↑0 : Int))) ∧ ((false = false) ∧ ((Int.toNat x < 0) ∧ (T0 ∧ (T0 ∧ (∃ y0 : Value, (∃ y1 : List Blk, ((Go.Rx.Found 1 (vt [rsl 2 0 0 0, vi 0]) ({ h := [(2, Blk.row false [IntKind.i64] 3 0 0 (putF (litF (List.length [IntKind.i64]) []) (Int.toNat x) 0 (fr (Int.toNat y) 0))), (1, Blk.row false [IntKind.i64] 3 2 2 (litF (List.length [IntKind.i64]) ([x] ++ ([y] ++ [])))), (0, Blk.row true [IntKind.i64] er nr cr fr)], next := 3 }) (y0) (y1)) ∧ (K y0 y1)))))))))))))))))))))))))))))) else (∃ y0 : Value, (∃ y1 : List Blk, ((Go.Rx.Found 1 (vt [vn, vi (Prod.snd (rck nr fr))]) ({ h := [(1, Blk.row false [IntKind.i64] 3 2 2 (litF (List.length [IntKind.i64]) ([x] ++ ([y] ++ [])))), (0, Blk.row true [IntKind.i64] er nr cr fr)], next := 2 }) (y0) (y1)) ∧ (K y0 y1))))))))))))))))))))))
theorem con14B_rE (er nr cr : Nat) (fr : RF) (x : Int) (y : Int) (K : Value → List Blk → Prop) : con14B_rV er nr cr fr x y K = bodyX (mk XKB) (callN (mk XKB) 4) (con14B_rA er nr cr fr x y) Try.f14 [rsl 0 0 nr cr, .int .i64 x, .int .i64 y] (stOf [.row true [.i64] er nr cr fr]) fun v s' => ∃ v1 news, Rx.Found 1 v s' v1 news ∧ K v1 news := by kernel_rfl
set_option maxRecDepth 100000 in
set_option maxHeartbeats 4000000 in
set_option tactic.hygienic false in
theorem con14B_rP (er nr cr : Nat) (fr : RF) (x : Int) (y : Int) (K : Value → List Blk → Prop)  (hnr : nr ≤ 100000) (h1 : ¬ (rck nr fr).2 = 0) (h : K (.tuple ⟨[.slice none 0 0, .int .i64 ((rck nr fr).2)]⟩) []) : con14B_rV er nr cr fr x y K := by
  unfold con14B_rV

  repeat' (first | (with_reducible exact rfl) | (with_reducible exact trivial) | (with_reducible refine And.intro ?_ ?_) | (intro) | (with_reducible refine br_intro (fun hq => ?_) (fun hq => ?_)) | (with_reducible refine if_both (fun hz => ?_) (fun hz => ?_)) | fail)

  all_goals first
    | omega
    | assumption
    | contradiction
    | exact fin0 (by kernel_rfl) (by kernel_rfl) (by first | exact h | simpa using h)
    | (show 0 ≤ x; omega)
    | (show x < (nr : Int); omega)
    | exact absurd ((show inr _ _ _ by assumption) 0 (by omega)) h2
    | (rename Nat => i; have hi : i = 0 := (by omega); subst hi
       first | (show 0 ≤ x; omega) | (show x < (nr : Int); omega))
    | (rename Nat => i; have hi : i = 0 ∨ i = 1 := (by omega)
       rcases hi with rfl | rfl
       · first | (show 0 ≤ x; omega) | (show x < (nr : Int); omega)
       · first | (show 0 ≤ y; omega) | (show y < (nr : Int); omega))
    | (refine fin1t rfl ?_ (by kernel_rfl) (by kernel_rfl) (h _ (setR h1 (by omega)) _ (by assumption)); (intro i j hi hj; obtain rfl : j = 0 := (by simp at hj; omega); simp only [putF, cpyF, appF, shiftF, zF, Nat.min_self, Nat.sub_zero, Nat.add_zero, Nat.zero_add, Int.toNat_natCast, Int.toNat_zero]; repeat' split; all_goals first | rfl | omega | (simp_all; done) | (simp_all; omega)))
    | (exfalso; simp at hq; omega)
    | exact fin0 (by kernel_rfl) (by kernel_rfl) (h true ⟨fun _ => by assumption, fun _ => rfl⟩)
    | exact fin0 (by kernel_rfl) (by kernel_rfl) (h false ⟨fun e => (by cases e), fun e => absurd e (by assumption)⟩)
theorem con14B_ok : BodyOk (mk XKB) 4 Try.f14 con14B := by
  intro vs bs K hh hro
  clear hro
  unfold con14B at hh
  split at hh
  · rename_i vr x y
    rcases parse_inv hh with ⟨rfl, hh0⟩ | ⟨er, nr, cr, fr, btr, rfl, hnr, rfl, hh0⟩ <;> clear hh
    · obtain ⟨rfl, h1, hc⟩ := hh0
      exact ⟨_, cast (con14B_nE  x y K) (con14B_nP  x y K  h1 hc)⟩
    · obtain ⟨rfl, h1, hc⟩ := hh0
      exact ⟨_, cast (con14B_rE er nr cr fr x y K) (con14B_rP er nr cr fr x y K hnr h1 hc)⟩
  · exact hh.elim
theorem con14B_told : Told 14 (specOf con14B) := told (X := XKB) XKB_told (by kernel_rfl) (by kernel_rfl) (by kernel_rfl) con14B_ok
def con14X_rV (er nr cr : Nat) (fr : RF) (x : Int) (y : Int) (K : Value → List Blk → Prop) : Prop := (T0 ∧ (TS ∧ (T0 ∧ (T0 ∧ (T0 ∧ (T0 ∧ ((0 + nr ≤ nr) ∧ ((2 ≤ 2) ∧ ((eN 0) ∧ ((nr ≤ 100000) ∧ (((@Eq (List IntKind) ([IntKind.i64]) ([IntKind.i64])) ∧ ((eN nr) ∧ (eN cr))) ∧ ((eN 1) ∧ ((2 ≤ 100000) ∧ (((@Eq (List IntKind) ([IntKind.i64]) ([IntKind.i64])) ∧ ((eN 2) ∧ (eN 2))) ∧ (eB ∧ (((@Eq Int (Prod.snd (rck nr fr)) (0)) ∧ (¬inr nr 2 (litF (List.length [IntKind.i64]) ([x] ++ ([y] ++ []))))) ∧ (T0 ∧ (∃ y0 : Value, (∃ y1 : List Blk, ((Go.Rx.Found 1 (vt [vn, vi 10]) ({ h := [(1, Blk.row false [IntKind.i64] 3 2 2 (litF (List.length [IntKind.i64]) ([x] ++ ([y] ++ [])))), (0, Blk.row true [IntKind.i64] er nr cr fr)], next := 2 }) (y0) (y1)) ∧ (K y0 y1)))))))))))))))))))))
theorem con14X_rE (er nr cr : Nat) (fr : RF) (x : Int) (y : Int) (K : Value → List Blk → Prop) : con14X_rV er nr cr fr x y K = bodyX (mk XKX) (callN (mk XKX) 4) (con14X_rA er nr cr fr x y) Try.f14 [rsl 0 0 nr cr, .int .i64 x, .int .i64 y] (stOf [.row true [.i64] er nr cr fr]) fun v s' => ∃ v1 news, Rx.Found 1 v s' v1 news ∧ K v1 news := by kernel_rfl
set_option maxRecDepth 100000 in
set_option maxHeartbeats 4000000 in
set_option tactic.hygienic false in
theorem con14X_rP (er nr cr : Nat) (fr : RF) (x : Int) (y : Int) (K : Value → List Blk → Prop)  (hnr : nr ≤ 100000) (h1 : (rck nr fr).2 = 0) (h2 : ¬ ((0 ≤ x ∧ x < (nr : Nat)) ∧ (0 ≤ y ∧ y < (nr : Nat)))) (h : K (.tuple ⟨[.slice none 0 0, .int .i64 (10)]⟩) []) : con14X_rV er nr cr fr x y K := by
  unfold con14X_rV
  obtain ⟨g1, g2, g3⟩ := rck_ok h1

  repeat' (first | (with_reducible exact rfl) | (with_reducible exact trivial) | (with_reducible refine And.intro ?_ ?_) | (intro) | (with_reducible refine br_intro (fun hq => ?_) (fun hq => ?_)) | (with_reducible refine if_both (fun hz => ?_) (fun hz => ?_)) | fail)

  all_goals first
    | omega
    | assumption
    | contradiction
    | exact fin0 (by kernel_rfl) (by kernel_rfl) (by first | exact h | simpa using h)
    | (show 0 ≤ x; omega)
    | (show x < (nr : Int); omega)
    | exact absurd ((show inr _ _ _ by assumption) 0 (by omega)) h2
    | (rename Nat => i; have hi : i = 0 := (by omega); subst hi
       first | (show 0 ≤ x; omega) | (show x < (nr : Int); omega))
    | (rename Nat => i; have hi : i = 0 ∨ i = 1 := (by omega)
       rcases hi with rfl | rfl
       · first | (show 0 ≤ x; omega) | (show x < (nr : Int); omega)
       · first | (show 0 ≤ y; omega) | (show y < (nr : Int); omega))
    | (refine fin1t rfl ?_ (by kernel_rfl) (by kernel_rfl) (h _ (setR h1 (by omega)) _ (by assumption)); (intro i j hi hj; obtain rfl : j = 0 := (by simp at hj; omega); simp only [putF, cpyF, appF, shiftF, zF, Nat.min_self, Nat.sub_zero, Nat.add_zero, Nat.zero_add, Int.toNat_natCast, Int.toNat_zero]; repeat' split; all_goals first | rfl | omega | (simp_all; done) | (simp_all; omega)))
    | (exfalso; simp at hq; omega)
    | exact fin0 (by kernel_rfl) (by kernel_rfl) (h true ⟨fun _ => by assumption, fun _ => rfl⟩)
    | exact fin0 (by kernel_rfl) (by kernel_rfl) (h false ⟨fun e => (by cases e), fun e => absurd e (by assumption)⟩)
    | exact absurd ⟨(show inr _ _ _ by assumption) 0 (by omega), (show inr _ _ _ by assumption) 1 (by omega)⟩ h2
theorem con14X_ok : BodyOk (mk XKX) 4 Try.f14 con14X := by
  intro vs bs K hh hro
  clear hro
  unfold con14X at hh
  split at hh
  · rename_i vr x y
    obtain ⟨er, nr, cr, fr, btr, rfl, hnr, rfl, hh0⟩ := parseR_inv hh
    obtain ⟨rfl, ⟨h1, h2⟩, hc⟩ := hh0
    exact ⟨_, cast (con14X_rE er nr cr fr x y K) (con14X_rP er nr cr fr x y K hnr h1 h2 hc)⟩
  · exact hh.elim
theorem con14X_told : Told 14 (specOf con14X) := told (X := XKX) XKX_told (by kernel_rfl) (by kernel_rfl) (by kernel_rfl) con14X_ok
def con14G_rV (er nr cr : Nat) (fr : RF) (x : Int) (y : Int) (K : Value → List Blk → Prop) : Prop := (T0 ∧ (TS ∧ (T0 ∧ (T0 ∧ (T0 ∧ (T0 ∧ ((0 + nr ≤ nr) ∧ ((2 ≤ 2) ∧ ((eN 0) ∧ ((nr ≤ 100000) ∧ (((@Eq (List IntKind) ([IntKind.i64]) ([IntKind.i64])) ∧ ((eN nr) ∧ (eN cr))) ∧ ((eN 1) ∧ ((2 ≤ 100000) ∧ (((@Eq (List IntKind) ([IntKind.i64]) ([IntKind.i64])) ∧ ((eN 2) ∧ (eN 2))) ∧ (eB ∧ (((@Eq Int (Prod.snd (rck nr fr)) (0)) ∧ (∀ y0 : Nat, ((y0 < 2) → ((0 ≤ litF (List.length [IntKind.i64]) ([x] ++ ([y] ++ [])) y0 0) ∧ (litF (List.length [IntKind.i64]) ([x] ++ ([y] ++ [])) y0 0 < (↑nr : Int)))))) ∧ (T0 ∧ ((TS ∧ (eN 1)) ∧ (((0 ≤ y) ∧ (y < (↑nr : Int))) ∧ ((Int.toNat y < nr) ∧ (T0 ∧ (TS ∧ (T0 ∧ (T0 ∧ (T0 ∧ (T0 ∧ (TS ∧ (TS ∧ (T0 ∧ (T0 ∧ (T0 ∧ (T0 ∧ ((0 + nr ≤ nr) ∧ ((nr ≤ 100000) ∧ (T0 ∧ ((eN 0) ∧ (Go.Rx.br (decide (0 < nr)) (∀ y0 : Nat, ((nr ≤ y0) → ((TS ∧ (eN 1)) ∧ (((0 ≤ x) ∧ (x < (↑nr : Int))) ∧ ((false = false) ∧ ((Int.toNat x < nr) ∧ (T0 ∧ (T0 ∧ (∃ y1 : Value, (∃ y2 : List Blk, ((Go.Rx.Found 1 (vt [rsl 3 0 nr y0, vi 0]) ({ h := [(3, Blk.row false [IntKind.i64] 3 nr y0 (putF (appF (fun x x_1 ↦ 0) 0 fr 0) (Int.toNat x) 0 (fr (Int.toNat y) 0))), (2, Blk.row false [IntKind.i64] 3 0 0 (litF (List.length [IntKind.i64]) [])), (1, Blk.row false [IntKind.i64] 3 2 2 (litF (List.length [IntKind.i64]) ([x] ++ ([y] ++ [])))), (0, Blk.row true [IntKind.i64] er nr cr fr)], next := 4 }) (y1) (y2)) ∧ (K y1 y2)))))))))))) ((TS ∧ (eN 1)) ∧ (((0 ≤ x) ∧ (x < (↑0 : Int))) ∧ ((false = false) ∧ ((Int.toNat x < 0) ∧ (T0 ∧ (T0 ∧ (∃ y0 : Value, (∃ y1 : List Blk, ((Go.Rx.Found 1 (vt [rsl 2 0 0 0, vi 0]) ({ h := [(2, Blk.row false [IntKind.i64] 3 0 0 (putF (litF (List.length [IntKind.i64]) []) (Int.toNat x) 0 (fr (Int.toNat y) 0))), (1, Blk.row false [IntKind.i64] 3 2 2 (litF (List.length [IntKind.i64]) ([x] ++ ([y] ++ [])))), (0, Blk.row true [IntKind.i64] er nr cr fr)], next := 3 }) (y0) (y1)) ∧ (K y0 y1)))))))))))))))))))))))))))))))))))))))))))))))
theorem con14G_rE (er nr cr : Nat) (fr : RF) (x : Int) (y : Int) (K : Value → List Blk → Prop) : con14G_rV er nr cr fr x y K = bodyX (mk XKG) (callN (mk XKG) 4) (con14G_rA er nr cr fr x y) Try.f14 [rsl 0 0 nr cr, .int .i64 x, .int .i64 y] (stOf [.row true [.i64] er nr cr fr]) fun v s' => ∃ v1 news, Rx.Found 1 v s' v1 news ∧ K v1 news := by kernel_rfl
set_option maxRecDepth 100000 in
set_option maxHeartbeats 4000000 in
set_option tactic.hygienic false in
theorem con14G_rP (er nr cr : Nat) (fr : RF) (x : Int) (y : Int) (K : Value → List Blk → Prop)  (hnr : nr ≤ 100000) (h1 : (rck nr fr).2 = 0) (h2 : 0 ≤ x ∧ x < (nr : Nat)) (h3 : 0 ≤ y ∧ y < (nr : Nat)) (h : ∀ g, SetR nr fr x (fr y.toNat 0) g → ∀ cp, nr ≤ cp → K (.tuple ⟨[rsl 1 0 nr cp, .int .i64 0]⟩) [.row false [.i64] 3 nr cp g]) : con14G_rV er nr cr fr x y K := by
  unfold con14G_rV
  obtain ⟨g1, g2, g3⟩ := rck_ok h1

  repeat' (first | (with_reducible exact rfl) | (with_reducible exact trivial) | (with_reducible refine And.intro ?_ ?_) | (intro) | (with_reducible refine br_intro (fun hq => ?_) (fun hq => ?_)) | (with_reducible refine if_both (fun hz => ?_) (fun hz => ?_)) | fail)

  all_goals first
    | omega
    | assumption
    | contradiction
    | exact fin0 (by kernel_rfl) (by kernel_rfl) (by first | exact h | simpa using h)
    | (show 0 ≤ x; omega)
    | (show x < (nr : Int); omega)
    | exact absurd ((show inr _ _ _ by assumption) 0 (by omega)) h2
    | (rename Nat => i; have hi : i = 0 := (by omega); subst hi
       first | (show 0 ≤ x; omega) | (show x < (nr : Int); omega))
    | (rename Nat => i; have hi : i = 0 ∨ i = 1 := (by omega)
       rcases hi with rfl | rfl
       · first | (show 0 ≤ x; omega) | (show x < (nr : Int); omega)
       · first | (show 0 ≤ y; omega) | (show y < (nr : Int); omega))
    | (refine fin1t rfl ?_ (by kernel_rfl) (by kernel_rfl) (h _ (setR h1 (g3 y.toNat (by omega))) _ (by assumption)); (intro i j hi hj; obtain rfl : j = 0 := (by simp at hj; omega); simp only [putF, cpyF, appF, shiftF, zF, Nat.min_self, Nat.sub_zero, Nat.add_zero, Nat.zero_add, Int.toNat_natCast, Int.toNat_zero]; repeat' split; all_goals first | rfl | omega | (simp_all; done) | (simp_all; omega)))
    | (exfalso; simp at hq; omega)
    | exact fin0 (by kernel_rfl) (by kernel_rfl) (h true ⟨fun _ => by assumption, fun _ => rfl⟩)
    | exact fin0 (by kernel_rfl) (by kernel_rfl) (h false ⟨fun e => (by cases e), fun e => absurd e (by assumption)⟩)
theorem con14G_ok : BodyOk (mk XKG) 4 Try.f14 con14G := by
  intro vs bs K hh hro
  clear hro
  unfold con14G at hh
  split at hh
  · rename_i vr x y
    obtain ⟨er, nr, cr, fr, btr, rfl, hnr, rfl, hh0⟩ := parseR_inv hh
    obtain ⟨rfl, ⟨h1, h2, h3⟩, hc⟩ := hh0
    exact ⟨_, cast (con14G_rE er nr cr fr x y K) (con14G_rP er nr cr fr x y K hnr h1 h2 h3 hc)⟩
  · exact hh.elim
theorem con14G_told : Told 14 (specOf con14G) := told (X := XKG) XKG_told (by kernel_rfl) (by kernel_rfl) (by kernel_rfl) con14G_ok
def con19B_nV (x : Int) (y : Int) (K : Value → List Blk → Prop) : Prop := (T0 ∧ (TS ∧ (T0 ∧ (T0 ∧ (T0 ∧ (T0 ∧ (T0 ∧ ((2 ≤ 2) ∧ ((eN 0) ∧ ((2 ≤ 100000) ∧ (((@Eq (List IntKind) ([IntKind.i64]) ([IntKind.i64])) ∧ ((eN 2) ∧ (eN 2))) ∧ (eB ∧ ((¬Prod.snd (rck 0 zF) = 0) ∧ (T0 ∧ (T0 ∧ (T0 ∧ (T0 ∧ (T0 ∧ (T0 ∧ (T0 ∧ (T0 ∧ (T0 ∧ (∃ y0 : Value, (∃ y1 : List Blk, ((Go.Rx.Found 0 (vt [Value.bool false, vi 7]) ({ h := [(0, Blk.row false [IntKind.i64] 3 2 2 (litF (List.length [IntKind.i64]) ([x] ++ ([y] ++ []))))], next := 1 }) (y0) (y1)) ∧ (K y0 y1))))))))))))))))))))))))))
theorem con19B_nE (x : Int) (y : Int) (K : Value → List Blk → Prop) : con19B_nV x y K = bodyX (mk XKB) (callN (mk XKB) 4) (con19B_nA x y) Try.f19 [.slice none 0 0, .int .i64 x, .int .i64 y] (stOf []) fun v s' => ∃ v1 news, Rx.Found 0 v s' v1 news ∧ K v1 news := by kernel_rfl
set_option maxRecDepth 100000 in
set_option maxHeartbeats 4000000 in
set_option tactic.hygienic false in
theorem con19B_nP (x : Int) (y : Int) (K : Value → List Blk → Prop)  (h1 : ¬ (rck 0 zF).2 = 0) (h : K (.tuple ⟨[.bool false, .int .i64 ((rck 0 zF).2)]⟩) []) : con19B_nV x y K := by
  unfold con19B_nV

  repeat' (first | (with_reducible exact rfl) | (with_reducible exact trivial) | (with_reducible refine And.intro ?_ ?_) | (intro) | (with_reducible refine br_intro (fun hq => ?_) (fun hq => ?_)) | (with_reducible refine if_both (fun hz => ?_) (fun hz => ?_)) | fail)

  all_goals first
    | omega
    | assumption
    | contradiction
    | exact fin0 (by kernel_rfl) (by kernel_rfl) (by first | exact h | simpa using h)
    | (show 0 ≤ x; omega)
    | (show x < (nr : Int); omega)
    | exact absurd ((show inr _ _ _ by assumption) 0 (by omega)) h2
    | (rename Nat => i; have hi : i = 0 := (by omega); subst hi
       first | (show 0 ≤ x; omega) | (show x < (nr : Int); omega))
    | (rename Nat => i; have hi : i = 0 ∨ i = 1 := (by omega)
       rcases hi with rfl | rfl
       · first | (show 0 ≤ x; omega) | (show x < (nr : Int); omega)
       · first | (show 0 ≤ y; omega) | (show y < (nr : Int); omega))
    | (refine fin1t rfl ?_ (by kernel_rfl) (by kernel_rfl) (h _ (setR h1 (by omega)) _ (by assumption)); (intro i j hi hj; obtain rfl : j = 0 := (by simp at hj; omega); simp only [putF, cpyF, appF, shiftF, zF, Nat.min_self, Nat.sub_zero, Nat.add_zero, Nat.zero_add, Int.toNat_natCast, Int.toNat_zero]; repeat' split; all_goals first | rfl | omega | (simp_all; done) | (simp_all; omega)))
    | (exfalso; simp at hq; omega)
    | exact fin0 (by kernel_rfl) (by kernel_rfl) (h true ⟨fun _ => by assumption, fun _ => rfl⟩)
    | exact fin0 (by kernel_rfl) (by kernel_rfl) (h false ⟨fun e => (by cases e), fun e => absurd e (by assumption)⟩)
def con19B_rV (er nr cr : Nat) (fr : RF) (x : Int) (y : Int) (K : Value → List Blk → Prop) : Prop := (T0 ∧ (TS ∧ (T0 ∧ (T0 ∧ (T0 ∧ (T0 ∧ ((0 + nr ≤ nr) ∧ ((2 ≤ 2) ∧ ((eN 0) ∧ ((nr ≤ 100000) ∧ (((@Eq (List IntKind) ([IntKind.i64]) ([IntKind.i64])) ∧ ((eN nr) ∧ (eN cr))) ∧ ((eN 1) ∧ ((2 ≤ 100000) ∧ (((@Eq (List IntKind) ([IntKind.i64]) ([IntKind.i64])) ∧ ((eN 2) ∧ (eN 2))) ∧ (eB ∧ ((¬Prod.snd (rck nr fr) = 0) ∧ (T0 ∧ (T0 ∧ (T0 ∧ (T0 ∧ (if (@Eq Int (Prod.snd (rck nr fr)) (0)) then (T0 ∧ (T0 ∧ (T0 ∧ (T0 ∧ ((TS ∧ (eN 1)) ∧ (((0 ≤ x) ∧ (x < (↑nr : Int))) ∧ (T0 ∧ ((Int.toNat x < nr) ∧ (T0 ∧ (T0 ∧ (T0 ∧ ((TS ∧ (eN 1)) ∧ (((0 ≤ y) ∧ (y < (↑nr : Int))) ∧ (T0 ∧ ((Int.toNat y < nr) ∧ (T0 ∧ (T0 ∧ (if (@Eq Int (fr (Int.toNat x) 0) (fr (Int.toNat y) 0)) then (T0 ∧ (T0 ∧ (T0 ∧ (T0 ∧ (∃ y0 : Value, (∃ y1 : List Blk, ((Go.Rx.Found 1 (vt [Value.bool true, vi (Prod.snd (rck nr fr))]) ({ h := [(1, Blk.row false [IntKind.i64] 3 2 2 (litF (List.length [IntKind.i64]) ([x] ++ ([y] ++ [])))), (0, Blk.row true [IntKind.i64] er nr cr fr)], next := 2 }) (y0) (y1)) ∧ (K y0 y1)))))))) else (T0 ∧ (T0 ∧ (T0 ∧ (T0 ∧ (∃ y0 : Value, (∃ y1 : List Blk, ((Go.Rx.Found 1 (vt [Value.bool false, vi (Prod.snd (rck nr fr))]) ({ h := [(1, Blk.row false [IntKind.i64] 3 2 2 (litF (List.length [IntKind.i64]) ([x] ++ ([y] ++ [])))), (0, Blk.row true [IntKind.i64] er nr cr fr)], next := 2 }) (y0) (y1)) ∧ (K y0 y1)))))))))))))))))))))))))) else (T0 ∧ (T0 ∧ (T0 ∧ (T0 ∧ (T0 ∧ (∃ y0 : Value, (∃ y1 : List Blk, ((Go.Rx.Found 1 (vt [Value.bool false, vi (Prod.snd (rck nr fr))]) ({ h := [(1, Blk.row false [IntKind.i64] 3 2 2 (litF (List.length [IntKind.i64]) ([x] ++ ([y] ++ [])))), (0, Blk.row true [IntKind.i64] er nr cr fr)], next := 2 }) (y0) (y1)) ∧ (K y0 y1))))))))))))))))))))))))))))))
theorem con19B_rE (er nr cr : Nat) (fr : RF) (x : Int) (y : Int) (K : Value → List Blk → Prop) : con19B_rV er nr cr fr x y K = bodyX (mk XKB) (callN (mk XKB) 4) (con19B_rA er nr cr fr x y) Try.f19 [rsl 0 0 nr cr, .int .i64 x, .int .i64 y] (stOf [.row true [.i64] er nr cr fr]) fun v s' => ∃ v1 news, Rx.Found 1 v s' v1 news ∧ K v1 news := by kernel_rfl
set_option maxRecDepth 100000 in
set_option maxHeartbeats 4000000 in
set_option tactic.hygienic false in
theorem con19B_rP (er nr cr : Nat) (fr : RF) (x : Int) (y : Int) (K : Value → List Blk → Prop)  (hnr : nr ≤ 100000) (h1 : ¬ (rck nr fr).2 = 0) (h : K (.tuple ⟨[.bool false, .int .i64 ((rck nr fr).2)]⟩) []) : con19B_rV er nr cr fr x y K := by
  unfold con19B_rV

  repeat' (first | (with_reducible exact rfl) | (with_reducible exact trivial) | (with_reducible refine And.intro ?_ ?_) | (intro) | (with_reducible refine br_intro (fun hq => ?_) (fun hq => ?_)) | (with_reducible refine if_both (fun hz => ?_) (fun hz => ?_)) | fail)

  all_goals first
    | omega
    | assumption
    | contradiction
    | exact fin0 (by kernel_rfl) (by kernel_rfl) (by first | exact h | simpa using h)
    | (show 0 ≤ x; omega)
    | (show x < (nr : Int); omega)
    | exact absurd ((show inr _ _ _ by assumption) 0 (by omega)) h2
    | (rename Nat => i; have hi : i = 0 := (by omega); subst hi
       first | (show 0 ≤ x; omega) | (show x < (nr : Int); omega))
    | (rename Nat => i; have hi : i = 0 ∨ i = 1 := (by omega)
       rcases hi with rfl | rfl
       · first | (show 0 ≤ x; omega) | (show x < (nr : Int); omega)
       · first | (show 0 ≤ y; omega) | (show y < (nr : Int); omega))
    | (refine fin1t rfl ?_ (by kernel_rfl) (by kernel_rfl) (h _ (setR h1 (by omega)) _ (by assumption)); (intro i j hi hj; obtain rfl : j = 0 := (by simp at hj; omega); simp only [putF, cpyF, appF, shiftF, zF, Nat.min_self, Nat.sub_zero, Nat.add_zero, Nat.zero_add, Int.toNat_natCast, Int.toNat_zero]; repeat' split; all_goals first | rfl | omega | (simp_all; done) | (simp_all; omega)))
    | (exfalso; simp at hq; omega)
    | exact fin0 (by kernel_rfl) (by kernel_rfl) (h true ⟨fun _ => by assumption, fun _ => rfl⟩)
    | exact fin0 (by kernel_rfl) (by kernel_rfl) (h false ⟨fun e => (by cases e), fun e => absurd e (by assumption)⟩)
theorem con19B_ok : BodyOk (mk XKB) 4 Try.f19 con19B := by
  intro vs bs K hh hro
  clear hro
  unfold con19B at hh
  split at hh
  · rename_i vr x y
    rcases parse_inv hh with ⟨rfl, hh0⟩ | ⟨er, nr, cr, fr, btr, rfl, hnr, rfl, hh0⟩ <;> clear hh
    · obtain ⟨rfl, h1, hc⟩ := hh0
      exact ⟨_, cast (con19B_nE  x y K) (con19B_nP  x y K  h1 hc)⟩
    · obtain ⟨rfl, h1, hc⟩ := hh0
      exact ⟨_, cast (con19B_rE er nr cr fr x y K) (con19B_rP er nr cr fr x y K hnr h1 hc)⟩
  · exact hh.elim
theorem con19B_told : Told 19 (specOf con19B) := told (X := XKB) XKB_told (by kernel_rfl) (by kernel_rfl) (by kernel_rfl) con19B_ok
def con19X_rV (er nr cr : Nat) (fr : RF) (x : Int) (y : Int) (K : Value → List Blk → Prop) : Prop := (T0 ∧ (TS ∧ (T0 ∧ (T0 ∧ (T0 ∧ (T0 ∧ ((0 + nr ≤ nr) ∧ ((2 ≤ 2) ∧ ((eN 0) ∧ ((nr ≤ 100000) ∧ (((@Eq (List IntKind) ([IntKind.i64]) ([IntKind.i64])) ∧ ((eN nr) ∧ (eN cr))) ∧ ((eN 1) ∧ ((2 ≤ 100000) ∧ (((@Eq (List IntKind) ([IntKind.i64]) ([IntKind.i64])) ∧ ((eN 2) ∧ (eN 2))) ∧ (eB ∧ (((@Eq Int (Prod.snd (rck nr fr)) (0)) ∧ (¬inr nr 2 (litF (List.length [IntKind.i64]) ([x] ++ ([y] ++ []))))) ∧ (T0 ∧ (T0 ∧ (T0 ∧ (T0 ∧ (T0 ∧ (T0 ∧ (T0 ∧ (T0 ∧ (T0 ∧ (∃ y0 : Value, (∃ y1 : List Blk, ((Go.Rx.Found 1 (vt [Value.bool false, vi 10]) ({ h := [(1, Blk.row false [IntKind.i64] 3 2 2 (litF (List.length [IntKind.i64]) ([x] ++ ([y] ++ [])))), (0, Blk.row true [IntKind.i64] er nr cr fr)], next := 2 }) (y0) (y1)) ∧ (K y0 y1)))))))))))))))))))))))))))))
theorem con19X_rE (er nr cr : Nat) (fr : RF) (x : Int) (y : Int) (K : Value → List Blk → Prop) : con19X_rV er nr cr fr x y K = bodyX (mk XKX) (callN (mk XKX) 4) (con19X_rA er nr cr fr x y) Try.f19 [rsl 0 0 nr cr, .int .i64 x, .int .i64 y] (stOf [.row true [.i64] er nr cr fr]) fun v s' => ∃ v1 news, Rx.Found 1 v s' v1 news ∧ K v1 news := by kernel_rfl
set_option maxRecDepth 100000 in
set_option maxHeartbeats 4000000 in
set_option tactic.hygienic false in
theorem con19X_rP (er nr cr : Nat) (fr : RF) (x : Int) (y : Int) (K : Value → List Blk → Prop)  (hnr : nr ≤ 100000) (h1 : (rck nr fr).2 = 0) (h2 : ¬ ((0 ≤ x ∧ x < (nr : Nat)) ∧ (0 ≤ y ∧ y < (nr : Nat)))) (h : K (.tuple ⟨[.bool false, .int .i64 (10)]⟩) []) : con19X_rV er nr cr fr x y K := by
  unfold con19X_rV
  obtain ⟨g1, g2, g3⟩ := rck_ok h1

  repeat' (first | (with_reducible exact rfl) | (with_reducible exact trivial) | (with_reducible refine And.intro ?_ ?_) | (intro) | (with_reducible refine br_intro (fun hq => ?_) (fun hq => ?_)) | (with_reducible refine if_both (fun hz => ?_) (fun hz => ?_)) | fail)

  all_goals first
    | omega
    | assumption
    | contradiction
    | exact fin0 (by kernel_rfl) (by kernel_rfl) (by first | exact h | simpa using h)
    | (show 0 ≤ x; omega)
    | (show x < (nr : Int); omega)
    | exact absurd ((show inr _ _ _ by assumption) 0 (by omega)) h2
    | (rename Nat => i; have hi : i = 0 := (by omega); subst hi
       first | (show 0 ≤ x; omega) | (show x < (nr : Int); omega))
    | (rename Nat => i; have hi : i = 0 ∨ i = 1 := (by omega)
       rcases hi with rfl | rfl
       · first | (show 0 ≤ x; omega) | (show x < (nr : Int); omega)
       · first | (show 0 ≤ y; omega) | (show y < (nr : Int); omega))
    | (refine fin1t rfl ?_ (by kernel_rfl) (by kernel_rfl) (h _ (setR h1 (by omega)) _ (by assumption)); (intro i j hi hj; obtain rfl : j = 0 := (by simp at hj; omega); simp only [putF, cpyF, appF, shiftF, zF, Nat.min_self, Nat.sub_zero, Nat.add_zero, Nat.zero_add, Int.toNat_natCast, Int.toNat_zero]; repeat' split; all_goals first | rfl | omega | (simp_all; done) | (simp_all; omega)))
    | (exfalso; simp at hq; omega)
    | exact fin0 (by kernel_rfl) (by kernel_rfl) (h true ⟨fun _ => by assumption, fun _ => rfl⟩)
    | exact fin0 (by kernel_rfl) (by kernel_rfl) (h false ⟨fun e => (by cases e), fun e => absurd e (by assumption)⟩)
    | exact absurd ⟨(show inr _ _ _ by assumption) 0 (by omega), (show inr _ _ _ by assumption) 1 (by omega)⟩ h2
theorem con19X_ok : BodyOk (mk XKX) 4 Try.f19 con19X := by
  intro vs bs K hh hro
  clear hro
  unfold con19X at hh
  split at hh
  · rename_i vr x y
    obtain ⟨er, nr, cr, fr, btr, rfl, hnr, rfl, hh0⟩ := parseR_inv hh
    obtain ⟨rfl, ⟨h1, h2⟩, hc⟩ := hh0
    exact ⟨_, cast (con19X_rE er nr cr fr x y K) (con19X_rP er nr cr fr x y K hnr h1 h2 hc)⟩
  · exact hh.elim
theorem con19X_told : Told 19 (specOf con19X) := told (X := XKX) XKX_told (by kernel_rfl) (by kernel_rfl) (by kernel_rfl) con19X_ok
def con19A_rV (er nr cr : Nat) (fr : RF) (x : Int) (y : Int) (K : Value → List Blk → Prop) : Prop := (T0 ∧ (TS ∧ (T0 ∧ (T0 ∧ (T0 ∧ (T0 ∧ ((0 + nr ≤ nr) ∧ ((2 ≤ 2) ∧ ((eN 0) ∧ ((nr ≤ 100000) ∧ (((@Eq (List IntKind) ([IntKind.i64]) ([IntKind.i64])) ∧ ((eN nr) ∧ (eN cr))) ∧ ((eN 1) ∧ ((2 ≤ 100000) ∧ (((@Eq (List IntKind) ([IntKind.i64]) ([IntKind.i64])) ∧ ((eN 2) ∧ (eN 2))) ∧ (eB ∧ (((@Eq Int (Prod.snd (rck nr fr)) (0)) ∧ (∀ y0 : Nat, ((y0 < 2) → ((0 ≤ litF (List.length [IntKind.i64]) ([x] ++ ([y] ++ [])) y0 0) ∧ (litF (List.length [IntKind.i64]) ([x] ++ ([y] ++ [])) y0 0 < (↑nr : Int)))))) ∧ (T0 ∧ (T0 ∧ (T0 ∧ (T0 ∧ (T0 ∧ (T0 ∧ (T0 ∧ (T0 ∧ ((TS ∧ (eN 1)) ∧ (((0 ≤ x) ∧ (x < (↑nr : Int))) ∧ (T0 ∧ ((Int.toNat x < nr) ∧ (T0 ∧ (T0 ∧ (T0 ∧ ((TS ∧ (eN 1)) ∧ (((0 ≤ y) ∧ (y < (↑nr : Int))) ∧ (T0 ∧ ((Int.toNat y < nr) ∧ (T0 ∧ (T0 ∧ (if (@Eq Int (fr (Int.toNat x) 0) (fr (Int.toNat y) 0)) then (T0 ∧ (T0 ∧ (T0 ∧ (T0 ∧ (∃ y0 : Value, (∃ y1 : List Blk, ((Go.Rx.Found 1 (vt [Value.bool true, vi 0]) ({ h := [(1, Blk.row false [IntKind.i64] 3 2 2 (litF (List.length [IntKind.i64]) ([x] ++ ([y] ++ [])))), (0, Blk.row true [IntKind.i64] er nr cr fr)], next := 2 }) (y0) (y1)) ∧ (K y0 y1)))))))) else (T0 ∧ (T0 ∧ (T0 ∧ (T0 ∧ (∃ y0 : Value, (∃ y1 : List Blk, ((Go.Rx.Found 1 (vt [Value.bool false, vi 0]) ({ h := [(1, Blk.row false [IntKind.i64] 3 2 2 (litF (List.length [IntKind.i64]) ([x] ++ ([y] ++ [])))), (0, Blk.row true [IntKind.i64] er nr cr fr)], next := 2 }) (y0) (y1)) ∧ (K y0 y1))))))))))))))))))))))))))))))))))))))))))))))
theorem con19A_rE (er nr cr : Nat) (fr : RF) (x : Int) (y : Int) (K : Value → List Blk → Prop) : con19A_rV er nr cr fr x y K = bodyX (mk XKG) (callN (mk XKG) 4) (con19A_rA er nr cr fr x y) Try.f19 [rsl 0 0 nr cr, .int .i64 x, .int .i64 y] (stOf [.row true [.i64] er nr cr fr]) fun v s' => ∃ v1 news, Rx.Found 1 v s' v1 news ∧ K v1 news := by kernel_rfl
set_option maxRecDepth 100000 in
set_option maxHeartbeats 4000000 in
set_option tactic.hygienic false in
theorem con19A_rP (er nr cr : Nat) (fr : RF) (x : Int) (y : Int) (K : Value → List Blk → Prop)  (hnr : nr ≤ 100000) (h1 : (rck nr fr).2 = 0) (h2 : 0 ≤ x ∧ x < (nr : Nat)) (h3 : 0 ≤ y ∧ y < (nr : Nat)) (h : ∀ bb : Bool, (bb = true ↔ fr x.toNat 0 = fr y.toNat 0) → K (.tuple ⟨[.bool bb, .int .i64 0]⟩) []) : con19A_rV er nr cr fr x y K := by
  unfold con19A_rV
  obtain ⟨g1, g2, g3⟩ := rck_ok h1

  repeat' (first | (with_reducible exact rfl) | (with_reducible exact trivial) | (with_reducible refine And.intro ?_ ?_) | (intro) | (with_reducible refine br_intro (fun hq => ?_) (fun hq => ?_)) | (with_reducible refine if_both (fun hz => ?_) (fun hz => ?_)) | fail)

  all_goals first
    | omega
    | assumption
    | contradiction
    | exact fin0 (by kernel_rfl) (by kernel_rfl) (by first | exact h | simpa using h)
    | (show 0 ≤ x; omega)
    | (show x < (nr : Int); omega)
    | exact absurd ((show inr _ _ _ by assumption) 0 (by omega)) h2
    | (rename Nat => i; have hi : i = 0 := (by omega); subst hi
       first | (show 0 ≤ x; omega) | (show x < (nr : Int); omega))
    | (rename Nat => i; have hi : i = 0 ∨ i = 1 := (by omega)
       rcases hi with rfl | rfl
       · first | (show 0 ≤ x; omega) | (show x < (nr : Int); omega)
       · first | (show 0 ≤ y; omega) | (show y < (nr : Int); omega))
    | (refine fin1t rfl ?_ (by kernel_rfl) (by kernel_rfl) (h _ (setR h1 (by omega)) _ (by assumption)); (intro i j hi hj; obtain rfl : j = 0 := (by simp at hj; omega); simp only [putF, cpyF, appF, shiftF, zF, Nat.min_self, Nat.sub_zero, Nat.add_zero, Nat.zero_add, Int.toNat_natCast, Int.toNat_zero]; repeat' split; all_goals first | rfl | omega | (simp_all; done) | (simp_all; omega)))
    | (exfalso; simp at hq; omega)
    | exact fin0 (by kernel_rfl) (by kernel_rfl) (h true ⟨fun _ => by assumption, fun _ => rfl⟩)
    | exact fin0 (by kernel_rfl) (by kernel_rfl) (h false ⟨fun e => (by cases e), fun e => absurd e (by assumption)⟩)
theorem con19A_ok : BodyOk (mk XKG) 4 Try.f19 con19A := by
  intro vs bs K hh hro
  clear hro
  unfold con19A at hh
  split at hh
  · rename_i vr x y
    obtain ⟨er, nr, cr, fr, btr, rfl, hnr, rfl, hh0⟩ := parseR_inv hh
    obtain ⟨rfl, ⟨h1, h2, h3⟩, hc⟩ := hh0
    exact ⟨_, cast (con19A_rE er nr cr fr x y K) (con19A_rP er nr cr fr x y K hnr h1 h2 h3 hc)⟩
  · exact hh.elim
theorem con19A_told : Told 19 (specOf con19A) := told (X := XKG) XKG_told (by kernel_rfl) (by kernel_rfl) (by kernel_rfl) con19A_ok
end Go.Proofs.Ytmnhjnfjgfjafaa.Fr
