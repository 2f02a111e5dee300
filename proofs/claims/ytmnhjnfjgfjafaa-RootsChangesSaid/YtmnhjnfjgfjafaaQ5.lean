/-
  Roots: clear. No project text.
-/
import Derived.Test.YtmnhjnfjgfjafaaQ3
import Derived.Test.YtmnhjnfjgfjafaaQ4
namespace Go.Proofs.Ytmnhjnfjgfjafaa.Fr
open Go.Rx
open Go.RowKit (Below)
set_option linter.unusedVariables false
@[reducible] def XC16B : List (Nat × Rx.Spec) := [(11, specOf con11B)]
theorem XC16B_told : ∀ p ∈ XC16B, Told p.1 p.2 := by
  intro p hp
  simp only [List.mem_cons, List.not_mem_nil, or_false] at hp
  rcases hp with rfl
  · exact con11B_told
@[reducible] def XC16X : List (Nat × Rx.Spec) := [(11, specOf con11X)]
theorem XC16X_told : ∀ p ∈ XC16X, Told p.1 p.2 := by
  intro p hp
  simp only [List.mem_cons, List.not_mem_nil, or_false] at hp
  rcases hp with rfl
  · exact con11X_told
@[reducible] def XC17B : List (Nat × Rx.Spec) := [(12, specOf con12B)]
theorem XC17B_told : ∀ p ∈ XC17B, Told p.1 p.2 := by
  intro p hp
  simp only [List.mem_cons, List.not_mem_nil, or_false] at hp
  rcases hp with rfl
  · exact con12B_told
@[reducible] def XC17X : List (Nat × Rx.Spec) := [(12, specOf con12X)]
theorem XC17X_told : ∀ p ∈ XC17X, Told p.1 p.2 := by
  intro p hp
  simp only [List.mem_cons, List.not_mem_nil, or_false] at hp
  rcases hp with rfl
  · exact con12X_told
@[reducible] def XC17G : List (Nat × Rx.Spec) := [(12, specOf con12G)]
theorem XC17G_told : ∀ p ∈ XC17G, Told p.1 p.2 := by
  intro p hp
  simp only [List.mem_cons, List.not_mem_nil, or_false] at hp
  rcases hp with rfl
  · exact con12G_told
def con16B : Con := fun vs bs K => match vs with
  | [vr, .int .i64 x] => parse [.i64] 0 vr bs fun nr fr j0 bs0 => bs0 = [] ∧ ((¬ (rck nr fr).2 = 0)) ∧ (K (.tuple ⟨[.slice none 0 0, .int .i64 ((rck nr fr).2)]⟩) [])
  | _ => False

def con16B_nA (x : Int) : Ann := fun _ => none
def con16B_rA (er nr cr : Nat) (fr : RF) (x : Int) : Ann := fun _ => none
def con16X : Con := fun vs bs K => match vs with
  | [vr, .int .i64 x] => parseR [.i64] 0 vr bs fun nr fr j0 bs0 => bs0 = [] ∧ (((rck nr fr).2 = 0) ∧ (¬ (0 ≤ x ∧ x < (nr : Nat)))) ∧ (K (.tuple ⟨[.slice none 0 0, .int .i64 (10)]⟩) [])
  | _ => False

def con16X_rA (er nr cr : Nat) (fr : RF) (x : Int) : Ann := fun _ => none
def con17B : Con := fun vs bs K => match vs with
  | [vr, .int .i64 x] => parse [.i64] 0 vr bs fun nr fr j0 bs0 => bs0 = [] ∧ ((¬ (rck nr fr).2 = 0)) ∧ (K (.tuple ⟨[.slice none 0 0, .int .i64 ((rck nr fr).2)]⟩) [])
  | _ => False

def con17B_nA (x : Int) : Ann := fun _ => none
def con17B_rA (er nr cr : Nat) (fr : RF) (x : Int) : Ann := fun _ => none
def con17X : Con := fun vs bs K => match vs with
  | [vr, .int .i64 x] => parseR [.i64] 0 vr bs fun nr fr j0 bs0 => bs0 = [] ∧ (((rck nr fr).2 = 0) ∧ (¬ (0 ≤ x ∧ x < (nr : Nat)))) ∧ (K (.tuple ⟨[.slice none 0 0, .int .i64 (10)]⟩) [])
  | _ => False

def con17X_rA (er nr cr : Nat) (fr : RF) (x : Int) : Ann := fun _ => none
def con17G : Con := fun vs bs K => match vs with
  | [vr, .int .i64 x] => parseR [.i64] 0 vr bs fun nr fr j0 bs0 => bs0 = [] ∧ (((rck nr fr).2 = 0) ∧ (0 ≤ x ∧ x < (nr : Nat))) ∧ (∀ g, SetR nr fr x (0) g → ∀ cp, nr ≤ cp → K (.tuple ⟨[rsl j0 0 nr cp, .int .i64 0]⟩) [.row false [.i64] 3 nr cp g])
  | _ => False

def con17G_rA (er nr cr : Nat) (fr : RF) (x : Int) : Ann := fun _ => none
def con16B_nV (x : Int) (K : Value → List Blk → Prop) : Prop := (T0 ∧ (T0 ∧ (T0 ∧ (T0 ∧ (eB ∧ ((¬Prod.snd (rck 0 zF) = 0) ∧ (∃ y0 : Value, (∃ y1 : List Blk, ((Go.Rx.Found 0 (vt [vn, vi 7]) ({ h := [], next := 0 }) (y0) (y1)) ∧ (K y0 y1))))))))))
theorem con16B_nE (x : Int) (K : Value → List Blk → Prop) : con16B_nV x K = bodyX (mk XC16B) (callN (mk XC16B) 4) (con16B_nA x) Try.f16 [.slice none 0 0, .int .i64 x] (stOf []) fun v s' => ∃ v1 news, Rx.Found 0 v s' v1 news ∧ K v1 news := by kernel_rfl
set_option maxRecDepth 100000 in
set_option maxHeartbeats 4000000 in
set_option tactic.hygienic false in
theorem con16B_nP (x : Int) (K : Value → List Blk → Prop)  (h1 : ¬ (rck 0 zF).2 = 0) (h : K (.tuple ⟨[.slice none 0 0, .int .i64 ((rck 0 zF).2)]⟩) []) : con16B_nV x K := by
  unfold con16B_nV

  repeat' (first | (with_reducible exact rfl) | (with_reducible exact trivial) | (with_reducible refine And.intro ?_ ?_) | (intro) | (with_reducible refine br_intro (fun hq => ?_) (fun hq => ?_)) | (with_reducible refine if_both (fun hz => ?_) (fun hz => ?_)) | fail)

  all_goals first
    | omega
    | assumption
    | contradiction
    | exact fin0 (by kernel_rfl) (by kernel_rfl) (by first | exact h | simpa using h)
    | (refine fin1t rfl (fun _ _ _ _ => rfl) (by kernel_rfl) (by kernel_rfl) (h _ ‹_› _ (by assumption)))
def con16B_rV (er nr cr : Nat) (fr : RF) (x : Int) (K : Value → List Blk → Prop) : Prop := (T0 ∧ ((0 + nr ≤ nr) ∧ (T0 ∧ (T0 ∧ ((eN 0) ∧ ((nr ≤ 100000) ∧ (((@Eq (List IntKind) ([IntKind.i64]) ([IntKind.i64])) ∧ ((eN nr) ∧ (eN cr))) ∧ (eB ∧ ((¬Prod.snd (rck nr fr) = 0) ∧ (∃ y0 : Value, (∃ y1 : List Blk, ((Go.Rx.Found 1 (vt [vn, vi (Prod.snd (rck nr fr))]) ({ h := [(0, Blk.row true [IntKind.i64] er nr cr fr)], next := 1 }) (y0) (y1)) ∧ (K y0 y1)))))))))))))
theorem con16B_rE (er nr cr : Nat) (fr : RF) (x : Int) (K : Value → List Blk → Prop) : con16B_rV er nr cr fr x K = bodyX (mk XC16B) (callN (mk XC16B) 4) (con16B_rA er nr cr fr x) Try.f16 [rsl 0 0 nr cr, .int .i64 x] (stOf [.row true [.i64] er nr cr fr]) fun v s' => ∃ v1 news, Rx.Found 1 v s' v1 news ∧ K v1 news := by kernel_rfl
set_option maxRecDepth 100000 in
set_option maxHeartbeats 4000000 in
set_option tactic.hygienic false in
theorem con16B_rP (er nr cr : Nat) (fr : RF) (x : Int) (K : Value → List Blk → Prop)  (hnr : nr ≤ 100000) (h1 : ¬ (rck nr fr).2 = 0) (h : K (.tuple ⟨[.slice none 0 0, .int .i64 ((rck nr fr).2)]⟩) []) : con16B_rV er nr cr fr x K := by
  unfold con16B_rV

  repeat' (first | (with_reducible exact rfl) | (with_reducible exact trivial) | (with_reducible refine And.intro ?_ ?_) | (intro) | (with_reducible refine br_intro (fun hq => ?_) (fun hq => ?_)) | (with_reducible refine if_both (fun hz => ?_) (fun hz => ?_)) | fail)

  all_goals first
    | omega
    | assumption
    | contradiction
    | exact fin0 (by kernel_rfl) (by kernel_rfl) (by first | exact h | simpa using h)
    | (refine fin1t rfl (fun _ _ _ _ => rfl) (by kernel_rfl) (by kernel_rfl) (h _ ‹_› _ (by assumption)))
theorem con16B_ok : BodyOk (mk XC16B) 4 Try.f16 con16B := by
  intro vs bs K hh hro
  clear hro
  unfold con16B at hh
  split at hh
  · rename_i vr x
    rcases parse_inv hh with ⟨rfl, hh0⟩ | ⟨er, nr, cr, fr, btr, rfl, hnr, rfl, hh0⟩ <;> clear hh
    · obtain ⟨rfl, h1, hc⟩ := hh0
      exact ⟨_, cast (con16B_nE  x K) (con16B_nP  x K  h1 hc)⟩
    · obtain ⟨rfl, h1, hc⟩ := hh0
      exact ⟨_, cast (con16B_rE er nr cr fr x K) (con16B_rP er nr cr fr x K hnr h1 hc)⟩
  · exact hh.elim
theorem con16B_told : Told 16 (specOf con16B) := told (X := XC16B) XC16B_told (by kernel_rfl) (by kernel_rfl) (by kernel_rfl) con16B_ok
def con16X_rV (er nr cr : Nat) (fr : RF) (x : Int) (K : Value → List Blk → Prop) : Prop := (T0 ∧ ((0 + nr ≤ nr) ∧ (T0 ∧ (T0 ∧ ((eN 0) ∧ ((nr ≤ 100000) ∧ (((@Eq (List IntKind) ([IntKind.i64]) ([IntKind.i64])) ∧ ((eN nr) ∧ (eN cr))) ∧ (eB ∧ (((@Eq Int (Prod.snd (rck nr fr)) (0)) ∧ (¬(0 ≤ x ∧ x < (↑nr : Int)))) ∧ (∃ y0 : Value, (∃ y1 : List Blk, ((Go.Rx.Found 1 (vt [vn, vi 10]) ({ h := [(0, Blk.row true [IntKind.i64] er nr cr fr)], next := 1 }) (y0) (y1)) ∧ (K y0 y1)))))))))))))
theorem con16X_rE (er nr cr : Nat) (fr : RF) (x : Int) (K : Value → List Blk → Prop) : con16X_rV er nr cr fr x K = bodyX (mk XC16X) (callN (mk XC16X) 4) (con16X_rA er nr cr fr x) Try.f16 [rsl 0 0 nr cr, .int .i64 x] (stOf [.row true [.i64] er nr cr fr]) fun v s' => ∃ v1 news, Rx.Found 1 v s' v1 news ∧ K v1 news := by kernel_rfl
set_option maxRecDepth 100000 in
set_option maxHeartbeats 4000000 in
set_option tactic.hygienic false in
theorem con16X_rP (er nr cr : Nat) (fr : RF) (x : Int) (K : Value → List Blk → Prop)  (hnr : nr ≤ 100000) (h1 : (rck nr fr).2 = 0) (h2 : ¬ (0 ≤ x ∧ x < (nr : Nat))) (h : K (.tuple ⟨[.slice none 0 0, .int .i64 (10)]⟩) []) : con16X_rV er nr cr fr x K := by
  unfold con16X_rV
  obtain ⟨g1, g2, g3⟩ := rck_ok h1

  repeat' (first | (with_reducible exact rfl) | (with_reducible exact trivial) | (with_reducible refine And.intro ?_ ?_) | (intro) | (with_reducible refine br_intro (fun hq => ?_) (fun hq => ?_)) | (with_reducible refine if_both (fun hz => ?_) (fun hz => ?_)) | fail)

  all_goals first
    | omega
    | assumption
    | contradiction
    | exact fin0 (by kernel_rfl) (by kernel_rfl) (by first | exact h | simpa using h)
    | (refine fin1t rfl (fun _ _ _ _ => rfl) (by kernel_rfl) (by kernel_rfl) (h _ ‹_› _ (by assumption)))
theorem con16X_ok : BodyOk (mk XC16X) 4 Try.f16 con16X := by
  intro vs bs K hh hro
  clear hro
  unfold con16X at hh
  split at hh
  · rename_i vr x
    obtain ⟨er, nr, cr, fr, btr, rfl, hnr, rfl, hh0⟩ := parseR_inv hh
    obtain ⟨rfl, ⟨h1, h2⟩, hc⟩ := hh0
    exact ⟨_, cast (con16X_rE er nr cr fr x K) (con16X_rP er nr cr fr x K hnr h1 h2 hc)⟩
  · exact hh.elim
theorem con16X_told : Told 16 (specOf con16X) := told (X := XC16X) XC16X_told (by kernel_rfl) (by kernel_rfl) (by kernel_rfl) con16X_ok
def con17B_nV (x : Int) (K : Value → List Blk → Prop) : Prop := (T0 ∧ (T0 ∧ (T0 ∧ (T0 ∧ (eB ∧ ((¬Prod.snd (rck 0 zF) = 0) ∧ (∃ y0 : Value, (∃ y1 : List Blk, ((Go.Rx.Found 0 (vt [vn, vi 7]) ({ h := [], next := 0 }) (y0) (y1)) ∧ (K y0 y1))))))))))
theorem con17B_nE (x : Int) (K : Value → List Blk → Prop) : con17B_nV x K = bodyX (mk XC17B) (callN (mk XC17B) 4) (con17B_nA x) Try.f17 [.slice none 0 0, .int .i64 x] (stOf []) fun v s' => ∃ v1 news, Rx.Found 0 v s' v1 news ∧ K v1 news := by kernel_rfl
set_option maxRecDepth 100000 in
set_option maxHeartbeats 4000000 in
set_option tactic.hygienic false in
theorem con17B_nP (x : Int) (K : Value → List Blk → Prop)  (h1 : ¬ (rck 0 zF).2 = 0) (h : K (.tuple ⟨[.slice none 0 0, .int .i64 ((rck 0 zF).2)]⟩) []) : con17B_nV x K := by
  unfold con17B_nV

  repeat' (first | (with_reducible exact rfl) | (with_reducible exact trivial) | (with_reducible refine And.intro ?_ ?_) | (intro) | (with_reducible refine br_intro (fun hq => ?_) (fun hq => ?_)) | (with_reducible refine if_both (fun hz => ?_) (fun hz => ?_)) | fail)

  all_goals first
    | omega
    | assumption
    | contradiction
    | exact fin0 (by kernel_rfl) (by kernel_rfl) (by first | exact h | simpa using h)
    | (refine fin1t rfl (fun _ _ _ _ => rfl) (by kernel_rfl) (by kernel_rfl) (h _ ‹_› _ (by assumption)))
def con17B_rV (er nr cr : Nat) (fr : RF) (x : Int) (K : Value → List Blk → Prop) : Prop := (T0 ∧ ((0 + nr ≤ nr) ∧ (T0 ∧ (T0 ∧ ((eN 0) ∧ ((nr ≤ 100000) ∧ (((@Eq (List IntKind) ([IntKind.i64]) ([IntKind.i64])) ∧ ((eN nr) ∧ (eN cr))) ∧ (eB ∧ ((¬Prod.snd (rck nr fr) = 0) ∧ (∃ y0 : Value, (∃ y1 : List Blk, ((Go.Rx.Found 1 (vt [vn, vi (Prod.snd (rck nr fr))]) ({ h := [(0, Blk.row true [IntKind.i64] er nr cr fr)], next := 1 }) (y0) (y1)) ∧ (K y0 y1)))))))))))))
theorem con17B_rE (er nr cr : Nat) (fr : RF) (x : Int) (K : Value → List Blk → Prop) : con17B_rV er nr cr fr x K = bodyX (mk XC17B) (callN (mk XC17B) 4) (con17B_rA er nr cr fr x) Try.f17 [rsl 0 0 nr cr, .int .i64 x] (stOf [.row true [.i64] er nr cr fr]) fun v s' => ∃ v1 news, Rx.Found 1 v s' v1 news ∧ K v1 news := by kernel_rfl
set_option maxRecDepth 100000 in
set_option maxHeartbeats 4000000 in
set_option tactic.hygienic false in
theorem con17B_rP (er nr cr : Nat) (fr : RF) (x : Int) (K : Value → List Blk → Prop)  (hnr : nr ≤ 100000) (h1 : ¬ (rck nr fr).2 = 0) (h : K (.tuple ⟨[.slice none 0 0, .int .i64 ((rck nr fr).2)]⟩) []) : con17B_rV er nr cr fr x K := by
  unfold con17B_rV

  repeat' (first | (with_reducible exact rfl) | (with_reducible exact trivial) | (with_reducible refine And.intro ?_ ?_) | (intro) | (with_reducible refine br_intro (fun hq => ?_) (fun hq => ?_)) | (with_reducible refine if_both (fun hz => ?_) (fun hz => ?_)) | fail)

  all_goals first
    | omega
    | assumption
    | contradiction
    | exact fin0 (by kernel_rfl) (by kernel_rfl) (by first | exact h | simpa using h)
    | (refine fin1t rfl (fun _ _ _ _ => rfl) (by kernel_rfl) (by kernel_rfl) (h _ ‹_› _ (by assumption)))
theorem con17B_ok : BodyOk (mk XC17B) 4 Try.f17 con17B := by
  intro vs bs K hh hro
  clear hro
  unfold con17B at hh
  split at hh
  · rename_i vr x
    rcases parse_inv hh with ⟨rfl, hh0⟩ | ⟨er, nr, cr, fr, btr, rfl, hnr, rfl, hh0⟩ <;> clear hh
    · obtain ⟨rfl, h1, hc⟩ := hh0
      exact ⟨_, cast (con17B_nE  x K) (con17B_nP  x K  h1 hc)⟩
    · obtain ⟨rfl, h1, hc⟩ := hh0
      exact ⟨_, cast (con17B_rE er nr cr fr x K) (con17B_rP er nr cr fr x K hnr h1 hc)⟩
  · exact hh.elim
theorem con17B_told : Told 17 (specOf con17B) := told (X := XC17B) XC17B_told (by kernel_rfl) (by kernel_rfl) (by kernel_rfl) con17B_ok
def con17X_rV (er nr cr : Nat) (fr : RF) (x : Int) (K : Value → List Blk → Prop) : Prop := (T0 ∧ ((0 + nr ≤ nr) ∧ (T0 ∧ (T0 ∧ ((eN 0) ∧ ((nr ≤ 100000) ∧ (((@Eq (List IntKind) ([IntKind.i64]) ([IntKind.i64])) ∧ ((eN nr) ∧ (eN cr))) ∧ (eB ∧ (((@Eq Int (Prod.snd (rck nr fr)) (0)) ∧ (¬(0 ≤ x ∧ x < (↑nr : Int)))) ∧ (∃ y0 : Value, (∃ y1 : List Blk, ((Go.Rx.Found 1 (vt [vn, vi 10]) ({ h := [(0, Blk.row true [IntKind.i64] er nr cr fr)], next := 1 }) (y0) (y1)) ∧ (K y0 y1)))))))))))))
theorem con17X_rE (er nr cr : Nat) (fr : RF) (x : Int) (K : Value → List Blk → Prop) : con17X_rV er nr cr fr x K = bodyX (mk XC17X) (callN (mk XC17X) 4) (con17X_rA er nr cr fr x) Try.f17 [rsl 0 0 nr cr, .int .i64 x] (stOf [.row true [.i64] er nr cr fr]) fun v s' => ∃ v1 news, Rx.Found 1 v s' v1 news ∧ K v1 news := by kernel_rfl
set_option maxRecDepth 100000 in
set_option maxHeartbeats 4000000 in
set_option tactic.hygienic false in
theorem con17X_rP (er nr cr : Nat) (fr : RF) (x : Int) (K : Value → List Blk → Prop)  (hnr : nr ≤ 100000) (h1 : (rck nr fr).2 = 0) (h2 : ¬ (0 ≤ x ∧ x < (nr : Nat))) (h : K (.tuple ⟨[.slice none 0 0, .int .i64 (10)]⟩) []) : con17X_rV er nr cr fr x K := by
  unfold con17X_rV
  obtain ⟨g1, g2, g3⟩ := rck_ok h1

  repeat' (first | (with_reducible exact rfl) | (with_reducible exact trivial) | (with_reducible refine And.intro ?_ ?_) | (intro) | (with_reducible refine br_intro (fun hq => ?_) (fun hq => ?_)) | (with_reducible refine if_both (fun hz => ?_) (fun hz => ?_)) | fail)

  all_goals first
    | omega
    | assumption
    | contradiction
    | exact fin0 (by kernel_rfl) (by kernel_rfl) (by first | exact h | simpa using h)
    | (refine fin1t rfl (fun _ _ _ _ => rfl) (by kernel_rfl) (by kernel_rfl) (h _ ‹_› _ (by assumption)))
theorem con17X_ok : BodyOk (mk XC17X) 4 Try.f17 con17X := by
  intro vs bs K hh hro
  clear hro
  unfold con17X at hh
  split at hh
  · rename_i vr x
    obtain ⟨er, nr, cr, fr, btr, rfl, hnr, rfl, hh0⟩ := parseR_inv hh
    obtain ⟨rfl, ⟨h1, h2⟩, hc⟩ := hh0
    exact ⟨_, cast (con17X_rE er nr cr fr x K) (con17X_rP er nr cr fr x K hnr h1 h2 hc)⟩
  · exact hh.elim
theorem con17X_told : Told 17 (specOf con17X) := told (X := XC17X) XC17X_told (by kernel_rfl) (by kernel_rfl) (by kernel_rfl) con17X_ok
def con17G_rV (er nr cr : Nat) (fr : RF) (x : Int) (K : Value → List Blk → Prop) : Prop := (T0 ∧ ((0 + nr ≤ nr) ∧ (T0 ∧ (T0 ∧ ((eN 0) ∧ ((nr ≤ 100000) ∧ (((@Eq (List IntKind) ([IntKind.i64]) ([IntKind.i64])) ∧ ((eN nr) ∧ (eN cr))) ∧ (eB ∧ (((@Eq Int (Prod.snd (rck nr fr)) (0)) ∧ (((0 ≤ x) ∧ (x < (↑nr : Int))) ∧ (((0 : Int) ≤ 0) ∧ ((0 : Int) ≤ 1600)))) ∧ (∀ y0 : Nat → Nat → Int, ((SetR nr fr x 0 y0) → (∀ y1 : Nat, ((nr ≤ y1) → (∃ y2 : Value, (∃ y3 : List Blk, ((Go.Rx.Found 1 (vt [rsl 1 0 nr y1, vi 0]) ({ h := [(1, Blk.row false [IntKind.i64] 3 nr y1 y0), (0, Blk.row true [IntKind.i64] er nr cr fr)], next := 2 }) (y2) (y3)) ∧ (K y2 y3)))))))))))))))))
theorem con17G_rE (er nr cr : Nat) (fr : RF) (x : Int) (K : Value → List Blk → Prop) : con17G_rV er nr cr fr x K = bodyX (mk XC17G) (callN (mk XC17G) 4) (con17G_rA er nr cr fr x) Try.f17 [rsl 0 0 nr cr, .int .i64 x] (stOf [.row true [.i64] er nr cr fr]) fun v s' => ∃ v1 news, Rx.Found 1 v s' v1 news ∧ K v1 news := by kernel_rfl
set_option maxRecDepth 100000 in
set_option maxHeartbeats 4000000 in
set_option tactic.hygienic false in
theorem con17G_rP (er nr cr : Nat) (fr : RF) (x : Int) (K : Value → List Blk → Prop)  (hnr : nr ≤ 100000) (h1 : (rck nr fr).2 = 0) (h2 : 0 ≤ x ∧ x < (nr : Nat)) (h : ∀ g, SetR nr fr x (0) g → ∀ cp, nr ≤ cp → K (.tuple ⟨[rsl 1 0 nr cp, .int .i64 0]⟩) [.row false [.i64] 3 nr cp g]) : con17G_rV er nr cr fr x K := by
  unfold con17G_rV
  obtain ⟨g1, g2, g3⟩ := rck_ok h1

  repeat' (first | (with_reducible exact rfl) | (with_reducible exact trivial) | (with_reducible refine And.intro ?_ ?_) | (intro) | (with_reducible refine br_intro (fun hq => ?_) (fun hq => ?_)) | (with_reducible refine if_both (fun hz => ?_) (fun hz => ?_)) | fail)

  all_goals first
    | omega
    | assumption
    | contradiction
    | exact fin0 (by kernel_rfl) (by kernel_rfl) (by first | exact h | simpa using h)
    | (refine fin1t rfl (fun _ _ _ _ => rfl) (by kernel_rfl) (by kernel_rfl) (h _ ‹_› _ (by assumption)))
theorem con17G_ok : BodyOk (mk XC17G) 4 Try.f17 con17G := by
  intro vs bs K hh hro
  clear hro
  unfold con17G at hh
  split at hh
  · rename_i vr x
    obtain ⟨er, nr, cr, fr, btr, rfl, hnr, rfl, hh0⟩ := parseR_inv hh
    obtain ⟨rfl, ⟨h1, h2⟩, hc⟩ := hh0
    exact ⟨_, cast (con17G_rE er nr cr fr x K) (con17G_rP er nr cr fr x K hnr h1 h2 hc)⟩
  · exact hh.elim
theorem con17G_told : Told 17 (specOf con17G) := told (X := XC17G) XC17G_told (by kernel_rfl) (by kernel_rfl) (by kernel_rfl) con17G_ok
end Go.Proofs.Ytmnhjnfjgfjafaa.Fr
