/-
  Roots: registers opened. No project text.
-/
import Derived.Test.YtmnhjnfjgfjafaaR1
namespace Go.Proofs.Ytmnhjnfjgfjafaa.Fr
open Go.Rx
open Go.RowKit (Below)
set_option linter.unusedVariables false
@[reducible] def XO : List (Nat × Rx.Spec) := [(7, specOf con7)]
theorem XO_told : ∀ p ∈ XO, Told p.1 p.2 := by
  intro p hp
  simp only [List.mem_cons, List.not_mem_nil, or_false] at hp
  rcases hp with rfl
  · exact con7_told

def inr (n m : Nat) (g : RF) : Prop := ∀ i, i < m → 0 ≤ g i 0 ∧ g i 0 < n
def con25B : Con := fun vs bs K => match vs with
  | [vr, vm] => parse [.i64] 0 vr bs fun nr fr j0 bs0 => parseR [.i64] j0 vm bs0 fun nm fm j1 bs1 => bs1 = [] ∧ ((¬ (rck nr fr).2 = 0)) ∧ (K (.tuple ⟨[.slice none 0 0, .int .i64 ((rck nr fr).2)]⟩) [])
  | _ => False

def con25B_nrA (em nm cm : Nat) (fm : RF) : Ann := fun k => bif Nat.beq k 5 then some [{ α := Nat, T := fun k => ⟨35, [(0, .slice none 0 0), (18, rsl 0 0 nm cm), (19, .int .i64 (nm : Nat)), (20, .int .i64 (k : Int))]⟩, S := fun _ => ⟨[(0, .row true [.i64] em nm cm fm)], 1⟩, I := fun k => k ≤ nm ∧ inr 0 k fm, m := fun k => nm - k, ρ0 := [], ρ1 := [[]] }] else none
def con25B_rrA (er nr cr : Nat) (fr : RF) (em nm cm : Nat) (fm : RF) : Ann := fun k => bif Nat.beq k 5 then some [{ α := Nat, T := fun k => ⟨35, [(0, rsl 0 0 nr cr), (18, rsl 1 0 nm cm), (19, .int .i64 (nm : Nat)), (20, .int .i64 (k : Int))]⟩, S := fun _ => ⟨[(0, .row true [.i64] er nr cr fr), (1, .row true [.i64] em nm cm fm)], 2⟩, I := fun k => k ≤ nm ∧ inr nr k fm, m := fun k => nm - k, ρ0 := [], ρ1 := [[]] }] else none
def con25X : Con := fun vs bs K => match vs with
  | [vr, vm] => parseR [.i64] 0 vr bs fun nr fr j0 bs0 => parseR [.i64] j0 vm bs0 fun nm fm j1 bs1 => bs1 = [] ∧ (((rck nr fr).2 = 0) ∧ (¬ inr nr nm fm)) ∧ (K (.tuple ⟨[.slice none 0 0, .int .i64 (10)]⟩) [])
  | _ => False

def con25X_rrA (er nr cr : Nat) (fr : RF) (em nm cm : Nat) (fm : RF) : Ann := fun k => bif Nat.beq k 5 then some [{ α := Nat, T := fun k => ⟨35, [(0, rsl 0 0 nr cr), (18, rsl 1 0 nm cm), (19, .int .i64 (nm : Nat)), (20, .int .i64 (k : Int))]⟩, S := fun _ => ⟨[(0, .row true [.i64] er nr cr fr), (1, .row true [.i64] em nm cm fm)], 2⟩, I := fun k => k ≤ nm ∧ inr nr k fm, m := fun k => nm - k, ρ0 := [], ρ1 := [[]] }] else none
def con25G : Con := fun vs bs K => match vs with
  | [vr, vm] => parseR [.i64] 0 vr bs fun nr fr j0 bs0 => parseR [.i64] j0 vm bs0 fun nm fm j1 bs1 => bs1 = [] ∧ (((rck nr fr).2 = 0) ∧ (inr nr nm fm)) ∧ (∀ cp, nr ≤ cp → K (.tuple ⟨[rsl j1 0 nr cp, .int .i64 0]⟩) [.row false [.i64] 3 nr cp fr])
  | _ => False

def con25G_rrA (er nr cr : Nat) (fr : RF) (em nm cm : Nat) (fm : RF) : Ann := fun k => bif Nat.beq k 5 then some [{ α := Nat, T := fun k => ⟨35, [(0, rsl 0 0 nr cr), (18, rsl 1 0 nm cm), (19, .int .i64 (nm : Nat)), (20, .int .i64 (k : Int))]⟩, S := fun _ => ⟨[(0, .row true [.i64] er nr cr fr), (1, .row true [.i64] em nm cm fm)], 2⟩, I := fun k => k ≤ nm ∧ inr nr k fm, m := fun k => nm - k, ρ0 := [], ρ1 := [[]] }] else none
def con25B_nrV (em nm cm : Nat) (fm : RF) (K : Value → List Blk → Prop) : Prop := (T0 ∧ (T0 ∧ (eB ∧ ((True) ∧ (T0 ∧ (∃ y0 : Value, (∃ y1 : List Blk, ((Go.Rx.Found 1 (vt [vn, vi 7]) ({ h := [(0, Blk.row true [IntKind.i64] em nm cm fm)], next := 1 }) (y0) (y1)) ∧ (K y0 y1)))))))))
theorem con25B_nrE (em nm cm : Nat) (fm : RF) (K : Value → List Blk → Prop) : con25B_nrV em nm cm fm K = bodyX (mk XO) (callN (mk XO) 4) (con25B_nrA em nm cm fm) Try.f25 [.slice none 0 0, rsl 0 0 nm cm] (stOf [.row true [.i64] em nm cm fm]) fun v s' => ∃ v1 news, Rx.Found 1 v s' v1 news ∧ K v1 news := by kernel_rfl
set_option maxRecDepth 100000 in
set_option maxHeartbeats 4000000 in
set_option tactic.hygienic false in
theorem con25B_nrP (em nm cm : Nat) (fm : RF) (K : Value → List Blk → Prop)  (hnm : nm ≤ 100000) (h1 : ¬ (rck 0 zF).2 = 0) (h : K (.tuple ⟨[.slice none 0 0, .int .i64 ((rck 0 zF).2)]⟩) []) : con25B_nrV em nm cm fm K := by
  unfold con25B_nrV

  repeat' (first | (with_reducible exact rfl) | (with_reducible exact trivial) | (with_reducible refine And.intro ?_ ?_) | (intro) | (with_reducible refine br_intro (fun hq => ?_) (fun hq => ?_)) | (with_reducible refine if_both (fun hz => ?_) (fun hz => ?_)) | fail)

  all_goals first
    | omega
    | assumption
    | contradiction
    | exact ⟨0, (by (refine And.intro (And.intro rfl (And.intro rfl (And.intro rfl rfl))) ?_; repeat' (first | exact trivial | exact rfl | exact fun _ _ _ _ => rfl | refine And.intro ?_ ?_ | omega | fail))), by omega, fun i hi => by omega⟩
    | (refine ⟨y0 + 1, (by (refine And.intro (And.intro rfl (And.intro rfl (And.intro rfl rfl))) ?_; repeat' (first | exact trivial | exact rfl | exact fun _ _ _ _ => rfl | refine And.intro ?_ ?_ | omega | fail))), ⟨by omega, fun i hi => ?_⟩, by omega⟩
       have q := ‹y0 ≤ _ ∧ inr _ y0 _›
       rcases Nat.lt_or_ge i y0 with q2 | q2
       · exact q.2 i q2
       · obtain rfl : i = y0 := by omega
         omega)
    | (exfalso; have q := h2 y0 (by omega); omega)
    | (exfalso; have q := ‹y0 ≤ _ ∧ inr _ y0 _›; exact h2 fun i hi => q.2 i (by omega))
    | exact fin0 (by kernel_rfl) (by kernel_rfl) (by first | exact h | simpa using h)
    | (refine fin1t rfl ?_ (by kernel_rfl) (by kernel_rfl) (h _ (by omega)); (intro i j hi hj; obtain rfl : j = 0 := (by simp at hj; omega); simp only [putF, cpyF, appF, shiftF, zF, Nat.min_self, Nat.sub_zero, Nat.add_zero, Nat.zero_add, Int.toNat_natCast, Int.toNat_zero]; repeat' split; all_goals first | rfl | omega | (simp_all; done) | (simp_all; omega)))
    | (exfalso; simp at hq; omega)
def con25B_rrV (er nr cr : Nat) (fr : RF) (em nm cm : Nat) (fm : RF) (K : Value → List Blk → Prop) : Prop := (T0 ∧ ((0 + nr ≤ nr) ∧ ((eN 0) ∧ ((nr ≤ 100000) ∧ (((@Eq (List IntKind) ([IntKind.i64]) ([IntKind.i64])) ∧ ((eN nr) ∧ (eN cr))) ∧ (eB ∧ ((True) ∧ (T0 ∧ (if (@Eq Int (Prod.snd (rck nr fr)) (0)) then (TS ∧ ((∃ y0 : Nat, ((Go.Rx.Sub 2 [] ⟨35, [(20, vi 0), (19, vi (↑nm : Int)), (18, rsl 1 0 nm cm), (0, rsl 0 0 nr cr)]⟩ ⟨[(0, Blk.row true [IntKind.i64] er nr cr fr), (1, Blk.row true [IntKind.i64] em nm cm fm)], 2⟩ ({ n := 35, m := [(0, rsl 0 0 nr cr), (18, rsl 1 0 nm cm), (19, vi (↑nm : Int)), (20, vi (↑y0 : Int))] }) ({ h := [(0, Blk.row true [IntKind.i64] er nr cr fr), (1, Blk.row true [IntKind.i64] em nm cm fm)], next := 2 })) ∧ ((y0 ≤ nm) ∧ (∀ y1 : Nat, ((y1 < y0) → ((0 ≤ fm y1 0) ∧ (fm y1 0 < (↑nr : Int)))))))) ∧ (∀ y0 : Nat, (((y0 ≤ nm) ∧ (∀ y1 : Nat, ((y1 < y0) → ((0 ≤ fm y1 0) ∧ (fm y1 0 < (↑nr : Int)))))) → (T0 ∧ (if ((↑y0 : Int) < (↑nm : Int)) then ((TS ∧ (eN 1)) ∧ (((0 ≤ (↑y0 : Int)) ∧ ((↑y0 : Int) < (↑nm : Int))) ∧ ((y0 < nm) ∧ (T0 ∧ (if (fm y0 0 < 0) then (∃ y1 : Value, (∃ y2 : List Blk, ((Go.Rx.Found 2 (vt [vn, vi 10]) ({ h := [(0, Blk.row true [IntKind.i64] er nr cr fr), (1, Blk.row true [IntKind.i64] em nm cm fm)], next := 2 }) (y1) (y2)) ∧ (K y1 y2)))) else (TS ∧ (T0 ∧ (if ((↑nr : Int) ≤ fm y0 0) then (∃ y1 : Value, (∃ y2 : List Blk, ((Go.Rx.Found 2 (vt [vn, vi 10]) ({ h := [(0, Blk.row true [IntKind.i64] er nr cr fr), (1, Blk.row true [IntKind.i64] em nm cm fm)], next := 2 }) (y1) (y2)) ∧ (K y1 y2)))) else (T0 ∧ ((((-9223372036854775808 : Int) ≤ (↑y0 : Int) + 1) ∧ ((↑y0 : Int) + (1 : Int) ≤ 9223372036854775807)) ∧ (∃ y1 : Nat, ((Go.Rx.Sub 2 [] ⟨35, [(20, vi ((↑y0 : Int) + 1)), (0, rsl 0 0 nr cr), (18, rsl 1 0 nm cm), (19, vi (↑nm : Int))]⟩ ⟨[(0, Blk.row true [IntKind.i64] er nr cr fr), (1, Blk.row true [IntKind.i64] em nm cm fm)], 2⟩ ({ n := 35, m := [(0, rsl 0 0 nr cr), (18, rsl 1 0 nm cm), (19, vi (↑nm : Int)), (20, vi (↑y1 : Int))] }) ({ h := [(0, Blk.row true [IntKind.i64] er nr cr fr), (1, Blk.row true [IntKind.i64] em nm cm fm)], next := 2 })) ∧ (((y1 ≤ nm) ∧ (∀ y2 : Nat, ((y2 < y1) → ((0 ≤ fm y2 0) ∧ (fm y2 0 < (↑nr : Int)))))) ∧ (nm - y1 < nm - y0)))))))))))))) else (T0 ∧ (TS ∧ (TS ∧ (T0 ∧ (T0 ∧ (T0 ∧ (T0 ∧ (TS ∧ (TS ∧ (T0 ∧ (T0 ∧ (T0 ∧ (T0 ∧ ((0 + nr ≤ nr) ∧ ((nr ≤ 100000) ∧ (T0 ∧ ((eN 0) ∧ (Go.Rx.br (decide (0 < nr)) (∀ y1 : Nat, ((nr ≤ y1) → (∃ y2 : Value, (∃ y3 : List Blk, ((Go.Rx.Found 2 (vt [rsl 3 0 nr y1, vi 0]) ({ h := [(3, Blk.row false [IntKind.i64] 3 nr y1 (appF (fun x x_1 ↦ 0) 0 fr 0)), (2, Blk.row false [IntKind.i64] 3 0 0 (litF (List.length [IntKind.i64]) [])), (0, Blk.row true [IntKind.i64] er nr cr fr), (1, Blk.row true [IntKind.i64] em nm cm fm)], next := 4 }) (y2) (y3)) ∧ (K y2 y3)))))) (∃ y1 : Value, (∃ y2 : List Blk, ((Go.Rx.Found 2 (vt [rsl 2 0 0 0, vi 0]) ({ h := [(2, Blk.row false [IntKind.i64] 3 0 0 (litF (List.length [IntKind.i64]) [])), (0, Blk.row true [IntKind.i64] er nr cr fr), (1, Blk.row true [IntKind.i64] em nm cm fm)], next := 3 }) (y1) (y2)) ∧ (K y1 y2)))))))))))))))))))))))))))) else (∃ y0 : Value, (∃ y1 : List Blk, ((Go.Rx.Found 2 (vt [vn, vi (Prod.snd (rck nr fr))]) ({ h := [(0, Blk.row true [IntKind.i64] er nr cr fr), (1, Blk.row true [IntKind.i64] em nm cm fm)], next := 2 }) (y0) (y1)) ∧ (K y0 y1)))))))))))))
theorem con25B_rrE (er nr cr : Nat) (fr : RF) (em nm cm : Nat) (fm : RF) (K : Value → List Blk → Prop) : con25B_rrV er nr cr fr em nm cm fm K = bodyX (mk XO) (callN (mk XO) 4) (con25B_rrA er nr cr fr em nm cm fm) Try.f25 [rsl 0 0 nr cr, rsl 1 0 nm cm] (stOf [.row true [.i64] er nr cr fr, .row true [.i64] em nm cm fm]) fun v s' => ∃ v1 news, Rx.Found 2 v s' v1 news ∧ K v1 news := by kernel_rfl
set_option maxRecDepth 100000 in
set_option maxHeartbeats 4000000 in
set_option tactic.hygienic false in
theorem con25B_rrP (er nr cr : Nat) (fr : RF) (em nm cm : Nat) (fm : RF) (K : Value → List Blk → Prop)  (hnr : nr ≤ 100000) (hnm : nm ≤ 100000) (h1 : ¬ (rck nr fr).2 = 0) (h : K (.tuple ⟨[.slice none 0 0, .int .i64 ((rck nr fr).2)]⟩) []) : con25B_rrV er nr cr fr em nm cm fm K := by
  unfold con25B_rrV

  repeat' (first | (with_reducible exact rfl) | (with_reducible exact trivial) | (with_reducible refine And.intro ?_ ?_) | (intro) | (with_reducible refine br_intro (fun hq => ?_) (fun hq => ?_)) | (with_reducible refine if_both (fun hz => ?_) (fun hz => ?_)) | fail)

  all_goals first
    | omega
    | assumption
    | contradiction
    | exact ⟨0, (by (refine And.intro (And.intro rfl (And.intro rfl (And.intro rfl rfl))) ?_; repeat' (first | exact trivial | exact rfl | exact fun _ _ _ _ => rfl | refine And.intro ?_ ?_ | omega | fail))), by omega, fun i hi => by omega⟩
    | (refine ⟨y0 + 1, (by (refine And.intro (And.intro rfl (And.intro rfl (And.intro rfl rfl))) ?_; repeat' (first | exact trivial | exact rfl | exact fun _ _ _ _ => rfl | refine And.intro ?_ ?_ | omega | fail))), ⟨by omega, fun i hi => ?_⟩, by omega⟩
       have q := ‹y0 ≤ _ ∧ inr _ y0 _›
       rcases Nat.lt_or_ge i y0 with q2 | q2
       · exact q.2 i q2
       · obtain rfl : i = y0 := by omega
         omega)
    | (exfalso; have q := h2 y0 (by omega); omega)
    | (exfalso; have q := ‹y0 ≤ _ ∧ inr _ y0 _›; exact h2 fun i hi => q.2 i (by omega))
    | exact fin0 (by kernel_rfl) (by kernel_rfl) (by first | exact h | simpa using h)
    | (refine fin1t rfl ?_ (by kernel_rfl) (by kernel_rfl) (h _ (by omega)); (intro i j hi hj; obtain rfl : j = 0 := (by simp at hj; omega); simp only [putF, cpyF, appF, shiftF, zF, Nat.min_self, Nat.sub_zero, Nat.add_zero, Nat.zero_add, Int.toNat_natCast, Int.toNat_zero]; repeat' split; all_goals first | rfl | omega | (simp_all; done) | (simp_all; omega)))
    | (exfalso; simp at hq; omega)
theorem con25B_ok : BodyOk (mk XO) 4 Try.f25 con25B := by
  intro vs bs K hh hro
  clear hro
  unfold con25B at hh
  split at hh
  · rename_i vr vm
    rcases parse_inv hh with ⟨rfl, hh0⟩ | ⟨er, nr, cr, fr, btr, rfl, hnr, rfl, hh0⟩ <;> clear hh
    · obtain ⟨em, nm, cm, fm, btm, rfl, hnm, rfl, hh1⟩ := parseR_inv hh0
      obtain ⟨rfl, h1, hc⟩ := hh1
      exact ⟨_, cast (con25B_nrE em nm cm fm  K) (con25B_nrP em nm cm fm  K hnm h1 hc)⟩
    · obtain ⟨em, nm, cm, fm, btm, rfl, hnm, rfl, hh1⟩ := parseR_inv hh0
      obtain ⟨rfl, h1, hc⟩ := hh1
      exact ⟨_, cast (con25B_rrE er nr cr fr em nm cm fm  K) (con25B_rrP er nr cr fr em nm cm fm  K hnr hnm h1 hc)⟩
  · exact hh.elim
theorem con25B_told : Told 25 (specOf con25B) := told (X := XO) XO_told (by kernel_rfl) (by kernel_rfl) (by kernel_rfl) con25B_ok
def con25X_rrV (er nr cr : Nat) (fr : RF) (em nm cm : Nat) (fm : RF) (K : Value → List Blk → Prop) : Prop := (T0 ∧ ((0 + nr ≤ nr) ∧ ((eN 0) ∧ ((nr ≤ 100000) ∧ (((@Eq (List IntKind) ([IntKind.i64]) ([IntKind.i64])) ∧ ((eN nr) ∧ (eN cr))) ∧ (eB ∧ ((True) ∧ (T0 ∧ (if (@Eq Int (Prod.snd (rck nr fr)) (0)) then (TS ∧ ((∃ y0 : Nat, ((Go.Rx.Sub 2 [] ⟨35, [(20, vi 0), (19, vi (↑nm : Int)), (18, rsl 1 0 nm cm), (0, rsl 0 0 nr cr)]⟩ ⟨[(0, Blk.row true [IntKind.i64] er nr cr fr), (1, Blk.row true [IntKind.i64] em nm cm fm)], 2⟩ ({ n := 35, m := [(0, rsl 0 0 nr cr), (18, rsl 1 0 nm cm), (19, vi (↑nm : Int)), (20, vi (↑y0 : Int))] }) ({ h := [(0, Blk.row true [IntKind.i64] er nr cr fr), (1, Blk.row true [IntKind.i64] em nm cm fm)], next := 2 })) ∧ ((y0 ≤ nm) ∧ (∀ y1 : Nat, ((y1 < y0) → ((0 ≤ fm y1 0) ∧ (fm y1 0 < (↑nr : Int)))))))) ∧ (∀ y0 : Nat, (((y0 ≤ nm) ∧ (∀ y1 : Nat, ((y1 < y0) → ((0 ≤ fm y1 0) ∧ (fm y1 0 < (↑nr : Int)))))) → (T0 ∧ (if ((↑y0 : Int) < (↑nm : Int)) then ((TS ∧ (eN 1)) ∧ (((0 ≤ (↑y0 : Int)) ∧ ((↑y0 : Int) < (↑nm : Int))) ∧ ((y0 < nm) ∧ (T0 ∧ (if (fm y0 0 < 0) then (∃ y1 : Value, (∃ y2 : List Blk, ((Go.Rx.Found 2 (vt [vn, vi 10]) ({ h := [(0, Blk.row true [IntKind.i64] er nr cr fr), (1, Blk.row true [IntKind.i64] em nm cm fm)], next := 2 }) (y1) (y2)) ∧ (K y1 y2)))) else (TS ∧ (T0 ∧ (if ((↑nr : Int) ≤ fm y0 0) then (∃ y1 : Value, (∃ y2 : List Blk, ((Go.Rx.Found 2 (vt [vn, vi 10]) ({ h := [(0, Blk.row true [IntKind.i64] er nr cr fr), (1, Blk.row true [IntKind.i64] em nm cm fm)], next := 2 }) (y1) (y2)) ∧ (K y1 y2)))) else (T0 ∧ ((((-9223372036854775808 : Int) ≤ (↑y0 : Int) + 1) ∧ ((↑y0 : Int) + (1 : Int) ≤ 9223372036854775807)) ∧ (∃ y1 : Nat, ((Go.Rx.Sub 2 [] ⟨35, [(20, vi ((↑y0 : Int) + 1)), (0, rsl 0 0 nr cr), (18, rsl 1 0 nm cm), (19, vi (↑nm : Int))]⟩ ⟨[(0, Blk.row true [IntKind.i64] er nr cr fr), (1, Blk.row true [IntKind.i64] em nm cm fm)], 2⟩ ({ n := 35, m := [(0, rsl 0 0 nr cr), (18, rsl 1 0 nm cm), (19, vi (↑nm : Int)), (20, vi (↑y1 : Int))] }) ({ h := [(0, Blk.row true [IntKind.i64] er nr cr fr), (1, Blk.row true [IntKind.i64] em nm cm fm)], next := 2 })) ∧ (((y1 ≤ nm) ∧ (∀ y2 : Nat, ((y2 < y1) → ((0 ≤ fm y2 0) ∧ (fm y2 0 < (↑nr : Int)))))) ∧ (nm - y1 < nm - y0)))))))))))))) else (T0 ∧ (TS ∧ (TS ∧ (T0 ∧ (T0 ∧ (T0 ∧ (T0 ∧ (TS ∧ (TS ∧ (T0 ∧ (T0 ∧ (T0 ∧ (T0 ∧ ((0 + nr ≤ nr) ∧ ((nr ≤ 100000) ∧ (T0 ∧ ((eN 0) ∧ (Go.Rx.br (decide (0 < nr)) (∀ y1 : Nat, ((nr ≤ y1) → (∃ y2 : Value, (∃ y3 : List Blk, ((Go.Rx.Found 2 (vt [rsl 3 0 nr y1, vi 0]) ({ h := [(3, Blk.row false [IntKind.i64] 3 nr y1 (appF (fun x x_1 ↦ 0) 0 fr 0)), (2, Blk.row false [IntKind.i64] 3 0 0 (litF (List.length [IntKind.i64]) [])), (0, Blk.row true [IntKind.i64] er nr cr fr), (1, Blk.row true [IntKind.i64] em nm cm fm)], next := 4 }) (y2) (y3)) ∧ (K y2 y3)))))) (∃ y1 : Value, (∃ y2 : List Blk, ((Go.Rx.Found 2 (vt [rsl 2 0 0 0, vi 0]) ({ h := [(2, Blk.row false [IntKind.i64] 3 0 0 (litF (List.length [IntKind.i64]) [])), (0, Blk.row true [IntKind.i64] er nr cr fr), (1, Blk.row true [IntKind.i64] em nm cm fm)], next := 3 }) (y1) (y2)) ∧ (K y1 y2)))))))))))))))))))))))))))) else (∃ y0 : Value, (∃ y1 : List Blk, ((Go.Rx.Found 2 (vt [vn, vi (Prod.snd (rck nr fr))]) ({ h := [(0, Blk.row true [IntKind.i64] er nr cr fr), (1, Blk.row true [IntKind.i64] em nm cm fm)], next := 2 }) (y0) (y1)) ∧ (K y0 y1)))))))))))))
theorem con25X_rrE (er nr cr : Nat) (fr : RF) (em nm cm : Nat) (fm : RF) (K : Value → List Blk → Prop) : con25X_rrV er nr cr fr em nm cm fm K = bodyX (mk XO) (callN (mk XO) 4) (con25X_rrA er nr cr fr em nm cm fm) Try.f25 [rsl 0 0 nr cr, rsl 1 0 nm cm] (stOf [.row true [.i64] er nr cr fr, .row true [.i64] em nm cm fm]) fun v s' => ∃ v1 news, Rx.Found 2 v s' v1 news ∧ K v1 news := by kernel_rfl
set_option maxRecDepth 100000 in
set_option maxHeartbeats 4000000 in
set_option tactic.hygienic false in
theorem con25X_rrP (er nr cr : Nat) (fr : RF) (em nm cm : Nat) (fm : RF) (K : Value → List Blk → Prop)  (hnr : nr ≤ 100000) (hnm : nm ≤ 100000) (h1 : (rck nr fr).2 = 0) (h2 : ¬ inr nr nm fm) (h : K (.tuple ⟨[.slice none 0 0, .int .i64 (10)]⟩) []) : con25X_rrV er nr cr fr em nm cm fm K := by
  unfold con25X_rrV
  obtain ⟨g1, g2, g3⟩ := rck_ok h1

  repeat' (first | (with_reducible exact rfl) | (with_reducible exact trivial) | (with_reducible refine And.intro ?_ ?_) | (intro) | (with_reducible refine br_intro (fun hq => ?_) (fun hq => ?_)) | (with_reducible refine if_both (fun hz => ?_) (fun hz => ?_)) | fail)

  all_goals first
    | omega
    | assumption
    | contradiction
    | exact ⟨0, (by (refine And.intro (And.intro rfl (And.intro rfl (And.intro rfl rfl))) ?_; repeat' (first | exact trivial | exact rfl | exact fun _ _ _ _ => rfl | refine And.intro ?_ ?_ | omega | fail))), by omega, fun i hi => by omega⟩
    | (refine ⟨y0 + 1, (by (refine And.intro (And.intro rfl (And.intro rfl (And.intro rfl rfl))) ?_; repeat' (first | exact trivial | exact rfl | exact fun _ _ _ _ => rfl | refine And.intro ?_ ?_ | omega | fail))), ⟨by omega, fun i hi => ?_⟩, by omega⟩
       have q := ‹y0 ≤ _ ∧ inr _ y0 _›
       rcases Nat.lt_or_ge i y0 with q2 | q2
       · exact q.2 i q2
       · obtain rfl : i = y0 := by omega
         omega)
    | (exfalso; have q := h2 y0 (by omega); omega)
    | (exfalso; have q := ‹y0 ≤ _ ∧ inr _ y0 _›; exact h2 fun i hi => q.2 i (by omega))
    | exact fin0 (by kernel_rfl) (by kernel_rfl) (by first | exact h | simpa using h)
    | (refine fin1t rfl ?_ (by kernel_rfl) (by kernel_rfl) (h _ (by omega)); (intro i j hi hj; obtain rfl : j = 0 := (by simp at hj; omega); simp only [putF, cpyF, appF, shiftF, zF, Nat.min_self, Nat.sub_zero, Nat.add_zero, Nat.zero_add, Int.toNat_natCast, Int.toNat_zero]; repeat' split; all_goals first | rfl | omega | (simp_all; done) | (simp_all; omega)))
    | (exfalso; simp at hq; omega)
theorem con25X_ok : BodyOk (mk XO) 4 Try.f25 con25X := by
  intro vs bs K hh hro
  clear hro
  unfold con25X at hh
  split at hh
  · rename_i vr vm
    obtain ⟨er, nr, cr, fr, btr, rfl, hnr, rfl, hh0⟩ := parseR_inv hh
    obtain ⟨em, nm, cm, fm, btm, rfl, hnm, rfl, hh1⟩ := parseR_inv hh0
    obtain ⟨rfl, ⟨h1, h2⟩, hc⟩ := hh1
    exact ⟨_, cast (con25X_rrE er nr cr fr em nm cm fm  K) (con25X_rrP er nr cr fr em nm cm fm  K hnr hnm h1 h2 hc)⟩
  · exact hh.elim
theorem con25X_told : Told 25 (specOf con25X) := told (X := XO) XO_told (by kernel_rfl) (by kernel_rfl) (by kernel_rfl) con25X_ok
def con25G_rrV (er nr cr : Nat) (fr : RF) (em nm cm : Nat) (fm : RF) (K : Value → List Blk → Prop) : Prop := (T0 ∧ ((0 + nr ≤ nr) ∧ ((eN 0) ∧ ((nr ≤ 100000) ∧ (((@Eq (List IntKind) ([IntKind.i64]) ([IntKind.i64])) ∧ ((eN nr) ∧ (eN cr))) ∧ (eB ∧ ((True) ∧ (T0 ∧ (if (@Eq Int (Prod.snd (rck nr fr)) (0)) then (TS ∧ ((∃ y0 : Nat, ((Go.Rx.Sub 2 [] ⟨35, [(20, vi 0), (19, vi (↑nm : Int)), (18, rsl 1 0 nm cm), (0, rsl 0 0 nr cr)]⟩ ⟨[(0, Blk.row true [IntKind.i64] er nr cr fr), (1, Blk.row true [IntKind.i64] em nm cm fm)], 2⟩ ({ n := 35, m := [(0, rsl 0 0 nr cr), (18, rsl 1 0 nm cm), (19, vi (↑nm : Int)), (20, vi (↑y0 : Int))] }) ({ h := [(0, Blk.row true [IntKind.i64] er nr cr fr), (1, Blk.row true [IntKind.i64] em nm cm fm)], next := 2 })) ∧ ((y0 ≤ nm) ∧ (∀ y1 : Nat, ((y1 < y0) → ((0 ≤ fm y1 0) ∧ (fm y1 0 < (↑nr : Int)))))))) ∧ (∀ y0 : Nat, (((y0 ≤ nm) ∧ (∀ y1 : Nat, ((y1 < y0) → ((0 ≤ fm y1 0) ∧ (fm y1 0 < (↑nr : Int)))))) → (T0 ∧ (if ((↑y0 : Int) < (↑nm : Int)) then ((TS ∧ (eN 1)) ∧ (((0 ≤ (↑y0 : Int)) ∧ ((↑y0 : Int) < (↑nm : Int))) ∧ ((y0 < nm) ∧ (T0 ∧ (if (fm y0 0 < 0) then (∃ y1 : Value, (∃ y2 : List Blk, ((Go.Rx.Found 2 (vt [vn, vi 10]) ({ h := [(0, Blk.row true [IntKind.i64] er nr cr fr), (1, Blk.row true [IntKind.i64] em nm cm fm)], next := 2 }) (y1) (y2)) ∧ (K y1 y2)))) else (TS ∧ (T0 ∧ (if ((↑nr : Int) ≤ fm y0 0) then (∃ y1 : Value, (∃ y2 : List Blk, ((Go.Rx.Found 2 (vt [vn, vi 10]) ({ h := [(0, Blk.row true [IntKind.i64] er nr cr fr), (1, Blk.row true [IntKind.i64] em nm cm fm)], next := 2 }) (y1) (y2)) ∧ (K y1 y2)))) else (T0 ∧ ((((-9223372036854775808 : Int) ≤ (↑y0 : Int) + 1) ∧ ((↑y0 : Int) + (1 : Int) ≤ 9223372036854775807)) ∧ (∃ y1 : Nat, ((Go.Rx.Sub 2 [] ⟨35, [(20, vi ((↑y0 : Int) + 1)), (0, rsl 0 0 nr cr), (18, rsl 1 0 nm cm), (19, vi (↑nm : Int))]⟩ ⟨[(0, Blk.row true [IntKind.i64] er nr cr fr), (1, Blk.row true [IntKind.i64] em nm cm fm)], 2⟩ ({ n := 35, m := [(0, rsl 0 0 nr cr), (18, rsl 1 0 nm cm), (19, vi (↑nm : Int)), (20, vi (↑y1 : Int))] }) ({ h := [(0, Blk.row true [IntKind.i64] er nr cr fr), (1, Blk.row true [IntKind.i64] em nm cm fm)], next := 2 })) ∧ (((y1 ≤ nm) ∧ (∀ y2 : Nat, ((y2 < y1) → ((0 ≤ fm y2 0) ∧ (fm y2 0 < (↑nr : Int)))))) ∧ (nm - y1 < nm - y0)))))))))))))) else (T0 ∧ (TS ∧ (TS ∧ (T0 ∧ (T0 ∧ (T0 ∧ (T0 ∧ (TS ∧ (TS ∧ (T0 ∧ (T0 ∧ (T0 ∧ (T0 ∧ ((0 + nr ≤ nr) ∧ ((nr ≤ 100000) ∧ (T0 ∧ ((eN 0) ∧ (Go.Rx.br (decide (0 < nr)) (∀ y1 : Nat, ((nr ≤ y1) → (∃ y2 : Value, (∃ y3 : List Blk, ((Go.Rx.Found 2 (vt [rsl 3 0 nr y1, vi 0]) ({ h := [(3, Blk.row false [IntKind.i64] 3 nr y1 (appF (fun x x_1 ↦ 0) 0 fr 0)), (2, Blk.row false [IntKind.i64] 3 0 0 (litF (List.length [IntKind.i64]) [])), (0, Blk.row true [IntKind.i64] er nr cr fr), (1, Blk.row true [IntKind.i64] em nm cm fm)], next := 4 }) (y2) (y3)) ∧ (K y2 y3)))))) (∃ y1 : Value, (∃ y2 : List Blk, ((Go.Rx.Found 2 (vt [rsl 2 0 0 0, vi 0]) ({ h := [(2, Blk.row false [IntKind.i64] 3 0 0 (litF (List.length [IntKind.i64]) [])), (0, Blk.row true [IntKind.i64] er nr cr fr), (1, Blk.row true [IntKind.i64] em nm cm fm)], next := 3 }) (y1) (y2)) ∧ (K y1 y2)))))))))))))))))))))))))))) else (∃ y0 : Value, (∃ y1 : List Blk, ((Go.Rx.Found 2 (vt [vn, vi (Prod.snd (rck nr fr))]) ({ h := [(0, Blk.row true [IntKind.i64] er nr cr fr), (1, Blk.row true [IntKind.i64] em nm cm fm)], next := 2 }) (y0) (y1)) ∧ (K y0 y1)))))))))))))
theorem con25G_rrE (er nr cr : Nat) (fr : RF) (em nm cm : Nat) (fm : RF) (K : Value → List Blk → Prop) : con25G_rrV er nr cr fr em nm cm fm K = bodyX (mk XO) (callN (mk XO) 4) (con25G_rrA er nr cr fr em nm cm fm) Try.f25 [rsl 0 0 nr cr, rsl 1 0 nm cm] (stOf [.row true [.i64] er nr cr fr, .row true [.i64] em nm cm fm]) fun v s' => ∃ v1 news, Rx.Found 2 v s' v1 news ∧ K v1 news := by kernel_rfl
set_option maxRecDepth 100000 in
set_option maxHeartbeats 4000000 in
set_option tactic.hygienic false in
theorem con25G_rrP (er nr cr : Nat) (fr : RF) (em nm cm : Nat) (fm : RF) (K : Value → List Blk → Prop)  (hnr : nr ≤ 100000) (hnm : nm ≤ 100000) (h1 : (rck nr fr).2 = 0) (h2 : inr nr nm fm) (h : ∀ cp, nr ≤ cp → K (.tuple ⟨[rsl 2 0 nr cp, .int .i64 0]⟩) [.row false [.i64] 3 nr cp fr]) : con25G_rrV er nr cr fr em nm cm fm K := by
  unfold con25G_rrV
  obtain ⟨g1, g2, g3⟩ := rck_ok h1

  repeat' (first | (with_reducible exact rfl) | (with_reducible exact trivial) | (with_reducible refine And.intro ?_ ?_) | (intro) | (with_reducible refine br_intro (fun hq => ?_) (fun hq => ?_)) | (with_reducible refine if_both (fun hz => ?_) (fun hz => ?_)) | fail)

  all_goals first
    | omega
    | assumption
    | contradiction
    | exact ⟨0, (by (refine And.intro (And.intro rfl (And.intro rfl (And.intro rfl rfl))) ?_; repeat' (first | exact trivial | exact rfl | exact fun _ _ _ _ => rfl | refine And.intro ?_ ?_ | omega | fail))), by omega, fun i hi => by omega⟩
    | (refine ⟨y0 + 1, (by (refine And.intro (And.intro rfl (And.intro rfl (And.intro rfl rfl))) ?_; repeat' (first | exact trivial | exact rfl | exact fun _ _ _ _ => rfl | refine And.intro ?_ ?_ | omega | fail))), ⟨by omega, fun i hi => ?_⟩, by omega⟩
       have q := ‹y0 ≤ _ ∧ inr _ y0 _›
       rcases Nat.lt_or_ge i y0 with q2 | q2
       · exact q.2 i q2
       · obtain rfl : i = y0 := by omega
         omega)
    | (exfalso; have q := h2 y0 (by omega); omega)
    | (exfalso; have q := ‹y0 ≤ _ ∧ inr _ y0 _›; exact h2 fun i hi => q.2 i (by omega))
    | exact fin0 (by kernel_rfl) (by kernel_rfl) (by first | exact h | simpa using h)
    | (refine fin1t rfl ?_ (by kernel_rfl) (by kernel_rfl) (h _ (by omega)); (intro i j hi hj; obtain rfl : j = 0 := (by simp at hj; omega); simp only [putF, cpyF, appF, shiftF, zF, Nat.min_self, Nat.sub_zero, Nat.add_zero, Nat.zero_add, Int.toNat_natCast, Int.toNat_zero]; repeat' split; all_goals first | rfl | omega | (simp_all; done) | (simp_all; omega)))
    | (exfalso; simp at hq; omega)
theorem con25G_ok : BodyOk (mk XO) 4 Try.f25 con25G := by
  intro vs bs K hh hro
  clear hro
  unfold con25G at hh
  split at hh
  · rename_i vr vm
    obtain ⟨er, nr, cr, fr, btr, rfl, hnr, rfl, hh0⟩ := parseR_inv hh
    obtain ⟨em, nm, cm, fm, btm, rfl, hnm, rfl, hh1⟩ := parseR_inv hh0
    obtain ⟨rfl, ⟨h1, h2⟩, hc⟩ := hh1
    exact ⟨_, cast (con25G_rrE er nr cr fr em nm cm fm  K) (con25G_rrP er nr cr fr em nm cm fm  K hnr hnm h1 h2 hc)⟩
  · exact hh.elim
theorem con25G_told : Told 25 (specOf con25G) := told (X := XO) XO_told (by kernel_rfl) (by kernel_rfl) (by kernel_rfl) con25G_ok
end Go.Proofs.Ytmnhjnfjgfjafaa.Fr
