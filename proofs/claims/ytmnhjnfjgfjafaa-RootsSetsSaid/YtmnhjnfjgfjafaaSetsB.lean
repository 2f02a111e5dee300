/-
  RootsSets: the body. No project text.
-/
import Derived.Test.YtmnhjnfjgfjafaaR5
namespace Go.Proofs.Ytmnhjnfjgfjafaa.Fr
open Go.Rx
open Go.RowKit (Below)
set_option linter.unusedVariables false

def rsetsB_nA (x0 : Int) (x1 : Int) (x2 : Int) : Ann := fun _ => none
def rsetsB_rA (er nr cr : Nat) (fr : RF) (x0 : Int) (x1 : Int) (x2 : Int) : Ann := fun _ => none

def rsetsX_rA (er nr cr : Nat) (fr : RF) (x0 : Int) (x1 : Int) (x2 : Int) : Ann := fun _ => none

def rsetsR_rA (er nr cr : Nat) (fr : RF) (x0 : Int) (x1 : Int) (x2 : Int) : Ann := fun _ => none

def rsetsM_rA (er nr cr : Nat) (fr : RF) (x0 : Int) (x1 : Int) (x2 : Int) : Ann := fun k => bif Nat.beq k 10 then some [{ α := Nat × Nat × RF, T := fun k => ⟨152, [(0, rsl 0 0 nr cr), (3, .pointer (some ⟨1, 0, none⟩)), (5, rsl 2 0 nr k.2.1), (9, .int .i64 (k.1 : Int))]⟩, S := fun k => ⟨[(2, .row false [.i64] 3 nr k.2.1 k.2.2), (1, .cells [.int .i64 x0, .int .i64 x1, .int .i64 x2] 24), (0, .row true [.i64] er nr cr fr)], 3⟩, I := fun k => k.1 ≤ nr ∧ SetR nr fr x0 x2 k.2.2, m := fun k => nr - k.1, ρ0 := [(1, 1), (2, 2)], ρ1 := [[(1, 1), (2, 2)]] }] else none

def rsetsG_rA (er nr cr : Nat) (fr : RF) (x0 : Int) (x1 : Int) (x2 : Int) : Ann := fun k => bif Nat.beq k 10 then some [{ α := Nat × Nat × RF, T := fun k => ⟨152, [(0, rsl 0 0 nr cr), (3, .pointer (some ⟨1, 0, none⟩)), (5, rsl 2 0 nr k.2.1), (9, .int .i64 (k.1 : Int))]⟩, S := fun k => ⟨[(2, .row false [.i64] 3 nr k.2.1 k.2.2), (1, .cells [.int .i64 x0, .int .i64 x1, .int .i64 x2] 24), (0, .row true [.i64] er nr cr fr)], 3⟩, I := fun k => k.1 ≤ nr ∧ SetR nr fr x0 x2 k.2.2, m := fun k => nr - k.1, ρ0 := [(1, 1), (2, 2)], ρ1 := [[(1, 1), (2, 2)]] }] else none
def rsetsB_nV (x0 : Int) (x1 : Int) (x2 : Int) (K : Value → List Blk → Prop) : Prop := (T0 ∧ (T0 ∧ (TS ∧ (T0 ∧ (TS ∧ (T0 ∧ (TS ∧ (T0 ∧ (T0 ∧ (T0 ∧ (T0 ∧ (T0 ∧ (T0 ∧ (eB ∧ ((¬Prod.snd (rck 0 zF) = 0) ∧ (T0 ∧ (TS ∧ (T0 ∧ ((@Eq (List Value) ([]) ([])) ∧ (@Eq (Value) (Value.bool true) (Value.bool true)))))))))))))))))))))
theorem rsetsB_nE (x0 : Int) (x1 : Int) (x2 : Int) (K : Value → List Blk → Prop) : rsetsB_nV x0 x1 x2 K = bodyX (mk XLB) (callN (mk XLB) 4) (rsetsB_nA x0 x1 x2) Try.f4 [.slice none 0 0, .agg ⟨[.int .i64 x0, .int .i64 x1, .int .i64 x2]⟩] (stOf []) fun v _ => v = .bool true := by kernel_rfl
set_option maxRecDepth 100000 in
set_option maxHeartbeats 4000000 in
set_option tactic.hygienic false in
theorem rsetsB_nP (x0 : Int) (x1 : Int) (x2 : Int) (K : Value → List Blk → Prop)  (h1 : ¬ (rck 0 zF).2 = 0) : rsetsB_nV x0 x1 x2 K := by
  unfold rsetsB_nV

  repeat' (first | (with_reducible exact rfl) | (with_reducible exact trivial) | (with_reducible refine And.intro ?_ ?_) | (intro) | (with_reducible refine br_intro (fun hq => ?_) (fun hq => ?_)) | (with_reducible refine if_both (fun hz => ?_) (fun hz => ?_)) | fail)
  all_goals try (rename _ ≤ _ ∧ SetR _ _ _ _ _ => I; obtain ⟨I1, S⟩ := I; rename Nat × Nat × RF => k)
  all_goals first
    | omega
    | assumption
    | contradiction
    | exact SetR.ok ‹_›
    | exact ⟨(0, y1, y0), (by (refine And.intro (And.intro rfl (And.intro rfl (And.intro rfl rfl))) ?_; repeat' (first | exact trivial | exact rfl | exact fun _ _ _ _ => rfl | refine And.intro ?_ ?_ | omega | fail))), by show 0 ≤ nr; omega, ‹_›⟩
    | (have S2 := (show SetR nr k.2.2 x1 (k.2.2 x0.toNat 0) y3 by assumption)
       by_cases hx : x0.toNat = x1.toNat
       · rw [hx]
       · rw [S2.rest _ hx, S2.now])
    | exact ⟨(k.1 + 1, k.2.1, k.2.2), (by (refine And.intro (And.intro rfl (And.intro rfl (And.intro rfl rfl))) ?_; repeat' (first | exact trivial | exact rfl | exact fun _ _ _ _ => rfl | refine And.intro ?_ ?_ | omega | fail))), ⟨by show k.1 + 1 ≤ nr; omega, S⟩, by show nr - (k.1 + 1) < nr - k.1; omega⟩
    | exact SetR.now ‹_›
    | (exfalso; have := S.rest k.1 (by omega); omega)
    | exact (hz (SetR.now (show SetR nr fr x0 x2 y0 by assumption))).elim
    | exact (hz (SetR.now (show SetR nr y3 x1 0 y5 by assumption))).elim
def rsetsB_rV (er nr cr : Nat) (fr : RF) (x0 : Int) (x1 : Int) (x2 : Int) (K : Value → List Blk → Prop) : Prop := (T0 ∧ (T0 ∧ (TS ∧ (T0 ∧ (if (12 < (↑nr : Int)) then ((@Eq (List Value) ([]) ([])) ∧ (@Eq (Value) (Value.bool true) (Value.bool true))) else (TS ∧ (T0 ∧ (TS ∧ (T0 ∧ (T0 ∧ (T0 ∧ ((0 + nr ≤ nr) ∧ (T0 ∧ (T0 ∧ ((eN 0) ∧ ((nr ≤ 100000) ∧ (((@Eq (List IntKind) ([IntKind.i64]) ([IntKind.i64])) ∧ ((eN nr) ∧ (eN cr))) ∧ (eB ∧ ((¬Prod.snd (rck nr fr) = 0) ∧ (T0 ∧ (if (@Eq Int (Prod.snd (rck nr fr)) (0)) then (T0 ∧ (T0 ∧ (TS ∧ (T0 ∧ (T0 ∧ (T0 ∧ (T0 ∧ (T0 ∧ (T0 ∧ (TS ∧ (T0 ∧ (T0 ∧ (T0 ∧ (T0 ∧ (T0 ∧ (if (@Eq Int (0) (x2)) then (T0 ∧ (@Eq (Value) (Value.bool false) (Value.bool true))) else (@Eq (Value) (Value.bool false) (Value.bool true)))))))))))))))))) else (TS ∧ (T0 ∧ ((@Eq (List Value) ([]) ([])) ∧ (@Eq (Value) (Value.bool true) (Value.bool true))))))))))))))))))))))))))
theorem rsetsB_rE (er nr cr : Nat) (fr : RF) (x0 : Int) (x1 : Int) (x2 : Int) (K : Value → List Blk → Prop) : rsetsB_rV er nr cr fr x0 x1 x2 K = bodyX (mk XLB) (callN (mk XLB) 4) (rsetsB_rA er nr cr fr x0 x1 x2) Try.f4 [rsl 0 0 nr cr, .agg ⟨[.int .i64 x0, .int .i64 x1, .int .i64 x2]⟩] (stOf [.row true [.i64] er nr cr fr]) fun v _ => v = .bool true := by kernel_rfl
set_option maxRecDepth 100000 in
set_option maxHeartbeats 4000000 in
set_option tactic.hygienic false in
theorem rsetsB_rP (er nr cr : Nat) (fr : RF) (x0 : Int) (x1 : Int) (x2 : Int) (K : Value → List Blk → Prop)  (h1 : ¬ (rck nr fr).2 = 0) : rsetsB_rV er nr cr fr x0 x1 x2 K := by
  unfold rsetsB_rV

  repeat' (first | (with_reducible exact rfl) | (with_reducible exact trivial) | (with_reducible refine And.intro ?_ ?_) | (intro) | (with_reducible refine br_intro (fun hq => ?_) (fun hq => ?_)) | (with_reducible refine if_both (fun hz => ?_) (fun hz => ?_)) | fail)
  all_goals try (rename _ ≤ _ ∧ SetR _ _ _ _ _ => I; obtain ⟨I1, S⟩ := I; rename Nat × Nat × RF => k)
  all_goals first
    | omega
    | assumption
    | contradiction
    | exact SetR.ok ‹_›
    | exact ⟨(0, y1, y0), (by (refine And.intro (And.intro rfl (And.intro rfl (And.intro rfl rfl))) ?_; repeat' (first | exact trivial | exact rfl | exact fun _ _ _ _ => rfl | refine And.intro ?_ ?_ | omega | fail))), by show 0 ≤ nr; omega, ‹_›⟩
    | (have S2 := (show SetR nr k.2.2 x1 (k.2.2 x0.toNat 0) y3 by assumption)
       by_cases hx : x0.toNat = x1.toNat
       · rw [hx]
       · rw [S2.rest _ hx, S2.now])
    | exact ⟨(k.1 + 1, k.2.1, k.2.2), (by (refine And.intro (And.intro rfl (And.intro rfl (And.intro rfl rfl))) ?_; repeat' (first | exact trivial | exact rfl | exact fun _ _ _ _ => rfl | refine And.intro ?_ ?_ | omega | fail))), ⟨by show k.1 + 1 ≤ nr; omega, S⟩, by show nr - (k.1 + 1) < nr - k.1; omega⟩
    | exact SetR.now ‹_›
    | (exfalso; have := S.rest k.1 (by omega); omega)
    | exact (hz (SetR.now (show SetR nr fr x0 x2 y0 by assumption))).elim
    | exact (hz (SetR.now (show SetR nr y3 x1 0 y5 by assumption))).elim
def rsetsX_rV (er nr cr : Nat) (fr : RF) (x0 : Int) (x1 : Int) (x2 : Int) (K : Value → List Blk → Prop) : Prop := (T0 ∧ (T0 ∧ (TS ∧ (T0 ∧ (if (12 < (↑nr : Int)) then ((@Eq (List Value) ([]) ([])) ∧ (@Eq (Value) (Value.bool true) (Value.bool true))) else (TS ∧ (T0 ∧ (TS ∧ (T0 ∧ (T0 ∧ (T0 ∧ ((0 + nr ≤ nr) ∧ (T0 ∧ (T0 ∧ ((eN 0) ∧ ((nr ≤ 100000) ∧ (((@Eq (List IntKind) ([IntKind.i64]) ([IntKind.i64])) ∧ ((eN nr) ∧ (eN cr))) ∧ (eB ∧ (((@Eq Int (Prod.snd (rck nr fr)) (0)) ∧ (¬(0 ≤ x0 ∧ x0 < (↑nr : Int)))) ∧ (T0 ∧ (TS ∧ (T0 ∧ ((@Eq (List Value) ([]) ([])) ∧ (@Eq (Value) (Value.bool true) (Value.bool true)))))))))))))))))))))))))
theorem rsetsX_rE (er nr cr : Nat) (fr : RF) (x0 : Int) (x1 : Int) (x2 : Int) (K : Value → List Blk → Prop) : rsetsX_rV er nr cr fr x0 x1 x2 K = bodyX (mk XLX) (callN (mk XLX) 4) (rsetsX_rA er nr cr fr x0 x1 x2) Try.f4 [rsl 0 0 nr cr, .agg ⟨[.int .i64 x0, .int .i64 x1, .int .i64 x2]⟩] (stOf [.row true [.i64] er nr cr fr]) fun v _ => v = .bool true := by kernel_rfl
set_option maxRecDepth 100000 in
set_option maxHeartbeats 4000000 in
set_option tactic.hygienic false in
theorem rsetsX_rP (er nr cr : Nat) (fr : RF) (x0 : Int) (x1 : Int) (x2 : Int) (K : Value → List Blk → Prop)  (h1 : (rck nr fr).2 = 0) (h2 : ¬ (0 ≤ x0 ∧ x0 < (nr : Nat))) : rsetsX_rV er nr cr fr x0 x1 x2 K := by
  unfold rsetsX_rV
  obtain ⟨g1, g2, g3⟩ := rck_ok h1

  repeat' (first | (with_reducible exact rfl) | (with_reducible exact trivial) | (with_reducible refine And.intro ?_ ?_) | (intro) | (with_reducible refine br_intro (fun hq => ?_) (fun hq => ?_)) | (with_reducible refine if_both (fun hz => ?_) (fun hz => ?_)) | fail)
  all_goals try (rename _ ≤ _ ∧ SetR _ _ _ _ _ => I; obtain ⟨I1, S⟩ := I; rename Nat × Nat × RF => k)
  all_goals first
    | omega
    | assumption
    | contradiction
    | exact SetR.ok ‹_›
    | exact ⟨(0, y1, y0), (by (refine And.intro (And.intro rfl (And.intro rfl (And.intro rfl rfl))) ?_; repeat' (first | exact trivial | exact rfl | exact fun _ _ _ _ => rfl | refine And.intro ?_ ?_ | omega | fail))), by show 0 ≤ nr; omega, ‹_›⟩
    | (have S2 := (show SetR nr k.2.2 x1 (k.2.2 x0.toNat 0) y3 by assumption)
       by_cases hx : x0.toNat = x1.toNat
       · rw [hx]
       · rw [S2.rest _ hx, S2.now])
    | exact ⟨(k.1 + 1, k.2.1, k.2.2), (by (refine And.intro (And.intro rfl (And.intro rfl (And.intro rfl rfl))) ?_; repeat' (first | exact trivial | exact rfl | exact fun _ _ _ _ => rfl | refine And.intro ?_ ?_ | omega | fail))), ⟨by show k.1 + 1 ≤ nr; omega, S⟩, by show nr - (k.1 + 1) < nr - k.1; omega⟩
    | exact SetR.now ‹_›
    | (exfalso; have := S.rest k.1 (by omega); omega)
    | exact (hz (SetR.now (show SetR nr fr x0 x2 y0 by assumption))).elim
    | exact (hz (SetR.now (show SetR nr y3 x1 0 y5 by assumption))).elim
def rsetsR_rV (er nr cr : Nat) (fr : RF) (x0 : Int) (x1 : Int) (x2 : Int) (K : Value → List Blk → Prop) : Prop := (T0 ∧ (T0 ∧ (TS ∧ (T0 ∧ (if (12 < (↑nr : Int)) then ((@Eq (List Value) ([]) ([])) ∧ (@Eq (Value) (Value.bool true) (Value.bool true))) else (TS ∧ (T0 ∧ (TS ∧ (T0 ∧ (T0 ∧ (T0 ∧ ((0 + nr ≤ nr) ∧ (T0 ∧ (T0 ∧ ((eN 0) ∧ ((nr ≤ 100000) ∧ (((@Eq (List IntKind) ([IntKind.i64]) ([IntKind.i64])) ∧ ((eN nr) ∧ (eN cr))) ∧ (eB ∧ (((@Eq Int (Prod.snd (rck nr fr)) (0)) ∧ (((0 ≤ x0) ∧ (x0 < (↑nr : Int))) ∧ (¬(0 ≤ x2 ∧ x2 ≤ 1600)))) ∧ (T0 ∧ (TS ∧ (T0 ∧ ((@Eq (List Value) ([]) ([])) ∧ (@Eq (Value) (Value.bool true) (Value.bool true)))))))))))))))))))))))))
theorem rsetsR_rE (er nr cr : Nat) (fr : RF) (x0 : Int) (x1 : Int) (x2 : Int) (K : Value → List Blk → Prop) : rsetsR_rV er nr cr fr x0 x1 x2 K = bodyX (mk XLR) (callN (mk XLR) 4) (rsetsR_rA er nr cr fr x0 x1 x2) Try.f4 [rsl 0 0 nr cr, .agg ⟨[.int .i64 x0, .int .i64 x1, .int .i64 x2]⟩] (stOf [.row true [.i64] er nr cr fr]) fun v _ => v = .bool true := by kernel_rfl
set_option maxRecDepth 100000 in
set_option maxHeartbeats 4000000 in
set_option tactic.hygienic false in
theorem rsetsR_rP (er nr cr : Nat) (fr : RF) (x0 : Int) (x1 : Int) (x2 : Int) (K : Value → List Blk → Prop)  (h1 : (rck nr fr).2 = 0) (h2 : 0 ≤ x0 ∧ x0 < (nr : Nat)) (h3 : ¬ (0 ≤ x2 ∧ x2 ≤ 1600)) : rsetsR_rV er nr cr fr x0 x1 x2 K := by
  unfold rsetsR_rV
  obtain ⟨g1, g2, g3⟩ := rck_ok h1

  repeat' (first | (with_reducible exact rfl) | (with_reducible exact trivial) | (with_reducible refine And.intro ?_ ?_) | (intro) | (with_reducible refine br_intro (fun hq => ?_) (fun hq => ?_)) | (with_reducible refine if_both (fun hz => ?_) (fun hz => ?_)) | fail)
  all_goals try (rename _ ≤ _ ∧ SetR _ _ _ _ _ => I; obtain ⟨I1, S⟩ := I; rename Nat × Nat × RF => k)
  all_goals first
    | omega
    | assumption
    | contradiction
    | exact SetR.ok ‹_›
    | exact ⟨(0, y1, y0), (by (refine And.intro (And.intro rfl (And.intro rfl (And.intro rfl rfl))) ?_; repeat' (first | exact trivial | exact rfl | exact fun _ _ _ _ => rfl | refine And.intro ?_ ?_ | omega | fail))), by show 0 ≤ nr; omega, ‹_›⟩
    | (have S2 := (show SetR nr k.2.2 x1 (k.2.2 x0.toNat 0) y3 by assumption)
       by_cases hx : x0.toNat = x1.toNat
       · rw [hx]
       · rw [S2.rest _ hx, S2.now])
    | exact ⟨(k.1 + 1, k.2.1, k.2.2), (by (refine And.intro (And.intro rfl (And.intro rfl (And.intro rfl rfl))) ?_; repeat' (first | exact trivial | exact rfl | exact fun _ _ _ _ => rfl | refine And.intro ?_ ?_ | omega | fail))), ⟨by show k.1 + 1 ≤ nr; omega, S⟩, by show nr - (k.1 + 1) < nr - k.1; omega⟩
    | exact SetR.now ‹_›
    | (exfalso; have := S.rest k.1 (by omega); omega)
    | exact (hz (SetR.now (show SetR nr fr x0 x2 y0 by assumption))).elim
    | exact (hz (SetR.now (show SetR nr y3 x1 0 y5 by assumption))).elim
def rsetsM_rV (er nr cr : Nat) (fr : RF) (x0 : Int) (x1 : Int) (x2 : Int) (K : Value → List Blk → Prop) : Prop := (T0 ∧ (T0 ∧ (TS ∧ (T0 ∧ (if (12 < (↑nr : Int)) then ((@Eq (List Value) ([]) ([])) ∧ (@Eq (Value) (Value.bool true) (Value.bool true))) else (TS ∧ (T0 ∧ (TS ∧ (T0 ∧ (T0 ∧ (T0 ∧ ((0 + nr ≤ nr) ∧ (T0 ∧ (T0 ∧ ((eN 0) ∧ ((nr ≤ 100000) ∧ (((@Eq (List IntKind) ([IntKind.i64]) ([IntKind.i64])) ∧ ((eN nr) ∧ (eN cr))) ∧ (eB ∧ (((@Eq Int (Prod.snd (rck nr fr)) (0)) ∧ (((0 ≤ x0) ∧ (x0 < (↑nr : Int))) ∧ ((0 ≤ x2) ∧ (x2 ≤ 1600)))) ∧ (∀ y0 : Nat → Nat → Int, ((SetR nr fr x0 x2 y0) → (∀ y1 : Nat, ((nr ≤ y1) → (T0 ∧ (T0 ∧ ((0 + nr ≤ nr) ∧ (T0 ∧ ((eN 0) ∧ ((nr ≤ 100000) ∧ (((@Eq (List IntKind) ([IntKind.i64]) ([IntKind.i64])) ∧ ((eN nr) ∧ (eN y1))) ∧ (eB ∧ (((@Eq Int (Prod.snd (rck nr y0)) (0)) ∧ ((0 ≤ x0) ∧ (x0 < (↑nr : Int)))) ∧ (T0 ∧ (T0 ∧ (if (@Eq Int (y0 (Int.toNat x0) 0) (x2)) then (T0 ∧ (TS ∧ (TS ∧ (T0 ∧ (if (@Eq Int ((↑nr : Int)) ((↑nr : Int))) then ((∃ y2 : Nat × Nat × RF, ((Go.Rx.Sub 1 [(1, 1), (2, 2)] ⟨152, [(9, vi 0), (5, rsl 2 0 nr y1), (3, pt 1 0), (0, rsl 0 0 nr cr)]⟩ ⟨[(2, Blk.row false [IntKind.i64] 3 nr y1 y0), (1, Blk.cells [vi x0, vi x1, vi x2] 24), (0, Blk.row true [IntKind.i64] er nr cr fr)], 3⟩ ({ n := 152, m := [(0, rsl 0 0 nr cr), (3, pt 1 0), (5, rsl 2 0 nr (Prod.fst (Prod.snd y2))), (9, vi (↑(Prod.fst y2) : Int))] }) ({ h := [(2, Blk.row false [IntKind.i64] 3 nr (Prod.fst (Prod.snd y2)) (Prod.snd (Prod.snd y2))), (1, Blk.cells [vi x0, vi x1, vi x2] 24), (0, Blk.row true [IntKind.i64] er nr cr fr)], next := 3 })) ∧ ((Prod.fst y2 ≤ nr) ∧ (SetR nr fr x0 x2 (Prod.snd (Prod.snd y2)))))) ∧ (∀ y2 : Nat × Nat × RF, (((Prod.fst y2 ≤ nr) ∧ (SetR nr fr x0 x2 (Prod.snd (Prod.snd y2)))) → (TS ∧ (T0 ∧ (if ((↑(Prod.fst y2) : Int) < (↑nr : Int)) then (T0 ∧ (T0 ∧ (T0 ∧ (T0 ∧ (T0 ∧ (T0 ∧ (T0 ∧ (if (@Eq Int ((↑(Prod.fst y2) : Int)) (x0)) then (T0 ∧ (T0 ∧ (T0 ∧ ((((-9223372036854775808 : Int) ≤ (↑(Prod.fst y2) : Int) + 1) ∧ ((↑(Prod.fst y2) : Int) + (1 : Int) ≤ 9223372036854775807)) ∧ (∃ y3 : Nat × Nat × RF, ((Go.Rx.Sub 1 [(1, 1), (2, 2)] ⟨152, [(9, vi ((↑(Prod.fst y2) : Int) + 1)), (0, rsl 0 0 nr cr), (3, pt 1 0), (5, rsl 2 0 nr (Prod.fst (Prod.snd y2)))]⟩ ⟨[(2, Blk.row false [IntKind.i64] 3 nr (Prod.fst (Prod.snd y2)) (Prod.snd (Prod.snd y2))), (1, Blk.cells [vi x0, vi x1, vi x2] 24), (0, Blk.row true [IntKind.i64] er nr cr fr)], 3⟩ ({ n := 152, m := [(0, rsl 0 0 nr cr), (3, pt 1 0), (5, rsl 2 0 nr (Prod.fst (Prod.snd y3))), (9, vi (↑(Prod.fst y3) : Int))] }) ({ h := [(2, Blk.row false [IntKind.i64] 3 nr (Prod.fst (Prod.snd y3)) (Prod.snd (Prod.snd y3))), (1, Blk.cells [vi x0, vi x1, vi x2] 24), (0, Blk.row true [IntKind.i64] er nr cr fr)], next := 3 })) ∧ (((Prod.fst y3 ≤ nr) ∧ (SetR nr fr x0 x2 (Prod.snd (Prod.snd y3)))) ∧ (nr - Prod.fst y3 < nr - Prod.fst y2)))))))) else (T0 ∧ (T0 ∧ (T0 ∧ (T0 ∧ ((TS ∧ (eN 1)) ∧ (((0 ≤ (↑(Prod.fst y2) : Int)) ∧ ((↑(Prod.fst y2) : Int) < (↑nr : Int))) ∧ (T0 ∧ ((Prod.fst y2 < nr) ∧ (T0 ∧ (T0 ∧ (T0 ∧ ((TS ∧ (eN 1)) ∧ (((0 ≤ (↑(Prod.fst y2) : Int)) ∧ ((↑(Prod.fst y2) : Int) < (↑nr : Int))) ∧ (T0 ∧ ((Prod.fst y2 < nr) ∧ (T0 ∧ (T0 ∧ (if (@Eq Int (Prod.snd (Prod.snd y2) (Prod.fst y2) 0) (fr (Prod.fst y2) 0)) then (T0 ∧ (T0 ∧ ((((-9223372036854775808 : Int) ≤ (↑(Prod.fst y2) : Int) + 1) ∧ ((↑(Prod.fst y2) : Int) + (1 : Int) ≤ 9223372036854775807)) ∧ (∃ y3 : Nat × Nat × RF, ((Go.Rx.Sub 1 [(1, 1), (2, 2)] ⟨152, [(9, vi ((↑(Prod.fst y2) : Int) + 1)), (0, rsl 0 0 nr cr), (3, pt 1 0), (5, rsl 2 0 nr (Prod.fst (Prod.snd y2)))]⟩ ⟨[(2, Blk.row false [IntKind.i64] 3 nr (Prod.fst (Prod.snd y2)) (Prod.snd (Prod.snd y2))), (1, Blk.cells [vi x0, vi x1, vi x2] 24), (0, Blk.row true [IntKind.i64] er nr cr fr)], 3⟩ ({ n := 152, m := [(0, rsl 0 0 nr cr), (3, pt 1 0), (5, rsl 2 0 nr (Prod.fst (Prod.snd y3))), (9, vi (↑(Prod.fst y3) : Int))] }) ({ h := [(2, Blk.row false [IntKind.i64] 3 nr (Prod.fst (Prod.snd y3)) (Prod.snd (Prod.snd y3))), (1, Blk.cells [vi x0, vi x1, vi x2] 24), (0, Blk.row true [IntKind.i64] er nr cr fr)], next := 3 })) ∧ (((Prod.fst y3 ≤ nr) ∧ (SetR nr fr x0 x2 (Prod.snd (Prod.snd y3)))) ∧ (nr - Prod.fst y3 < nr - Prod.fst y2))))))) else (T0 ∧ (@Eq (Value) (Value.bool false) (Value.bool true))))))))))))))))))))))))))))) else (T0 ∧ (T0 ∧ ((0 + nr ≤ nr) ∧ (T0 ∧ (T0 ∧ ((eN 0) ∧ ((nr ≤ 100000) ∧ (((@Eq (List IntKind) ([IntKind.i64]) ([IntKind.i64])) ∧ ((eN nr) ∧ (@Eq Nat (Prod.fst (Prod.snd y2)) (Prod.fst (Prod.snd y2))))) ∧ (eB ∧ (((@Eq Int (Prod.snd (rck nr (Prod.snd (Prod.snd y2)))) (0)) ∧ ((¬(0 ≤ x1 ∧ x1 < (↑nr : Int))) ∧ ((0 ≤ x0) ∧ (x0 < (↑nr : Int))))) ∧ (T0 ∧ (T0 ∧ (T0 ∧ (if (x1 < 0) then (T0 ∧ ((@Eq (List Value) ([]) ([])) ∧ (@Eq (Value) (Value.bool true) (Value.bool true)))) else (T0 ∧ (TS ∧ (T0 ∧ (if ((↑nr : Int) ≤ x1) then (T0 ∧ ((@Eq (List Value) ([]) ([])) ∧ (@Eq (Value) (Value.bool true) (Value.bool true)))) else (@Eq (Value) (Value.bool false) (Value.bool true)))))))))))))))))))))))))) else (@Eq (Value) (Value.bool false) (Value.bool true))))))) else (@Eq (Value) (Value.bool false) (Value.bool true)))))))))))))))))))))))))))))))))))))
theorem rsetsM_rE (er nr cr : Nat) (fr : RF) (x0 : Int) (x1 : Int) (x2 : Int) (K : Value → List Blk → Prop) : rsetsM_rV er nr cr fr x0 x1 x2 K = bodyX (mk XLM) (callN (mk XLM) 4) (rsetsM_rA er nr cr fr x0 x1 x2) Try.f4 [rsl 0 0 nr cr, .agg ⟨[.int .i64 x0, .int .i64 x1, .int .i64 x2]⟩] (stOf [.row true [.i64] er nr cr fr]) fun v _ => v = .bool true := by kernel_rfl
set_option maxRecDepth 100000 in
set_option maxHeartbeats 4000000 in
set_option tactic.hygienic false in
theorem rsetsM_rP (er nr cr : Nat) (fr : RF) (x0 : Int) (x1 : Int) (x2 : Int) (K : Value → List Blk → Prop)  (h1 : (rck nr fr).2 = 0) (h2 : 0 ≤ x0 ∧ x0 < (nr : Nat)) (h3 : 0 ≤ x2 ∧ x2 ≤ 1600) (h4 : ¬ (0 ≤ x1 ∧ x1 < (nr : Nat))) : rsetsM_rV er nr cr fr x0 x1 x2 K := by
  unfold rsetsM_rV
  obtain ⟨g1, g2, g3⟩ := rck_ok h1

  repeat' (first | (with_reducible exact rfl) | (with_reducible exact trivial) | (with_reducible refine And.intro ?_ ?_) | (intro) | (with_reducible refine br_intro (fun hq => ?_) (fun hq => ?_)) | (with_reducible refine if_both (fun hz => ?_) (fun hz => ?_)) | fail)
  all_goals try (rename _ ≤ _ ∧ SetR _ _ _ _ _ => I; obtain ⟨I1, S⟩ := I; rename Nat × Nat × RF => k)
  all_goals first
    | omega
    | assumption
    | contradiction
    | exact SetR.ok ‹_›
    | exact ⟨(0, y1, y0), (by (refine And.intro (And.intro rfl (And.intro rfl (And.intro rfl rfl))) ?_; repeat' (first | exact trivial | exact rfl | exact fun _ _ _ _ => rfl | refine And.intro ?_ ?_ | omega | fail))), by show 0 ≤ nr; omega, ‹_›⟩
    | (have S2 := (show SetR nr k.2.2 x1 (k.2.2 x0.toNat 0) y3 by assumption)
       by_cases hx : x0.toNat = x1.toNat
       · rw [hx]
       · rw [S2.rest _ hx, S2.now])
    | exact ⟨(k.1 + 1, k.2.1, k.2.2), (by (refine And.intro (And.intro rfl (And.intro rfl (And.intro rfl rfl))) ?_; repeat' (first | exact trivial | exact rfl | exact fun _ _ _ _ => rfl | refine And.intro ?_ ?_ | omega | fail))), ⟨by show k.1 + 1 ≤ nr; omega, S⟩, by show nr - (k.1 + 1) < nr - k.1; omega⟩
    | exact SetR.now ‹_›
    | (exfalso; have := S.rest k.1 (by omega); omega)
    | exact (hz (SetR.now (show SetR nr fr x0 x2 y0 by assumption))).elim
    | exact (hz (SetR.now (show SetR nr y3 x1 0 y5 by assumption))).elim
def rsetsG_rV (er nr cr : Nat) (fr : RF) (x0 : Int) (x1 : Int) (x2 : Int) (K : Value → List Blk → Prop) : Prop := (T0 ∧ (T0 ∧ (TS ∧ (T0 ∧ (if (12 < (↑nr : Int)) then ((@Eq (List Value) ([]) ([])) ∧ (@Eq (Value) (Value.bool true) (Value.bool true))) else (TS ∧ (T0 ∧ (TS ∧ (T0 ∧ (T0 ∧ (T0 ∧ ((0 + nr ≤ nr) ∧ (T0 ∧ (T0 ∧ ((eN 0) ∧ ((nr ≤ 100000) ∧ (((@Eq (List IntKind) ([IntKind.i64]) ([IntKind.i64])) ∧ ((eN nr) ∧ (eN cr))) ∧ (eB ∧ (((@Eq Int (Prod.snd (rck nr fr)) (0)) ∧ (((0 ≤ x0) ∧ (x0 < (↑nr : Int))) ∧ ((0 ≤ x2) ∧ (x2 ≤ 1600)))) ∧ (∀ y0 : Nat → Nat → Int, ((SetR nr fr x0 x2 y0) → (∀ y1 : Nat, ((nr ≤ y1) → (T0 ∧ (T0 ∧ ((0 + nr ≤ nr) ∧ (T0 ∧ ((eN 0) ∧ ((nr ≤ 100000) ∧ (((@Eq (List IntKind) ([IntKind.i64]) ([IntKind.i64])) ∧ ((eN nr) ∧ (eN y1))) ∧ (eB ∧ (((@Eq Int (Prod.snd (rck nr y0)) (0)) ∧ ((0 ≤ x0) ∧ (x0 < (↑nr : Int)))) ∧ (T0 ∧ (T0 ∧ (if (@Eq Int (y0 (Int.toNat x0) 0) (x2)) then (T0 ∧ (TS ∧ (TS ∧ (T0 ∧ (if (@Eq Int ((↑nr : Int)) ((↑nr : Int))) then ((∃ y2 : Nat × Nat × RF, ((Go.Rx.Sub 1 [(1, 1), (2, 2)] ⟨152, [(9, vi 0), (5, rsl 2 0 nr y1), (3, pt 1 0), (0, rsl 0 0 nr cr)]⟩ ⟨[(2, Blk.row false [IntKind.i64] 3 nr y1 y0), (1, Blk.cells [vi x0, vi x1, vi x2] 24), (0, Blk.row true [IntKind.i64] er nr cr fr)], 3⟩ ({ n := 152, m := [(0, rsl 0 0 nr cr), (3, pt 1 0), (5, rsl 2 0 nr (Prod.fst (Prod.snd y2))), (9, vi (↑(Prod.fst y2) : Int))] }) ({ h := [(2, Blk.row false [IntKind.i64] 3 nr (Prod.fst (Prod.snd y2)) (Prod.snd (Prod.snd y2))), (1, Blk.cells [vi x0, vi x1, vi x2] 24), (0, Blk.row true [IntKind.i64] er nr cr fr)], next := 3 })) ∧ ((Prod.fst y2 ≤ nr) ∧ (SetR nr fr x0 x2 (Prod.snd (Prod.snd y2)))))) ∧ (∀ y2 : Nat × Nat × RF, (((Prod.fst y2 ≤ nr) ∧ (SetR nr fr x0 x2 (Prod.snd (Prod.snd y2)))) → (TS ∧ (T0 ∧ (if ((↑(Prod.fst y2) : Int) < (↑nr : Int)) then (T0 ∧ (T0 ∧ (T0 ∧ (T0 ∧ (T0 ∧ (T0 ∧ (T0 ∧ (if (@Eq Int ((↑(Prod.fst y2) : Int)) (x0)) then (T0 ∧ (T0 ∧ (T0 ∧ ((((-9223372036854775808 : Int) ≤ (↑(Prod.fst y2) : Int) + 1) ∧ ((↑(Prod.fst y2) : Int) + (1 : Int) ≤ 9223372036854775807)) ∧ (∃ y3 : Nat × Nat × RF, ((Go.Rx.Sub 1 [(1, 1), (2, 2)] ⟨152, [(9, vi ((↑(Prod.fst y2) : Int) + 1)), (0, rsl 0 0 nr cr), (3, pt 1 0), (5, rsl 2 0 nr (Prod.fst (Prod.snd y2)))]⟩ ⟨[(2, Blk.row false [IntKind.i64] 3 nr (Prod.fst (Prod.snd y2)) (Prod.snd (Prod.snd y2))), (1, Blk.cells [vi x0, vi x1, vi x2] 24), (0, Blk.row true [IntKind.i64] er nr cr fr)], 3⟩ ({ n := 152, m := [(0, rsl 0 0 nr cr), (3, pt 1 0), (5, rsl 2 0 nr (Prod.fst (Prod.snd y3))), (9, vi (↑(Prod.fst y3) : Int))] }) ({ h := [(2, Blk.row false [IntKind.i64] 3 nr (Prod.fst (Prod.snd y3)) (Prod.snd (Prod.snd y3))), (1, Blk.cells [vi x0, vi x1, vi x2] 24), (0, Blk.row true [IntKind.i64] er nr cr fr)], next := 3 })) ∧ (((Prod.fst y3 ≤ nr) ∧ (SetR nr fr x0 x2 (Prod.snd (Prod.snd y3)))) ∧ (nr - Prod.fst y3 < nr - Prod.fst y2)))))))) else (T0 ∧ (T0 ∧ (T0 ∧ (T0 ∧ ((TS ∧ (eN 1)) ∧ (((0 ≤ (↑(Prod.fst y2) : Int)) ∧ ((↑(Prod.fst y2) : Int) < (↑nr : Int))) ∧ (T0 ∧ ((Prod.fst y2 < nr) ∧ (T0 ∧ (T0 ∧ (T0 ∧ ((TS ∧ (eN 1)) ∧ (((0 ≤ (↑(Prod.fst y2) : Int)) ∧ ((↑(Prod.fst y2) : Int) < (↑nr : Int))) ∧ (T0 ∧ ((Prod.fst y2 < nr) ∧ (T0 ∧ (T0 ∧ (if (@Eq Int (Prod.snd (Prod.snd y2) (Prod.fst y2) 0) (fr (Prod.fst y2) 0)) then (T0 ∧ (T0 ∧ ((((-9223372036854775808 : Int) ≤ (↑(Prod.fst y2) : Int) + 1) ∧ ((↑(Prod.fst y2) : Int) + (1 : Int) ≤ 9223372036854775807)) ∧ (∃ y3 : Nat × Nat × RF, ((Go.Rx.Sub 1 [(1, 1), (2, 2)] ⟨152, [(9, vi ((↑(Prod.fst y2) : Int) + 1)), (0, rsl 0 0 nr cr), (3, pt 1 0), (5, rsl 2 0 nr (Prod.fst (Prod.snd y2)))]⟩ ⟨[(2, Blk.row false [IntKind.i64] 3 nr (Prod.fst (Prod.snd y2)) (Prod.snd (Prod.snd y2))), (1, Blk.cells [vi x0, vi x1, vi x2] 24), (0, Blk.row true [IntKind.i64] er nr cr fr)], 3⟩ ({ n := 152, m := [(0, rsl 0 0 nr cr), (3, pt 1 0), (5, rsl 2 0 nr (Prod.fst (Prod.snd y3))), (9, vi (↑(Prod.fst y3) : Int))] }) ({ h := [(2, Blk.row false [IntKind.i64] 3 nr (Prod.fst (Prod.snd y3)) (Prod.snd (Prod.snd y3))), (1, Blk.cells [vi x0, vi x1, vi x2] 24), (0, Blk.row true [IntKind.i64] er nr cr fr)], next := 3 })) ∧ (((Prod.fst y3 ≤ nr) ∧ (SetR nr fr x0 x2 (Prod.snd (Prod.snd y3)))) ∧ (nr - Prod.fst y3 < nr - Prod.fst y2))))))) else (T0 ∧ (@Eq (Value) (Value.bool false) (Value.bool true))))))))))))))))))))))))))))) else (T0 ∧ (T0 ∧ ((0 + nr ≤ nr) ∧ (T0 ∧ (T0 ∧ ((eN 0) ∧ ((nr ≤ 100000) ∧ (((@Eq (List IntKind) ([IntKind.i64]) ([IntKind.i64])) ∧ ((eN nr) ∧ (@Eq Nat (Prod.fst (Prod.snd y2)) (Prod.fst (Prod.snd y2))))) ∧ (eB ∧ (((@Eq Int (Prod.snd (rck nr (Prod.snd (Prod.snd y2)))) (0)) ∧ (((0 ≤ x1) ∧ (x1 < (↑nr : Int))) ∧ ((0 ≤ x0) ∧ (x0 < (↑nr : Int))))) ∧ (∀ y3 : Nat → Nat → Int, ((SetR nr (Prod.snd (Prod.snd y2)) x1 (Prod.snd (Prod.snd y2) (Int.toNat x0) 0) y3) → (∀ y4 : Nat, ((nr ≤ y4) → (T0 ∧ (T0 ∧ (T0 ∧ ((0 + nr ≤ nr) ∧ (T0 ∧ (T0 ∧ ((eN 0) ∧ ((nr ≤ 100000) ∧ (((@Eq (List IntKind) ([IntKind.i64]) ([IntKind.i64])) ∧ ((eN nr) ∧ (eN y4))) ∧ (eB ∧ (((@Eq Int (Prod.snd (rck nr y3)) (0)) ∧ (((0 ≤ x0) ∧ (x0 < (↑nr : Int))) ∧ (((0 ≤ x1) ∧ (x1 < (↑nr : Int))) ∧ (@Eq Int (y3 (Int.toNat x0) 0) (y3 (Int.toNat x1) 0))))) ∧ (T0 ∧ ((0 + nr ≤ nr) ∧ (T0 ∧ ((eN 0) ∧ ((nr ≤ 100000) ∧ (((@Eq (List IntKind) ([IntKind.i64]) ([IntKind.i64])) ∧ ((eN nr) ∧ (eN y4))) ∧ (eB ∧ (((@Eq Int (Prod.snd (rck nr y3)) (0)) ∧ ((0 ≤ x1) ∧ (x1 < (↑nr : Int)))) ∧ (∀ y5 : Nat → Nat → Int, ((SetR nr y3 x1 0 y5) → (∀ y6 : Nat, ((nr ≤ y6) → (T0 ∧ ((0 + nr ≤ nr) ∧ (T0 ∧ ((eN 0) ∧ ((nr ≤ 100000) ∧ (((@Eq (List IntKind) ([IntKind.i64]) ([IntKind.i64])) ∧ ((eN nr) ∧ (eN y6))) ∧ (eB ∧ (((@Eq Int (Prod.snd (rck nr y5)) (0)) ∧ ((0 ≤ x1) ∧ (x1 < (↑nr : Int)))) ∧ (T0 ∧ (T0 ∧ (T0 ∧ (if (@Eq Int (y5 (Int.toNat x1) 0) (0)) then (T0 ∧ ((@Eq (List Value) ([]) ([])) ∧ (@Eq (Value) (Value.bool true) (Value.bool true)))) else (@Eq (Value) (Value.bool false) (Value.bool true))))))))))))))))))))))))))))))))))))))))))))))))))))))))) else (@Eq (Value) (Value.bool false) (Value.bool true))))))) else (@Eq (Value) (Value.bool false) (Value.bool true)))))))))))))))))))))))))))))))))))))
theorem rsetsG_rE (er nr cr : Nat) (fr : RF) (x0 : Int) (x1 : Int) (x2 : Int) (K : Value → List Blk → Prop) : rsetsG_rV er nr cr fr x0 x1 x2 K = bodyX (mk XLG) (callN (mk XLG) 4) (rsetsG_rA er nr cr fr x0 x1 x2) Try.f4 [rsl 0 0 nr cr, .agg ⟨[.int .i64 x0, .int .i64 x1, .int .i64 x2]⟩] (stOf [.row true [.i64] er nr cr fr]) fun v _ => v = .bool true := by kernel_rfl
set_option maxRecDepth 100000 in
set_option maxHeartbeats 4000000 in
set_option tactic.hygienic false in
theorem rsetsG_rP (er nr cr : Nat) (fr : RF) (x0 : Int) (x1 : Int) (x2 : Int) (K : Value → List Blk → Prop)  (h1 : (rck nr fr).2 = 0) (h2 : 0 ≤ x0 ∧ x0 < (nr : Nat)) (h3 : 0 ≤ x2 ∧ x2 ≤ 1600) (h4 : 0 ≤ x1 ∧ x1 < (nr : Nat)) : rsetsG_rV er nr cr fr x0 x1 x2 K := by
  unfold rsetsG_rV
  obtain ⟨g1, g2, g3⟩ := rck_ok h1

  repeat' (first | (with_reducible exact rfl) | (with_reducible exact trivial) | (with_reducible refine And.intro ?_ ?_) | (intro) | (with_reducible refine br_intro (fun hq => ?_) (fun hq => ?_)) | (with_reducible refine if_both (fun hz => ?_) (fun hz => ?_)) | fail)
  all_goals try (rename _ ≤ _ ∧ SetR _ _ _ _ _ => I; obtain ⟨I1, S⟩ := I; rename Nat × Nat × RF => k)
  all_goals first
    | omega
    | assumption
    | contradiction
    | exact SetR.ok ‹_›
    | exact ⟨(0, y1, y0), (by (refine And.intro (And.intro rfl (And.intro rfl (And.intro rfl rfl))) ?_; repeat' (first | exact trivial | exact rfl | exact fun _ _ _ _ => rfl | refine And.intro ?_ ?_ | omega | fail))), by show 0 ≤ nr; omega, ‹_›⟩
    | (have S2 := (show SetR nr k.2.2 x1 (k.2.2 x0.toNat 0) y3 by assumption)
       by_cases hx : x0.toNat = x1.toNat
       · rw [hx]
       · rw [S2.rest _ hx, S2.now])
    | exact ⟨(k.1 + 1, k.2.1, k.2.2), (by (refine And.intro (And.intro rfl (And.intro rfl (And.intro rfl rfl))) ?_; repeat' (first | exact trivial | exact rfl | exact fun _ _ _ _ => rfl | refine And.intro ?_ ?_ | omega | fail))), ⟨by show k.1 + 1 ≤ nr; omega, S⟩, by show nr - (k.1 + 1) < nr - k.1; omega⟩
    | exact SetR.now ‹_›
    | (exfalso; have := S.rest k.1 (by omega); omega)
    | exact (hz (SetR.now (show SetR nr fr x0 x2 y0 by assumption))).elim
    | exact (hz (SetR.now (show SetR nr y3 x1 0 y5 by assumption))).elim
end Go.Proofs.Ytmnhjnfjgfjafaa.Fr
