/-
  AdmitRuns: the body. No project text.
-/
import Derived.Test.YtnpgeeajlbglaaaHa4
namespace Go.Proofs.Ytnpgeeajlbglaaa.Fr
open Go.Rx
open Go.RowKit (Below)
set_option linter.unusedVariables false

def lruns_nA (a b c d e : Int) (o : Int) (l : Int) : Ann := fun _ _ _ => none
def lruns_rA (a b c d e : Int) (er nr cr : Nat) (fr : RF) (o : Int) (l : Int) : Ann := fun _ _ _ => none
set_option maxRecDepth 100000 in
def lruns_nV (a b c d e : Int) (o : Int) (l : Int) (K : Value → List Blk → Prop) : Prop := (T0 ∧ (TS ∧ (T0 ∧ (TS ∧ (T0 ∧ (T0 ∧ (T0 ∧ (T0 ∧ (T0 ∧ (T0 ∧ (T0 ∧ (T0 ∧ ((InC a b c d e) ∧ (eB ∧ ((True) ∧ (T0 ∧ (T0 ∧ (T0 ∧ (T0 ∧ (T0 ∧ (T0 ∧ (T0 ∧ ((InC a b c d e) ∧ (eB ∧ ((True) ∧ (T0 ∧ (if (@Eq Int (Prod.fst (rrn a b c d e o l 0 zF)) (Prod.fst (rrn a b c d e o l 0 zF))) then (T0 ∧ (if (@Eq Int (Prod.snd (rrn a b c d e o l 0 zF)) (Prod.snd (rrn a b c d e o l 0 zF))) then ((@Eq (List Value) ([]) ([])) ∧ (@Eq (Value) (Value.bool true) (Value.bool true))) else (@Eq (Value) (Value.bool false) (Value.bool true)))) else (@Eq (Value) (Value.bool false) (Value.bool true)))))))))))))))))))))))))))))
set_option maxRecDepth 100000 in
theorem lruns_nE (a b c d e : Int) (o : Int) (l : Int) (K : Value → List Blk → Prop) : lruns_nV a b c d e o l K = bodyX (mk XL9) (callN (mk XL9) 4) (lruns_nA a b c d e o l) Try.f9 [.agg ⟨[.int .i64 a, .int .i64 b, .int .i64 c, .int .i64 d, .int .i64 e]⟩, .agg ⟨[.int .i64 o, .int .i64 l]⟩, .slice none 0 0] (stOf []) fun v _ => v = .bool true := by kernel_rfl
set_option maxRecDepth 100000 in
set_option maxHeartbeats 4000000 in
set_option tactic.hygienic false in
theorem lruns_nP (a b c d e : Int) (o : Int) (l : Int) (K : Value → List Blk → Prop)  (hI : InC a b c d e) : lruns_nV a b c d e o l K := by
  unfold lruns_nV

  repeat' (first | (with_reducible exact rfl) | (with_reducible exact trivial) | (with_reducible refine And.intro ?_ ?_) | (intro) | (with_reducible refine br_intro (fun hq => ?_) (fun hq => ?_)) | (with_reducible refine if_both (fun hz => ?_) (fun hz => ?_)) | fail)

  all_goals first
    | omega
    | assumption
    | contradiction
    | (exfalso; simp at hq; omega)
    | (exfalso; omega)
set_option maxRecDepth 100000 in
def lruns_rV (a b c d e : Int) (er nr cr : Nat) (fr : RF) (o : Int) (l : Int) (K : Value → List Blk → Prop) : Prop := (T0 ∧ (TS ∧ (T0 ∧ (if (60 < (↑nr : Int)) then (TS ∧ (T0 ∧ (if ((↑nr : Int) ≤ 200) then ((@Eq (List Value) ([]) ([])) ∧ (@Eq (Value) (Value.bool true) (Value.bool true))) else (TS ∧ (T0 ∧ (if (205 < (↑nr : Int)) then ((@Eq (List Value) ([]) ([])) ∧ (@Eq (Value) (Value.bool true) (Value.bool true))) else (T0 ∧ (T0 ∧ (T0 ∧ (T0 ∧ (T0 ∧ (T0 ∧ ((0 + nr ≤ nr) ∧ ((InC a b c d e) ∧ ((eN 0) ∧ ((nr ≤ 100000) ∧ (((@Eq (List IntKind) ([IntKind.i64]) ([IntKind.i64])) ∧ ((eN nr) ∧ (eN cr))) ∧ (eB ∧ ((True) ∧ (T0 ∧ (T0 ∧ (T0 ∧ (T0 ∧ (T0 ∧ (T0 ∧ ((0 + nr ≤ nr) ∧ ((InC a b c d e) ∧ ((eN 0) ∧ ((nr ≤ 100000) ∧ (((@Eq (List IntKind) ([IntKind.i64]) ([IntKind.i64])) ∧ ((eN nr) ∧ (eN cr))) ∧ (eB ∧ ((True) ∧ (T0 ∧ (if (@Eq Int (Prod.fst (rrn a b c d e o l nr fr)) (Prod.fst (rrn a b c d e o l nr fr))) then (T0 ∧ (if (@Eq Int (Prod.snd (rrn a b c d e o l nr fr)) (Prod.snd (rrn a b c d e o l nr fr))) then ((@Eq (List Value) ([]) ([])) ∧ (@Eq (Value) (Value.bool true) (Value.bool true))) else (@Eq (Value) (Value.bool false) (Value.bool true)))) else (@Eq (Value) (Value.bool false) (Value.bool true)))))))))))))))))))))))))))))))))))) else (TS ∧ (T0 ∧ (if (205 < (↑nr : Int)) then ((@Eq (List Value) ([]) ([])) ∧ (@Eq (Value) (Value.bool true) (Value.bool true))) else (T0 ∧ (T0 ∧ (T0 ∧ (T0 ∧ (T0 ∧ (T0 ∧ ((0 + nr ≤ nr) ∧ ((InC a b c d e) ∧ ((eN 0) ∧ ((nr ≤ 100000) ∧ (((@Eq (List IntKind) ([IntKind.i64]) ([IntKind.i64])) ∧ ((eN nr) ∧ (eN cr))) ∧ (eB ∧ ((True) ∧ (T0 ∧ (T0 ∧ (T0 ∧ (T0 ∧ (T0 ∧ (T0 ∧ ((0 + nr ≤ nr) ∧ ((InC a b c d e) ∧ ((eN 0) ∧ ((nr ≤ 100000) ∧ (((@Eq (List IntKind) ([IntKind.i64]) ([IntKind.i64])) ∧ ((eN nr) ∧ (eN cr))) ∧ (eB ∧ ((True) ∧ (T0 ∧ (if (@Eq Int (Prod.fst (rrn a b c d e o l nr fr)) (Prod.fst (rrn a b c d e o l nr fr))) then (T0 ∧ (if (@Eq Int (Prod.snd (rrn a b c d e o l nr fr)) (Prod.snd (rrn a b c d e o l nr fr))) then ((@Eq (List Value) ([]) ([])) ∧ (@Eq (Value) (Value.bool true) (Value.bool true))) else (@Eq (Value) (Value.bool false) (Value.bool true)))) else (@Eq (Value) (Value.bool false) (Value.bool true)))))))))))))))))))))))))))))))))))))
set_option maxRecDepth 100000 in
theorem lruns_rE (a b c d e : Int) (er nr cr : Nat) (fr : RF) (o : Int) (l : Int) (K : Value → List Blk → Prop) : lruns_rV a b c d e er nr cr fr o l K = bodyX (mk XL9) (callN (mk XL9) 4) (lruns_rA a b c d e er nr cr fr o l) Try.f9 [.agg ⟨[.int .i64 a, .int .i64 b, .int .i64 c, .int .i64 d, .int .i64 e]⟩, .agg ⟨[.int .i64 o, .int .i64 l]⟩, rsl 0 0 nr cr] (stOf [.row true [.i64] er nr cr fr]) fun v _ => v = .bool true := by kernel_rfl
set_option maxRecDepth 100000 in
set_option maxHeartbeats 4000000 in
set_option tactic.hygienic false in
theorem lruns_rP (a b c d e : Int) (er nr cr : Nat) (fr : RF) (o : Int) (l : Int) (K : Value → List Blk → Prop)  (hI : InC a b c d e) : lruns_rV a b c d e er nr cr fr o l K := by
  unfold lruns_rV

  repeat' (first | (with_reducible exact rfl) | (with_reducible exact trivial) | (with_reducible refine And.intro ?_ ?_) | (intro) | (with_reducible refine br_intro (fun hq => ?_) (fun hq => ?_)) | (with_reducible refine if_both (fun hz => ?_) (fun hz => ?_)) | fail)

  all_goals first
    | omega
    | assumption
    | contradiction
    | (exfalso; simp at hq; omega)
    | (exfalso; omega)
end Go.Proofs.Ytnpgeeajlbglaaa.Fr
