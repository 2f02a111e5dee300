/-
  BumpChecks: the body. No project text.
-/
import Derived.Test.YtkflmglpniebfaaBu8
namespace Go.Proofs.Ytkflmglpniebfaa.Fr
open Go.Rx
open Go.RowKit (Below)
set_option linter.unusedVariables false

def bchkA_nnA (a b c d e : Int) (s : Int) (y : Int) : Ann := fun _ _ _ => none
def bchkA_nrA (a b c d e : Int) (et nt ct : Nat) (ft : RF) (s : Int) (y : Int) : Ann := fun _ _ _ => none
def bchkA_rnA (a b c d e : Int) (el nl cl : Nat) (fl : RF) (s : Int) (y : Int) : Ann := fun _ _ _ => none
def bchkA_rrA (a b c d e : Int) (el nl cl : Nat) (fl : RF) (et nt ct : Nat) (ft : RF) (s : Int) (y : Int) : Ann := fun _ _ _ => none

def bchkB_nnA (a b c d e : Int) (s : Int) (y : Int) : Ann := fun _ _ _ => none
def bchkB_nrA (a b c d e : Int) (et nt ct : Nat) (ft : RF) (s : Int) (y : Int) : Ann := fun _ _ _ => none
def bchkB_rnA (a b c d e : Int) (el nl cl : Nat) (fl : RF) (s : Int) (y : Int) : Ann := fun _ _ _ => none
def bchkB_rrA (a b c d e : Int) (el nl cl : Nat) (fl : RF) (et nt ct : Nat) (ft : RF) (s : Int) (y : Int) : Ann := fun _ _ _ => none

def bchkR_rnA (a b c d e : Int) (el nl cl : Nat) (fl : RF) (s : Int) (y : Int) : Ann := fun _ _ _ => none
def bchkR_rrA (a b c d e : Int) (el nl cl : Nat) (fl : RF) (et nt ct : Nat) (ft : RF) (s : Int) (y : Int) : Ann := fun _ _ _ => none

def bchkG_rnA (a b c d e : Int) (el nl cl : Nat) (fl : RF) (s : Int) (y : Int) : Ann := fun _ _ _ => none
def bchkG_rrA (a b c d e : Int) (el nl cl : Nat) (fl : RF) (et nt ct : Nat) (ft : RF) (s : Int) (y : Int) : Ann := fun _ _ _ => none
set_option maxRecDepth 100000 in
def bchkA_nnV (a b c d e : Int) (s : Int) (y : Int) (K : Value → List Blk → Prop) : Prop := (T0 ∧ (T0 ∧ (T0 ∧ (T0 ∧ (TS ∧ (T0 ∧ (T0 ∧ (TS ∧ (T0 ∧ (T0 ∧ (T0 ∧ (T0 ∧ (T0 ∧ (T0 ∧ (T0 ∧ (T0 ∧ (False)))))))))))))))))
set_option maxRecDepth 100000 in
theorem bchkA_nnE (a b c d e : Int) (s : Int) (y : Int) (K : Value → List Blk → Prop) : bchkA_nnV a b c d e s y K = bodyX (mkB XL10A) (callN (mkB XL10A) 4) (bchkA_nnA a b c d e s y) Try.f10 [.agg ⟨[.int .i64 a, .int .i64 b, .int .i64 c, .int .i64 d, .int .i64 e]⟩, .agg ⟨[.slice none 0 0, .slice none 0 0, .int .i64 s]⟩, .int .i64 y] (stOf []) fun v _ => v = .bool true := by kernel_rfl
set_option maxRecDepth 100000 in
set_option maxHeartbeats 4000000 in
set_option tactic.hygienic false in
theorem bchkA_nnP (a b c d e : Int) (s : Int) (y : Int) (K : Value → List Blk → Prop)  (hI : InC a b c d e) (hf : 30 < 0 ∨ 30 < 0) : bchkA_nnV a b c d e s y K := by
  unfold bchkA_nnV

  repeat' (first | (with_reducible exact rfl) | (with_reducible exact trivial) | (with_reducible refine And.intro ?_ ?_) | (intro) | (with_reducible refine br_intro (fun hq => ?_) (fun hq => ?_)) | (with_reducible refine if_both (fun hz => ?_) (fun hz => ?_)) | fail)

  all_goals first
    | omega
    | assumption
    | contradiction
    | exact Nat.le_refl _
    | exact ask_bad h1 (by assumption)
    | exact hct
    | (exfalso; simp at hq; omega)
    | (have e : y0 = y1 := (by cases y0 <;> cases y1 <;> simp_all)
       subst e
       exfalso
       rename (!_ == _) = true => hk
       simp at hk)
    | (have e : y0 = y1 := (by cases y0 <;> cases y1 <;> simp_all)
       subst e
       exfalso
       simp_all)
set_option maxRecDepth 100000 in
def bchkA_nrV (a b c d e : Int) (et nt ct : Nat) (ft : RF) (s : Int) (y : Int) (K : Value → List Blk → Prop) : Prop := (T0 ∧ (T0 ∧ (T0 ∧ (T0 ∧ (TS ∧ (T0 ∧ (T0 ∧ (TS ∧ (T0 ∧ (if (30 < (↑nt : Int)) then ((@Eq (List Value) ([]) ([])) ∧ (@Eq (Value) (Value.bool true) (Value.bool true))) else (T0 ∧ (T0 ∧ (T0 ∧ (T0 ∧ (T0 ∧ (T0 ∧ (T0 ∧ (False))))))))))))))))))
set_option maxRecDepth 100000 in
theorem bchkA_nrE (a b c d e : Int) (et nt ct : Nat) (ft : RF) (s : Int) (y : Int) (K : Value → List Blk → Prop) : bchkA_nrV a b c d e et nt ct ft s y K = bodyX (mkB XL10A) (callN (mkB XL10A) 4) (bchkA_nrA a b c d e et nt ct ft s y) Try.f10 [.agg ⟨[.int .i64 a, .int .i64 b, .int .i64 c, .int .i64 d, .int .i64 e]⟩, .agg ⟨[.slice none 0 0, rsl 0 0 nt ct, .int .i64 s]⟩, .int .i64 y] (stOf [.row true [.i64] et nt ct ft]) fun v _ => v = .bool true := by kernel_rfl
set_option maxRecDepth 100000 in
set_option maxHeartbeats 4000000 in
set_option tactic.hygienic false in
theorem bchkA_nrP (a b c d e : Int) (et nt ct : Nat) (ft : RF) (s : Int) (y : Int) (K : Value → List Blk → Prop)  (hI : InC a b c d e) (hct : nt ≤ ct) (hf : 30 < 0 ∨ 30 < nt) : bchkA_nrV a b c d e et nt ct ft s y K := by
  unfold bchkA_nrV

  repeat' (first | (with_reducible exact rfl) | (with_reducible exact trivial) | (with_reducible refine And.intro ?_ ?_) | (intro) | (with_reducible refine br_intro (fun hq => ?_) (fun hq => ?_)) | (with_reducible refine if_both (fun hz => ?_) (fun hz => ?_)) | fail)

  all_goals first
    | omega
    | assumption
    | contradiction
    | exact Nat.le_refl _
    | exact ask_bad h1 (by assumption)
    | exact hct
    | (exfalso; simp at hq; omega)
    | (have e : y0 = y1 := (by cases y0 <;> cases y1 <;> simp_all)
       subst e
       exfalso
       rename (!_ == _) = true => hk
       simp at hk)
    | (have e : y0 = y1 := (by cases y0 <;> cases y1 <;> simp_all)
       subst e
       exfalso
       simp_all)
set_option maxRecDepth 100000 in
def bchkA_rnV (a b c d e : Int) (el nl cl : Nat) (fl : RF) (s : Int) (y : Int) (K : Value → List Blk → Prop) : Prop := (T0 ∧ (T0 ∧ (T0 ∧ (T0 ∧ (TS ∧ (T0 ∧ (if (30 < (↑nl : Int)) then ((@Eq (List Value) ([]) ([])) ∧ (@Eq (Value) (Value.bool true) (Value.bool true))) else (T0 ∧ (TS ∧ (T0 ∧ (T0 ∧ (T0 ∧ (T0 ∧ (T0 ∧ (T0 ∧ (T0 ∧ (T0 ∧ (False))))))))))))))))))
set_option maxRecDepth 100000 in
theorem bchkA_rnE (a b c d e : Int) (el nl cl : Nat) (fl : RF) (s : Int) (y : Int) (K : Value → List Blk → Prop) : bchkA_rnV a b c d e el nl cl fl s y K = bodyX (mkB XL10A) (callN (mkB XL10A) 4) (bchkA_rnA a b c d e el nl cl fl s y) Try.f10 [.agg ⟨[.int .i64 a, .int .i64 b, .int .i64 c, .int .i64 d, .int .i64 e]⟩, .agg ⟨[rsl 0 0 nl cl, .slice none 0 0, .int .i64 s]⟩, .int .i64 y] (stOf [.row true [.i64, .i64] el nl cl fl]) fun v _ => v = .bool true := by kernel_rfl
set_option maxRecDepth 100000 in
set_option maxHeartbeats 4000000 in
set_option tactic.hygienic false in
theorem bchkA_rnP (a b c d e : Int) (el nl cl : Nat) (fl : RF) (s : Int) (y : Int) (K : Value → List Blk → Prop)  (hI : InC a b c d e) (hf : 30 < nl ∨ 30 < 0) : bchkA_rnV a b c d e el nl cl fl s y K := by
  unfold bchkA_rnV

  repeat' (first | (with_reducible exact rfl) | (with_reducible exact trivial) | (with_reducible refine And.intro ?_ ?_) | (intro) | (with_reducible refine br_intro (fun hq => ?_) (fun hq => ?_)) | (with_reducible refine if_both (fun hz => ?_) (fun hz => ?_)) | fail)

  all_goals first
    | omega
    | assumption
    | contradiction
    | exact Nat.le_refl _
    | exact ask_bad h1 (by assumption)
    | exact hct
    | (exfalso; simp at hq; omega)
    | (have e : y0 = y1 := (by cases y0 <;> cases y1 <;> simp_all)
       subst e
       exfalso
       rename (!_ == _) = true => hk
       simp at hk)
    | (have e : y0 = y1 := (by cases y0 <;> cases y1 <;> simp_all)
       subst e
       exfalso
       simp_all)
set_option maxRecDepth 100000 in
def bchkA_rrV (a b c d e : Int) (el nl cl : Nat) (fl : RF) (et nt ct : Nat) (ft : RF) (s : Int) (y : Int) (K : Value → List Blk → Prop) : Prop := (T0 ∧ (T0 ∧ (T0 ∧ (T0 ∧ (TS ∧ (T0 ∧ (if (30 < (↑nl : Int)) then ((@Eq (List Value) ([]) ([])) ∧ (@Eq (Value) (Value.bool true) (Value.bool true))) else (T0 ∧ (TS ∧ (T0 ∧ (if (30 < (↑nt : Int)) then ((@Eq (List Value) ([]) ([])) ∧ (@Eq (Value) (Value.bool true) (Value.bool true))) else (T0 ∧ (T0 ∧ (T0 ∧ (T0 ∧ (T0 ∧ (T0 ∧ (T0 ∧ (False)))))))))))))))))))
set_option maxRecDepth 100000 in
theorem bchkA_rrE (a b c d e : Int) (el nl cl : Nat) (fl : RF) (et nt ct : Nat) (ft : RF) (s : Int) (y : Int) (K : Value → List Blk → Prop) : bchkA_rrV a b c d e el nl cl fl et nt ct ft s y K = bodyX (mkB XL10A) (callN (mkB XL10A) 4) (bchkA_rrA a b c d e el nl cl fl et nt ct ft s y) Try.f10 [.agg ⟨[.int .i64 a, .int .i64 b, .int .i64 c, .int .i64 d, .int .i64 e]⟩, .agg ⟨[rsl 0 0 nl cl, rsl 1 0 nt ct, .int .i64 s]⟩, .int .i64 y] (stOf [.row true [.i64, .i64] el nl cl fl, .row true [.i64] et nt ct ft]) fun v _ => v = .bool true := by kernel_rfl
set_option maxRecDepth 100000 in
set_option maxHeartbeats 4000000 in
set_option tactic.hygienic false in
theorem bchkA_rrP (a b c d e : Int) (el nl cl : Nat) (fl : RF) (et nt ct : Nat) (ft : RF) (s : Int) (y : Int) (K : Value → List Blk → Prop)  (hI : InC a b c d e) (hct : nt ≤ ct) (hf : 30 < nl ∨ 30 < nt) : bchkA_rrV a b c d e el nl cl fl et nt ct ft s y K := by
  unfold bchkA_rrV

  repeat' (first | (with_reducible exact rfl) | (with_reducible exact trivial) | (with_reducible refine And.intro ?_ ?_) | (intro) | (with_reducible refine br_intro (fun hq => ?_) (fun hq => ?_)) | (with_reducible refine if_both (fun hz => ?_) (fun hz => ?_)) | fail)

  all_goals first
    | omega
    | assumption
    | contradiction
    | exact Nat.le_refl _
    | exact ask_bad h1 (by assumption)
    | exact hct
    | (exfalso; simp at hq; omega)
    | (have e : y0 = y1 := (by cases y0 <;> cases y1 <;> simp_all)
       subst e
       exfalso
       rename (!_ == _) = true => hk
       simp at hk)
    | (have e : y0 = y1 := (by cases y0 <;> cases y1 <;> simp_all)
       subst e
       exfalso
       simp_all)
set_option maxRecDepth 100000 in
def bchkB_nnV (a b c d e : Int) (s : Int) (y : Int) (K : Value → List Blk → Prop) : Prop := (T0 ∧ (T0 ∧ (T0 ∧ (T0 ∧ (TS ∧ (T0 ∧ (T0 ∧ (TS ∧ (T0 ∧ (T0 ∧ (T0 ∧ (T0 ∧ (T0 ∧ (T0 ∧ (T0 ∧ ((InC a b c d e) ∧ (eB ∧ ((Nat.le 0 0) ∧ (T0 ∧ (T0 ∧ (T0 ∧ (T0 ∧ (T0 ∧ (T0 ∧ ((InC a b c d e) ∧ (eB ∧ ((True) ∧ (T0 ∧ (T0 ∧ (T0 ∧ (T0 ∧ (T0 ∧ (T0 ∧ ((InC a b c d e) ∧ (eB ∧ (((Nat.le 0 0) ∧ (¬Prod.snd (bck a b c d e 0 zF 0 zF) = 0)) ∧ (T0 ∧ (T0 ∧ (T0 ∧ (T0 ∧ (T0 ∧ (T0 ∧ ((InC a b c d e) ∧ (eB ∧ ((¬Prod.snd (bck a b c d e 0 zF 0 zF) = 0) ∧ (T0 ∧ (if (@Eq Int (Prod.fst (bck a b c d e 0 zF 0 zF)) (Prod.fst (bck a b c d e 0 zF 0 zF))) then (T0 ∧ (if (@Eq Int (Prod.snd (bck a b c d e 0 zF 0 zF)) (Prod.snd (bck a b c d e 0 zF 0 zF))) then (T0 ∧ (T0 ∧ (if (@Eq Int (Prod.snd (bck a b c d e 0 zF 0 zF)) (Prod.snd (bck a b c d e 0 zF 0 zF))) then (T0 ∧ (T0 ∧ (T0 ∧ (T0 ∧ (T0 ∧ (T0 ∧ (T0 ∧ (T0 ∧ (T0 ∧ ((InC a b c d e) ∧ (eB ∧ (((Nat.le 0 0) ∧ (¬askT a b c d e 0 zF 0 zF s y = 0)) ∧ (T0 ∧ (T0 ∧ (T0 ∧ (T0 ∧ (T0 ∧ (T0 ∧ (T0 ∧ (T0 ∧ (T0 ∧ ((InC a b c d e) ∧ (eB ∧ ((¬askT a b c d e 0 zF 0 zF s y = 0) ∧ (T0 ∧ (T0 ∧ (if (@Eq Int (askT a b c d e 0 zF 0 zF s y) (askT a b c d e 0 zF 0 zF s y)) then ((@Eq (List Value) ([]) ([])) ∧ (@Eq (Value) (Value.bool true) (Value.bool true))) else (@Eq (Value) (Value.bool false) (Value.bool true))))))))))))))))))))))))))))) else (@Eq (Value) (Value.bool false) (Value.bool true))))) else (@Eq (Value) (Value.bool false) (Value.bool true)))) else (@Eq (Value) (Value.bool false) (Value.bool true)))))))))))))))))))))))))))))))))))))))))))))))))
set_option maxRecDepth 100000 in
theorem bchkB_nnE (a b c d e : Int) (s : Int) (y : Int) (K : Value → List Blk → Prop) : bchkB_nnV a b c d e s y K = bodyX (mkB XL10B) (callN (mkB XL10B) 4) (bchkB_nnA a b c d e s y) Try.f10 [.agg ⟨[.int .i64 a, .int .i64 b, .int .i64 c, .int .i64 d, .int .i64 e]⟩, .agg ⟨[.slice none 0 0, .slice none 0 0, .int .i64 s]⟩, .int .i64 y] (stOf []) fun v _ => v = .bool true := by kernel_rfl
set_option maxRecDepth 100000 in
set_option maxHeartbeats 4000000 in
set_option tactic.hygienic false in
theorem bchkB_nnP (a b c d e : Int) (s : Int) (y : Int) (K : Value → List Blk → Prop)  (hI : InC a b c d e) (hf1 : 0 ≤ 30) (hf2 : 0 ≤ 30) (h1 : ¬ (bck a b c d e 0 zF 0 zF).2 = 0) : bchkB_nnV a b c d e s y K := by
  unfold bchkB_nnV

  repeat' (first | (with_reducible exact rfl) | (with_reducible exact trivial) | (with_reducible refine And.intro ?_ ?_) | (intro) | (with_reducible refine br_intro (fun hq => ?_) (fun hq => ?_)) | (with_reducible refine if_both (fun hz => ?_) (fun hz => ?_)) | fail)

  all_goals first
    | omega
    | assumption
    | contradiction
    | exact Nat.le_refl _
    | exact ask_bad h1 (by assumption)
    | exact hct
    | (exfalso; simp at hq; omega)
    | (have e : y0 = y1 := (by cases y0 <;> cases y1 <;> simp_all)
       subst e
       exfalso
       rename (!_ == _) = true => hk
       simp at hk)
    | (have e : y0 = y1 := (by cases y0 <;> cases y1 <;> simp_all)
       subst e
       exfalso
       simp_all)
set_option maxRecDepth 100000 in
def bchkB_nrV (a b c d e : Int) (et nt ct : Nat) (ft : RF) (s : Int) (y : Int) (K : Value → List Blk → Prop) : Prop := (T0 ∧ (T0 ∧ (T0 ∧ (T0 ∧ (TS ∧ (T0 ∧ (T0 ∧ (TS ∧ (T0 ∧ (if (30 < (↑nt : Int)) then ((@Eq (List Value) ([]) ([])) ∧ (@Eq (Value) (Value.bool true) (Value.bool true))) else (T0 ∧ (T0 ∧ (T0 ∧ (T0 ∧ (T0 ∧ ((0 + nt ≤ nt) ∧ ((InC a b c d e) ∧ ((eN 0) ∧ ((nt ≤ 100000) ∧ (((@Eq (List IntKind) ([IntKind.i64]) ([IntKind.i64])) ∧ ((eN nt) ∧ (eN ct))) ∧ (eB ∧ ((Nat.le nt ct) ∧ (T0 ∧ (T0 ∧ (T0 ∧ (T0 ∧ (T0 ∧ ((0 + nt ≤ nt) ∧ ((InC a b c d e) ∧ ((eN 0) ∧ ((nt ≤ 100000) ∧ (((@Eq (List IntKind) ([IntKind.i64]) ([IntKind.i64])) ∧ ((eN nt) ∧ (eN ct))) ∧ (eB ∧ ((True) ∧ (T0 ∧ (T0 ∧ (T0 ∧ (T0 ∧ (T0 ∧ ((0 + nt ≤ nt) ∧ ((InC a b c d e) ∧ ((eN 0) ∧ ((nt ≤ 100000) ∧ (((@Eq (List IntKind) ([IntKind.i64]) ([IntKind.i64])) ∧ ((eN nt) ∧ (eN ct))) ∧ (eB ∧ (((Nat.le nt ct) ∧ (¬Prod.snd (bck a b c d e 0 zF nt ft) = 0)) ∧ (T0 ∧ (T0 ∧ (T0 ∧ (T0 ∧ (T0 ∧ ((0 + nt ≤ nt) ∧ ((InC a b c d e) ∧ ((eN 0) ∧ ((nt ≤ 100000) ∧ (((@Eq (List IntKind) ([IntKind.i64]) ([IntKind.i64])) ∧ ((eN nt) ∧ (eN ct))) ∧ (eB ∧ ((¬Prod.snd (bck a b c d e 0 zF nt ft) = 0) ∧ (T0 ∧ (if (@Eq Int (Prod.fst (bck a b c d e 0 zF nt ft)) (Prod.fst (bck a b c d e 0 zF nt ft))) then (T0 ∧ (if (@Eq Int (Prod.snd (bck a b c d e 0 zF nt ft)) (Prod.snd (bck a b c d e 0 zF nt ft))) then (T0 ∧ (T0 ∧ (if (@Eq Int (Prod.snd (bck a b c d e 0 zF nt ft)) (Prod.snd (bck a b c d e 0 zF nt ft))) then (T0 ∧ (T0 ∧ (T0 ∧ (T0 ∧ (T0 ∧ (T0 ∧ ((0 + nt ≤ nt) ∧ (T0 ∧ (T0 ∧ ((InC a b c d e) ∧ ((eN 0) ∧ ((nt ≤ 100000) ∧ (((@Eq (List IntKind) ([IntKind.i64]) ([IntKind.i64])) ∧ ((eN nt) ∧ (eN ct))) ∧ (eB ∧ (((Nat.le nt ct) ∧ (¬askT a b c d e 0 zF nt ft s y = 0)) ∧ (T0 ∧ (T0 ∧ (T0 ∧ (T0 ∧ (T0 ∧ (T0 ∧ ((0 + nt ≤ nt) ∧ (T0 ∧ (T0 ∧ ((InC a b c d e) ∧ ((eN 0) ∧ ((nt ≤ 100000) ∧ (((@Eq (List IntKind) ([IntKind.i64]) ([IntKind.i64])) ∧ ((eN nt) ∧ (eN ct))) ∧ (eB ∧ ((¬askT a b c d e 0 zF nt ft s y = 0) ∧ (T0 ∧ (T0 ∧ (if (@Eq Int (askT a b c d e 0 zF nt ft s y) (askT a b c d e 0 zF nt ft s y)) then ((@Eq (List Value) ([]) ([])) ∧ (@Eq (Value) (Value.bool true) (Value.bool true))) else (@Eq (Value) (Value.bool false) (Value.bool true))))))))))))))))))))))))))))))))))) else (@Eq (Value) (Value.bool false) (Value.bool true))))) else (@Eq (Value) (Value.bool false) (Value.bool true)))) else (@Eq (Value) (Value.bool false) (Value.bool true))))))))))))))))))))))))))))))))))))))))))))))))))))))))))))))
set_option maxRecDepth 100000 in
theorem bchkB_nrE (a b c d e : Int) (et nt ct : Nat) (ft : RF) (s : Int) (y : Int) (K : Value → List Blk → Prop) : bchkB_nrV a b c d e et nt ct ft s y K = bodyX (mkB XL10B) (callN (mkB XL10B) 4) (bchkB_nrA a b c d e et nt ct ft s y) Try.f10 [.agg ⟨[.int .i64 a, .int .i64 b, .int .i64 c, .int .i64 d, .int .i64 e]⟩, .agg ⟨[.slice none 0 0, rsl 0 0 nt ct, .int .i64 s]⟩, .int .i64 y] (stOf [.row true [.i64] et nt ct ft]) fun v _ => v = .bool true := by kernel_rfl
set_option maxRecDepth 100000 in
set_option maxHeartbeats 4000000 in
set_option tactic.hygienic false in
theorem bchkB_nrP (a b c d e : Int) (et nt ct : Nat) (ft : RF) (s : Int) (y : Int) (K : Value → List Blk → Prop)  (hI : InC a b c d e) (hct : nt ≤ ct) (hf1 : 0 ≤ 30) (hf2 : nt ≤ 30) (h1 : ¬ (bck a b c d e 0 zF nt ft).2 = 0) : bchkB_nrV a b c d e et nt ct ft s y K := by
  unfold bchkB_nrV

  repeat' (first | (with_reducible exact rfl) | (with_reducible exact trivial) | (with_reducible refine And.intro ?_ ?_) | (intro) | (with_reducible refine br_intro (fun hq => ?_) (fun hq => ?_)) | (with_reducible refine if_both (fun hz => ?_) (fun hz => ?_)) | fail)

  all_goals first
    | omega
    | assumption
    | contradiction
    | exact Nat.le_refl _
    | exact ask_bad h1 (by assumption)
    | exact hct
    | (exfalso; simp at hq; omega)
    | (have e : y0 = y1 := (by cases y0 <;> cases y1 <;> simp_all)
       subst e
       exfalso
       rename (!_ == _) = true => hk
       simp at hk)
    | (have e : y0 = y1 := (by cases y0 <;> cases y1 <;> simp_all)
       subst e
       exfalso
       simp_all)
set_option maxRecDepth 100000 in
def bchkB_rnV (a b c d e : Int) (el nl cl : Nat) (fl : RF) (s : Int) (y : Int) (K : Value → List Blk → Prop) : Prop := (T0 ∧ (T0 ∧ (T0 ∧ (T0 ∧ (TS ∧ (T0 ∧ (if (30 < (↑nl : Int)) then ((@Eq (List Value) ([]) ([])) ∧ (@Eq (Value) (Value.bool true) (Value.bool true))) else (T0 ∧ (TS ∧ (T0 ∧ (T0 ∧ (T0 ∧ (T0 ∧ (T0 ∧ ((0 + nl ≤ nl) ∧ (T0 ∧ ((InC a b c d e) ∧ ((eN 0) ∧ ((nl ≤ 100000) ∧ ((eK ∧ ((eN nl) ∧ (eN cl))) ∧ (eB ∧ ((Nat.le 0 0) ∧ (T0 ∧ (T0 ∧ (T0 ∧ (T0 ∧ ((0 + nl ≤ nl) ∧ (T0 ∧ ((InC a b c d e) ∧ ((eN 0) ∧ ((nl ≤ 100000) ∧ ((eK ∧ ((eN nl) ∧ (eN cl))) ∧ (eB ∧ ((True) ∧ (T0 ∧ (T0 ∧ (T0 ∧ (T0 ∧ ((0 + nl ≤ nl) ∧ (T0 ∧ ((InC a b c d e) ∧ ((eN 0) ∧ ((nl ≤ 100000) ∧ ((eK ∧ ((eN nl) ∧ (eN cl))) ∧ (eB ∧ (((Nat.le 0 0) ∧ (¬Prod.snd (bck a b c d e nl fl 0 zF) = 0)) ∧ (T0 ∧ (T0 ∧ (T0 ∧ (T0 ∧ ((0 + nl ≤ nl) ∧ (T0 ∧ ((InC a b c d e) ∧ ((eN 0) ∧ ((nl ≤ 100000) ∧ ((eK ∧ ((eN nl) ∧ (eN cl))) ∧ (eB ∧ ((¬Prod.snd (bck a b c d e nl fl 0 zF) = 0) ∧ (T0 ∧ (if (@Eq Int (Prod.fst (bck a b c d e nl fl 0 zF)) (Prod.fst (bck a b c d e nl fl 0 zF))) then (T0 ∧ (if (@Eq Int (Prod.snd (bck a b c d e nl fl 0 zF)) (Prod.snd (bck a b c d e nl fl 0 zF))) then (T0 ∧ (T0 ∧ (if (@Eq Int (Prod.snd (bck a b c d e nl fl 0 zF)) (Prod.snd (bck a b c d e nl fl 0 zF))) then (T0 ∧ (T0 ∧ (T0 ∧ (T0 ∧ (T0 ∧ ((0 + nl ≤ nl) ∧ (T0 ∧ (T0 ∧ (T0 ∧ ((InC a b c d e) ∧ ((eN 0) ∧ ((nl ≤ 100000) ∧ ((eK ∧ ((eN nl) ∧ (eN cl))) ∧ (eB ∧ (((Nat.le 0 0) ∧ (¬askT a b c d e nl fl 0 zF s y = 0)) ∧ (T0 ∧ (T0 ∧ (T0 ∧ (T0 ∧ (T0 ∧ ((0 + nl ≤ nl) ∧ (T0 ∧ (T0 ∧ (T0 ∧ ((InC a b c d e) ∧ ((eN 0) ∧ ((nl ≤ 100000) ∧ ((eK ∧ ((eN nl) ∧ (eN cl))) ∧ (eB ∧ ((¬askT a b c d e nl fl 0 zF s y = 0) ∧ (T0 ∧ (T0 ∧ (if (@Eq Int (askT a b c d e nl fl 0 zF s y) (askT a b c d e nl fl 0 zF s y)) then ((@Eq (List Value) ([]) ([])) ∧ (@Eq (Value) (Value.bool true) (Value.bool true))) else (@Eq (Value) (Value.bool false) (Value.bool true))))))))))))))))))))))))))))))))))) else (@Eq (Value) (Value.bool false) (Value.bool true))))) else (@Eq (Value) (Value.bool false) (Value.bool true)))) else (@Eq (Value) (Value.bool false) (Value.bool true))))))))))))))))))))))))))))))))))))))))))))))))))))))))))))))
set_option maxRecDepth 100000 in
theorem bchkB_rnE (a b c d e : Int) (el nl cl : Nat) (fl : RF) (s : Int) (y : Int) (K : Value → List Blk → Prop) : bchkB_rnV a b c d e el nl cl fl s y K = bodyX (mkB XL10B) (callN (mkB XL10B) 4) (bchkB_rnA a b c d e el nl cl fl s y) Try.f10 [.agg ⟨[.int .i64 a, .int .i64 b, .int .i64 c, .int .i64 d, .int .i64 e]⟩, .agg ⟨[rsl 0 0 nl cl, .slice none 0 0, .int .i64 s]⟩, .int .i64 y] (stOf [.row true [.i64, .i64] el nl cl fl]) fun v _ => v = .bool true := by kernel_rfl
set_option maxRecDepth 100000 in
set_option maxHeartbeats 4000000 in
set_option tactic.hygienic false in
theorem bchkB_rnP (a b c d e : Int) (el nl cl : Nat) (fl : RF) (s : Int) (y : Int) (K : Value → List Blk → Prop)  (hI : InC a b c d e) (hf1 : nl ≤ 30) (hf2 : 0 ≤ 30) (h1 : ¬ (bck a b c d e nl fl 0 zF).2 = 0) : bchkB_rnV a b c d e el nl cl fl s y K := by
  unfold bchkB_rnV

  repeat' (first | (with_reducible exact rfl) | (with_reducible exact trivial) | (with_reducible refine And.intro ?_ ?_) | (intro) | (with_reducible refine br_intro (fun hq => ?_) (fun hq => ?_)) | (with_reducible refine if_both (fun hz => ?_) (fun hz => ?_)) | fail)

  all_goals first
    | omega
    | assumption
    | contradiction
    | exact Nat.le_refl _
    | exact ask_bad h1 (by assumption)
    | exact hct
    | (exfalso; simp at hq; omega)
    | (have e : y0 = y1 := (by cases y0 <;> cases y1 <;> simp_all)
       subst e
       exfalso
       rename (!_ == _) = true => hk
       simp at hk)
    | (have e : y0 = y1 := (by cases y0 <;> cases y1 <;> simp_all)
       subst e
       exfalso
       simp_all)
set_option maxRecDepth 100000 in
def bchkB_rrV (a b c d e : Int) (el nl cl : Nat) (fl : RF) (et nt ct : Nat) (ft : RF) (s : Int) (y : Int) (K : Value → List Blk → Prop) : Prop := (T0 ∧ (T0 ∧ (T0 ∧ (T0 ∧ (TS ∧ (T0 ∧ (if (30 < (↑nl : Int)) then ((@Eq (List Value) ([]) ([])) ∧ (@Eq (Value) (Value.bool true) (Value.bool true))) else (T0 ∧ (TS ∧ (T0 ∧ (if (30 < (↑nt : Int)) then ((@Eq (List Value) ([]) ([])) ∧ (@Eq (Value) (Value.bool true) (Value.bool true))) else (T0 ∧ (T0 ∧ (T0 ∧ (T0 ∧ ((0 + nl ≤ nl) ∧ ((0 + nt ≤ nt) ∧ ((InC a b c d e) ∧ ((eN 0) ∧ ((nl ≤ 100000) ∧ ((eK ∧ ((eN nl) ∧ (eN cl))) ∧ ((eN 1) ∧ ((nt ≤ 100000) ∧ (((@Eq (List IntKind) ([IntKind.i64]) ([IntKind.i64])) ∧ ((eN nt) ∧ (eN ct))) ∧ (eB ∧ ((Nat.le nt ct) ∧ (T0 ∧ (T0 ∧ (T0 ∧ (T0 ∧ ((0 + nl ≤ nl) ∧ ((0 + nt ≤ nt) ∧ ((InC a b c d e) ∧ ((eN 0) ∧ ((nl ≤ 100000) ∧ ((eK ∧ ((eN nl) ∧ (eN cl))) ∧ ((eN 1) ∧ ((nt ≤ 100000) ∧ (((@Eq (List IntKind) ([IntKind.i64]) ([IntKind.i64])) ∧ ((eN nt) ∧ (eN ct))) ∧ (eB ∧ ((True) ∧ (T0 ∧ (T0 ∧ (T0 ∧ (T0 ∧ ((0 + nl ≤ nl) ∧ ((0 + nt ≤ nt) ∧ ((InC a b c d e) ∧ ((eN 0) ∧ ((nl ≤ 100000) ∧ ((eK ∧ ((eN nl) ∧ (eN cl))) ∧ ((eN 1) ∧ ((nt ≤ 100000) ∧ (((@Eq (List IntKind) ([IntKind.i64]) ([IntKind.i64])) ∧ ((eN nt) ∧ (eN ct))) ∧ (eB ∧ (((Nat.le nt ct) ∧ (¬Prod.snd (bck a b c d e nl fl nt ft) = 0)) ∧ (T0 ∧ (T0 ∧ (T0 ∧ (T0 ∧ ((0 + nl ≤ nl) ∧ ((0 + nt ≤ nt) ∧ ((InC a b c d e) ∧ ((eN 0) ∧ ((nl ≤ 100000) ∧ ((eK ∧ ((eN nl) ∧ (eN cl))) ∧ ((eN 1) ∧ ((nt ≤ 100000) ∧ (((@Eq (List IntKind) ([IntKind.i64]) ([IntKind.i64])) ∧ ((eN nt) ∧ (eN ct))) ∧ (eB ∧ ((¬Prod.snd (bck a b c d e nl fl nt ft) = 0) ∧ (T0 ∧ (if (@Eq Int (Prod.fst (bck a b c d e nl fl nt ft)) (Prod.fst (bck a b c d e nl fl nt ft))) then (T0 ∧ (if (@Eq Int (Prod.snd (bck a b c d e nl fl nt ft)) (Prod.snd (bck a b c d e nl fl nt ft))) then (T0 ∧ (T0 ∧ (if (@Eq Int (Prod.snd (bck a b c d e nl fl nt ft)) (Prod.snd (bck a b c d e nl fl nt ft))) then (T0 ∧ (T0 ∧ (T0 ∧ (T0 ∧ (T0 ∧ ((0 + nl ≤ nl) ∧ ((0 + nt ≤ nt) ∧ (T0 ∧ (T0 ∧ ((InC a b c d e) ∧ ((eN 0) ∧ ((nl ≤ 100000) ∧ ((eK ∧ ((eN nl) ∧ (eN cl))) ∧ ((eN 1) ∧ ((nt ≤ 100000) ∧ (((@Eq (List IntKind) ([IntKind.i64]) ([IntKind.i64])) ∧ ((eN nt) ∧ (eN ct))) ∧ (eB ∧ (((Nat.le nt ct) ∧ (¬askT a b c d e nl fl nt ft s y = 0)) ∧ (T0 ∧ (T0 ∧ (T0 ∧ (T0 ∧ (T0 ∧ ((0 + nl ≤ nl) ∧ ((0 + nt ≤ nt) ∧ (T0 ∧ (T0 ∧ ((InC a b c d e) ∧ ((eN 0) ∧ ((nl ≤ 100000) ∧ ((eK ∧ ((eN nl) ∧ (eN cl))) ∧ ((eN 1) ∧ ((nt ≤ 100000) ∧ (((@Eq (List IntKind) ([IntKind.i64]) ([IntKind.i64])) ∧ ((eN nt) ∧ (eN ct))) ∧ (eB ∧ ((¬askT a b c d e nl fl nt ft s y = 0) ∧ (T0 ∧ (T0 ∧ (if (@Eq Int (askT a b c d e nl fl nt ft s y) (askT a b c d e nl fl nt ft s y)) then ((@Eq (List Value) ([]) ([])) ∧ (@Eq (Value) (Value.bool true) (Value.bool true))) else (@Eq (Value) (Value.bool false) (Value.bool true))))))))))))))))))))))))))))))))))))))))) else (@Eq (Value) (Value.bool false) (Value.bool true))))) else (@Eq (Value) (Value.bool false) (Value.bool true)))) else (@Eq (Value) (Value.bool false) (Value.bool true)))))))))))))))))))))))))))))))))))))))))))))))))))))))))))))))))))))))))))
set_option maxRecDepth 100000 in
theorem bchkB_rrE (a b c d e : Int) (el nl cl : Nat) (fl : RF) (et nt ct : Nat) (ft : RF) (s : Int) (y : Int) (K : Value → List Blk → Prop) : bchkB_rrV a b c d e el nl cl fl et nt ct ft s y K = bodyX (mkB XL10B) (callN (mkB XL10B) 4) (bchkB_rrA a b c d e el nl cl fl et nt ct ft s y) Try.f10 [.agg ⟨[.int .i64 a, .int .i64 b, .int .i64 c, .int .i64 d, .int .i64 e]⟩, .agg ⟨[rsl 0 0 nl cl, rsl 1 0 nt ct, .int .i64 s]⟩, .int .i64 y] (stOf [.row true [.i64, .i64] el nl cl fl, .row true [.i64] et nt ct ft]) fun v _ => v = .bool true := by kernel_rfl
set_option maxRecDepth 100000 in
set_option maxHeartbeats 4000000 in
set_option tactic.hygienic false in
theorem bchkB_rrP (a b c d e : Int) (el nl cl : Nat) (fl : RF) (et nt ct : Nat) (ft : RF) (s : Int) (y : Int) (K : Value → List Blk → Prop)  (hI : InC a b c d e) (hct : nt ≤ ct) (hf1 : nl ≤ 30) (hf2 : nt ≤ 30) (h1 : ¬ (bck a b c d e nl fl nt ft).2 = 0) : bchkB_rrV a b c d e el nl cl fl et nt ct ft s y K := by
  unfold bchkB_rrV

  repeat' (first | (with_reducible exact rfl) | (with_reducible exact trivial) | (with_reducible refine And.intro ?_ ?_) | (intro) | (with_reducible refine br_intro (fun hq => ?_) (fun hq => ?_)) | (with_reducible refine if_both (fun hz => ?_) (fun hz => ?_)) | fail)

  all_goals first
    | omega
    | assumption
    | contradiction
    | exact Nat.le_refl _
    | exact ask_bad h1 (by assumption)
    | exact hct
    | (exfalso; simp at hq; omega)
    | (have e : y0 = y1 := (by cases y0 <;> cases y1 <;> simp_all)
       subst e
       exfalso
       rename (!_ == _) = true => hk
       simp at hk)
    | (have e : y0 = y1 := (by cases y0 <;> cases y1 <;> simp_all)
       subst e
       exfalso
       simp_all)
set_option maxRecDepth 100000 in
def bchkR_rnV (a b c d e : Int) (el nl cl : Nat) (fl : RF) (s : Int) (y : Int) (K : Value → List Blk → Prop) : Prop := (T0 ∧ (T0 ∧ (T0 ∧ (T0 ∧ (TS ∧ (T0 ∧ (if (30 < (↑nl : Int)) then ((@Eq (List Value) ([]) ([])) ∧ (@Eq (Value) (Value.bool true) (Value.bool true))) else (T0 ∧ (TS ∧ (T0 ∧ (T0 ∧ (T0 ∧ (T0 ∧ (T0 ∧ ((0 + nl ≤ nl) ∧ (T0 ∧ ((InC a b c d e) ∧ ((eN 0) ∧ ((nl ≤ 100000) ∧ ((eK ∧ ((eN nl) ∧ (eN cl))) ∧ (eB ∧ (((Nat.le 0 0) ∧ (@Eq Int (Prod.snd (bck a b c d e nl fl 0 zF)) (0))) ∧ (T0 ∧ (T0 ∧ (T0 ∧ (T0 ∧ ((0 + nl ≤ nl) ∧ (T0 ∧ ((InC a b c d e) ∧ ((eN 0) ∧ ((nl ≤ 100000) ∧ ((eK ∧ ((eN nl) ∧ (eN cl))) ∧ (eB ∧ ((@Eq Int (Prod.snd (bck a b c d e nl fl 0 zF)) (0)) ∧ (T0 ∧ (T0 ∧ (T0 ∧ (T0 ∧ ((0 + nl ≤ nl) ∧ (T0 ∧ ((InC a b c d e) ∧ ((eN 0) ∧ ((nl ≤ 100000) ∧ ((eK ∧ ((eN nl) ∧ (eN cl))) ∧ (eB ∧ (((Nat.le 0 0) ∧ (@Eq Int (Prod.snd (bck a b c d e nl fl 0 zF)) (0))) ∧ (∀ y0 : Bool, ((y0 = true ↔ sndP a fl 0 zF) → (T0 ∧ (T0 ∧ (T0 ∧ (T0 ∧ ((0 + nl ≤ nl) ∧ (T0 ∧ ((InC a b c d e) ∧ ((eN 0) ∧ ((nl ≤ 100000) ∧ ((eK ∧ ((eN nl) ∧ (eN cl))) ∧ (eB ∧ ((@Eq Int (Prod.snd (bck a b c d e nl fl 0 zF)) (0)) ∧ (∀ y1 : Bool, ((y1 = true ↔ sndP a fl 0 zF) → (T0 ∧ (T0 ∧ (T0 ∧ (Go.Rx.br (!y0 == y1) (Go.Rx.br (!y0 == y1) (Go.Rx.br (!y0 == y1) (Go.Rx.br (!y0 == y1) (@Eq (Value) (Value.bool false) (Value.bool true)) (False)) (False)) (Go.Rx.br (!y0 == y1) (Go.Rx.br (!y0 == y1) (@Eq (Value) (Value.bool false) (Value.bool true)) (False)) (False))) (Go.Rx.br (!y0 == y1) (Go.Rx.br (!y0 == y1) (Go.Rx.br (!y0 == y1) (@Eq (Value) (Value.bool false) (Value.bool true)) (False)) (False)) (Go.Rx.br (!y0 == y1) (Go.Rx.br (!y0 == y1) (@Eq (Value) (Value.bool false) (Value.bool true)) (False)) (T0 ∧ (Go.Rx.br (!y0 == y1) (@Eq (Value) (Value.bool false) (Value.bool true)) (T0 ∧ (T0 ∧ (T0 ∧ (T0 ∧ (T0 ∧ ((0 + nl ≤ nl) ∧ (T0 ∧ (T0 ∧ (T0 ∧ ((InC a b c d e) ∧ ((eN 0) ∧ ((nl ≤ 100000) ∧ ((eK ∧ ((eN nl) ∧ (eN cl))) ∧ (eB ∧ (((Nat.le 0 0) ∧ (¬askT a b c d e nl fl 0 zF s y = 0)) ∧ (T0 ∧ (T0 ∧ (T0 ∧ (T0 ∧ (T0 ∧ ((0 + nl ≤ nl) ∧ (T0 ∧ (T0 ∧ (T0 ∧ ((InC a b c d e) ∧ ((eN 0) ∧ ((nl ≤ 100000) ∧ ((eK ∧ ((eN nl) ∧ (eN cl))) ∧ (eB ∧ ((¬askT a b c d e nl fl 0 zF s y = 0) ∧ (T0 ∧ (T0 ∧ (if (@Eq Int (askT a b c d e nl fl 0 zF s y) (askT a b c d e nl fl 0 zF s y)) then ((@Eq (List Value) ([]) ([])) ∧ (@Eq (Value) (Value.bool true) (Value.bool true))) else (@Eq (Value) (Value.bool false) (Value.bool true)))))))))))))))))))))))))))))))))))))))))))))))))))))))))))))))))))))))))))))))))))))))))))))))))))))))))
set_option maxRecDepth 100000 in
theorem bchkR_rnE (a b c d e : Int) (el nl cl : Nat) (fl : RF) (s : Int) (y : Int) (K : Value → List Blk → Prop) : bchkR_rnV a b c d e el nl cl fl s y K = bodyX (mkB XL10R) (callN (mkB XL10R) 4) (bchkR_rnA a b c d e el nl cl fl s y) Try.f10 [.agg ⟨[.int .i64 a, .int .i64 b, .int .i64 c, .int .i64 d, .int .i64 e]⟩, .agg ⟨[rsl 0 0 nl cl, .slice none 0 0, .int .i64 s]⟩, .int .i64 y] (stOf [.row true [.i64, .i64] el nl cl fl]) fun v _ => v = .bool true := by kernel_rfl
set_option maxRecDepth 100000 in
set_option maxHeartbeats 4000000 in
set_option tactic.hygienic false in
theorem bchkR_rnP (a b c d e : Int) (el nl cl : Nat) (fl : RF) (s : Int) (y : Int) (K : Value → List Blk → Prop)  (hI : InC a b c d e) (hf1 : nl ≤ 30) (hf2 : 0 ≤ 30) (h1 : (bck a b c d e nl fl 0 zF).2 = 0) (h2 : ¬ askT a b c d e nl fl 0 zF s y = 0) : bchkR_rnV a b c d e el nl cl fl s y K := by
  unfold bchkR_rnV

  repeat' (first | (with_reducible exact rfl) | (with_reducible exact trivial) | (with_reducible refine And.intro ?_ ?_) | (intro) | (with_reducible refine br_intro (fun hq => ?_) (fun hq => ?_)) | (with_reducible refine if_both (fun hz => ?_) (fun hz => ?_)) | fail)

  all_goals first
    | omega
    | assumption
    | contradiction
    | exact Nat.le_refl _
    | exact ask_bad h1 (by assumption)
    | exact hct
    | (exfalso; simp at hq; omega)
    | (have e : y0 = y1 := (by cases y0 <;> cases y1 <;> simp_all)
       subst e
       exfalso
       rename (!_ == _) = true => hk
       simp at hk)
    | (have e : y0 = y1 := (by cases y0 <;> cases y1 <;> simp_all)
       subst e
       exfalso
       simp_all)
set_option maxRecDepth 100000 in
def bchkR_rrV (a b c d e : Int) (el nl cl : Nat) (fl : RF) (et nt ct : Nat) (ft : RF) (s : Int) (y : Int) (K : Value → List Blk → Prop) : Prop := (T0 ∧ (T0 ∧ (T0 ∧ (T0 ∧ (TS ∧ (T0 ∧ (if (30 < (↑nl : Int)) then ((@Eq (List Value) ([]) ([])) ∧ (@Eq (Value) (Value.bool true) (Value.bool true))) else (T0 ∧ (TS ∧ (T0 ∧ (if (30 < (↑nt : Int)) then ((@Eq (List Value) ([]) ([])) ∧ (@Eq (Value) (Value.bool true) (Value.bool true))) else (T0 ∧ (T0 ∧ (T0 ∧ (T0 ∧ ((0 + nl ≤ nl) ∧ ((0 + nt ≤ nt) ∧ ((InC a b c d e) ∧ ((eN 0) ∧ ((nl ≤ 100000) ∧ ((eK ∧ ((eN nl) ∧ (eN cl))) ∧ ((eN 1) ∧ ((nt ≤ 100000) ∧ (((@Eq (List IntKind) ([IntKind.i64]) ([IntKind.i64])) ∧ ((eN nt) ∧ (eN ct))) ∧ (eB ∧ (((Nat.le nt ct) ∧ (@Eq Int (Prod.snd (bck a b c d e nl fl nt ft)) (0))) ∧ (T0 ∧ (T0 ∧ (T0 ∧ (T0 ∧ ((0 + nl ≤ nl) ∧ ((0 + nt ≤ nt) ∧ ((InC a b c d e) ∧ ((eN 0) ∧ ((nl ≤ 100000) ∧ ((eK ∧ ((eN nl) ∧ (eN cl))) ∧ ((eN 1) ∧ ((nt ≤ 100000) ∧ (((@Eq (List IntKind) ([IntKind.i64]) ([IntKind.i64])) ∧ ((eN nt) ∧ (eN ct))) ∧ (eB ∧ ((@Eq Int (Prod.snd (bck a b c d e nl fl nt ft)) (0)) ∧ (T0 ∧ (T0 ∧ (T0 ∧ (T0 ∧ ((0 + nl ≤ nl) ∧ ((0 + nt ≤ nt) ∧ ((InC a b c d e) ∧ ((eN 0) ∧ ((nl ≤ 100000) ∧ ((eK ∧ ((eN nl) ∧ (eN cl))) ∧ ((eN 1) ∧ ((nt ≤ 100000) ∧ (((@Eq (List IntKind) ([IntKind.i64]) ([IntKind.i64])) ∧ ((eN nt) ∧ (eN ct))) ∧ (eB ∧ (((Nat.le nt ct) ∧ (@Eq Int (Prod.snd (bck a b c d e nl fl nt ft)) (0))) ∧ (∀ y0 : Bool, ((y0 = true ↔ sndP a fl nt ft) → (T0 ∧ (T0 ∧ (T0 ∧ (T0 ∧ ((0 + nl ≤ nl) ∧ ((0 + nt ≤ nt) ∧ ((InC a b c d e) ∧ ((eN 0) ∧ ((nl ≤ 100000) ∧ ((eK ∧ ((eN nl) ∧ (eN cl))) ∧ ((eN 1) ∧ ((nt ≤ 100000) ∧ (((@Eq (List IntKind) ([IntKind.i64]) ([IntKind.i64])) ∧ ((eN nt) ∧ (eN ct))) ∧ (eB ∧ ((@Eq Int (Prod.snd (bck a b c d e nl fl nt ft)) (0)) ∧ (∀ y1 : Bool, ((y1 = true ↔ sndP a fl nt ft) → (T0 ∧ (T0 ∧ (T0 ∧ (Go.Rx.br (!y0 == y1) (Go.Rx.br (!y0 == y1) (Go.Rx.br (!y0 == y1) (Go.Rx.br (!y0 == y1) (@Eq (Value) (Value.bool false) (Value.bool true)) (False)) (False)) (Go.Rx.br (!y0 == y1) (Go.Rx.br (!y0 == y1) (@Eq (Value) (Value.bool false) (Value.bool true)) (False)) (False))) (Go.Rx.br (!y0 == y1) (Go.Rx.br (!y0 == y1) (Go.Rx.br (!y0 == y1) (@Eq (Value) (Value.bool false) (Value.bool true)) (False)) (False)) (Go.Rx.br (!y0 == y1) (Go.Rx.br (!y0 == y1) (@Eq (Value) (Value.bool false) (Value.bool true)) (False)) (T0 ∧ (Go.Rx.br (!y0 == y1) (@Eq (Value) (Value.bool false) (Value.bool true)) (T0 ∧ (T0 ∧ (T0 ∧ (T0 ∧ (T0 ∧ ((0 + nl ≤ nl) ∧ ((0 + nt ≤ nt) ∧ (T0 ∧ (T0 ∧ ((InC a b c d e) ∧ ((eN 0) ∧ ((nl ≤ 100000) ∧ ((eK ∧ ((eN nl) ∧ (eN cl))) ∧ ((eN 1) ∧ ((nt ≤ 100000) ∧ (((@Eq (List IntKind) ([IntKind.i64]) ([IntKind.i64])) ∧ ((eN nt) ∧ (eN ct))) ∧ (eB ∧ (((Nat.le nt ct) ∧ (¬askT a b c d e nl fl nt ft s y = 0)) ∧ (T0 ∧ (T0 ∧ (T0 ∧ (T0 ∧ (T0 ∧ ((0 + nl ≤ nl) ∧ ((0 + nt ≤ nt) ∧ (T0 ∧ (T0 ∧ ((InC a b c d e) ∧ ((eN 0) ∧ ((nl ≤ 100000) ∧ ((eK ∧ ((eN nl) ∧ (eN cl))) ∧ ((eN 1) ∧ ((nt ≤ 100000) ∧ (((@Eq (List IntKind) ([IntKind.i64]) ([IntKind.i64])) ∧ ((eN nt) ∧ (eN ct))) ∧ (eB ∧ ((¬askT a b c d e nl fl nt ft s y = 0) ∧ (T0 ∧ (T0 ∧ (if (@Eq Int (askT a b c d e nl fl nt ft s y) (askT a b c d e nl fl nt ft s y)) then ((@Eq (List Value) ([]) ([])) ∧ (@Eq (Value) (Value.bool true) (Value.bool true))) else (@Eq (Value) (Value.bool false) (Value.bool true))))))))))))))))))))))))))))))))))))))))))))))))))))))))))))))))))))))))))))))))))))))))))))))))))))))))))))))))))))))))))))
set_option maxRecDepth 100000 in
theorem bchkR_rrE (a b c d e : Int) (el nl cl : Nat) (fl : RF) (et nt ct : Nat) (ft : RF) (s : Int) (y : Int) (K : Value → List Blk → Prop) : bchkR_rrV a b c d e el nl cl fl et nt ct ft s y K = bodyX (mkB XL10R) (callN (mkB XL10R) 4) (bchkR_rrA a b c d e el nl cl fl et nt ct ft s y) Try.f10 [.agg ⟨[.int .i64 a, .int .i64 b, .int .i64 c, .int .i64 d, .int .i64 e]⟩, .agg ⟨[rsl 0 0 nl cl, rsl 1 0 nt ct, .int .i64 s]⟩, .int .i64 y] (stOf [.row true [.i64, .i64] el nl cl fl, .row true [.i64] et nt ct ft]) fun v _ => v = .bool true := by kernel_rfl
set_option maxRecDepth 100000 in
set_option maxHeartbeats 4000000 in
set_option tactic.hygienic false in
theorem bchkR_rrP (a b c d e : Int) (el nl cl : Nat) (fl : RF) (et nt ct : Nat) (ft : RF) (s : Int) (y : Int) (K : Value → List Blk → Prop)  (hI : InC a b c d e) (hct : nt ≤ ct) (hf1 : nl ≤ 30) (hf2 : nt ≤ 30) (h1 : (bck a b c d e nl fl nt ft).2 = 0) (h2 : ¬ askT a b c d e nl fl nt ft s y = 0) : bchkR_rrV a b c d e el nl cl fl et nt ct ft s y K := by
  unfold bchkR_rrV

  repeat' (first | (with_reducible exact rfl) | (with_reducible exact trivial) | (with_reducible refine And.intro ?_ ?_) | (intro) | (with_reducible refine br_intro (fun hq => ?_) (fun hq => ?_)) | (with_reducible refine if_both (fun hz => ?_) (fun hz => ?_)) | fail)

  all_goals first
    | omega
    | assumption
    | contradiction
    | exact Nat.le_refl _
    | exact ask_bad h1 (by assumption)
    | exact hct
    | (exfalso; simp at hq; omega)
    | (have e : y0 = y1 := (by cases y0 <;> cases y1 <;> simp_all)
       subst e
       exfalso
       rename (!_ == _) = true => hk
       simp at hk)
    | (have e : y0 = y1 := (by cases y0 <;> cases y1 <;> simp_all)
       subst e
       exfalso
       simp_all)
set_option maxRecDepth 100000 in
def bchkG_rnV (a b c d e : Int) (el nl cl : Nat) (fl : RF) (s : Int) (y : Int) (K : Value → List Blk → Prop) : Prop := (T0 ∧ (T0 ∧ (T0 ∧ (T0 ∧ (TS ∧ (T0 ∧ (if (30 < (↑nl : Int)) then ((@Eq (List Value) ([]) ([])) ∧ (@Eq (Value) (Value.bool true) (Value.bool true))) else (T0 ∧ (TS ∧ (T0 ∧ (T0 ∧ (T0 ∧ (T0 ∧ (T0 ∧ ((0 + nl ≤ nl) ∧ (T0 ∧ ((InC a b c d e) ∧ ((eN 0) ∧ ((nl ≤ 100000) ∧ ((eK ∧ ((eN nl) ∧ (eN cl))) ∧ (eB ∧ (((Nat.le 0 0) ∧ (@Eq Int (Prod.snd (bck a b c d e nl fl 0 zF)) (0))) ∧ (T0 ∧ (T0 ∧ (T0 ∧ (T0 ∧ ((0 + nl ≤ nl) ∧ (T0 ∧ ((InC a b c d e) ∧ ((eN 0) ∧ ((nl ≤ 100000) ∧ ((eK ∧ ((eN nl) ∧ (eN cl))) ∧ (eB ∧ ((@Eq Int (Prod.snd (bck a b c d e nl fl 0 zF)) (0)) ∧ (T0 ∧ (T0 ∧ (T0 ∧ (T0 ∧ ((0 + nl ≤ nl) ∧ (T0 ∧ ((InC a b c d e) ∧ ((eN 0) ∧ ((nl ≤ 100000) ∧ ((eK ∧ ((eN nl) ∧ (eN cl))) ∧ (eB ∧ (((Nat.le 0 0) ∧ (@Eq Int (Prod.snd (bck a b c d e nl fl 0 zF)) (0))) ∧ (∀ y0 : Bool, ((y0 = true ↔ sndP a fl 0 zF) → (T0 ∧ (T0 ∧ (T0 ∧ (T0 ∧ ((0 + nl ≤ nl) ∧ (T0 ∧ ((InC a b c d e) ∧ ((eN 0) ∧ ((nl ≤ 100000) ∧ ((eK ∧ ((eN nl) ∧ (eN cl))) ∧ (eB ∧ ((@Eq Int (Prod.snd (bck a b c d e nl fl 0 zF)) (0)) ∧ (∀ y1 : Bool, ((y1 = true ↔ sndP a fl 0 zF) → (T0 ∧ (T0 ∧ (T0 ∧ (Go.Rx.br (!y0 == y1) (Go.Rx.br (!y0 == y1) (Go.Rx.br (!y0 == y1) (Go.Rx.br (!y0 == y1) (@Eq (Value) (Value.bool false) (Value.bool true)) (False)) (False)) (Go.Rx.br (!y0 == y1) (Go.Rx.br (!y0 == y1) (@Eq (Value) (Value.bool false) (Value.bool true)) (False)) (False))) (Go.Rx.br (!y0 == y1) (Go.Rx.br (!y0 == y1) (Go.Rx.br (!y0 == y1) (@Eq (Value) (Value.bool false) (Value.bool true)) (False)) (False)) (Go.Rx.br (!y0 == y1) (Go.Rx.br (!y0 == y1) (@Eq (Value) (Value.bool false) (Value.bool true)) (False)) (T0 ∧ (Go.Rx.br (!y0 == y1) (@Eq (Value) (Value.bool false) (Value.bool true)) (T0 ∧ (T0 ∧ (T0 ∧ (T0 ∧ (T0 ∧ ((0 + nl ≤ nl) ∧ (T0 ∧ (T0 ∧ (T0 ∧ ((InC a b c d e) ∧ ((eN 0) ∧ ((nl ≤ 100000) ∧ ((eK ∧ ((eN nl) ∧ (eN cl))) ∧ (eB ∧ (((Nat.le 0 0) ∧ (@Eq Int (askT a b c d e nl fl 0 zF s y) (0))) ∧ (T0 ∧ (T0 ∧ (T0 ∧ (T0 ∧ (T0 ∧ ((0 + nl ≤ nl) ∧ (T0 ∧ (T0 ∧ (T0 ∧ ((InC a b c d e) ∧ ((eN 0) ∧ ((nl ≤ 100000) ∧ ((eK ∧ ((eN nl) ∧ (eN cl))) ∧ (eB ∧ ((True) ∧ (T0 ∧ (if (@Eq Int (Prod.fst (lastT a b c d e nl fl 0 zF s y)) (Prod.fst (lastT a b c d e nl fl 0 zF s y))) then (T0 ∧ (if (@Eq Int (Prod.snd (lastT a b c d e nl fl 0 zF s y)) (Prod.snd (lastT a b c d e nl fl 0 zF s y))) then ((@Eq (List Value) ([]) ([])) ∧ (@Eq (Value) (Value.bool true) (Value.bool true))) else (@Eq (Value) (Value.bool false) (Value.bool true)))) else (@Eq (Value) (Value.bool false) (Value.bool true))))))))))))))))))))))))))))))))))))))))))))))))))))))))))))))))))))))))))))))))))))))))))))))))))))))))
set_option maxRecDepth 100000 in
theorem bchkG_rnE (a b c d e : Int) (el nl cl : Nat) (fl : RF) (s : Int) (y : Int) (K : Value → List Blk → Prop) : bchkG_rnV a b c d e el nl cl fl s y K = bodyX (mkB XL10G) (callN (mkB XL10G) 4) (bchkG_rnA a b c d e el nl cl fl s y) Try.f10 [.agg ⟨[.int .i64 a, .int .i64 b, .int .i64 c, .int .i64 d, .int .i64 e]⟩, .agg ⟨[rsl 0 0 nl cl, .slice none 0 0, .int .i64 s]⟩, .int .i64 y] (stOf [.row true [.i64, .i64] el nl cl fl]) fun v _ => v = .bool true := by kernel_rfl
set_option maxRecDepth 100000 in
set_option maxHeartbeats 4000000 in
set_option tactic.hygienic false in
theorem bchkG_rnP (a b c d e : Int) (el nl cl : Nat) (fl : RF) (s : Int) (y : Int) (K : Value → List Blk → Prop)  (hI : InC a b c d e) (hf1 : nl ≤ 30) (hf2 : 0 ≤ 30) (h1 : (bck a b c d e nl fl 0 zF).2 = 0) (h2 : askT a b c d e nl fl 0 zF s y = 0) : bchkG_rnV a b c d e el nl cl fl s y K := by
  unfold bchkG_rnV

  repeat' (first | (with_reducible exact rfl) | (with_reducible exact trivial) | (with_reducible refine And.intro ?_ ?_) | (intro) | (with_reducible refine br_intro (fun hq => ?_) (fun hq => ?_)) | (with_reducible refine if_both (fun hz => ?_) (fun hz => ?_)) | fail)

  all_goals first
    | omega
    | assumption
    | contradiction
    | exact Nat.le_refl _
    | exact ask_bad h1 (by assumption)
    | exact hct
    | (exfalso; simp at hq; omega)
    | (have e : y0 = y1 := (by cases y0 <;> cases y1 <;> simp_all)
       subst e
       exfalso
       rename (!_ == _) = true => hk
       simp at hk)
    | (have e : y0 = y1 := (by cases y0 <;> cases y1 <;> simp_all)
       subst e
       exfalso
       simp_all)
set_option maxRecDepth 100000 in
def bchkG_rrV (a b c d e : Int) (el nl cl : Nat) (fl : RF) (et nt ct : Nat) (ft : RF) (s : Int) (y : Int) (K : Value → List Blk → Prop) : Prop := (T0 ∧ (T0 ∧ (T0 ∧ (T0 ∧ (TS ∧ (T0 ∧ (if (30 < (↑nl : Int)) then ((@Eq (List Value) ([]) ([])) ∧ (@Eq (Value) (Value.bool true) (Value.bool true))) else (T0 ∧ (TS ∧ (T0 ∧ (if (30 < (↑nt : Int)) then ((@Eq (List Value) ([]) ([])) ∧ (@Eq (Value) (Value.bool true) (Value.bool true))) else (T0 ∧ (T0 ∧ (T0 ∧ (T0 ∧ ((0 + nl ≤ nl) ∧ ((0 + nt ≤ nt) ∧ ((InC a b c d e) ∧ ((eN 0) ∧ ((nl ≤ 100000) ∧ ((eK ∧ ((eN nl) ∧ (eN cl))) ∧ ((eN 1) ∧ ((nt ≤ 100000) ∧ (((@Eq (List IntKind) ([IntKind.i64]) ([IntKind.i64])) ∧ ((eN nt) ∧ (eN ct))) ∧ (eB ∧ (((Nat.le nt ct) ∧ (@Eq Int (Prod.snd (bck a b c d e nl fl nt ft)) (0))) ∧ (T0 ∧ (T0 ∧ (T0 ∧ (T0 ∧ ((0 + nl ≤ nl) ∧ ((0 + nt ≤ nt) ∧ ((InC a b c d e) ∧ ((eN 0) ∧ ((nl ≤ 100000) ∧ ((eK ∧ ((eN nl) ∧ (eN cl))) ∧ ((eN 1) ∧ ((nt ≤ 100000) ∧ (((@Eq (List IntKind) ([IntKind.i64]) ([IntKind.i64])) ∧ ((eN nt) ∧ (eN ct))) ∧ (eB ∧ ((@Eq Int (Prod.snd (bck a b c d e nl fl nt ft)) (0)) ∧ (T0 ∧ (T0 ∧ (T0 ∧ (T0 ∧ ((0 + nl ≤ nl) ∧ ((0 + nt ≤ nt) ∧ ((InC a b c d e) ∧ ((eN 0) ∧ ((nl ≤ 100000) ∧ ((eK ∧ ((eN nl) ∧ (eN cl))) ∧ ((eN 1) ∧ ((nt ≤ 100000) ∧ (((@Eq (List IntKind) ([IntKind.i64]) ([IntKind.i64])) ∧ ((eN nt) ∧ (eN ct))) ∧ (eB ∧ (((Nat.le nt ct) ∧ (@Eq Int (Prod.snd (bck a b c d e nl fl nt ft)) (0))) ∧ (∀ y0 : Bool, ((y0 = true ↔ sndP a fl nt ft) → (T0 ∧ (T0 ∧ (T0 ∧ (T0 ∧ ((0 + nl ≤ nl) ∧ ((0 + nt ≤ nt) ∧ ((InC a b c d e) ∧ ((eN 0) ∧ ((nl ≤ 100000) ∧ ((eK ∧ ((eN nl) ∧ (eN cl))) ∧ ((eN 1) ∧ ((nt ≤ 100000) ∧ (((@Eq (List IntKind) ([IntKind.i64]) ([IntKind.i64])) ∧ ((eN nt) ∧ (eN ct))) ∧ (eB ∧ ((@Eq Int (Prod.snd (bck a b c d e nl fl nt ft)) (0)) ∧ (∀ y1 : Bool, ((y1 = true ↔ sndP a fl nt ft) → (T0 ∧ (T0 ∧ (T0 ∧ (Go.Rx.br (!y0 == y1) (Go.Rx.br (!y0 == y1) (Go.Rx.br (!y0 == y1) (Go.Rx.br (!y0 == y1) (@Eq (Value) (Value.bool false) (Value.bool true)) (False)) (False)) (Go.Rx.br (!y0 == y1) (Go.Rx.br (!y0 == y1) (@Eq (Value) (Value.bool false) (Value.bool true)) (False)) (False))) (Go.Rx.br (!y0 == y1) (Go.Rx.br (!y0 == y1) (Go.Rx.br (!y0 == y1) (@Eq (Value) (Value.bool false) (Value.bool true)) (False)) (False)) (Go.Rx.br (!y0 == y1) (Go.Rx.br (!y0 == y1) (@Eq (Value) (Value.bool false) (Value.bool true)) (False)) (T0 ∧ (Go.Rx.br (!y0 == y1) (@Eq (Value) (Value.bool false) (Value.bool true)) (T0 ∧ (T0 ∧ (T0 ∧ (T0 ∧ (T0 ∧ ((0 + nl ≤ nl) ∧ ((0 + nt ≤ nt) ∧ (T0 ∧ (T0 ∧ ((InC a b c d e) ∧ ((eN 0) ∧ ((nl ≤ 100000) ∧ ((eK ∧ ((eN nl) ∧ (eN cl))) ∧ ((eN 1) ∧ ((nt ≤ 100000) ∧ (((@Eq (List IntKind) ([IntKind.i64]) ([IntKind.i64])) ∧ ((eN nt) ∧ (eN ct))) ∧ (eB ∧ (((Nat.le nt ct) ∧ (@Eq Int (askT a b c d e nl fl nt ft s y) (0))) ∧ (T0 ∧ (T0 ∧ (T0 ∧ (T0 ∧ (T0 ∧ ((0 + nl ≤ nl) ∧ ((0 + nt ≤ nt) ∧ (T0 ∧ (T0 ∧ ((InC a b c d e) ∧ ((eN 0) ∧ ((nl ≤ 100000) ∧ ((eK ∧ ((eN nl) ∧ (eN cl))) ∧ ((eN 1) ∧ ((nt ≤ 100000) ∧ (((@Eq (List IntKind) ([IntKind.i64]) ([IntKind.i64])) ∧ ((eN nt) ∧ (eN ct))) ∧ (eB ∧ ((True) ∧ (T0 ∧ (if (@Eq Int (Prod.fst (lastT a b c d e nl fl nt ft s y)) (Prod.fst (lastT a b c d e nl fl nt ft s y))) then (T0 ∧ (if (@Eq Int (Prod.snd (lastT a b c d e nl fl nt ft s y)) (Prod.snd (lastT a b c d e nl fl nt ft s y))) then ((@Eq (List Value) ([]) ([])) ∧ (@Eq (Value) (Value.bool true) (Value.bool true))) else (@Eq (Value) (Value.bool false) (Value.bool true)))) else (@Eq (Value) (Value.bool false) (Value.bool true)))))))))))))))))))))))))))))))))))))))))))))))))))))))))))))))))))))))))))))))))))))))))))))))))))))))))))))))))))))))))))
set_option maxRecDepth 100000 in
theorem bchkG_rrE (a b c d e : Int) (el nl cl : Nat) (fl : RF) (et nt ct : Nat) (ft : RF) (s : Int) (y : Int) (K : Value → List Blk → Prop) : bchkG_rrV a b c d e el nl cl fl et nt ct ft s y K = bodyX (mkB XL10G) (callN (mkB XL10G) 4) (bchkG_rrA a b c d e el nl cl fl et nt ct ft s y) Try.f10 [.agg ⟨[.int .i64 a, .int .i64 b, .int .i64 c, .int .i64 d, .int .i64 e]⟩, .agg ⟨[rsl 0 0 nl cl, rsl 1 0 nt ct, .int .i64 s]⟩, .int .i64 y] (stOf [.row true [.i64, .i64] el nl cl fl, .row true [.i64] et nt ct ft]) fun v _ => v = .bool true := by kernel_rfl
set_option maxRecDepth 100000 in
set_option maxHeartbeats 4000000 in
set_option tactic.hygienic false in
theorem bchkG_rrP (a b c d e : Int) (el nl cl : Nat) (fl : RF) (et nt ct : Nat) (ft : RF) (s : Int) (y : Int) (K : Value → List Blk → Prop)  (hI : InC a b c d e) (hct : nt ≤ ct) (hf1 : nl ≤ 30) (hf2 : nt ≤ 30) (h1 : (bck a b c d e nl fl nt ft).2 = 0) (h2 : askT a b c d e nl fl nt ft s y = 0) : bchkG_rrV a b c d e el nl cl fl et nt ct ft s y K := by
  unfold bchkG_rrV

  repeat' (first | (with_reducible exact rfl) | (with_reducible exact trivial) | (with_reducible refine And.intro ?_ ?_) | (intro) | (with_reducible refine br_intro (fun hq => ?_) (fun hq => ?_)) | (with_reducible refine if_both (fun hz => ?_) (fun hz => ?_)) | fail)

  all_goals first
    | omega
    | assumption
    | contradiction
    | exact Nat.le_refl _
    | exact ask_bad h1 (by assumption)
    | exact hct
    | (exfalso; simp at hq; omega)
    | (have e : y0 = y1 := (by cases y0 <;> cases y1 <;> simp_all)
       subst e
       exfalso
       rename (!_ == _) = true => hk
       simp at hk)
    | (have e : y0 = y1 := (by cases y0 <;> cases y1 <;> simp_all)
       subst e
       exfalso
       simp_all)
end Go.Proofs.Ytkflmglpniebfaa.Fr
