/-
  FramesTakes: the body. No project text.
-/
import Derived.Test.YtkflmglpniebfaaFr16
namespace Go.Proofs.Ytkflmglpniebfaa.Fr
open Go.Rx
open Go.RowKit (Below)
set_option linter.unusedVariables false

def takesBF_nA (a b c d e : Int) : Ann := fun _ => none
def takesBF_rA (a b c d e : Int) (el nl cl : Nat) (fl : RF) : Ann := fun _ => none

def takesEF_rA (a b c d e : Int) (el nl cl : Nat) (fl : RF) : Ann := fun _ => none

def takesBT_nA (a b c d e : Int) : Ann := fun _ => none
def takesBT_rA (a b c d e : Int) (el nl cl : Nat) (fl : RF) : Ann := fun _ => none

def takesET_rA (a b c d e : Int) (el nl cl : Nat) (fl : RF) : Ann := fun _ => none

def takesFT_rA (a b c d e : Int) (el nl cl : Nat) (fl : RF) : Ann := fun _ => none
def takesBF_nV (a b c d e : Int) (K : Value → List Blk → Prop) : Prop := (T0 ∧ (TS ∧ (T0 ∧ (T0 ∧ (T0 ∧ (T0 ∧ ((InC a b c d e) ∧ (eB ∧ ((¬Prod.snd (ckF a b c d e 0 zF) = 0) ∧ (T0 ∧ (if (@Eq Int (Prod.snd (ckF a b c d e 0 zF)) (0)) then (T0 ∧ (T0 ∧ (T0 ∧ (T0 ∧ (T0 ∧ (False)))))) else (TS ∧ (T0 ∧ ((@Eq (List Value) ([]) ([])) ∧ (@Eq (Value) (Value.bool true) (Value.bool true))))))))))))))))
theorem takesBF_nE (a b c d e : Int) (K : Value → List Blk → Prop) : takesBF_nV a b c d e K = bodyX (mk X7BF) (callN (mk X7BF) 3) (takesBF_nA a b c d e) Try.f7 [.agg ⟨[.int .i64 a, .int .i64 b, .int .i64 c, .int .i64 d, .int .i64 e]⟩, .slice none 0 0, .bool false] (stOf []) fun v _ => v = .bool true := by kernel_rfl
set_option maxRecDepth 100000 in
set_option maxHeartbeats 4000000 in
set_option tactic.hygienic false in
theorem takesBF_nP (a b c d e : Int) (K : Value → List Blk → Prop)  (hI : InC a b c d e) (h1 : ¬ (ckF a b c d e 0 zF).2 = 0) : takesBF_nV a b c d e K := by
  unfold takesBF_nV

  repeat' (first | (with_reducible exact rfl) | (with_reducible exact trivial) | (with_reducible refine And.intro ?_ ?_) | (intro) | (with_reducible refine br_intro (fun hq => ?_) (fun hq => ?_)) | (with_reducible refine if_both (fun hz => ?_) (fun hz => ?_)) | fail)

  all_goals first
    | omega
    | assumption
    | contradiction
    | exact fun _ => ⟨rfl, rfl⟩
    | exact fun _ _ => rfl
    | exact fun _ _ => ⟨rfl, rfl⟩
def takesBF_rV (a b c d e : Int) (el nl cl : Nat) (fl : RF) (K : Value → List Blk → Prop) : Prop := (T0 ∧ (TS ∧ (T0 ∧ (if (30 < (↑nl : Int)) then ((@Eq (List Value) ([]) ([])) ∧ (@Eq (Value) (Value.bool true) (Value.bool true))) else (T0 ∧ (T0 ∧ ((0 + nl ≤ nl) ∧ ((InC a b c d e) ∧ ((eN 0) ∧ ((nl ≤ 100000) ∧ ((eK ∧ ((eN nl) ∧ (eN cl))) ∧ (eB ∧ ((¬Prod.snd (ckF a b c d e nl fl) = 0) ∧ (T0 ∧ (if (@Eq Int (Prod.snd (ckF a b c d e nl fl)) (0)) then (T0 ∧ (T0 ∧ (T0 ∧ (T0 ∧ (T0 ∧ (False)))))) else (TS ∧ (T0 ∧ ((@Eq (List Value) ([]) ([])) ∧ (@Eq (Value) (Value.bool true) (Value.bool true))))))))))))))))))))
theorem takesBF_rE (a b c d e : Int) (el nl cl : Nat) (fl : RF) (K : Value → List Blk → Prop) : takesBF_rV a b c d e el nl cl fl K = bodyX (mk X7BF) (callN (mk X7BF) 3) (takesBF_rA a b c d e el nl cl fl) Try.f7 [.agg ⟨[.int .i64 a, .int .i64 b, .int .i64 c, .int .i64 d, .int .i64 e]⟩, rsl 0 0 nl cl, .bool false] (stOf [.row true [.i64, .i64] el nl cl fl]) fun v _ => v = .bool true := by kernel_rfl
set_option maxRecDepth 100000 in
set_option maxHeartbeats 4000000 in
set_option tactic.hygienic false in
theorem takesBF_rP (a b c d e : Int) (el nl cl : Nat) (fl : RF) (K : Value → List Blk → Prop)  (hI : InC a b c d e) (h1 : ¬ (ckF a b c d e nl fl).2 = 0) : takesBF_rV a b c d e el nl cl fl K := by
  unfold takesBF_rV

  repeat' (first | (with_reducible exact rfl) | (with_reducible exact trivial) | (with_reducible refine And.intro ?_ ?_) | (intro) | (with_reducible refine br_intro (fun hq => ?_) (fun hq => ?_)) | (with_reducible refine if_both (fun hz => ?_) (fun hz => ?_)) | fail)

  all_goals first
    | omega
    | assumption
    | contradiction
    | exact fun _ => ⟨rfl, rfl⟩
    | exact fun _ _ => rfl
    | exact fun _ _ => ⟨rfl, rfl⟩
def takesEF_rV (a b c d e : Int) (el nl cl : Nat) (fl : RF) (K : Value → List Blk → Prop) : Prop := (T0 ∧ (TS ∧ (T0 ∧ (if (30 < (↑nl : Int)) then ((@Eq (List Value) ([]) ([])) ∧ (@Eq (Value) (Value.bool true) (Value.bool true))) else (T0 ∧ (T0 ∧ ((0 + nl ≤ nl) ∧ ((InC a b c d e) ∧ ((eN 0) ∧ ((nl ≤ 100000) ∧ ((eK ∧ ((eN nl) ∧ (eN cl))) ∧ (eB ∧ (((@Eq Int (Prod.snd (ckF a b c d e nl fl)) (0)) ∧ (sel (selE fl 0) nl = [])) ∧ (T0 ∧ (T0 ∧ (T0 ∧ ((0 + nl ≤ nl) ∧ ((InC a b c d e) ∧ ((eN 0) ∧ ((nl ≤ 100000) ∧ ((eK ∧ ((eN nl) ∧ (eN cl))) ∧ (eB ∧ ((@Eq Int (Prod.snd (ckF a b c d e nl fl)) (0)) ∧ (((sel (selE fl 2) nl = []) → (T0 ∧ (T0 ∧ ((0 + nl ≤ nl) ∧ (T0 ∧ ((InC a b c d e) ∧ ((eN 0) ∧ ((nl ≤ 100000) ∧ ((eK ∧ ((eN nl) ∧ (eN cl))) ∧ (eB ∧ (((@Eq Int (Prod.snd (ckF a b c d e nl fl)) (0)) ∧ (sel (selE fl 0) nl = [])) ∧ (T0 ∧ (T0 ∧ (TS ∧ (T0 ∧ (T0 ∧ (T0 ∧ (T0 ∧ (T0 ∧ ((@Eq (List Value) ([]) ([])) ∧ (@Eq (Value) (Value.bool true) (Value.bool true)))))))))))))))))))))) ∧ ((¬sel (selE fl 2) nl = []) → (∀ y0 : Nat, ((List.length (sel (selE fl 2) nl) ≤ y0) → (T0 ∧ (T0 ∧ ((0 + nl ≤ nl) ∧ (T0 ∧ ((InC a b c d e) ∧ ((eN 0) ∧ ((nl ≤ 100000) ∧ ((eK ∧ ((eN nl) ∧ (eN cl))) ∧ (eB ∧ (((@Eq Int (Prod.snd (ckF a b c d e nl fl)) (0)) ∧ (sel (selE fl 0) nl = [])) ∧ (T0 ∧ (T0 ∧ (TS ∧ (T0 ∧ (T0 ∧ (T0 ∧ (T0 ∧ (T0 ∧ ((@Eq (List Value) ([]) ([])) ∧ (@Eq (Value) (Value.bool true) (Value.bool true))))))))))))))))))))))))))))))))))))))))))))))))
theorem takesEF_rE (a b c d e : Int) (el nl cl : Nat) (fl : RF) (K : Value → List Blk → Prop) : takesEF_rV a b c d e el nl cl fl K = bodyX (mk X7EF) (callN (mk X7EF) 3) (takesEF_rA a b c d e el nl cl fl) Try.f7 [.agg ⟨[.int .i64 a, .int .i64 b, .int .i64 c, .int .i64 d, .int .i64 e]⟩, rsl 0 0 nl cl, .bool false] (stOf [.row true [.i64, .i64] el nl cl fl]) fun v _ => v = .bool true := by kernel_rfl
set_option maxRecDepth 100000 in
set_option maxHeartbeats 4000000 in
set_option tactic.hygienic false in
theorem takesEF_rP (a b c d e : Int) (el nl cl : Nat) (fl : RF) (K : Value → List Blk → Prop)  (hI : InC a b c d e) (h1 : (ckF a b c d e nl fl).2 = 0) (h2 : sel (selE fl 0) nl = []) : takesEF_rV a b c d e el nl cl fl K := by
  unfold takesEF_rV
  have SL0 := sel_len (p := selE fl 0) (n := nl)
  have SL2 := sel_len (p := selE fl 2) (n := nl)
  obtain ⟨g1, g2, g3⟩ := ckF_zero h1
  have hp2 := ckF_pc h1
  rw [pc_len] at hp2

  repeat' (first | (with_reducible exact rfl) | (with_reducible exact trivial) | (with_reducible refine And.intro ?_ ?_) | (intro) | (with_reducible refine br_intro (fun hq => ?_) (fun hq => ?_)) | (with_reducible refine if_both (fun hz => ?_) (fun hz => ?_)) | fail)

  all_goals first
    | omega
    | assumption
    | contradiction
    | exact fun _ => ⟨rfl, rfl⟩
    | exact fun _ _ => rfl
    | exact fun _ _ => ⟨rfl, rfl⟩
def takesBT_nV (a b c d e : Int) (K : Value → List Blk → Prop) : Prop := (T0 ∧ (TS ∧ (T0 ∧ (T0 ∧ (T0 ∧ (T0 ∧ ((InC a b c d e) ∧ (eB ∧ ((¬Prod.snd (ckF a b c d e 0 zF) = 0) ∧ (T0 ∧ (if (@Eq Int (Prod.snd (ckF a b c d e 0 zF)) (0)) then (T0 ∧ (T0 ∧ (T0 ∧ (T0 ∧ (T0 ∧ (False)))))) else (TS ∧ (T0 ∧ ((@Eq (List Value) ([]) ([])) ∧ (@Eq (Value) (Value.bool true) (Value.bool true))))))))))))))))
theorem takesBT_nE (a b c d e : Int) (K : Value → List Blk → Prop) : takesBT_nV a b c d e K = bodyX (mk X7BT) (callN (mk X7BT) 3) (takesBT_nA a b c d e) Try.f7 [.agg ⟨[.int .i64 a, .int .i64 b, .int .i64 c, .int .i64 d, .int .i64 e]⟩, .slice none 0 0, .bool true] (stOf []) fun v _ => v = .bool true := by kernel_rfl
set_option maxRecDepth 100000 in
set_option maxHeartbeats 4000000 in
set_option tactic.hygienic false in
theorem takesBT_nP (a b c d e : Int) (K : Value → List Blk → Prop)  (hI : InC a b c d e) (h1 : ¬ (ckF a b c d e 0 zF).2 = 0) : takesBT_nV a b c d e K := by
  unfold takesBT_nV

  repeat' (first | (with_reducible exact rfl) | (with_reducible exact trivial) | (with_reducible refine And.intro ?_ ?_) | (intro) | (with_reducible refine br_intro (fun hq => ?_) (fun hq => ?_)) | (with_reducible refine if_both (fun hz => ?_) (fun hz => ?_)) | fail)

  all_goals first
    | omega
    | assumption
    | contradiction
    | exact fun _ => ⟨rfl, rfl⟩
    | exact fun _ _ => rfl
    | exact fun _ _ => ⟨rfl, rfl⟩
def takesBT_rV (a b c d e : Int) (el nl cl : Nat) (fl : RF) (K : Value → List Blk → Prop) : Prop := (T0 ∧ (TS ∧ (T0 ∧ (if (30 < (↑nl : Int)) then ((@Eq (List Value) ([]) ([])) ∧ (@Eq (Value) (Value.bool true) (Value.bool true))) else (T0 ∧ (T0 ∧ ((0 + nl ≤ nl) ∧ ((InC a b c d e) ∧ ((eN 0) ∧ ((nl ≤ 100000) ∧ ((eK ∧ ((eN nl) ∧ (eN cl))) ∧ (eB ∧ ((¬Prod.snd (ckF a b c d e nl fl) = 0) ∧ (T0 ∧ (if (@Eq Int (Prod.snd (ckF a b c d e nl fl)) (0)) then (T0 ∧ (T0 ∧ (T0 ∧ (T0 ∧ (T0 ∧ (False)))))) else (TS ∧ (T0 ∧ ((@Eq (List Value) ([]) ([])) ∧ (@Eq (Value) (Value.bool true) (Value.bool true))))))))))))))))))))
theorem takesBT_rE (a b c d e : Int) (el nl cl : Nat) (fl : RF) (K : Value → List Blk → Prop) : takesBT_rV a b c d e el nl cl fl K = bodyX (mk X7BT) (callN (mk X7BT) 3) (takesBT_rA a b c d e el nl cl fl) Try.f7 [.agg ⟨[.int .i64 a, .int .i64 b, .int .i64 c, .int .i64 d, .int .i64 e]⟩, rsl 0 0 nl cl, .bool true] (stOf [.row true [.i64, .i64] el nl cl fl]) fun v _ => v = .bool true := by kernel_rfl
set_option maxRecDepth 100000 in
set_option maxHeartbeats 4000000 in
set_option tactic.hygienic false in
theorem takesBT_rP (a b c d e : Int) (el nl cl : Nat) (fl : RF) (K : Value → List Blk → Prop)  (hI : InC a b c d e) (h1 : ¬ (ckF a b c d e nl fl).2 = 0) : takesBT_rV a b c d e el nl cl fl K := by
  unfold takesBT_rV

  repeat' (first | (with_reducible exact rfl) | (with_reducible exact trivial) | (with_reducible refine And.intro ?_ ?_) | (intro) | (with_reducible refine br_intro (fun hq => ?_) (fun hq => ?_)) | (with_reducible refine if_both (fun hz => ?_) (fun hz => ?_)) | fail)

  all_goals first
    | omega
    | assumption
    | contradiction
    | exact fun _ => ⟨rfl, rfl⟩
    | exact fun _ _ => rfl
    | exact fun _ _ => ⟨rfl, rfl⟩
def takesET_rV (a b c d e : Int) (el nl cl : Nat) (fl : RF) (K : Value → List Blk → Prop) : Prop := (T0 ∧ (TS ∧ (T0 ∧ (if (30 < (↑nl : Int)) then ((@Eq (List Value) ([]) ([])) ∧ (@Eq (Value) (Value.bool true) (Value.bool true))) else (T0 ∧ (T0 ∧ ((0 + nl ≤ nl) ∧ ((InC a b c d e) ∧ ((eN 0) ∧ ((nl ≤ 100000) ∧ ((eK ∧ ((eN nl) ∧ (eN cl))) ∧ (eB ∧ (((@Eq Int (Prod.snd (ckF a b c d e nl fl)) (0)) ∧ (sel (selE fl 0) nl = [])) ∧ (T0 ∧ (T0 ∧ (T0 ∧ ((0 + nl ≤ nl) ∧ ((InC a b c d e) ∧ ((eN 0) ∧ ((nl ≤ 100000) ∧ ((eK ∧ ((eN nl) ∧ (eN cl))) ∧ (eB ∧ ((@Eq Int (Prod.snd (ckF a b c d e nl fl)) (0)) ∧ (((sel (selE fl 2) nl = []) → (T0 ∧ (T0 ∧ ((0 + nl ≤ nl) ∧ (T0 ∧ ((InC a b c d e) ∧ ((eN 0) ∧ ((nl ≤ 100000) ∧ ((eK ∧ ((eN nl) ∧ (eN cl))) ∧ (eB ∧ (((@Eq Int (Prod.snd (ckF a b c d e nl fl)) (0)) ∧ (sel (selE fl 0) nl = [])) ∧ (T0 ∧ (T0 ∧ (TS ∧ (T0 ∧ (T0 ∧ (T0 ∧ (T0 ∧ (T0 ∧ ((@Eq (List Value) ([]) ([])) ∧ (@Eq (Value) (Value.bool true) (Value.bool true)))))))))))))))))))))) ∧ ((¬sel (selE fl 2) nl = []) → (∀ y0 : Nat, ((List.length (sel (selE fl 2) nl) ≤ y0) → (T0 ∧ (T0 ∧ ((0 + nl ≤ nl) ∧ (T0 ∧ ((InC a b c d e) ∧ ((eN 0) ∧ ((nl ≤ 100000) ∧ ((eK ∧ ((eN nl) ∧ (eN cl))) ∧ (eB ∧ (((@Eq Int (Prod.snd (ckF a b c d e nl fl)) (0)) ∧ (sel (selE fl 0) nl = [])) ∧ (T0 ∧ (T0 ∧ (TS ∧ (T0 ∧ (T0 ∧ (T0 ∧ (T0 ∧ (T0 ∧ ((@Eq (List Value) ([]) ([])) ∧ (@Eq (Value) (Value.bool true) (Value.bool true))))))))))))))))))))))))))))))))))))))))))))))))
theorem takesET_rE (a b c d e : Int) (el nl cl : Nat) (fl : RF) (K : Value → List Blk → Prop) : takesET_rV a b c d e el nl cl fl K = bodyX (mk X7ET) (callN (mk X7ET) 3) (takesET_rA a b c d e el nl cl fl) Try.f7 [.agg ⟨[.int .i64 a, .int .i64 b, .int .i64 c, .int .i64 d, .int .i64 e]⟩, rsl 0 0 nl cl, .bool true] (stOf [.row true [.i64, .i64] el nl cl fl]) fun v _ => v = .bool true := by kernel_rfl
set_option maxRecDepth 100000 in
set_option maxHeartbeats 4000000 in
set_option tactic.hygienic false in
theorem takesET_rP (a b c d e : Int) (el nl cl : Nat) (fl : RF) (K : Value → List Blk → Prop)  (hI : InC a b c d e) (h1 : (ckF a b c d e nl fl).2 = 0) (h2 : sel (selE fl 0) nl = []) : takesET_rV a b c d e el nl cl fl K := by
  unfold takesET_rV
  have SL0 := sel_len (p := selE fl 0) (n := nl)
  have SL2 := sel_len (p := selE fl 2) (n := nl)
  obtain ⟨g1, g2, g3⟩ := ckF_zero h1
  have hp2 := ckF_pc h1
  rw [pc_len] at hp2

  repeat' (first | (with_reducible exact rfl) | (with_reducible exact trivial) | (with_reducible refine And.intro ?_ ?_) | (intro) | (with_reducible refine br_intro (fun hq => ?_) (fun hq => ?_)) | (with_reducible refine if_both (fun hz => ?_) (fun hz => ?_)) | fail)

  all_goals first
    | omega
    | assumption
    | contradiction
    | exact fun _ => ⟨rfl, rfl⟩
    | exact fun _ _ => rfl
    | exact fun _ _ => ⟨rfl, rfl⟩
def takesFT_rV (a b c d e : Int) (el nl cl : Nat) (fl : RF) (K : Value → List Blk → Prop) : Prop := (T0 ∧ (TS ∧ (T0 ∧ (if (30 < (↑nl : Int)) then ((@Eq (List Value) ([]) ([])) ∧ (@Eq (Value) (Value.bool true) (Value.bool true))) else (T0 ∧ (T0 ∧ ((0 + nl ≤ nl) ∧ ((InC a b c d e) ∧ ((eN 0) ∧ ((nl ≤ 100000) ∧ ((eK ∧ ((eN nl) ∧ (eN cl))) ∧ (eB ∧ (((@Eq Int (Prod.snd (ckF a b c d e nl fl)) (0)) ∧ (¬sel (selE fl 0) nl = [])) ∧ (∀ y0 : Nat, ((List.length (sel (selE fl 0) nl) ≤ y0) → (T0 ∧ (T0 ∧ (T0 ∧ ((0 + nl ≤ nl) ∧ ((InC a b c d e) ∧ ((eN 0) ∧ ((nl ≤ 100000) ∧ ((eK ∧ ((eN nl) ∧ (eN cl))) ∧ (eB ∧ (((@Eq Int (Prod.snd (ckF a b c d e nl fl)) (0)) ∧ (¬sel (selE fl 2) nl = [])) ∧ (∀ y1 : Nat, ((List.length (sel (selE fl 2) nl) ≤ y1) → (T0 ∧ (T0 ∧ ((0 + nl ≤ nl) ∧ (T0 ∧ ((InC a b c d e) ∧ ((eN 0) ∧ ((nl ≤ 100000) ∧ ((eK ∧ ((eN nl) ∧ (eN cl))) ∧ (eB ∧ (((@Eq Int (Prod.snd (ckF a b c d e nl fl)) (0)) ∧ ((¬sel (selE fl 0) nl = []) ∧ ((¬sel (selE fl 2) nl = []) ∧ (@Eq Nat (List.length (sel (selE fl 2) nl)) (2))))) ∧ (T0 ∧ (T0 ∧ (TS ∧ (T0 ∧ (if (0 < (↑(List.length (sel (selE fl 0) nl)) : Int)) then (TS ∧ (T0 ∧ (if ((↑(List.length (sel (selE fl 2) nl)) : Int) < 2) then (T0 ∧ (@Eq (Value) (Value.bool false) (Value.bool true))) else (T0 ∧ (T0 ∧ (T0 ∧ (T0 ∧ ((@Eq (List Value) ([]) ([])) ∧ (@Eq (Value) (Value.bool true) (Value.bool true)))))))))) else (T0 ∧ (T0 ∧ (T0 ∧ (T0 ∧ ((@Eq (List Value) ([]) ([])) ∧ (@Eq (Value) (Value.bool true) (Value.bool true)))))))))))))))))))))))))))))))))))))))))))))))))
theorem takesFT_rE (a b c d e : Int) (el nl cl : Nat) (fl : RF) (K : Value → List Blk → Prop) : takesFT_rV a b c d e el nl cl fl K = bodyX (mk X7FT) (callN (mk X7FT) 3) (takesFT_rA a b c d e el nl cl fl) Try.f7 [.agg ⟨[.int .i64 a, .int .i64 b, .int .i64 c, .int .i64 d, .int .i64 e]⟩, rsl 0 0 nl cl, .bool true] (stOf [.row true [.i64, .i64] el nl cl fl]) fun v _ => v = .bool true := by kernel_rfl
set_option maxRecDepth 100000 in
set_option maxHeartbeats 4000000 in
set_option tactic.hygienic false in
theorem takesFT_rP (a b c d e : Int) (el nl cl : Nat) (fl : RF) (K : Value → List Blk → Prop)  (hI : InC a b c d e) (h1 : (ckF a b c d e nl fl).2 = 0) (h2 : ¬ sel (selE fl 0) nl = []) (h3 : ¬ sel (selE fl 2) nl = []) (h4 : List.length (sel (selE fl 2) nl) = 2) : takesFT_rV a b c d e el nl cl fl K := by
  unfold takesFT_rV
  have SL0 := sel_len (p := selE fl 0) (n := nl)
  have SL2 := sel_len (p := selE fl 2) (n := nl)
  obtain ⟨g1, g2, g3⟩ := ckF_zero h1
  have hp2 := ckF_pc h1
  rw [pc_len] at hp2

  repeat' (first | (with_reducible exact rfl) | (with_reducible exact trivial) | (with_reducible refine And.intro ?_ ?_) | (intro) | (with_reducible refine br_intro (fun hq => ?_) (fun hq => ?_)) | (with_reducible refine if_both (fun hz => ?_) (fun hz => ?_)) | fail)

  all_goals first
    | omega
    | assumption
    | contradiction
    | exact fun _ => ⟨rfl, rfl⟩
    | exact fun _ _ => rfl
    | exact fun _ _ => ⟨rfl, rfl⟩
end Go.Proofs.Ytkflmglpniebfaa.Fr
