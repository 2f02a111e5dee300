/-
  Bump: what is asked, the reference. No project text.
-/
import Derived.Test.YtkflmglpniebfaaBu2
namespace Go.Proofs.Ytkflmglpniebfaa.Fr
open Go.Rx
open Go.RowKit (Below)
set_option linter.unusedVariables false
theorem bck_ck {a b c d e : Int} {n m : Nat} {f g : RF} (h : (bck a b c d e n f m g).2 = 0) : (ckF a b c d e n f).2 = 0 := by
  unfold bck at h
  split at h
  · assumption
  · exact absurd h (by assumption)
/-- The error of a train, a car to be skipped, a size. -/
def askT (a b c d e : Int) (n : Nat) (f : RF) (m : Nat) (g : RF) (s y : Int) : Int := if (bck a b c d e n f m g).2 = 0 then (if y < 1 ∨ a < y ∨ s < -1 ∨ b ≤ s then 7 else if 0 ≤ s ∧ f s.toNat 0 = 0 then 9 else 0) else (bck a b c d e n f m g).2
@[reducible] def X85 : List (Nat × Rx.Spec) := [(50, specOf con50)]
theorem X85_told : ∀ p ∈ X85, Told p.1 p.2 := by
  intro p hp
  simp only [List.mem_cons, List.not_mem_nil, or_false] at hp
  rcases hp with rfl
  · exact con50_told
def con85 : Con := fun vs bs K => match vs with
  | [u, vl, vt, .int .i64 s, .int .i64 y] => five u fun a b c d e => parse [.i64, .i64] 0 vl bs fun nl fl j0 bs0 => parse [.i64] j0 vt bs0 fun nt ft j1 bs1 => bs1 = [] ∧ (True) ∧ (K (.int .i64 (askT a b c d e nl fl nt ft s y)) [])
  | _ => False

def con85_nnA (a b c d e : Int) (s : Int) (y : Int) : Ann := fun _ _ _ => none
def con85_nrA (a b c d e : Int) (et nt ct : Nat) (ft : RF) (s : Int) (y : Int) : Ann := fun _ _ _ => none
def con85_rnA (a b c d e : Int) (el nl cl : Nat) (fl : RF) (s : Int) (y : Int) : Ann := fun _ _ _ => none
def con85_rrA (a b c d e : Int) (el nl cl : Nat) (fl : RF) (et nt ct : Nat) (ft : RF) (s : Int) (y : Int) : Ann := fun _ _ _ => none
set_option maxRecDepth 100000 in
def con85_nnV (a b c d e : Int) (s : Int) (y : Int) (K : Value → List Blk → Prop) : Prop := (T0 ∧ (T0 ∧ (T0 ∧ (T0 ∧ (T0 ∧ ((InC a b c d e) ∧ (eB ∧ ((True) ∧ (T0 ∧ (if (@Eq Int (Prod.snd (bck a b c d e 0 zF 0 zF)) (0)) then (T0 ∧ (if (y < 1) then (T0 ∧ (∃ y0 : Value, (∃ y1 : List Blk, ((Go.Rx.Found 0 (vi 7) ({ h := [(0, CB a b c d e)], next := 1 }) (y0) (y1)) ∧ (K y0 y1))))) else (T0 ∧ (T0 ∧ (if (a < y) then (T0 ∧ (∃ y0 : Value, (∃ y1 : List Blk, ((Go.Rx.Found 0 (vi 7) ({ h := [(0, CB a b c d e)], next := 1 }) (y0) (y1)) ∧ (K y0 y1))))) else (T0 ∧ (if (s < (-1 : Int)) then (T0 ∧ (∃ y0 : Value, (∃ y1 : List Blk, ((Go.Rx.Found 0 (vi 7) ({ h := [(0, CB a b c d e)], next := 1 }) (y0) (y1)) ∧ (K y0 y1))))) else (T0 ∧ (T0 ∧ (if (b ≤ s) then (T0 ∧ (∃ y0 : Value, (∃ y1 : List Blk, ((Go.Rx.Found 0 (vi 7) ({ h := [(0, CB a b c d e)], next := 1 }) (y0) (y1)) ∧ (K y0 y1))))) else (T0 ∧ (if (@Eq Int (Prod.snd (bck a b c d e 0 zF 0 zF)) (0)) then (T0 ∧ (if (0 ≤ s) then (False) else (∃ y0 : Value, (∃ y1 : List Blk, ((Go.Rx.Found 0 (vi (Prod.snd (bck a b c d e 0 zF 0 zF))) ({ h := [(0, CB a b c d e)], next := 1 }) (y0) (y1)) ∧ (K y0 y1)))))) else (∃ y0 : Value, (∃ y1 : List Blk, ((Go.Rx.Found 0 (vi (Prod.snd (bck a b c d e 0 zF 0 zF))) ({ h := [(0, CB a b c d e)], next := 1 }) (y0) (y1)) ∧ (K y0 y1)))))))))))))))) else (T0 ∧ (if (@Eq Int (Prod.snd (bck a b c d e 0 zF 0 zF)) (0)) then (T0 ∧ (if (0 ≤ s) then (False) else (∃ y0 : Value, (∃ y1 : List Blk, ((Go.Rx.Found 0 (vi (Prod.snd (bck a b c d e 0 zF 0 zF))) ({ h := [(0, CB a b c d e)], next := 1 }) (y0) (y1)) ∧ (K y0 y1)))))) else (∃ y0 : Value, (∃ y1 : List Blk, ((Go.Rx.Found 0 (vi (Prod.snd (bck a b c d e 0 zF 0 zF))) ({ h := [(0, CB a b c d e)], next := 1 }) (y0) (y1)) ∧ (K y0 y1))))))))))))))))
set_option maxRecDepth 100000 in
theorem con85_nnE (a b c d e : Int) (s : Int) (y : Int) (K : Value → List Blk → Prop) : con85_nnV a b c d e s y K = bodyX (mk X85) (callN (mk X85) 4) (con85_nnA a b c d e s y) Try.f85 [.agg ⟨[.int .i64 a, .int .i64 b, .int .i64 c, .int .i64 d, .int .i64 e]⟩, .slice none 0 0, .slice none 0 0, .int .i64 s, .int .i64 y] (stOf []) fun v s' => ∃ v1 news, Rx.Found 0 v s' v1 news ∧ K v1 news := by kernel_rfl
set_option maxRecDepth 100000 in
set_option maxHeartbeats 4000000 in
set_option tactic.hygienic false in
theorem con85_nnP (a b c d e : Int) (s : Int) (y : Int) (K : Value → List Blk → Prop)  (hI : InC a b c d e) (h : K (.int .i64 (askT a b c d e 0 zF 0 zF s y)) []) : con85_nnV a b c d e s y K := by
  unfold con85_nnV
  unfold askT at h
  have G : (bck a b c d e 0 zF 0 zF).2 = 0 → good a b c d e ∧ ((0 : Nat) : Int) = b ∧ ∀ i, i < 0 → fok a zF i := fun q => ckF_zero (bck_ck q)
  repeat' (first | (with_reducible exact rfl) | (with_reducible exact trivial) | (with_reducible refine And.intro ?_ ?_) | (intro) | (with_reducible refine br_intro (fun hq => ?_) (fun hq => ?_)) | (with_reducible refine if_both (fun hz => ?_) (fun hz => ?_)) | fail)

  all_goals first
    | omega
    | assumption
    | contradiction
    | (have g := G (by assumption); omega)
    | (refine fin0 (by kernel_rfl) (by kernel_rfl) ?_
       repeat' (split at h)
       all_goals first | exact h | omega | (rw [show (bck _ _ _ _ _ _ _ _ _).2 = 0 by assumption]; exact h) | (exfalso; have g := G (by assumption); omega))
set_option maxRecDepth 100000 in
def con85_nrV (a b c d e : Int) (et nt ct : Nat) (ft : RF) (s : Int) (y : Int) (K : Value → List Blk → Prop) : Prop := (T0 ∧ (T0 ∧ (T0 ∧ (T0 ∧ ((0 + nt ≤ nt) ∧ ((InC a b c d e) ∧ ((eN 0) ∧ ((nt ≤ 100000) ∧ (((@Eq (List IntKind) ([IntKind.i64]) ([IntKind.i64])) ∧ ((eN nt) ∧ (eN ct))) ∧ (eB ∧ ((True) ∧ (T0 ∧ (if (@Eq Int (Prod.snd (bck a b c d e 0 zF nt ft)) (0)) then (T0 ∧ (if (y < 1) then (T0 ∧ (∃ y0 : Value, (∃ y1 : List Blk, ((Go.Rx.Found 1 (vi 7) ({ h := [(1, CB a b c d e), (0, Blk.row true [IntKind.i64] et nt ct ft)], next := 2 }) (y0) (y1)) ∧ (K y0 y1))))) else (T0 ∧ (T0 ∧ (if (a < y) then (T0 ∧ (∃ y0 : Value, (∃ y1 : List Blk, ((Go.Rx.Found 1 (vi 7) ({ h := [(1, CB a b c d e), (0, Blk.row true [IntKind.i64] et nt ct ft)], next := 2 }) (y0) (y1)) ∧ (K y0 y1))))) else (T0 ∧ (if (s < (-1 : Int)) then (T0 ∧ (∃ y0 : Value, (∃ y1 : List Blk, ((Go.Rx.Found 1 (vi 7) ({ h := [(1, CB a b c d e), (0, Blk.row true [IntKind.i64] et nt ct ft)], next := 2 }) (y0) (y1)) ∧ (K y0 y1))))) else (T0 ∧ (T0 ∧ (if (b ≤ s) then (T0 ∧ (∃ y0 : Value, (∃ y1 : List Blk, ((Go.Rx.Found 1 (vi 7) ({ h := [(1, CB a b c d e), (0, Blk.row true [IntKind.i64] et nt ct ft)], next := 2 }) (y0) (y1)) ∧ (K y0 y1))))) else (T0 ∧ (if (@Eq Int (Prod.snd (bck a b c d e 0 zF nt ft)) (0)) then (T0 ∧ (if (0 ≤ s) then (False) else (∃ y0 : Value, (∃ y1 : List Blk, ((Go.Rx.Found 1 (vi (Prod.snd (bck a b c d e 0 zF nt ft))) ({ h := [(1, CB a b c d e), (0, Blk.row true [IntKind.i64] et nt ct ft)], next := 2 }) (y0) (y1)) ∧ (K y0 y1)))))) else (∃ y0 : Value, (∃ y1 : List Blk, ((Go.Rx.Found 1 (vi (Prod.snd (bck a b c d e 0 zF nt ft))) ({ h := [(1, CB a b c d e), (0, Blk.row true [IntKind.i64] et nt ct ft)], next := 2 }) (y0) (y1)) ∧ (K y0 y1)))))))))))))))) else (T0 ∧ (if (@Eq Int (Prod.snd (bck a b c d e 0 zF nt ft)) (0)) then (T0 ∧ (if (0 ≤ s) then (False) else (∃ y0 : Value, (∃ y1 : List Blk, ((Go.Rx.Found 1 (vi (Prod.snd (bck a b c d e 0 zF nt ft))) ({ h := [(1, CB a b c d e), (0, Blk.row true [IntKind.i64] et nt ct ft)], next := 2 }) (y0) (y1)) ∧ (K y0 y1)))))) else (∃ y0 : Value, (∃ y1 : List Blk, ((Go.Rx.Found 1 (vi (Prod.snd (bck a b c d e 0 zF nt ft))) ({ h := [(1, CB a b c d e), (0, Blk.row true [IntKind.i64] et nt ct ft)], next := 2 }) (y0) (y1)) ∧ (K y0 y1)))))))))))))))))))
set_option maxRecDepth 100000 in
theorem con85_nrE (a b c d e : Int) (et nt ct : Nat) (ft : RF) (s : Int) (y : Int) (K : Value → List Blk → Prop) : con85_nrV a b c d e et nt ct ft s y K = bodyX (mk X85) (callN (mk X85) 4) (con85_nrA a b c d e et nt ct ft s y) Try.f85 [.agg ⟨[.int .i64 a, .int .i64 b, .int .i64 c, .int .i64 d, .int .i64 e]⟩, .slice none 0 0, rsl 0 0 nt ct, .int .i64 s, .int .i64 y] (stOf [.row true [.i64] et nt ct ft]) fun v s' => ∃ v1 news, Rx.Found 1 v s' v1 news ∧ K v1 news := by kernel_rfl
set_option maxRecDepth 100000 in
set_option maxHeartbeats 4000000 in
set_option tactic.hygienic false in
theorem con85_nrP (a b c d e : Int) (et nt ct : Nat) (ft : RF) (s : Int) (y : Int) (K : Value → List Blk → Prop)  (hI : InC a b c d e) (hnt : nt ≤ 100000) (h : K (.int .i64 (askT a b c d e 0 zF nt ft s y)) []) : con85_nrV a b c d e et nt ct ft s y K := by
  unfold con85_nrV
  unfold askT at h
  have G : (bck a b c d e 0 zF nt ft).2 = 0 → good a b c d e ∧ ((0 : Nat) : Int) = b ∧ ∀ i, i < 0 → fok a zF i := fun q => ckF_zero (bck_ck q)
  repeat' (first | (with_reducible exact rfl) | (with_reducible exact trivial) | (with_reducible refine And.intro ?_ ?_) | (intro) | (with_reducible refine br_intro (fun hq => ?_) (fun hq => ?_)) | (with_reducible refine if_both (fun hz => ?_) (fun hz => ?_)) | fail)

  all_goals first
    | omega
    | assumption
    | contradiction
    | (have g := G (by assumption); omega)
    | (refine fin0 (by kernel_rfl) (by kernel_rfl) ?_
       repeat' (split at h)
       all_goals first | exact h | omega | (rw [show (bck _ _ _ _ _ _ _ _ _).2 = 0 by assumption]; exact h) | (exfalso; have g := G (by assumption); omega))
set_option maxRecDepth 100000 in
def con85_rnV (a b c d e : Int) (el nl cl : Nat) (fl : RF) (s : Int) (y : Int) (K : Value → List Blk → Prop) : Prop := (T0 ∧ (T0 ∧ (T0 ∧ ((0 + nl ≤ nl) ∧ (T0 ∧ ((InC a b c d e) ∧ ((eN 0) ∧ ((nl ≤ 100000) ∧ ((eK ∧ ((eN nl) ∧ (eN cl))) ∧ (eB ∧ ((True) ∧ (T0 ∧ (if (@Eq Int (Prod.snd (bck a b c d e nl fl 0 zF)) (0)) then (T0 ∧ (if (y < 1) then (T0 ∧ (∃ y0 : Value, (∃ y1 : List Blk, ((Go.Rx.Found 1 (vi 7) ({ h := [(1, CB a b c d e), (0, rT el nl cl fl)], next := 2 }) (y0) (y1)) ∧ (K y0 y1))))) else (T0 ∧ (T0 ∧ (if (a < y) then (T0 ∧ (∃ y0 : Value, (∃ y1 : List Blk, ((Go.Rx.Found 1 (vi 7) ({ h := [(1, CB a b c d e), (0, rT el nl cl fl)], next := 2 }) (y0) (y1)) ∧ (K y0 y1))))) else (T0 ∧ (if (s < (-1 : Int)) then (T0 ∧ (∃ y0 : Value, (∃ y1 : List Blk, ((Go.Rx.Found 1 (vi 7) ({ h := [(1, CB a b c d e), (0, rT el nl cl fl)], next := 2 }) (y0) (y1)) ∧ (K y0 y1))))) else (T0 ∧ (T0 ∧ (if (b ≤ s) then (T0 ∧ (∃ y0 : Value, (∃ y1 : List Blk, ((Go.Rx.Found 1 (vi 7) ({ h := [(1, CB a b c d e), (0, rT el nl cl fl)], next := 2 }) (y0) (y1)) ∧ (K y0 y1))))) else (T0 ∧ (if (@Eq Int (Prod.snd (bck a b c d e nl fl 0 zF)) (0)) then (T0 ∧ (if (0 ≤ s) then ((TS ∧ (eN 2)) ∧ (((0 ≤ s) ∧ (s < (↑nl : Int))) ∧ (T0 ∧ ((Int.toNat s < nl) ∧ (T0 ∧ (if (@Eq Int (fl (Int.toNat s) 0) (0)) then (∃ y0 : Value, (∃ y1 : List Blk, ((Go.Rx.Found 1 (vi 9) ({ h := [(1, CB a b c d e), (0, rT el nl cl fl)], next := 2 }) (y0) (y1)) ∧ (K y0 y1)))) else (∃ y0 : Value, (∃ y1 : List Blk, ((Go.Rx.Found 1 (vi (Prod.snd (bck a b c d e nl fl 0 zF))) ({ h := [(1, CB a b c d e), (0, rT el nl cl fl)], next := 2 }) (y0) (y1)) ∧ (K y0 y1)))))))))) else (∃ y0 : Value, (∃ y1 : List Blk, ((Go.Rx.Found 1 (vi (Prod.snd (bck a b c d e nl fl 0 zF))) ({ h := [(1, CB a b c d e), (0, rT el nl cl fl)], next := 2 }) (y0) (y1)) ∧ (K y0 y1)))))) else (∃ y0 : Value, (∃ y1 : List Blk, ((Go.Rx.Found 1 (vi (Prod.snd (bck a b c d e nl fl 0 zF))) ({ h := [(1, CB a b c d e), (0, rT el nl cl fl)], next := 2 }) (y0) (y1)) ∧ (K y0 y1)))))))))))))))) else (T0 ∧ (if (@Eq Int (Prod.snd (bck a b c d e nl fl 0 zF)) (0)) then (T0 ∧ (if (0 ≤ s) then ((TS ∧ (eN 2)) ∧ (((0 ≤ s) ∧ (s < (↑nl : Int))) ∧ (T0 ∧ ((Int.toNat s < nl) ∧ (T0 ∧ (if (@Eq Int (fl (Int.toNat s) 0) (0)) then (∃ y0 : Value, (∃ y1 : List Blk, ((Go.Rx.Found 1 (vi 9) ({ h := [(1, CB a b c d e), (0, rT el nl cl fl)], next := 2 }) (y0) (y1)) ∧ (K y0 y1)))) else (∃ y0 : Value, (∃ y1 : List Blk, ((Go.Rx.Found 1 (vi (Prod.snd (bck a b c d e nl fl 0 zF))) ({ h := [(1, CB a b c d e), (0, rT el nl cl fl)], next := 2 }) (y0) (y1)) ∧ (K y0 y1)))))))))) else (∃ y0 : Value, (∃ y1 : List Blk, ((Go.Rx.Found 1 (vi (Prod.snd (bck a b c d e nl fl 0 zF))) ({ h := [(1, CB a b c d e), (0, rT el nl cl fl)], next := 2 }) (y0) (y1)) ∧ (K y0 y1)))))) else (∃ y0 : Value, (∃ y1 : List Blk, ((Go.Rx.Found 1 (vi (Prod.snd (bck a b c d e nl fl 0 zF))) ({ h := [(1, CB a b c d e), (0, rT el nl cl fl)], next := 2 }) (y0) (y1)) ∧ (K y0 y1)))))))))))))))))))
set_option maxRecDepth 100000 in
theorem con85_rnE (a b c d e : Int) (el nl cl : Nat) (fl : RF) (s : Int) (y : Int) (K : Value → List Blk → Prop) : con85_rnV a b c d e el nl cl fl s y K = bodyX (mk X85) (callN (mk X85) 4) (con85_rnA a b c d e el nl cl fl s y) Try.f85 [.agg ⟨[.int .i64 a, .int .i64 b, .int .i64 c, .int .i64 d, .int .i64 e]⟩, rsl 0 0 nl cl, .slice none 0 0, .int .i64 s, .int .i64 y] (stOf [.row true [.i64, .i64] el nl cl fl]) fun v s' => ∃ v1 news, Rx.Found 1 v s' v1 news ∧ K v1 news := by kernel_rfl
set_option maxRecDepth 100000 in
set_option maxHeartbeats 4000000 in
set_option tactic.hygienic false in
theorem con85_rnP (a b c d e : Int) (el nl cl : Nat) (fl : RF) (s : Int) (y : Int) (K : Value → List Blk → Prop)  (hI : InC a b c d e) (hnl : nl ≤ 100000) (h : K (.int .i64 (askT a b c d e nl fl 0 zF s y)) []) : con85_rnV a b c d e el nl cl fl s y K := by
  unfold con85_rnV
  unfold askT at h
  have G : (bck a b c d e nl fl 0 zF).2 = 0 → good a b c d e ∧ ((nl : Nat) : Int) = b ∧ ∀ i, i < nl → fok a fl i := fun q => ckF_zero (bck_ck q)
  repeat' (first | (with_reducible exact rfl) | (with_reducible exact trivial) | (with_reducible refine And.intro ?_ ?_) | (intro) | (with_reducible refine br_intro (fun hq => ?_) (fun hq => ?_)) | (with_reducible refine if_both (fun hz => ?_) (fun hz => ?_)) | fail)

  all_goals first
    | omega
    | assumption
    | contradiction
    | (have g := G (by assumption); omega)
    | (refine fin0 (by kernel_rfl) (by kernel_rfl) ?_
       repeat' (split at h)
       all_goals first | exact h | omega | (rw [show (bck _ _ _ _ _ _ _ _ _).2 = 0 by assumption]; exact h) | (exfalso; have g := G (by assumption); omega))
set_option maxRecDepth 100000 in
def con85_rrV (a b c d e : Int) (el nl cl : Nat) (fl : RF) (et nt ct : Nat) (ft : RF) (s : Int) (y : Int) (K : Value → List Blk → Prop) : Prop := (T0 ∧ (T0 ∧ (T0 ∧ ((0 + nl ≤ nl) ∧ ((0 + nt ≤ nt) ∧ ((InC a b c d e) ∧ ((eN 0) ∧ ((nl ≤ 100000) ∧ ((eK ∧ ((eN nl) ∧ (eN cl))) ∧ ((eN 1) ∧ ((nt ≤ 100000) ∧ (((@Eq (List IntKind) ([IntKind.i64]) ([IntKind.i64])) ∧ ((eN nt) ∧ (eN ct))) ∧ (eB ∧ ((True) ∧ (T0 ∧ (if (@Eq Int (Prod.snd (bck a b c d e nl fl nt ft)) (0)) then (T0 ∧ (if (y < 1) then (T0 ∧ (∃ y0 : Value, (∃ y1 : List Blk, ((Go.Rx.Found 2 (vi 7) ({ h := [(2, CB a b c d e), (0, rT el nl cl fl), (1, Blk.row true [IntKind.i64] et nt ct ft)], next := 3 }) (y0) (y1)) ∧ (K y0 y1))))) else (T0 ∧ (T0 ∧ (if (a < y) then (T0 ∧ (∃ y0 : Value, (∃ y1 : List Blk, ((Go.Rx.Found 2 (vi 7) ({ h := [(2, CB a b c d e), (0, rT el nl cl fl), (1, Blk.row true [IntKind.i64] et nt ct ft)], next := 3 }) (y0) (y1)) ∧ (K y0 y1))))) else (T0 ∧ (if (s < (-1 : Int)) then (T0 ∧ (∃ y0 : Value, (∃ y1 : List Blk, ((Go.Rx.Found 2 (vi 7) ({ h := [(2, CB a b c d e), (0, rT el nl cl fl), (1, Blk.row true [IntKind.i64] et nt ct ft)], next := 3 }) (y0) (y1)) ∧ (K y0 y1))))) else (T0 ∧ (T0 ∧ (if (b ≤ s) then (T0 ∧ (∃ y0 : Value, (∃ y1 : List Blk, ((Go.Rx.Found 2 (vi 7) ({ h := [(2, CB a b c d e), (0, rT el nl cl fl), (1, Blk.row true [IntKind.i64] et nt ct ft)], next := 3 }) (y0) (y1)) ∧ (K y0 y1))))) else (T0 ∧ (if (@Eq Int (Prod.snd (bck a b c d e nl fl nt ft)) (0)) then (T0 ∧ (if (0 ≤ s) then ((TS ∧ (eN 2)) ∧ (((0 ≤ s) ∧ (s < (↑nl : Int))) ∧ (T0 ∧ ((Int.toNat s < nl) ∧ (T0 ∧ (if (@Eq Int (fl (Int.toNat s) 0) (0)) then (∃ y0 : Value, (∃ y1 : List Blk, ((Go.Rx.Found 2 (vi 9) ({ h := [(2, CB a b c d e), (0, rT el nl cl fl), (1, Blk.row true [IntKind.i64] et nt ct ft)], next := 3 }) (y0) (y1)) ∧ (K y0 y1)))) else (∃ y0 : Value, (∃ y1 : List Blk, ((Go.Rx.Found 2 (vi (Prod.snd (bck a b c d e nl fl nt ft))) ({ h := [(2, CB a b c d e), (0, rT el nl cl fl), (1, Blk.row true [IntKind.i64] et nt ct ft)], next := 3 }) (y0) (y1)) ∧ (K y0 y1)))))))))) else (∃ y0 : Value, (∃ y1 : List Blk, ((Go.Rx.Found 2 (vi (Prod.snd (bck a b c d e nl fl nt ft))) ({ h := [(2, CB a b c d e), (0, rT el nl cl fl), (1, Blk.row true [IntKind.i64] et nt ct ft)], next := 3 }) (y0) (y1)) ∧ (K y0 y1)))))) else (∃ y0 : Value, (∃ y1 : List Blk, ((Go.Rx.Found 2 (vi (Prod.snd (bck a b c d e nl fl nt ft))) ({ h := [(2, CB a b c d e), (0, rT el nl cl fl), (1, Blk.row true [IntKind.i64] et nt ct ft)], next := 3 }) (y0) (y1)) ∧ (K y0 y1)))))))))))))))) else (T0 ∧ (if (@Eq Int (Prod.snd (bck a b c d e nl fl nt ft)) (0)) then (T0 ∧ (if (0 ≤ s) then ((TS ∧ (eN 2)) ∧ (((0 ≤ s) ∧ (s < (↑nl : Int))) ∧ (T0 ∧ ((Int.toNat s < nl) ∧ (T0 ∧ (if (@Eq Int (fl (Int.toNat s) 0) (0)) then (∃ y0 : Value, (∃ y1 : List Blk, ((Go.Rx.Found 2 (vi 9) ({ h := [(2, CB a b c d e), (0, rT el nl cl fl), (1, Blk.row true [IntKind.i64] et nt ct ft)], next := 3 }) (y0) (y1)) ∧ (K y0 y1)))) else (∃ y0 : Value, (∃ y1 : List Blk, ((Go.Rx.Found 2 (vi (Prod.snd (bck a b c d e nl fl nt ft))) ({ h := [(2, CB a b c d e), (0, rT el nl cl fl), (1, Blk.row true [IntKind.i64] et nt ct ft)], next := 3 }) (y0) (y1)) ∧ (K y0 y1)))))))))) else (∃ y0 : Value, (∃ y1 : List Blk, ((Go.Rx.Found 2 (vi (Prod.snd (bck a b c d e nl fl nt ft))) ({ h := [(2, CB a b c d e), (0, rT el nl cl fl), (1, Blk.row true [IntKind.i64] et nt ct ft)], next := 3 }) (y0) (y1)) ∧ (K y0 y1)))))) else (∃ y0 : Value, (∃ y1 : List Blk, ((Go.Rx.Found 2 (vi (Prod.snd (bck a b c d e nl fl nt ft))) ({ h := [(2, CB a b c d e), (0, rT el nl cl fl), (1, Blk.row true [IntKind.i64] et nt ct ft)], next := 3 }) (y0) (y1)) ∧ (K y0 y1))))))))))))))))))))))
set_option maxRecDepth 100000 in
theorem con85_rrE (a b c d e : Int) (el nl cl : Nat) (fl : RF) (et nt ct : Nat) (ft : RF) (s : Int) (y : Int) (K : Value → List Blk → Prop) : con85_rrV a b c d e el nl cl fl et nt ct ft s y K = bodyX (mk X85) (callN (mk X85) 4) (con85_rrA a b c d e el nl cl fl et nt ct ft s y) Try.f85 [.agg ⟨[.int .i64 a, .int .i64 b, .int .i64 c, .int .i64 d, .int .i64 e]⟩, rsl 0 0 nl cl, rsl 1 0 nt ct, .int .i64 s, .int .i64 y] (stOf [.row true [.i64, .i64] el nl cl fl, .row true [.i64] et nt ct ft]) fun v s' => ∃ v1 news, Rx.Found 2 v s' v1 news ∧ K v1 news := by kernel_rfl
set_option maxRecDepth 100000 in
set_option maxHeartbeats 4000000 in
set_option tactic.hygienic false in
theorem con85_rrP (a b c d e : Int) (el nl cl : Nat) (fl : RF) (et nt ct : Nat) (ft : RF) (s : Int) (y : Int) (K : Value → List Blk → Prop)  (hI : InC a b c d e) (hnl : nl ≤ 100000) (hnt : nt ≤ 100000) (h : K (.int .i64 (askT a b c d e nl fl nt ft s y)) []) : con85_rrV a b c d e el nl cl fl et nt ct ft s y K := by
  unfold con85_rrV
  unfold askT at h
  have G : (bck a b c d e nl fl nt ft).2 = 0 → good a b c d e ∧ ((nl : Nat) : Int) = b ∧ ∀ i, i < nl → fok a fl i := fun q => ckF_zero (bck_ck q)
  repeat' (first | (with_reducible exact rfl) | (with_reducible exact trivial) | (with_reducible refine And.intro ?_ ?_) | (intro) | (with_reducible refine br_intro (fun hq => ?_) (fun hq => ?_)) | (with_reducible refine if_both (fun hz => ?_) (fun hz => ?_)) | fail)

  all_goals first
    | omega
    | assumption
    | contradiction
    | (have g := G (by assumption); omega)
    | (refine fin0 (by kernel_rfl) (by kernel_rfl) ?_
       repeat' (split at h)
       all_goals first | exact h | omega | (rw [show (bck _ _ _ _ _ _ _ _ _).2 = 0 by assumption]; exact h) | (exfalso; have g := G (by assumption); omega))
theorem con85_ok : BodyOk (mk X85) 4 Try.f85 con85 := by
  intro vs bs K hh hro
  clear hro
  unfold con85 at hh
  split at hh
  · rename_i u vl vt s y
    obtain ⟨a, b, c, d, e, rfl, hI, hh0⟩ := five_inv hh
    rcases parse_inv hh0 with ⟨rfl, hh1⟩ | ⟨el, nl, cl, fl, btl, rfl, hnl, rfl, hh1⟩ <;> clear hh0
    · rcases parse_inv hh1 with ⟨rfl, hh2⟩ | ⟨et, nt, ct, ft, btt, rfl, hnt, rfl, hh2⟩ <;> clear hh1
      · obtain ⟨rfl, -, hc⟩ := hh2
        exact ⟨_, _, cast (con85_nnE a b c d e  s y K) (con85_nnP a b c d e  s y K hI   hc)⟩
      · obtain ⟨rfl, -, hc⟩ := hh2
        exact ⟨_, _, cast (con85_nrE a b c d e et nt ct ft s y K) (con85_nrP a b c d e et nt ct ft s y K hI hnt  hc)⟩
    · rcases parse_inv hh1 with ⟨rfl, hh2⟩ | ⟨et, nt, ct, ft, btt, rfl, hnt, rfl, hh2⟩ <;> clear hh1
      · obtain ⟨rfl, -, hc⟩ := hh2
        exact ⟨_, _, cast (con85_rnE a b c d e el nl cl fl s y K) (con85_rnP a b c d e el nl cl fl s y K hI hnl  hc)⟩
      · obtain ⟨rfl, -, hc⟩ := hh2
        exact ⟨_, _, cast (con85_rrE a b c d e el nl cl fl et nt ct ft s y K) (con85_rrP a b c d e el nl cl fl et nt ct ft s y K hI hnl hnt  hc)⟩
  · exact hh.elim
theorem con85_told : Told 85 (specOf con85) := told (X := X85) X85_told (by kernel_rfl) (by kernel_rfl) (by kernel_rfl) con85_ok
end Go.Proofs.Ytkflmglpniebfaa.Fr
