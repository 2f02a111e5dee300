/-
  Bump: sound. No project text.
-/
import Derived.Test.YtkflmglpniebfaaBu6
namespace Go.Proofs.Ytkflmglpniebfaa.Fr
open Go.Rx
open Go.RowKit (Below)
set_option linter.unusedVariables false
def con51B : Con := fun vs bs K => match vs with
  | [u, vl, vt] => five u fun a b c d e => parse [.i64, .i64] 0 vl bs fun nl fl j0 bs0 => parse [.i64] j0 vt bs0 fun nt ft j1 bs1 => bs1 = [] ∧ ((capOk (vt)) ∧ (¬ (bck a b c d e nl fl nt ft).2 = 0)) ∧ (K (.tuple ⟨[.bool false, .int .i64 ((bck a b c d e nl fl nt ft).2)]⟩) [])
  | _ => False

def con51B_nnA (a b c d e : Int) : Ann := fun k tt ss => bif Nat.beq k 6 then some [{ α := Nat × Nat × Nat, T := fun k => ⟨88, [(8, .pointer (some ⟨3, 0, none⟩)), (10, .int .i64 (lastP zF zF k.1)), (29, .slice none 0 0), (30, .int .i64 (0 : Nat)), (31, .int .i64 (k.1 : Int))]⟩, S := fun k => ⟨[(3, .cells [.int .i64 a, .int .i64 b, .int .i64 c, .int .i64 d, .int .i64 e, rsl 2 0 0 k.2.1, .slice none 0 0, .int .i64 (-1)] 100), (2, .row false [.i64, .i64] 54 0 k.2.1 zF)], 4⟩, I := fun k => k.1 ≤ 0 ∧ 0 ≤ k.1, m := fun k => 0 - k.1, ρ0 := [(2, 2), (3, 3)], ρ1 := [[(2, 2), (3, 3)]] }] else bif Nat.beq k 14 then some [{ α := Nat × Nat × Nat, T := fun k => ⟨88, [(8, .pointer (some ⟨3, 0, none⟩)), (10, .int .i64 (lastP zF zF 0)), (61, .slice none 0 0), (62, .int .i64 (0 : Nat)), (63, .int .i64 (k.1 : Int))]⟩, S := fun k => ⟨[(3, .cells [.int .i64 a, .int .i64 b, .int .i64 c, .int .i64 d, .int .i64 e, rsl 2 0 0 k.2.1, .slice none 0 0, .int .i64 (-1)] 100), (2, .row false [.i64, .i64] 54 0 k.2.1 zF)], 4⟩, I := fun k => k.1 ≤ 0 ∧ ∀ i : Nat, i < k.1 → (i : Int) < lastP zF zF 0 → zF (zF i 0).toNat 0 = 1 → a < 2 * zF (zF i 0).toNat 1, m := fun k => 0 - k.1, ρ0 := [(2, 2), (3, 3)], ρ1 := [[(2, 2), (3, 3)]] }] else none
def con51B_nrA (a b c d e : Int) (et nt ct : Nat) (ft : RF) : Ann := fun k tt ss => bif Nat.beq k 6 then some [{ α := Nat × Nat × Nat, T := fun k => ⟨88, [(8, .pointer (some ⟨5, 0, none⟩)), (10, .int .i64 (lastP zF ft k.1)), (29, rsl 4 0 nt k.2.2), (30, .int .i64 (nt : Nat)), (31, .int .i64 (k.1 : Int))]⟩, S := fun k => ⟨[(5, .cells [.int .i64 a, .int .i64 b, .int .i64 c, .int .i64 d, .int .i64 e, rsl 3 0 0 k.2.1, rsl 4 0 nt k.2.2, .int .i64 (-1)] 100), (4, .row false [.i64] 3 nt k.2.2 ft), (3, .row false [.i64, .i64] 54 0 k.2.1 zF)], 6⟩, I := fun k => k.1 ≤ nt ∧ 0 ≤ k.1, m := fun k => nt - k.1, ρ0 := [(3, 3), (4, 4), (5, 5)], ρ1 := [[(3, 3), (4, 4), (5, 5)]] }] else bif Nat.beq k 14 then some [{ α := Nat × Nat × Nat, T := fun k => ⟨88, [(8, .pointer (some ⟨5, 0, none⟩)), (10, .int .i64 (lastP zF ft nt)), (61, rsl 4 0 nt k.2.2), (62, .int .i64 (nt : Nat)), (63, .int .i64 (k.1 : Int))]⟩, S := fun k => ⟨[(5, .cells [.int .i64 a, .int .i64 b, .int .i64 c, .int .i64 d, .int .i64 e, rsl 3 0 0 k.2.1, rsl 4 0 nt k.2.2, .int .i64 (-1)] 100), (4, .row false [.i64] 3 nt k.2.2 ft), (3, .row false [.i64, .i64] 54 0 k.2.1 zF)], 6⟩, I := fun k => k.1 ≤ nt ∧ ∀ i : Nat, i < k.1 → (i : Int) < lastP zF ft nt → zF (ft i 0).toNat 0 = 1 → a < 2 * zF (ft i 0).toNat 1, m := fun k => nt - k.1, ρ0 := [(3, 3), (4, 4), (5, 5)], ρ1 := [[(3, 3), (4, 4), (5, 5)]] }] else none
def con51B_rnA (a b c d e : Int) (el nl cl : Nat) (fl : RF) : Ann := fun k tt ss => bif Nat.beq k 6 then some [{ α := Nat × Nat × Nat, T := fun k => ⟨88, [(8, .pointer (some ⟨4, 0, none⟩)), (10, .int .i64 (lastP fl zF k.1)), (29, .slice none 0 0), (30, .int .i64 (0 : Nat)), (31, .int .i64 (k.1 : Int))]⟩, S := fun k => ⟨[(4, .cells [.int .i64 a, .int .i64 b, .int .i64 c, .int .i64 d, .int .i64 e, rsl 3 0 nl k.2.1, .slice none 0 0, .int .i64 (-1)] 100), (3, .row false [.i64, .i64] 54 nl k.2.1 fl)], 5⟩, I := fun k => k.1 ≤ 0 ∧ 0 ≤ k.1, m := fun k => 0 - k.1, ρ0 := [(3, 3), (4, 4)], ρ1 := [[(3, 3), (4, 4)]] }] else bif Nat.beq k 14 then some [{ α := Nat × Nat × Nat, T := fun k => ⟨88, [(8, .pointer (some ⟨4, 0, none⟩)), (10, .int .i64 (lastP fl zF 0)), (61, .slice none 0 0), (62, .int .i64 (0 : Nat)), (63, .int .i64 (k.1 : Int))]⟩, S := fun k => ⟨[(4, .cells [.int .i64 a, .int .i64 b, .int .i64 c, .int .i64 d, .int .i64 e, rsl 3 0 nl k.2.1, .slice none 0 0, .int .i64 (-1)] 100), (3, .row false [.i64, .i64] 54 nl k.2.1 fl)], 5⟩, I := fun k => k.1 ≤ 0 ∧ ∀ i : Nat, i < k.1 → (i : Int) < lastP fl zF 0 → fl (zF i 0).toNat 0 = 1 → a < 2 * fl (zF i 0).toNat 1, m := fun k => 0 - k.1, ρ0 := [(3, 3), (4, 4)], ρ1 := [[(3, 3), (4, 4)]] }] else none
def con51B_rrA (a b c d e : Int) (el nl cl : Nat) (fl : RF) (et nt ct : Nat) (ft : RF) : Ann := fun k tt ss => bif Nat.beq k 6 then some [{ α := Nat × Nat × Nat, T := fun k => ⟨88, [(8, .pointer (some ⟨6, 0, none⟩)), (10, .int .i64 (lastP fl ft k.1)), (29, rsl 5 0 nt k.2.2), (30, .int .i64 (nt : Nat)), (31, .int .i64 (k.1 : Int))]⟩, S := fun k => ⟨[(6, .cells [.int .i64 a, .int .i64 b, .int .i64 c, .int .i64 d, .int .i64 e, rsl 4 0 nl k.2.1, rsl 5 0 nt k.2.2, .int .i64 (-1)] 100), (5, .row false [.i64] 3 nt k.2.2 ft), (4, .row false [.i64, .i64] 54 nl k.2.1 fl)], 7⟩, I := fun k => k.1 ≤ nt ∧ 0 ≤ k.1, m := fun k => nt - k.1, ρ0 := [(4, 4), (5, 5), (6, 6)], ρ1 := [[(4, 4), (5, 5), (6, 6)]] }] else bif Nat.beq k 14 then some [{ α := Nat × Nat × Nat, T := fun k => ⟨88, [(8, .pointer (some ⟨6, 0, none⟩)), (10, .int .i64 (lastP fl ft nt)), (61, rsl 5 0 nt k.2.2), (62, .int .i64 (nt : Nat)), (63, .int .i64 (k.1 : Int))]⟩, S := fun k => ⟨[(6, .cells [.int .i64 a, .int .i64 b, .int .i64 c, .int .i64 d, .int .i64 e, rsl 4 0 nl k.2.1, rsl 5 0 nt k.2.2, .int .i64 (-1)] 100), (5, .row false [.i64] 3 nt k.2.2 ft), (4, .row false [.i64, .i64] 54 nl k.2.1 fl)], 7⟩, I := fun k => k.1 ≤ nt ∧ ∀ i : Nat, i < k.1 → (i : Int) < lastP fl ft nt → fl (ft i 0).toNat 0 = 1 → a < 2 * fl (ft i 0).toNat 1, m := fun k => nt - k.1, ρ0 := [(4, 4), (5, 5), (6, 6)], ρ1 := [[(4, 4), (5, 5), (6, 6)]] }] else none
set_option maxRecDepth 100000 in
def con51B_nnV (a b c d e : Int) (K : Value → List Blk → Prop) : Prop := (T0 ∧ (T0 ∧ (T0 ∧ (T0 ∧ (T0 ∧ (T0 ∧ (T0 ∧ ((InC a b c d e) ∧ (eB ∧ ((Nat.le 0 0) ∧ (T0 ∧ (if (@Eq Int (Prod.snd (bck a b c d e 0 zF 0 zF)) (0)) then (TS ∧ (T0 ∧ (T0 ∧ (T0 ∧ (T0 ∧ (if (b ≤ (-1 : Int)) then (T0 ∧ (∃ y0 : Value, (∃ y1 : List Blk, ((Go.Rx.Found 0 (vt [Value.bool false, vi 7]) ({ h := [(1, CB a b c d e), (0, CB a b c d e)], next := 2 }) (y0) (y1)) ∧ (K y0 y1))))) else (T0 ∧ (T0 ∧ (T0 ∧ (T0 ∧ (T0 ∧ (T0 ∧ (T0 ∧ (False)))))))))))))) else (T0 ∧ (if (@Eq Int (Prod.snd (bck a b c d e 0 zF 0 zF)) (0)) then (False) else (∃ y0 : Value, (∃ y1 : List Blk, ((Go.Rx.Found 0 (vt [Value.bool false, vi (Prod.snd (bck a b c d e 0 zF 0 zF))]) ({ h := [(1, CB a b c d e), (0, CB a b c d e)], next := 2 }) (y0) (y1)) ∧ (K y0 y1))))))))))))))))))
set_option maxRecDepth 100000 in
theorem con51B_nnE (a b c d e : Int) (K : Value → List Blk → Prop) : con51B_nnV a b c d e K = bodyX (mkB X51B) (callN (mkB X51B) 4) (con51B_nnA a b c d e) Try.f51 [.agg ⟨[.int .i64 a, .int .i64 b, .int .i64 c, .int .i64 d, .int .i64 e]⟩, .slice none 0 0, .slice none 0 0] (stOf []) fun v s' => ∃ v1 news, Rx.Found 0 v s' v1 news ∧ K v1 news := by kernel_rfl
set_option maxRecDepth 100000 in
set_option maxHeartbeats 4000000 in
set_option tactic.hygienic false in
theorem con51B_nnP (a b c d e : Int) (K : Value → List Blk → Prop)  (hI : InC a b c d e) (hct : capOk (.slice none 0 0)) (h1 : ¬ (bck a b c d e 0 zF 0 zF).2 = 0) (h : K (.tuple ⟨[.bool false, .int .i64 ((bck a b c d e 0 zF 0 zF).2)]⟩) []) : con51B_nnV a b c d e K := by
  unfold con51B_nnV

  repeat' (first | (with_reducible exact rfl) | (with_reducible exact trivial) | (with_reducible refine And.intro ?_ ?_) | (intro) | (with_reducible refine br_intro (fun hq => ?_) (fun hq => ?_)) | (with_reducible refine if_both (fun hz => ?_) (fun hz => ?_)) | fail)

  all_goals first
    | omega
    | assumption
    | contradiction
    | exact fin0 (by kernel_rfl) (by kernel_rfl) (by first | exact h | simpa using h)
    | (exfalso; simp at hq; omega)
set_option maxRecDepth 100000 in
def con51B_nrV (a b c d e : Int) (et nt ct : Nat) (ft : RF) (K : Value → List Blk → Prop) : Prop := (T0 ∧ (T0 ∧ (T0 ∧ (T0 ∧ (T0 ∧ (T0 ∧ ((0 + nt ≤ nt) ∧ ((InC a b c d e) ∧ ((eN 0) ∧ ((nt ≤ 100000) ∧ (((@Eq (List IntKind) ([IntKind.i64]) ([IntKind.i64])) ∧ ((eN nt) ∧ (eN ct))) ∧ (eB ∧ ((Nat.le nt ct) ∧ (T0 ∧ (if (@Eq Int (Prod.snd (bck a b c d e 0 zF nt ft)) (0)) then (TS ∧ (T0 ∧ (T0 ∧ (T0 ∧ (T0 ∧ (if (b ≤ (-1 : Int)) then (T0 ∧ (∃ y0 : Value, (∃ y1 : List Blk, ((Go.Rx.Found 1 (vt [Value.bool false, vi 7]) ({ h := [(2, CB a b c d e), (1, CB a b c d e), (0, Blk.row true [IntKind.i64] et nt ct ft)], next := 3 }) (y0) (y1)) ∧ (K y0 y1))))) else (T0 ∧ (T0 ∧ (T0 ∧ (T0 ∧ (T0 ∧ (T0 ∧ (T0 ∧ (False)))))))))))))) else (T0 ∧ (if (@Eq Int (Prod.snd (bck a b c d e 0 zF nt ft)) (0)) then (False) else (∃ y0 : Value, (∃ y1 : List Blk, ((Go.Rx.Found 1 (vt [Value.bool false, vi (Prod.snd (bck a b c d e 0 zF nt ft))]) ({ h := [(2, CB a b c d e), (1, CB a b c d e), (0, Blk.row true [IntKind.i64] et nt ct ft)], next := 3 }) (y0) (y1)) ∧ (K y0 y1)))))))))))))))))))))
set_option maxRecDepth 100000 in
theorem con51B_nrE (a b c d e : Int) (et nt ct : Nat) (ft : RF) (K : Value → List Blk → Prop) : con51B_nrV a b c d e et nt ct ft K = bodyX (mkB X51B) (callN (mkB X51B) 4) (con51B_nrA a b c d e et nt ct ft) Try.f51 [.agg ⟨[.int .i64 a, .int .i64 b, .int .i64 c, .int .i64 d, .int .i64 e]⟩, .slice none 0 0, rsl 0 0 nt ct] (stOf [.row true [.i64] et nt ct ft]) fun v s' => ∃ v1 news, Rx.Found 1 v s' v1 news ∧ K v1 news := by kernel_rfl
set_option maxRecDepth 100000 in
set_option maxHeartbeats 4000000 in
set_option tactic.hygienic false in
theorem con51B_nrP (a b c d e : Int) (et nt ct : Nat) (ft : RF) (K : Value → List Blk → Prop)  (hI : InC a b c d e) (hnt : nt ≤ 100000) (hct : capOk (rsl 0 0 nt ct)) (h1 : ¬ (bck a b c d e 0 zF nt ft).2 = 0) (h : K (.tuple ⟨[.bool false, .int .i64 ((bck a b c d e 0 zF nt ft).2)]⟩) []) : con51B_nrV a b c d e et nt ct ft K := by
  unfold con51B_nrV

  repeat' (first | (with_reducible exact rfl) | (with_reducible exact trivial) | (with_reducible refine And.intro ?_ ?_) | (intro) | (with_reducible refine br_intro (fun hq => ?_) (fun hq => ?_)) | (with_reducible refine if_both (fun hz => ?_) (fun hz => ?_)) | fail)

  all_goals first
    | omega
    | assumption
    | contradiction
    | exact fin0 (by kernel_rfl) (by kernel_rfl) (by first | exact h | simpa using h)
    | (exfalso; simp at hq; omega)
set_option maxRecDepth 100000 in
def con51B_rnV (a b c d e : Int) (el nl cl : Nat) (fl : RF) (K : Value → List Blk → Prop) : Prop := (T0 ∧ (T0 ∧ (T0 ∧ (T0 ∧ (T0 ∧ ((0 + nl ≤ nl) ∧ (T0 ∧ ((InC a b c d e) ∧ ((eN 0) ∧ ((nl ≤ 100000) ∧ ((eK ∧ ((eN nl) ∧ (eN cl))) ∧ (eB ∧ ((Nat.le 0 0) ∧ (T0 ∧ (if (@Eq Int (Prod.snd (bck a b c d e nl fl 0 zF)) (0)) then (TS ∧ (T0 ∧ (T0 ∧ (T0 ∧ (T0 ∧ (if (b ≤ (-1 : Int)) then (T0 ∧ (∃ y0 : Value, (∃ y1 : List Blk, ((Go.Rx.Found 1 (vt [Value.bool false, vi 7]) ({ h := [(2, CB a b c d e), (1, CB a b c d e), (0, rT el nl cl fl)], next := 3 }) (y0) (y1)) ∧ (K y0 y1))))) else (T0 ∧ (T0 ∧ (T0 ∧ (T0 ∧ (T0 ∧ (T0 ∧ (T0 ∧ (False)))))))))))))) else (T0 ∧ (if (@Eq Int (Prod.snd (bck a b c d e nl fl 0 zF)) (0)) then (False) else (∃ y0 : Value, (∃ y1 : List Blk, ((Go.Rx.Found 1 (vt [Value.bool false, vi (Prod.snd (bck a b c d e nl fl 0 zF))]) ({ h := [(2, CB a b c d e), (1, CB a b c d e), (0, rT el nl cl fl)], next := 3 }) (y0) (y1)) ∧ (K y0 y1)))))))))))))))))))))
set_option maxRecDepth 100000 in
theorem con51B_rnE (a b c d e : Int) (el nl cl : Nat) (fl : RF) (K : Value → List Blk → Prop) : con51B_rnV a b c d e el nl cl fl K = bodyX (mkB X51B) (callN (mkB X51B) 4) (con51B_rnA a b c d e el nl cl fl) Try.f51 [.agg ⟨[.int .i64 a, .int .i64 b, .int .i64 c, .int .i64 d, .int .i64 e]⟩, rsl 0 0 nl cl, .slice none 0 0] (stOf [.row true [.i64, .i64] el nl cl fl]) fun v s' => ∃ v1 news, Rx.Found 1 v s' v1 news ∧ K v1 news := by kernel_rfl
set_option maxRecDepth 100000 in
set_option maxHeartbeats 4000000 in
set_option tactic.hygienic false in
theorem con51B_rnP (a b c d e : Int) (el nl cl : Nat) (fl : RF) (K : Value → List Blk → Prop)  (hI : InC a b c d e) (hnl : nl ≤ 100000) (hct : capOk (.slice none 0 0)) (h1 : ¬ (bck a b c d e nl fl 0 zF).2 = 0) (h : K (.tuple ⟨[.bool false, .int .i64 ((bck a b c d e nl fl 0 zF).2)]⟩) []) : con51B_rnV a b c d e el nl cl fl K := by
  unfold con51B_rnV

  repeat' (first | (with_reducible exact rfl) | (with_reducible exact trivial) | (with_reducible refine And.intro ?_ ?_) | (intro) | (with_reducible refine br_intro (fun hq => ?_) (fun hq => ?_)) | (with_reducible refine if_both (fun hz => ?_) (fun hz => ?_)) | fail)

  all_goals first
    | omega
    | assumption
    | contradiction
    | exact fin0 (by kernel_rfl) (by kernel_rfl) (by first | exact h | simpa using h)
    | (exfalso; simp at hq; omega)
set_option maxRecDepth 100000 in
def con51B_rrV (a b c d e : Int) (el nl cl : Nat) (fl : RF) (et nt ct : Nat) (ft : RF) (K : Value → List Blk → Prop) : Prop := (T0 ∧ (T0 ∧ (T0 ∧ (T0 ∧ (T0 ∧ ((0 + nl ≤ nl) ∧ ((0 + nt ≤ nt) ∧ ((InC a b c d e) ∧ ((eN 0) ∧ ((nl ≤ 100000) ∧ ((eK ∧ ((eN nl) ∧ (eN cl))) ∧ ((eN 1) ∧ ((nt ≤ 100000) ∧ (((@Eq (List IntKind) ([IntKind.i64]) ([IntKind.i64])) ∧ ((eN nt) ∧ (eN ct))) ∧ (eB ∧ ((Nat.le nt ct) ∧ (T0 ∧ (if (@Eq Int (Prod.snd (bck a b c d e nl fl nt ft)) (0)) then (TS ∧ (T0 ∧ (T0 ∧ (T0 ∧ (T0 ∧ (if (b ≤ (-1 : Int)) then (T0 ∧ (∃ y0 : Value, (∃ y1 : List Blk, ((Go.Rx.Found 2 (vt [Value.bool false, vi 7]) ({ h := [(3, CB a b c d e), (2, CB a b c d e), (0, rT el nl cl fl), (1, Blk.row true [IntKind.i64] et nt ct ft)], next := 4 }) (y0) (y1)) ∧ (K y0 y1))))) else (T0 ∧ (T0 ∧ (T0 ∧ (T0 ∧ (T0 ∧ (T0 ∧ (T0 ∧ (False)))))))))))))) else (T0 ∧ (if (@Eq Int (Prod.snd (bck a b c d e nl fl nt ft)) (0)) then (False) else (∃ y0 : Value, (∃ y1 : List Blk, ((Go.Rx.Found 2 (vt [Value.bool false, vi (Prod.snd (bck a b c d e nl fl nt ft))]) ({ h := [(3, CB a b c d e), (2, CB a b c d e), (0, rT el nl cl fl), (1, Blk.row true [IntKind.i64] et nt ct ft)], next := 4 }) (y0) (y1)) ∧ (K y0 y1))))))))))))))))))))))))
set_option maxRecDepth 100000 in
theorem con51B_rrE (a b c d e : Int) (el nl cl : Nat) (fl : RF) (et nt ct : Nat) (ft : RF) (K : Value → List Blk → Prop) : con51B_rrV a b c d e el nl cl fl et nt ct ft K = bodyX (mkB X51B) (callN (mkB X51B) 4) (con51B_rrA a b c d e el nl cl fl et nt ct ft) Try.f51 [.agg ⟨[.int .i64 a, .int .i64 b, .int .i64 c, .int .i64 d, .int .i64 e]⟩, rsl 0 0 nl cl, rsl 1 0 nt ct] (stOf [.row true [.i64, .i64] el nl cl fl, .row true [.i64] et nt ct ft]) fun v s' => ∃ v1 news, Rx.Found 2 v s' v1 news ∧ K v1 news := by kernel_rfl
set_option maxRecDepth 100000 in
set_option maxHeartbeats 4000000 in
set_option tactic.hygienic false in
theorem con51B_rrP (a b c d e : Int) (el nl cl : Nat) (fl : RF) (et nt ct : Nat) (ft : RF) (K : Value → List Blk → Prop)  (hI : InC a b c d e) (hnl : nl ≤ 100000) (hnt : nt ≤ 100000) (hct : capOk (rsl 1 0 nt ct)) (h1 : ¬ (bck a b c d e nl fl nt ft).2 = 0) (h : K (.tuple ⟨[.bool false, .int .i64 ((bck a b c d e nl fl nt ft).2)]⟩) []) : con51B_rrV a b c d e el nl cl fl et nt ct ft K := by
  unfold con51B_rrV

  repeat' (first | (with_reducible exact rfl) | (with_reducible exact trivial) | (with_reducible refine And.intro ?_ ?_) | (intro) | (with_reducible refine br_intro (fun hq => ?_) (fun hq => ?_)) | (with_reducible refine if_both (fun hz => ?_) (fun hz => ?_)) | fail)

  all_goals first
    | omega
    | assumption
    | contradiction
    | exact fin0 (by kernel_rfl) (by kernel_rfl) (by first | exact h | simpa using h)
    | (exfalso; simp at hq; omega)
theorem con51B_ok : BodyOk (mkB X51B) 4 Try.f51 con51B := by
  intro vs bs K hh hro
  clear hro
  unfold con51B at hh
  split at hh
  · rename_i u vl vt
    obtain ⟨a, b, c, d, e, rfl, hI, hh0⟩ := five_inv hh
    rcases parse_inv hh0 with ⟨rfl, hh1⟩ | ⟨el, nl, cl, fl, btl, rfl, hnl, rfl, hh1⟩ <;> clear hh0
    · rcases parse_inv hh1 with ⟨rfl, hh2⟩ | ⟨et, nt, ct, ft, btt, rfl, hnt, rfl, hh2⟩ <;> clear hh1
      · obtain ⟨rfl, ⟨hct, h1⟩, hc⟩ := hh2
        exact ⟨_, _, cast (con51B_nnE a b c d e   K) (con51B_nnP a b c d e   K hI  hct h1 hc)⟩
      · obtain ⟨rfl, ⟨hct, h1⟩, hc⟩ := hh2
        exact ⟨_, _, cast (con51B_nrE a b c d e et nt ct ft  K) (con51B_nrP a b c d e et nt ct ft  K hI hnt hct h1 hc)⟩
    · rcases parse_inv hh1 with ⟨rfl, hh2⟩ | ⟨et, nt, ct, ft, btt, rfl, hnt, rfl, hh2⟩ <;> clear hh1
      · obtain ⟨rfl, ⟨hct, h1⟩, hc⟩ := hh2
        exact ⟨_, _, cast (con51B_rnE a b c d e el nl cl fl  K) (con51B_rnP a b c d e el nl cl fl  K hI hnl hct h1 hc)⟩
      · obtain ⟨rfl, ⟨hct, h1⟩, hc⟩ := hh2
        exact ⟨_, _, cast (con51B_rrE a b c d e el nl cl fl et nt ct ft  K) (con51B_rrP a b c d e el nl cl fl et nt ct ft  K hI hnl hnt hct h1 hc)⟩
  · exact hh.elim
theorem con51B_told : Told 51 (specOf con51B) := toldB (X := X51B) X51B_told (by kernel_rfl) (by kernel_rfl) (by kernel_rfl) con51B_ok
end Go.Proofs.Ytkflmglpniebfaa.Fr
