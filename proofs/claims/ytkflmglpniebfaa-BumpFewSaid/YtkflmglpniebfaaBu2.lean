/-
  Bump: the check. No project text.
-/
import Derived.Test.YtkflmglpniebfaaBu1
namespace Go.Proofs.Ytkflmglpniebfaa.Fr
open Go.Rx
open Go.RowKit (Below)
set_option linter.unusedVariables false
/-- No longer than its room. -/
def capOk : Value → Prop
  | .slice _ n c => n ≤ c
  | _ => False
@[reducible] def X49 : List (Nat × Rx.Spec) := [(21, specOf con21), (79, specOf con79)]
theorem X49_told : ∀ p ∈ X49, Told p.1 p.2 := by
  intro p hp
  simp only [List.mem_cons, List.not_mem_nil, or_false] at hp
  rcases hp with rfl | rfl
  · exact con21_told
  · exact con79_told
def con49 : Con := fun vs bs K => match vs with
  | [u, vl, vt] => five u fun a b c d e => parse [.i64, .i64] 0 vl bs fun nl fl j0 bs0 => parse [.i64] j0 vt bs0 fun nt ft j1 bs1 => bs1 = [] ∧ ((capOk (vt))) ∧ (K (.tuple ⟨[.int .i64 (bck a b c d e nl fl nt ft).1, .int .i64 (bck a b c d e nl fl nt ft).2]⟩) [])
  | _ => False

def con49_nnA (a b c d e : Int) : Ann := fun k tt ss => bif Nat.beq k 5 then some [{ α := Nat, T := fun k => ⟨54, [(1, .slice none 0 0), (2, .slice none 0 0), (3, .pointer (some ⟨0, 0, none⟩)), (21, .slice none 0 0), (22, .int .i64 (0 : Nat)), (23, .int .i64 (k : Int))]⟩, S := fun _ => ⟨[(0, .cells [.int .i64 a, .int .i64 b, .int .i64 c, .int .i64 d, .int .i64 e] 23)], 1⟩, I := fun k => k ≤ 0 ∧ tr b zF zF (0 - k) k = tr b zF zF 0 0, m := fun k => 0 - k, ρ0 := [(0, 0)], ρ1 := [[(0, 0)]] }] else none
def con49_nrA (a b c d e : Int) (et nt ct : Nat) (ft : RF) : Ann := fun k tt ss => bif Nat.beq k 5 then some [{ α := Nat, T := fun k => ⟨54, [(1, .slice none 0 0), (2, rsl 0 0 nt ct), (3, .pointer (some ⟨1, 0, none⟩)), (21, rsl 0 0 nt ct), (22, .int .i64 (nt : Nat)), (23, .int .i64 (k : Int))]⟩, S := fun _ => ⟨[(1, .cells [.int .i64 a, .int .i64 b, .int .i64 c, .int .i64 d, .int .i64 e] 23), (0, .row true [.i64] et nt ct ft)], 2⟩, I := fun k => k ≤ nt ∧ tr b zF ft (nt - k) k = tr b zF ft nt 0, m := fun k => nt - k, ρ0 := [(1, 1)], ρ1 := [[(1, 1)]] }] else none
def con49_rnA (a b c d e : Int) (el nl cl : Nat) (fl : RF) : Ann := fun k tt ss => bif Nat.beq k 5 then some [{ α := Nat, T := fun k => ⟨54, [(1, rsl 0 0 nl cl), (2, .slice none 0 0), (3, .pointer (some ⟨1, 0, none⟩)), (21, .slice none 0 0), (22, .int .i64 (0 : Nat)), (23, .int .i64 (k : Int))]⟩, S := fun _ => ⟨[(1, .cells [.int .i64 a, .int .i64 b, .int .i64 c, .int .i64 d, .int .i64 e] 23), (0, .row true [.i64, .i64] el nl cl fl)], 2⟩, I := fun k => k ≤ 0 ∧ tr b fl zF (0 - k) k = tr b fl zF 0 0, m := fun k => 0 - k, ρ0 := [(1, 1)], ρ1 := [[(1, 1)]] }] else none
def con49_rrA (a b c d e : Int) (el nl cl : Nat) (fl : RF) (et nt ct : Nat) (ft : RF) : Ann := fun k tt ss => bif Nat.beq k 5 then some [{ α := Nat, T := fun k => ⟨54, [(1, rsl 0 0 nl cl), (2, rsl 1 0 nt ct), (3, .pointer (some ⟨2, 0, none⟩)), (21, rsl 1 0 nt ct), (22, .int .i64 (nt : Nat)), (23, .int .i64 (k : Int))]⟩, S := fun _ => ⟨[(2, .cells [.int .i64 a, .int .i64 b, .int .i64 c, .int .i64 d, .int .i64 e] 23), (0, .row true [.i64, .i64] el nl cl fl), (1, .row true [.i64] et nt ct ft)], 3⟩, I := fun k => k ≤ nt ∧ tr b fl ft (nt - k) k = tr b fl ft nt 0, m := fun k => nt - k, ρ0 := [(2, 2)], ρ1 := [[(2, 2)]] }] else none
set_option maxRecDepth 100000 in
def con49_nnV (a b c d e : Int) (K : Value → List Blk → Prop) : Prop := (T0 ∧ (T0 ∧ (T0 ∧ (T0 ∧ ((InC a b c d e) ∧ (eB ∧ (T0 ∧ (if (@Eq Int (Prod.snd (ckF a b c d e 0 zF)) (0)) then (TS ∧ ((∃ y0 : Nat, ((Go.Rx.Sub 0 [(0, 0)] ⟨54, [(23, vi 0), (22, vi 0), (21, vn), (3, pt 0 0), (1, vn), (2, vn)]⟩ ⟨[(0, CB a b c d e)], 1⟩ ({ n := 54, m := [(1, vn), (2, vn), (3, pt 0 0), (21, vn), (22, vi 0), (23, vi (↑y0 : Int))] }) ({ h := [(0, CB a b c d e)], next := 1 })) ∧ ((y0 ≤ 0) ∧ (tr b zF zF (0 - y0) y0 = tr b zF zF 0 0)))) ∧ (∀ y0 : Nat, (((y0 ≤ 0) ∧ (tr b zF zF (0 - y0) y0 = tr b zF zF 0 0)) → (T0 ∧ (∃ y1 : Value, (∃ y2 : List Blk, ((Go.Rx.Found 0 (vt [vi 0, vi 0]) ({ h := [(0, CB a b c d e)], next := 1 }) (y1) (y2)) ∧ (K y1 y2))))))))) else (∃ y0 : Value, (∃ y1 : List Blk, ((Go.Rx.Found 0 (vt [vi (-1 : Int), vi (Prod.snd (ckF a b c d e 0 zF))]) ({ h := [(0, CB a b c d e)], next := 1 }) (y0) (y1)) ∧ (K y0 y1))))))))))))
set_option maxRecDepth 100000 in
theorem con49_nnE (a b c d e : Int) (K : Value → List Blk → Prop) : con49_nnV a b c d e K = bodyX (mk X49) (callN (mk X49) 4) (con49_nnA a b c d e) Try.f49 [.agg ⟨[.int .i64 a, .int .i64 b, .int .i64 c, .int .i64 d, .int .i64 e]⟩, .slice none 0 0, .slice none 0 0] (stOf []) fun v s' => ∃ v1 news, Rx.Found 0 v s' v1 news ∧ K v1 news := by kernel_rfl
set_option maxRecDepth 100000 in
set_option maxHeartbeats 4000000 in
set_option tactic.hygienic false in
theorem con49_nnP (a b c d e : Int) (K : Value → List Blk → Prop)  (hI : InC a b c d e) (hct : capOk (.slice none 0 0)) (h : K (.tuple ⟨[.int .i64 (bck a b c d e 0 zF 0 zF).1, .int .i64 (bck a b c d e 0 zF 0 zF).2]⟩) []) : con49_nnV a b c d e K := by
  unfold con49_nnV
  have hct2 : 0 ≤ 0 := hct
  have G : (ckF a b c d e 0 zF).2 = 0 → good a b c d e ∧ ((0 : Nat) : Int) = b ∧ ∀ i, i < 0 → fok a zF i := ckF_zero
  repeat' (first | (with_reducible exact rfl) | (with_reducible exact trivial) | (with_reducible refine And.intro ?_ ?_) | (intro) | (with_reducible refine br_intro (fun hq => ?_) (fun hq => ?_)) | (with_reducible refine if_both (fun hz => ?_) (fun hz => ?_)) | fail)
  all_goals try (rename _ ≤ _ ∧ tr _ _ _ _ _ = _ => I; obtain ⟨I1, I2⟩ := I)
  all_goals try (rename _ ≤ _ ∧ (∀ _, _ → ¬ _ = _) => J; obtain ⟨J1, J2⟩ := J)
  all_goals try (have g := G (by assumption); obtain ⟨g1, g2, g3⟩ := g)
  all_goals try (rename y1 = true ↔ _ => J)
  all_goals try (rename y1 = _ => hb)
  all_goals first
    | omega
    | assumption
    | contradiction
    | exact ⟨0, (by (refine And.intro (And.intro rfl (And.intro rfl (And.intro rfl rfl))) ?_; (repeat' (first | exact trivial | exact rfl | exact fun _ _ _ _ => rfl | refine And.intro ?_ ?_ | omega | fail)); done)), by omega, rfl⟩
    | exact ⟨y0 + 1, (by (refine And.intro (And.intro rfl (And.intro rfl (And.intro rfl rfl))) ?_; (repeat' (first | exact trivial | exact rfl | exact fun _ _ _ _ => rfl | refine And.intro ?_ ?_ | omega | fail)); done)), ⟨by omega, (by
        have q2 := tr_step b zF zF (m := 0) (k := y0) (by omega)
        rw [if_neg (by omega), if_neg (fun e => (by have q := J.2 (selB_iff.1 e); rw [hb] at q; cases q)), if_neg (by assumption)] at q2
        rw [← q2]
        exact I2)⟩, by omega⟩
    | exact fin0 (by kernel_rfl) (by kernel_rfl) (by rw [bck_bad (by assumption)] at h; exact h)
    | exact fin0 (by kernel_rfl) (by kernel_rfl) (by
        rw [bck_go (by assumption)] at h
        first
          | (rw [← I2, show 0 - y0 = 0 by omega] at h; exact h)
          | (have q2 := tr_step b zF zF (m := 0) (k := y0) (by omega)
             rw [← I2, q2] at h
             first
               | (rw [if_pos (by omega)] at h; exact h)
               | (rw [if_neg (by omega), if_pos (show selB y0 zF zF y0 = true from selB_iff.2 (J.1 hb))] at h; exact h)
               | (rw [if_neg (by omega), if_neg (fun e => (by have q := J.2 (selB_iff.1 e); rw [hb] at q; cases q)), if_pos (by assumption)] at h; exact h)))
    | (exfalso; simp at hq; omega)
    | (have g := G (by assumption); omega)
set_option maxRecDepth 100000 in
def con49_nrV (a b c d e : Int) (et nt ct : Nat) (ft : RF) (K : Value → List Blk → Prop) : Prop := (T0 ∧ (T0 ∧ (T0 ∧ (T0 ∧ ((InC a b c d e) ∧ (eB ∧ (T0 ∧ (if (@Eq Int (Prod.snd (ckF a b c d e 0 zF)) (0)) then (TS ∧ ((∃ y0 : Nat, ((Go.Rx.Sub 1 [(1, 1)] ⟨54, [(23, vi 0), (22, vi (↑nt : Int)), (21, rsl 0 0 nt ct), (3, pt 1 0), (1, vn), (2, rsl 0 0 nt ct)]⟩ ⟨[(1, CB a b c d e), (0, Blk.row true [IntKind.i64] et nt ct ft)], 2⟩ ({ n := 54, m := [(1, vn), (2, rsl 0 0 nt ct), (3, pt 1 0), (21, rsl 0 0 nt ct), (22, vi (↑nt : Int)), (23, vi (↑y0 : Int))] }) ({ h := [(1, CB a b c d e), (0, Blk.row true [IntKind.i64] et nt ct ft)], next := 2 })) ∧ ((y0 ≤ nt) ∧ (tr b zF ft (nt - y0) y0 = tr b zF ft nt 0)))) ∧ (∀ y0 : Nat, (((y0 ≤ nt) ∧ (tr b zF ft (nt - y0) y0 = tr b zF ft nt 0)) → (T0 ∧ (if ((↑y0 : Int) < (↑nt : Int)) then ((TS ∧ (eN 1)) ∧ (((0 ≤ (↑y0 : Int)) ∧ ((↑y0 : Int) < (↑nt : Int))) ∧ ((y0 < nt) ∧ (T0 ∧ (if (ft y0 0 < 0) then (∃ y1 : Value, (∃ y2 : List Blk, ((Go.Rx.Found 1 (vt [vi (↑y0 : Int), vi 7]) ({ h := [(1, CB a b c d e), (0, Blk.row true [IntKind.i64] et nt ct ft)], next := 2 }) (y1) (y2)) ∧ (K y1 y2)))) else (T0 ∧ (T0 ∧ (if (b ≤ ft y0 0) then (∃ y1 : Value, (∃ y2 : List Blk, ((Go.Rx.Found 1 (vt [vi (↑y0 : Int), vi 7]) ({ h := [(1, CB a b c d e), (0, Blk.row true [IntKind.i64] et nt ct ft)], next := 2 }) (y1) (y2)) ∧ (K y1 y2)))) else (TS ∧ (T0 ∧ (T0 ∧ (T0 ∧ (T0 ∧ ((eN 1) ∧ ((((0 : Int) ≤ 0) ∧ ((0 ≤ (↑y0 : Int)) ∧ (((↑y0 : Int) ≤ (↑ct : Int)) ∧ ((↑ct : Int) ≤ (↑ct : Int))))) ∧ (Go.Rx.br (decide (0 < (↑ct : Int))) ((Int.toNat 0 + Int.toNat ((↑y0 : Int) - 0) ≤ nt) ∧ (T0 ∧ ((eN 0) ∧ ((Int.toNat ((↑y0 : Int) - 0) ≤ 100000) ∧ (((@Eq (List IntKind) ([IntKind.i64]) ([IntKind.i64])) ∧ ((@Eq Nat (Int.toNat ((↑y0 : Int) - 0)) (Int.toNat ((↑y0 : Int) - 0))) ∧ (@Eq Nat (Int.toNat ((↑ct : Int) - 0)) (Int.toNat ((↑ct : Int) - 0))))) ∧ (eB ∧ (∀ y1 : Bool, ((y1 = true ↔ ∃ i, i < Int.toNat ((↑y0 : Int) - 0) ∧ shiftF ft (Int.toNat 0) i 0 = ft y0 0) → (Go.Rx.br (y1) (∃ y2 : Value, (∃ y3 : List Blk, ((Go.Rx.Found 1 (vt [vi (↑y0 : Int), vi 8]) ({ h := [(1, CB a b c d e), (0, Blk.row true [IntKind.i64] et nt ct ft)], next := 2 }) (y2) (y3)) ∧ (K y2 y3)))) (False)))))))))) ((0 ≤ nt) ∧ (T0 ∧ ((eN 0) ∧ ((0 ≤ 100000) ∧ (((@Eq (List IntKind) ([IntKind.i64]) ([IntKind.i64])) ∧ ((eN 0) ∧ (eN 0))) ∧ (eB ∧ (∀ y1 : Bool, ((y1 = true ↔ ∃ i, i < 0 ∧ ft i 0 = ft y0 0) → (Go.Rx.br (y1) (∃ y2 : Value, (∃ y3 : List Blk, ((Go.Rx.Found 1 (vt [vi (↑y0 : Int), vi 8]) ({ h := [(1, CB a b c d e), (0, Blk.row true [IntKind.i64] et nt ct ft)], next := 2 }) (y2) (y3)) ∧ (K y2 y3)))) (False)))))))))))))))))))))))))) else (∃ y1 : Value, (∃ y2 : List Blk, ((Go.Rx.Found 1 (vt [vi 0, vi 0]) ({ h := [(1, CB a b c d e), (0, Blk.row true [IntKind.i64] et nt ct ft)], next := 2 }) (y1) (y2)) ∧ (K y1 y2)))))))))) else (∃ y0 : Value, (∃ y1 : List Blk, ((Go.Rx.Found 1 (vt [vi (-1 : Int), vi (Prod.snd (ckF a b c d e 0 zF))]) ({ h := [(1, CB a b c d e), (0, Blk.row true [IntKind.i64] et nt ct ft)], next := 2 }) (y0) (y1)) ∧ (K y0 y1))))))))))))
set_option maxRecDepth 100000 in
theorem con49_nrE (a b c d e : Int) (et nt ct : Nat) (ft : RF) (K : Value → List Blk → Prop) : con49_nrV a b c d e et nt ct ft K = bodyX (mk X49) (callN (mk X49) 4) (con49_nrA a b c d e et nt ct ft) Try.f49 [.agg ⟨[.int .i64 a, .int .i64 b, .int .i64 c, .int .i64 d, .int .i64 e]⟩, .slice none 0 0, rsl 0 0 nt ct] (stOf [.row true [.i64] et nt ct ft]) fun v s' => ∃ v1 news, Rx.Found 1 v s' v1 news ∧ K v1 news := by kernel_rfl
set_option maxRecDepth 100000 in
set_option maxHeartbeats 4000000 in
set_option tactic.hygienic false in
theorem con49_nrP (a b c d e : Int) (et nt ct : Nat) (ft : RF) (K : Value → List Blk → Prop)  (hI : InC a b c d e) (hnt : nt ≤ 100000) (hct : capOk (rsl 0 0 nt ct)) (h : K (.tuple ⟨[.int .i64 (bck a b c d e 0 zF nt ft).1, .int .i64 (bck a b c d e 0 zF nt ft).2]⟩) []) : con49_nrV a b c d e et nt ct ft K := by
  unfold con49_nrV
  have hct2 : nt ≤ ct := hct
  have G : (ckF a b c d e 0 zF).2 = 0 → good a b c d e ∧ ((0 : Nat) : Int) = b ∧ ∀ i, i < 0 → fok a zF i := ckF_zero
  repeat' (first | (with_reducible exact rfl) | (with_reducible exact trivial) | (with_reducible refine And.intro ?_ ?_) | (intro) | (with_reducible refine br_intro (fun hq => ?_) (fun hq => ?_)) | (with_reducible refine if_both (fun hz => ?_) (fun hz => ?_)) | fail)
  all_goals try (rename _ ≤ _ ∧ tr _ _ _ _ _ = _ => I; obtain ⟨I1, I2⟩ := I)
  all_goals try (rename _ ≤ _ ∧ (∀ _, _ → ¬ _ = _) => J; obtain ⟨J1, J2⟩ := J)
  all_goals try (have g := G (by assumption); obtain ⟨g1, g2, g3⟩ := g)
  all_goals try (rename y1 = true ↔ _ => J)
  all_goals try (rename y1 = _ => hb)
  all_goals first
    | omega
    | assumption
    | contradiction
    | exact ⟨0, (by (refine And.intro (And.intro rfl (And.intro rfl (And.intro rfl rfl))) ?_; (repeat' (first | exact trivial | exact rfl | exact fun _ _ _ _ => rfl | refine And.intro ?_ ?_ | omega | fail)); done)), by omega, rfl⟩
    | exact ⟨y0 + 1, (by (refine And.intro (And.intro rfl (And.intro rfl (And.intro rfl rfl))) ?_; (repeat' (first | exact trivial | exact rfl | exact fun _ _ _ _ => rfl | refine And.intro ?_ ?_ | omega | fail)); done)), ⟨by omega, (by
        have q2 := tr_step b zF ft (m := nt) (k := y0) (by omega)
        rw [if_neg (by omega), if_neg (fun e => (by have q := J.2 (selB_iff.1 e); rw [hb] at q; cases q)), if_neg (by assumption)] at q2
        rw [← q2]
        exact I2)⟩, by omega⟩
    | exact fin0 (by kernel_rfl) (by kernel_rfl) (by rw [bck_bad (by assumption)] at h; exact h)
    | exact fin0 (by kernel_rfl) (by kernel_rfl) (by
        rw [bck_go (by assumption)] at h
        first
          | (rw [← I2, show nt - y0 = 0 by omega] at h; exact h)
          | (have q2 := tr_step b zF ft (m := nt) (k := y0) (by omega)
             rw [← I2, q2] at h
             first
               | (rw [if_pos (by omega)] at h; exact h)
               | (rw [if_neg (by omega), if_pos (show selB y0 ft ft y0 = true from selB_iff.2 (J.1 hb))] at h; exact h)
               | (rw [if_neg (by omega), if_neg (fun e => (by have q := J.2 (selB_iff.1 e); rw [hb] at q; cases q)), if_pos (by assumption)] at h; exact h)))
    | (exfalso; simp at hq; omega)
    | (have g := G (by assumption); omega)
set_option maxRecDepth 100000 in
def con49_rnV (a b c d e : Int) (el nl cl : Nat) (fl : RF) (K : Value → List Blk → Prop) : Prop := (T0 ∧ (T0 ∧ (T0 ∧ ((0 + nl ≤ nl) ∧ ((InC a b c d e) ∧ ((eN 0) ∧ ((nl ≤ 100000) ∧ ((eK ∧ ((eN nl) ∧ (eN cl))) ∧ (eB ∧ (T0 ∧ (if (@Eq Int (Prod.snd (ckF a b c d e nl fl)) (0)) then (TS ∧ ((∃ y0 : Nat, ((Go.Rx.Sub 1 [(1, 1)] ⟨54, [(23, vi 0), (22, vi 0), (21, vn), (3, pt 1 0), (1, rsl 0 0 nl cl), (2, vn)]⟩ ⟨[(1, CB a b c d e), (0, rT el nl cl fl)], 2⟩ ({ n := 54, m := [(1, rsl 0 0 nl cl), (2, vn), (3, pt 1 0), (21, vn), (22, vi 0), (23, vi (↑y0 : Int))] }) ({ h := [(1, CB a b c d e), (0, rT el nl cl fl)], next := 2 })) ∧ ((y0 ≤ 0) ∧ (tr b fl zF (0 - y0) y0 = tr b fl zF 0 0)))) ∧ (∀ y0 : Nat, (((y0 ≤ 0) ∧ (tr b fl zF (0 - y0) y0 = tr b fl zF 0 0)) → (T0 ∧ (∃ y1 : Value, (∃ y2 : List Blk, ((Go.Rx.Found 1 (vt [vi 0, vi 0]) ({ h := [(1, CB a b c d e), (0, rT el nl cl fl)], next := 2 }) (y1) (y2)) ∧ (K y1 y2))))))))) else (∃ y0 : Value, (∃ y1 : List Blk, ((Go.Rx.Found 1 (vt [vi (-1 : Int), vi (Prod.snd (ckF a b c d e nl fl))]) ({ h := [(1, CB a b c d e), (0, rT el nl cl fl)], next := 2 }) (y0) (y1)) ∧ (K y0 y1)))))))))))))))
set_option maxRecDepth 100000 in
theorem con49_rnE (a b c d e : Int) (el nl cl : Nat) (fl : RF) (K : Value → List Blk → Prop) : con49_rnV a b c d e el nl cl fl K = bodyX (mk X49) (callN (mk X49) 4) (con49_rnA a b c d e el nl cl fl) Try.f49 [.agg ⟨[.int .i64 a, .int .i64 b, .int .i64 c, .int .i64 d, .int .i64 e]⟩, rsl 0 0 nl cl, .slice none 0 0] (stOf [.row true [.i64, .i64] el nl cl fl]) fun v s' => ∃ v1 news, Rx.Found 1 v s' v1 news ∧ K v1 news := by kernel_rfl
set_option maxRecDepth 100000 in
set_option maxHeartbeats 4000000 in
set_option tactic.hygienic false in
theorem con49_rnP (a b c d e : Int) (el nl cl : Nat) (fl : RF) (K : Value → List Blk → Prop)  (hI : InC a b c d e) (hnl : nl ≤ 100000) (hct : capOk (.slice none 0 0)) (h : K (.tuple ⟨[.int .i64 (bck a b c d e nl fl 0 zF).1, .int .i64 (bck a b c d e nl fl 0 zF).2]⟩) []) : con49_rnV a b c d e el nl cl fl K := by
  unfold con49_rnV
  have hct2 : 0 ≤ 0 := hct
  have G : (ckF a b c d e nl fl).2 = 0 → good a b c d e ∧ ((nl : Nat) : Int) = b ∧ ∀ i, i < nl → fok a fl i := ckF_zero
  repeat' (first | (with_reducible exact rfl) | (with_reducible exact trivial) | (with_reducible refine And.intro ?_ ?_) | (intro) | (with_reducible refine br_intro (fun hq => ?_) (fun hq => ?_)) | (with_reducible refine if_both (fun hz => ?_) (fun hz => ?_)) | fail)
  all_goals try (rename _ ≤ _ ∧ tr _ _ _ _ _ = _ => I; obtain ⟨I1, I2⟩ := I)
  all_goals try (rename _ ≤ _ ∧ (∀ _, _ → ¬ _ = _) => J; obtain ⟨J1, J2⟩ := J)
  all_goals try (have g := G (by assumption); obtain ⟨g1, g2, g3⟩ := g)
  all_goals try (rename y1 = true ↔ _ => J)
  all_goals try (rename y1 = _ => hb)
  all_goals first
    | omega
    | assumption
    | contradiction
    | exact ⟨0, (by (refine And.intro (And.intro rfl (And.intro rfl (And.intro rfl rfl))) ?_; (repeat' (first | exact trivial | exact rfl | exact fun _ _ _ _ => rfl | refine And.intro ?_ ?_ | omega | fail)); done)), by omega, rfl⟩
    | exact ⟨y0 + 1, (by (refine And.intro (And.intro rfl (And.intro rfl (And.intro rfl rfl))) ?_; (repeat' (first | exact trivial | exact rfl | exact fun _ _ _ _ => rfl | refine And.intro ?_ ?_ | omega | fail)); done)), ⟨by omega, (by
        have q2 := tr_step b fl zF (m := 0) (k := y0) (by omega)
        rw [if_neg (by omega), if_neg (fun e => (by have q := J.2 (selB_iff.1 e); rw [hb] at q; cases q)), if_neg (by assumption)] at q2
        rw [← q2]
        exact I2)⟩, by omega⟩
    | exact fin0 (by kernel_rfl) (by kernel_rfl) (by rw [bck_bad (by assumption)] at h; exact h)
    | exact fin0 (by kernel_rfl) (by kernel_rfl) (by
        rw [bck_go (by assumption)] at h
        first
          | (rw [← I2, show 0 - y0 = 0 by omega] at h; exact h)
          | (have q2 := tr_step b fl zF (m := 0) (k := y0) (by omega)
             rw [← I2, q2] at h
             first
               | (rw [if_pos (by omega)] at h; exact h)
               | (rw [if_neg (by omega), if_pos (show selB y0 zF zF y0 = true from selB_iff.2 (J.1 hb))] at h; exact h)
               | (rw [if_neg (by omega), if_neg (fun e => (by have q := J.2 (selB_iff.1 e); rw [hb] at q; cases q)), if_pos (by assumption)] at h; exact h)))
    | (exfalso; simp at hq; omega)
    | (have g := G (by assumption); omega)
set_option maxRecDepth 100000 in
def con49_rrV (a b c d e : Int) (el nl cl : Nat) (fl : RF) (et nt ct : Nat) (ft : RF) (K : Value → List Blk → Prop) : Prop := (T0 ∧ (T0 ∧ (T0 ∧ ((0 + nl ≤ nl) ∧ ((InC a b c d e) ∧ ((eN 0) ∧ ((nl ≤ 100000) ∧ ((eK ∧ ((eN nl) ∧ (eN cl))) ∧ (eB ∧ (T0 ∧ (if (@Eq Int (Prod.snd (ckF a b c d e nl fl)) (0)) then (TS ∧ ((∃ y0 : Nat, ((Go.Rx.Sub 2 [(2, 2)] ⟨54, [(23, vi 0), (22, vi (↑nt : Int)), (21, rsl 1 0 nt ct), (3, pt 2 0), (1, rsl 0 0 nl cl), (2, rsl 1 0 nt ct)]⟩ ⟨[(2, CB a b c d e), (0, rT el nl cl fl), (1, Blk.row true [IntKind.i64] et nt ct ft)], 3⟩ ({ n := 54, m := [(1, rsl 0 0 nl cl), (2, rsl 1 0 nt ct), (3, pt 2 0), (21, rsl 1 0 nt ct), (22, vi (↑nt : Int)), (23, vi (↑y0 : Int))] }) ({ h := [(2, CB a b c d e), (0, rT el nl cl fl), (1, Blk.row true [IntKind.i64] et nt ct ft)], next := 3 })) ∧ ((y0 ≤ nt) ∧ (tr b fl ft (nt - y0) y0 = tr b fl ft nt 0)))) ∧ (∀ y0 : Nat, (((y0 ≤ nt) ∧ (tr b fl ft (nt - y0) y0 = tr b fl ft nt 0)) → (T0 ∧ (if ((↑y0 : Int) < (↑nt : Int)) then ((TS ∧ (eN 1)) ∧ (((0 ≤ (↑y0 : Int)) ∧ ((↑y0 : Int) < (↑nt : Int))) ∧ ((y0 < nt) ∧ (T0 ∧ (if (ft y0 0 < 0) then (∃ y1 : Value, (∃ y2 : List Blk, ((Go.Rx.Found 2 (vt [vi (↑y0 : Int), vi 7]) ({ h := [(2, CB a b c d e), (0, rT el nl cl fl), (1, Blk.row true [IntKind.i64] et nt ct ft)], next := 3 }) (y1) (y2)) ∧ (K y1 y2)))) else (T0 ∧ (T0 ∧ (if (b ≤ ft y0 0) then (∃ y1 : Value, (∃ y2 : List Blk, ((Go.Rx.Found 2 (vt [vi (↑y0 : Int), vi 7]) ({ h := [(2, CB a b c d e), (0, rT el nl cl fl), (1, Blk.row true [IntKind.i64] et nt ct ft)], next := 3 }) (y1) (y2)) ∧ (K y1 y2)))) else (TS ∧ (T0 ∧ (T0 ∧ (T0 ∧ (T0 ∧ ((eN 1) ∧ ((((0 : Int) ≤ 0) ∧ ((0 ≤ (↑y0 : Int)) ∧ (((↑y0 : Int) ≤ (↑ct : Int)) ∧ ((↑ct : Int) ≤ (↑ct : Int))))) ∧ (Go.Rx.br (decide (0 < (↑ct : Int))) ((Int.toNat 0 + Int.toNat ((↑y0 : Int) - 0) ≤ nt) ∧ (T0 ∧ ((eN 0) ∧ ((Int.toNat ((↑y0 : Int) - 0) ≤ 100000) ∧ (((@Eq (List IntKind) ([IntKind.i64]) ([IntKind.i64])) ∧ ((@Eq Nat (Int.toNat ((↑y0 : Int) - 0)) (Int.toNat ((↑y0 : Int) - 0))) ∧ (@Eq Nat (Int.toNat ((↑ct : Int) - 0)) (Int.toNat ((↑ct : Int) - 0))))) ∧ (eB ∧ (∀ y1 : Bool, ((y1 = true ↔ ∃ i, i < Int.toNat ((↑y0 : Int) - 0) ∧ shiftF ft (Int.toNat 0) i 0 = ft y0 0) → (Go.Rx.br (y1) (∃ y2 : Value, (∃ y3 : List Blk, ((Go.Rx.Found 2 (vt [vi (↑y0 : Int), vi 8]) ({ h := [(2, CB a b c d e), (0, rT el nl cl fl), (1, Blk.row true [IntKind.i64] et nt ct ft)], next := 3 }) (y2) (y3)) ∧ (K y2 y3)))) ((TS ∧ (eN 2)) ∧ (((0 ≤ ft y0 0) ∧ (ft y0 0 < (↑nl : Int))) ∧ (T0 ∧ ((Int.toNat (ft y0 0) < nl) ∧ (T0 ∧ (if (@Eq Int (fl (Int.toNat (ft y0 0)) 0) (0)) then (∃ y2 : Value, (∃ y3 : List Blk, ((Go.Rx.Found 2 (vt [vi (↑y0 : Int), vi 9]) ({ h := [(2, CB a b c d e), (0, rT el nl cl fl), (1, Blk.row true [IntKind.i64] et nt ct ft)], next := 3 }) (y2) (y3)) ∧ (K y2 y3)))) else (T0 ∧ ((((-9223372036854775808 : Int) ≤ (↑y0 : Int) + 1) ∧ ((↑y0 : Int) + (1 : Int) ≤ 9223372036854775807)) ∧ (∃ y2 : Nat, ((Go.Rx.Sub 2 [(2, 2)] ⟨54, [(23, vi ((↑y0 : Int) + 1)), (1, rsl 0 0 nl cl), (2, rsl 1 0 nt ct), (3, pt 2 0), (21, rsl 1 0 nt ct), (22, vi (↑nt : Int))]⟩ ⟨[(2, CB a b c d e), (0, rT el nl cl fl), (1, Blk.row true [IntKind.i64] et nt ct ft)], 3⟩ ({ n := 54, m := [(1, rsl 0 0 nl cl), (2, rsl 1 0 nt ct), (3, pt 2 0), (21, rsl 1 0 nt ct), (22, vi (↑nt : Int)), (23, vi (↑y2 : Int))] }) ({ h := [(2, CB a b c d e), (0, rT el nl cl fl), (1, Blk.row true [IntKind.i64] et nt ct ft)], next := 3 })) ∧ (((y2 ≤ nt) ∧ (tr b fl ft (nt - y2) y2 = tr b fl ft nt 0)) ∧ (nt - y2 < nt - y0))))))))))))))))))))) ((0 ≤ nt) ∧ (T0 ∧ ((eN 0) ∧ ((0 ≤ 100000) ∧ (((@Eq (List IntKind) ([IntKind.i64]) ([IntKind.i64])) ∧ ((eN 0) ∧ (eN 0))) ∧ (eB ∧ (∀ y1 : Bool, ((y1 = true ↔ ∃ i, i < 0 ∧ ft i 0 = ft y0 0) → (Go.Rx.br (y1) (∃ y2 : Value, (∃ y3 : List Blk, ((Go.Rx.Found 2 (vt [vi (↑y0 : Int), vi 8]) ({ h := [(2, CB a b c d e), (0, rT el nl cl fl), (1, Blk.row true [IntKind.i64] et nt ct ft)], next := 3 }) (y2) (y3)) ∧ (K y2 y3)))) ((TS ∧ (eN 2)) ∧ (((0 ≤ ft y0 0) ∧ (ft y0 0 < (↑nl : Int))) ∧ (T0 ∧ ((Int.toNat (ft y0 0) < nl) ∧ (T0 ∧ (if (@Eq Int (fl (Int.toNat (ft y0 0)) 0) (0)) then (∃ y2 : Value, (∃ y3 : List Blk, ((Go.Rx.Found 2 (vt [vi (↑y0 : Int), vi 9]) ({ h := [(2, CB a b c d e), (0, rT el nl cl fl), (1, Blk.row true [IntKind.i64] et nt ct ft)], next := 3 }) (y2) (y3)) ∧ (K y2 y3)))) else (T0 ∧ ((((-9223372036854775808 : Int) ≤ (↑y0 : Int) + 1) ∧ ((↑y0 : Int) + (1 : Int) ≤ 9223372036854775807)) ∧ (∃ y2 : Nat, ((Go.Rx.Sub 2 [(2, 2)] ⟨54, [(23, vi ((↑y0 : Int) + 1)), (1, rsl 0 0 nl cl), (2, rsl 1 0 nt ct), (3, pt 2 0), (21, rsl 1 0 nt ct), (22, vi (↑nt : Int))]⟩ ⟨[(2, CB a b c d e), (0, rT el nl cl fl), (1, Blk.row true [IntKind.i64] et nt ct ft)], 3⟩ ({ n := 54, m := [(1, rsl 0 0 nl cl), (2, rsl 1 0 nt ct), (3, pt 2 0), (21, rsl 1 0 nt ct), (22, vi (↑nt : Int)), (23, vi (↑y2 : Int))] }) ({ h := [(2, CB a b c d e), (0, rT el nl cl fl), (1, Blk.row true [IntKind.i64] et nt ct ft)], next := 3 })) ∧ (((y2 ≤ nt) ∧ (tr b fl ft (nt - y2) y2 = tr b fl ft nt 0)) ∧ (nt - y2 < nt - y0))))))))))))))))))))))))))))))))))))) else (∃ y1 : Value, (∃ y2 : List Blk, ((Go.Rx.Found 2 (vt [vi 0, vi 0]) ({ h := [(2, CB a b c d e), (0, rT el nl cl fl), (1, Blk.row true [IntKind.i64] et nt ct ft)], next := 3 }) (y1) (y2)) ∧ (K y1 y2)))))))))) else (∃ y0 : Value, (∃ y1 : List Blk, ((Go.Rx.Found 2 (vt [vi (-1 : Int), vi (Prod.snd (ckF a b c d e nl fl))]) ({ h := [(2, CB a b c d e), (0, rT el nl cl fl), (1, Blk.row true [IntKind.i64] et nt ct ft)], next := 3 }) (y0) (y1)) ∧ (K y0 y1)))))))))))))))
set_option maxRecDepth 100000 in
theorem con49_rrE (a b c d e : Int) (el nl cl : Nat) (fl : RF) (et nt ct : Nat) (ft : RF) (K : Value → List Blk → Prop) : con49_rrV a b c d e el nl cl fl et nt ct ft K = bodyX (mk X49) (callN (mk X49) 4) (con49_rrA a b c d e el nl cl fl et nt ct ft) Try.f49 [.agg ⟨[.int .i64 a, .int .i64 b, .int .i64 c, .int .i64 d, .int .i64 e]⟩, rsl 0 0 nl cl, rsl 1 0 nt ct] (stOf [.row true [.i64, .i64] el nl cl fl, .row true [.i64] et nt ct ft]) fun v s' => ∃ v1 news, Rx.Found 2 v s' v1 news ∧ K v1 news := by kernel_rfl
set_option maxRecDepth 100000 in
set_option maxHeartbeats 4000000 in
set_option tactic.hygienic false in
theorem con49_rrP (a b c d e : Int) (el nl cl : Nat) (fl : RF) (et nt ct : Nat) (ft : RF) (K : Value → List Blk → Prop)  (hI : InC a b c d e) (hnl : nl ≤ 100000) (hnt : nt ≤ 100000) (hct : capOk (rsl 1 0 nt ct)) (h : K (.tuple ⟨[.int .i64 (bck a b c d e nl fl nt ft).1, .int .i64 (bck a b c d e nl fl nt ft).2]⟩) []) : con49_rrV a b c d e el nl cl fl et nt ct ft K := by
  unfold con49_rrV
  have hct2 : nt ≤ ct := hct
  have G : (ckF a b c d e nl fl).2 = 0 → good a b c d e ∧ ((nl : Nat) : Int) = b ∧ ∀ i, i < nl → fok a fl i := ckF_zero
  repeat' (first | (with_reducible exact rfl) | (with_reducible exact trivial) | (with_reducible refine And.intro ?_ ?_) | (intro) | (with_reducible refine br_intro (fun hq => ?_) (fun hq => ?_)) | (with_reducible refine if_both (fun hz => ?_) (fun hz => ?_)) | fail)
  all_goals try (rename _ ≤ _ ∧ tr _ _ _ _ _ = _ => I; obtain ⟨I1, I2⟩ := I)
  all_goals try (rename _ ≤ _ ∧ (∀ _, _ → ¬ _ = _) => J; obtain ⟨J1, J2⟩ := J)
  all_goals try (have g := G (by assumption); obtain ⟨g1, g2, g3⟩ := g)
  all_goals try (rename y1 = true ↔ _ => J)
  all_goals try (rename y1 = _ => hb)
  all_goals first
    | omega
    | assumption
    | contradiction
    | exact ⟨0, (by (refine And.intro (And.intro rfl (And.intro rfl (And.intro rfl rfl))) ?_; (repeat' (first | exact trivial | exact rfl | exact fun _ _ _ _ => rfl | refine And.intro ?_ ?_ | omega | fail)); done)), by omega, rfl⟩
    | exact ⟨y0 + 1, (by (refine And.intro (And.intro rfl (And.intro rfl (And.intro rfl rfl))) ?_; (repeat' (first | exact trivial | exact rfl | exact fun _ _ _ _ => rfl | refine And.intro ?_ ?_ | omega | fail)); done)), ⟨by omega, (by
        have q2 := tr_step b fl ft (m := nt) (k := y0) (by omega)
        rw [if_neg (by omega), if_neg (fun e => (by have q := J.2 (selB_iff.1 e); rw [hb] at q; cases q)), if_neg (by assumption)] at q2
        rw [← q2]
        exact I2)⟩, by omega⟩
    | exact fin0 (by kernel_rfl) (by kernel_rfl) (by rw [bck_bad (by assumption)] at h; exact h)
    | exact fin0 (by kernel_rfl) (by kernel_rfl) (by
        rw [bck_go (by assumption)] at h
        first
          | (rw [← I2, show nt - y0 = 0 by omega] at h; exact h)
          | (have q2 := tr_step b fl ft (m := nt) (k := y0) (by omega)
             rw [← I2, q2] at h
             first
               | (rw [if_pos (by omega)] at h; exact h)
               | (rw [if_neg (by omega), if_pos (show selB y0 ft ft y0 = true from selB_iff.2 (J.1 hb))] at h; exact h)
               | (rw [if_neg (by omega), if_neg (fun e => (by have q := J.2 (selB_iff.1 e); rw [hb] at q; cases q)), if_pos (by assumption)] at h; exact h)))
    | (exfalso; simp at hq; omega)
    | (have g := G (by assumption); omega)
theorem con49_ok : BodyOk (mk X49) 4 Try.f49 con49 := by
  intro vs bs K hh hro
  clear hro
  unfold con49 at hh
  split at hh
  · rename_i u vl vt
    obtain ⟨a, b, c, d, e, rfl, hI, hh0⟩ := five_inv hh
    rcases parse_inv hh0 with ⟨rfl, hh1⟩ | ⟨el, nl, cl, fl, btl, rfl, hnl, rfl, hh1⟩ <;> clear hh0
    · rcases parse_inv hh1 with ⟨rfl, hh2⟩ | ⟨et, nt, ct, ft, btt, rfl, hnt, rfl, hh2⟩ <;> clear hh1
      · obtain ⟨rfl, hct, hc⟩ := hh2
        exact ⟨_, _, cast (con49_nnE a b c d e   K) (con49_nnP a b c d e   K hI  hct hc)⟩
      · obtain ⟨rfl, hct, hc⟩ := hh2
        exact ⟨_, _, cast (con49_nrE a b c d e et nt ct ft  K) (con49_nrP a b c d e et nt ct ft  K hI hnt hct hc)⟩
    · rcases parse_inv hh1 with ⟨rfl, hh2⟩ | ⟨et, nt, ct, ft, btt, rfl, hnt, rfl, hh2⟩ <;> clear hh1
      · obtain ⟨rfl, hct, hc⟩ := hh2
        exact ⟨_, _, cast (con49_rnE a b c d e el nl cl fl  K) (con49_rnP a b c d e el nl cl fl  K hI hnl hct hc)⟩
      · obtain ⟨rfl, hct, hc⟩ := hh2
        exact ⟨_, _, cast (con49_rrE a b c d e el nl cl fl et nt ct ft  K) (con49_rrP a b c d e el nl cl fl et nt ct ft  K hI hnl hnt hct hc)⟩
  · exact hh.elim
theorem con49_told : Told 49 (specOf con49) := told (X := X49) X49_told (by kernel_rfl) (by kernel_rfl) (by kernel_rfl) con49_ok
end Go.Proofs.Ytkflmglpniebfaa.Fr
