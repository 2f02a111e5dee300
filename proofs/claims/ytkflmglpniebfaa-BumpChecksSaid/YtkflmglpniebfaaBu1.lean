/-
  Bump: the check, the reference. No project text.
-/
import Derived.Test.YtkflmglpniebfaaFr6
import Derived.Test.YtkflmglpniebfaaFr15
namespace Go.Proofs.Ytkflmglpniebfaa.Fr
open Go.Rx
open Go.RowKit (Below)
set_option linter.unusedVariables false
/-- The first car of a train, from place k on, l of them, that is not as it should be. -/
def tr (b : Int) (f g : RF) : Nat → Nat → Int × Int
  | 0, _ => (0, 0)
  | l + 1, k => if g k 0 < 0 ∨ b ≤ g k 0 then ((k : Int), 7) else if selB k g g k = true then ((k : Int), 8) else if f (g k 0).toNat 0 = 0 then ((k : Int), 9) else tr b f g l (k + 1)
theorem tr_step (b : Int) (f g : RF) {m k : Nat} (h : k < m) : tr b f g (m - k) k = if g k 0 < 0 ∨ b ≤ g k 0 then ((k : Int), 7) else if selB k g g k = true then ((k : Int), 8) else if f (g k 0).toNat 0 = 0 then ((k : Int), 9) else tr b f g (m - (k + 1)) (k + 1) := by
  rw [show m - k = (m - (k + 1)) + 1 by omega]
  rfl
def bck (a b c d e : Int) (n : Nat) (f : RF) (m : Nat) (g : RF) : Int × Int := if (ckF a b c d e n f).2 = 0 then tr b f g m 0 else (-1, (ckF a b c d e n f).2)
theorem bck_bad {a b c d e : Int} {n m : Nat} {f g : RF} (h : ¬ (ckF a b c d e n f).2 = 0) : bck a b c d e n f m g = (-1, (ckF a b c d e n f).2) := if_neg h
theorem bck_go {a b c d e : Int} {n m : Nat} {f g : RF} (h : (ckF a b c d e n f).2 = 0) : bck a b c d e n f m g = tr b f g m 0 := if_pos h
@[reducible] def X50 : List (Nat × Rx.Spec) := [(22, specOf con22)]
theorem X50_told : ∀ p ∈ X50, Told p.1 p.2 := by
  intro p hp
  simp only [List.mem_cons, List.not_mem_nil, or_false] at hp
  rcases hp with rfl
  · exact con22_told
def con50 : Con := fun vs bs K => match vs with
  | [u, vl, vt] => five u fun a b c d e => parse [.i64, .i64] 0 vl bs fun nl fl j0 bs0 => parse [.i64] j0 vt bs0 fun nt ft j1 bs1 => bs1 = [] ∧ (True) ∧ (K (.tuple ⟨[.int .i64 (bck a b c d e nl fl nt ft).1, .int .i64 (bck a b c d e nl fl nt ft).2]⟩) [])
  | _ => False

def con50_nnA (a b c d e : Int) : Ann := fun k tt ss => bif Nat.beq k 5 then some [{ α := Nat, T := fun k => ⟨67, [(1, .slice none 0 0), (2, .slice none 0 0), (10, .int .i64 (k : Int))]⟩, S := fun _ => ⟨[(0, .cells [.int .i64 a, .int .i64 b, .int .i64 c, .int .i64 d, .int .i64 e] 23)], 1⟩, I := fun k => k ≤ 0 ∧ tr b zF zF (0 - k) k = tr b zF zF 0 0, m := fun k => 0 - k, ρ0 := [(0, 0)], ρ1 := [[(0, 0)]] }] else bif Nat.beq k 10 then (match Rx.look tt.m 10 with | some (.int _ z) => some [{ α := Nat, T := fun q => ⟨67, [(1, .slice none 0 0), (2, .slice none 0 0), (10, .int .i64 z), (11, .int .i64 (q : Int))]⟩, S := fun _ => ⟨[(0, .cells [.int .i64 a, .int .i64 b, .int .i64 c, .int .i64 d, .int .i64 e] 23)], 1⟩, I := fun q => (q : Int) ≤ z ∧ ∀ r, r < q → ¬ zF r 0 = zF z.toNat 0, m := fun q => z.toNat - q, ρ0 := [(0, 0)], ρ1 := [[(0, 0)]] }] | _ => none) else none
def con50_nrA (a b c d e : Int) (et nt ct : Nat) (ft : RF) : Ann := fun k tt ss => bif Nat.beq k 5 then some [{ α := Nat, T := fun k => ⟨67, [(1, .slice none 0 0), (2, rsl 0 0 nt ct), (10, .int .i64 (k : Int))]⟩, S := fun _ => ⟨[(1, .cells [.int .i64 a, .int .i64 b, .int .i64 c, .int .i64 d, .int .i64 e] 23), (0, .row true [.i64] et nt ct ft)], 2⟩, I := fun k => k ≤ nt ∧ tr b zF ft (nt - k) k = tr b zF ft nt 0, m := fun k => nt - k, ρ0 := [(1, 1)], ρ1 := [[(1, 1)]] }] else bif Nat.beq k 10 then (match Rx.look tt.m 10 with | some (.int _ z) => some [{ α := Nat, T := fun q => ⟨67, [(1, .slice none 0 0), (2, rsl 0 0 nt ct), (10, .int .i64 z), (11, .int .i64 (q : Int))]⟩, S := fun _ => ⟨[(1, .cells [.int .i64 a, .int .i64 b, .int .i64 c, .int .i64 d, .int .i64 e] 23), (0, .row true [.i64] et nt ct ft)], 2⟩, I := fun q => (q : Int) ≤ z ∧ ∀ r, r < q → ¬ ft r 0 = ft z.toNat 0, m := fun q => z.toNat - q, ρ0 := [(1, 1)], ρ1 := [[(1, 1)]] }] | _ => none) else none
def con50_rnA (a b c d e : Int) (el nl cl : Nat) (fl : RF) : Ann := fun k tt ss => bif Nat.beq k 5 then some [{ α := Nat, T := fun k => ⟨67, [(1, rsl 0 0 nl cl), (2, .slice none 0 0), (10, .int .i64 (k : Int))]⟩, S := fun _ => ⟨[(1, .cells [.int .i64 a, .int .i64 b, .int .i64 c, .int .i64 d, .int .i64 e] 23), (0, .row true [.i64, .i64] el nl cl fl)], 2⟩, I := fun k => k ≤ 0 ∧ tr b fl zF (0 - k) k = tr b fl zF 0 0, m := fun k => 0 - k, ρ0 := [(1, 1)], ρ1 := [[(1, 1)]] }] else bif Nat.beq k 10 then (match Rx.look tt.m 10 with | some (.int _ z) => some [{ α := Nat, T := fun q => ⟨67, [(1, rsl 0 0 nl cl), (2, .slice none 0 0), (10, .int .i64 z), (11, .int .i64 (q : Int))]⟩, S := fun _ => ⟨[(1, .cells [.int .i64 a, .int .i64 b, .int .i64 c, .int .i64 d, .int .i64 e] 23), (0, .row true [.i64, .i64] el nl cl fl)], 2⟩, I := fun q => (q : Int) ≤ z ∧ ∀ r, r < q → ¬ zF r 0 = zF z.toNat 0, m := fun q => z.toNat - q, ρ0 := [(1, 1)], ρ1 := [[(1, 1)]] }] | _ => none) else none
def con50_rrA (a b c d e : Int) (el nl cl : Nat) (fl : RF) (et nt ct : Nat) (ft : RF) : Ann := fun k tt ss => bif Nat.beq k 5 then some [{ α := Nat, T := fun k => ⟨67, [(1, rsl 0 0 nl cl), (2, rsl 1 0 nt ct), (10, .int .i64 (k : Int))]⟩, S := fun _ => ⟨[(2, .cells [.int .i64 a, .int .i64 b, .int .i64 c, .int .i64 d, .int .i64 e] 23), (0, .row true [.i64, .i64] el nl cl fl), (1, .row true [.i64] et nt ct ft)], 3⟩, I := fun k => k ≤ nt ∧ tr b fl ft (nt - k) k = tr b fl ft nt 0, m := fun k => nt - k, ρ0 := [(2, 2)], ρ1 := [[(2, 2)]] }] else bif Nat.beq k 10 then (match Rx.look tt.m 10 with | some (.int _ z) => some [{ α := Nat, T := fun q => ⟨67, [(1, rsl 0 0 nl cl), (2, rsl 1 0 nt ct), (10, .int .i64 z), (11, .int .i64 (q : Int))]⟩, S := fun _ => ⟨[(2, .cells [.int .i64 a, .int .i64 b, .int .i64 c, .int .i64 d, .int .i64 e] 23), (0, .row true [.i64, .i64] el nl cl fl), (1, .row true [.i64] et nt ct ft)], 3⟩, I := fun q => (q : Int) ≤ z ∧ ∀ r, r < q → ¬ ft r 0 = ft z.toNat 0, m := fun q => z.toNat - q, ρ0 := [(2, 2)], ρ1 := [[(2, 2)]] }] | _ => none) else none
set_option maxRecDepth 100000 in
def con50_nnV (a b c d e : Int) (K : Value → List Blk → Prop) : Prop := (T0 ∧ (T0 ∧ (T0 ∧ (T0 ∧ ((InC a b c d e) ∧ (eB ∧ (T0 ∧ (if (@Eq Int (Prod.snd (ckF a b c d e 0 zF)) (0)) then ((∃ y0 : Nat, ((Go.Rx.Sub 0 [(0, 0)] ⟨67, [(10, vi 0), (1, vn), (2, vn)]⟩ ⟨[(0, CB a b c d e)], 1⟩ ({ n := 67, m := [(1, vn), (2, vn), (10, vi (↑y0 : Int))] }) ({ h := [(0, CB a b c d e)], next := 1 })) ∧ ((y0 ≤ 0) ∧ (tr b zF zF (0 - y0) y0 = tr b zF zF 0 0)))) ∧ (∀ y0 : Nat, (((y0 ≤ 0) ∧ (tr b zF zF (0 - y0) y0 = tr b zF zF 0 0)) → (TS ∧ (T0 ∧ (∃ y1 : Value, (∃ y2 : List Blk, ((Go.Rx.Found 0 (vt [vi 0, vi 0]) ({ h := [(0, CB a b c d e)], next := 1 }) (y1) (y2)) ∧ (K y1 y2))))))))) else (∃ y0 : Value, (∃ y1 : List Blk, ((Go.Rx.Found 0 (vt [vi (-1 : Int), vi (Prod.snd (ckF a b c d e 0 zF))]) ({ h := [(0, CB a b c d e)], next := 1 }) (y0) (y1)) ∧ (K y0 y1))))))))))))
set_option maxRecDepth 100000 in
theorem con50_nnE (a b c d e : Int) (K : Value → List Blk → Prop) : con50_nnV a b c d e K = bodyX (mk X50) (callN (mk X50) 4) (con50_nnA a b c d e) Try.f50 [.agg ⟨[.int .i64 a, .int .i64 b, .int .i64 c, .int .i64 d, .int .i64 e]⟩, .slice none 0 0, .slice none 0 0] (stOf []) fun v s' => ∃ v1 news, Rx.Found 0 v s' v1 news ∧ K v1 news := by kernel_rfl
set_option maxRecDepth 100000 in
set_option maxHeartbeats 4000000 in
set_option tactic.hygienic false in
theorem con50_nnP (a b c d e : Int) (K : Value → List Blk → Prop)  (hI : InC a b c d e) (h : K (.tuple ⟨[.int .i64 (bck a b c d e 0 zF 0 zF).1, .int .i64 (bck a b c d e 0 zF 0 zF).2]⟩) []) : con50_nnV a b c d e K := by
  unfold con50_nnV
  have G : (ckF a b c d e 0 zF).2 = 0 → good a b c d e ∧ ((0 : Nat) : Int) = b ∧ ∀ i, i < 0 → fok a zF i := ckF_zero
  repeat' (first | (with_reducible exact rfl) | (with_reducible exact trivial) | (with_reducible refine And.intro ?_ ?_) | (intro) | (with_reducible refine br_intro (fun hq => ?_) (fun hq => ?_)) | (with_reducible refine if_both (fun hz => ?_) (fun hz => ?_)) | fail)
  all_goals try (rename _ ≤ _ ∧ tr _ _ _ _ _ = _ => I; obtain ⟨I1, I2⟩ := I)
  all_goals try (rename _ ≤ _ ∧ (∀ _, _ → ¬ _ = _) => J; obtain ⟨J1, J2⟩ := J)
  all_goals try (have g := G (by assumption); obtain ⟨g1, g2, g3⟩ := g)
  all_goals first
    | omega
    | assumption
    | contradiction
    | exact ⟨0, (by (refine And.intro (And.intro rfl (And.intro rfl (And.intro rfl rfl))) ?_; (repeat' (first | exact trivial | exact rfl | exact fun _ _ _ _ => rfl | refine And.intro ?_ ?_ | omega | fail)); done)), by omega, rfl⟩
    | exact ⟨0, (by (refine And.intro (And.intro rfl (And.intro rfl (And.intro rfl rfl))) ?_; (repeat' (first | exact trivial | exact rfl | exact fun _ _ _ _ => rfl | refine And.intro ?_ ?_ | omega | fail)); done)), by omega, fun r hr => absurd hr (by omega)⟩
    | exact ⟨y1 + 1, (by (refine And.intro (And.intro rfl (And.intro rfl (And.intro rfl rfl))) ?_; (repeat' (first | exact trivial | exact rfl | exact fun _ _ _ _ => rfl | refine And.intro ?_ ?_ | omega | fail)); done)), ⟨by omega, fun r hr => (by
        rcases Nat.lt_or_ge r y1 with q | q
        · exact J2 r q
        · obtain rfl : r = y1 := by omega
          assumption)⟩, by omega⟩
    | exact ⟨y0 + 1, (by (refine And.intro (And.intro rfl (And.intro rfl (And.intro rfl rfl))) ?_; (repeat' (first | exact trivial | exact rfl | exact fun _ _ _ _ => rfl | refine And.intro ?_ ?_ | omega | fail)); done)), ⟨by omega, (by
        have q2 := tr_step b zF zF (m := 0) (k := y0) (by omega)
        rw [if_neg (by omega), if_neg (fun e => (by obtain ⟨r, h1, h2⟩ := selB_iff.1 e; exact J2 r (by omega) h2)), if_neg (by assumption)] at q2
        rw [← q2]
        exact I2)⟩, by omega⟩
    | exact fin0 (by kernel_rfl) (by kernel_rfl) (by rw [bck_bad (by assumption)] at h; exact h)
    | exact fin0 (by kernel_rfl) (by kernel_rfl) (by
        rw [bck_go (by assumption)] at h
        first
          | (rw [← I2, show 0 - y0 = 0 by omega] at h; exact h)
          | (have q2 := tr_step b zF zF (m := 0) (k := y0) (by omega)
             rw [← I2, q2] at h
             first
               | (rw [if_pos (by omega)] at h; exact h)
               | (rw [if_neg (by omega), if_pos (selB_iff.2 ⟨y1, by omega, by assumption⟩)] at h; exact h)
               | (rw [if_neg (by omega), if_neg (fun e => (by obtain ⟨r, h1, h2⟩ := selB_iff.1 e; exact J2 r (by omega) h2)), if_pos (by assumption)] at h; exact h)))
    | (have g := G (by assumption); omega)
set_option maxRecDepth 100000 in
def con50_nrV (a b c d e : Int) (et nt ct : Nat) (ft : RF) (K : Value → List Blk → Prop) : Prop := (T0 ∧ (T0 ∧ (T0 ∧ (T0 ∧ ((InC a b c d e) ∧ (eB ∧ (T0 ∧ (if (@Eq Int (Prod.snd (ckF a b c d e 0 zF)) (0)) then ((∃ y0 : Nat, ((Go.Rx.Sub 1 [(1, 1)] ⟨67, [(10, vi 0), (1, vn), (2, rsl 0 0 nt ct)]⟩ ⟨[(1, CB a b c d e), (0, Blk.row true [IntKind.i64] et nt ct ft)], 2⟩ ({ n := 67, m := [(1, vn), (2, rsl 0 0 nt ct), (10, vi (↑y0 : Int))] }) ({ h := [(1, CB a b c d e), (0, Blk.row true [IntKind.i64] et nt ct ft)], next := 2 })) ∧ ((y0 ≤ nt) ∧ (tr b zF ft (nt - y0) y0 = tr b zF ft nt 0)))) ∧ (∀ y0 : Nat, (((y0 ≤ nt) ∧ (tr b zF ft (nt - y0) y0 = tr b zF ft nt 0)) → (TS ∧ (T0 ∧ (if ((↑y0 : Int) < (↑nt : Int)) then ((TS ∧ (eN 1)) ∧ (((0 ≤ (↑y0 : Int)) ∧ ((↑y0 : Int) < (↑nt : Int))) ∧ ((y0 < nt) ∧ (T0 ∧ (if (ft y0 0 < 0) then (∃ y1 : Value, (∃ y2 : List Blk, ((Go.Rx.Found 1 (vt [vi (↑y0 : Int), vi 7]) ({ h := [(1, CB a b c d e), (0, Blk.row true [IntKind.i64] et nt ct ft)], next := 2 }) (y1) (y2)) ∧ (K y1 y2)))) else ((TS ∧ (eN 1)) ∧ (((0 ≤ (↑y0 : Int)) ∧ ((↑y0 : Int) < (↑nt : Int))) ∧ ((y0 < nt) ∧ (TS ∧ (T0 ∧ (if ((↑0 : Int) ≤ ft y0 0) then (∃ y1 : Value, (∃ y2 : List Blk, ((Go.Rx.Found 1 (vt [vi (↑y0 : Int), vi 7]) ({ h := [(1, CB a b c d e), (0, Blk.row true [IntKind.i64] et nt ct ft)], next := 2 }) (y1) (y2)) ∧ (K y1 y2)))) else ((∃ y1 : Nat, ((Go.Rx.Sub 1 [(1, 1)] ⟨67, [(11, vi 0), (1, vn), (2, rsl 0 0 nt ct), (10, vi (↑y0 : Int))]⟩ ⟨[(1, CB a b c d e), (0, Blk.row true [IntKind.i64] et nt ct ft)], 2⟩ ({ n := 67, m := [(1, vn), (2, rsl 0 0 nt ct), (10, vi (↑y0 : Int)), (11, vi (↑y1 : Int))] }) ({ h := [(1, CB a b c d e), (0, Blk.row true [IntKind.i64] et nt ct ft)], next := 2 })) ∧ (((↑y1 : Int) ≤ (↑y0 : Int)) ∧ (∀ y2 : Nat, ((y2 < y1) → (¬ft y2 0 = ft y0 0)))))) ∧ (∀ y1 : Nat, ((((↑y1 : Int) ≤ (↑y0 : Int)) ∧ (∀ y2 : Nat, ((y2 < y1) → (¬ft y2 0 = ft y0 0)))) → (T0 ∧ (if ((↑y1 : Int) < (↑y0 : Int)) then (T0 ∧ (T0 ∧ (T0 ∧ (T0 ∧ ((TS ∧ (eN 1)) ∧ (((0 ≤ (↑y1 : Int)) ∧ ((↑y1 : Int) < (↑nt : Int))) ∧ (T0 ∧ ((y1 < nt) ∧ (T0 ∧ (T0 ∧ (T0 ∧ ((TS ∧ (eN 1)) ∧ (((0 ≤ (↑y0 : Int)) ∧ ((↑y0 : Int) < (↑nt : Int))) ∧ (T0 ∧ ((y0 < nt) ∧ (T0 ∧ (T0 ∧ (if (@Eq Int (ft y1 0) (ft y0 0)) then (∃ y2 : Value, (∃ y3 : List Blk, ((Go.Rx.Found 1 (vt [vi (↑y0 : Int), vi 8]) ({ h := [(1, CB a b c d e), (0, Blk.row true [IntKind.i64] et nt ct ft)], next := 2 }) (y2) (y3)) ∧ (K y2 y3)))) else (T0 ∧ ((((-9223372036854775808 : Int) ≤ (↑y1 : Int) + 1) ∧ ((↑y1 : Int) + (1 : Int) ≤ 9223372036854775807)) ∧ (∃ y2 : Nat, ((Go.Rx.Sub 1 [(1, 1)] ⟨67, [(11, vi ((↑y1 : Int) + 1)), (1, vn), (2, rsl 0 0 nt ct), (10, vi (↑y0 : Int))]⟩ ⟨[(1, CB a b c d e), (0, Blk.row true [IntKind.i64] et nt ct ft)], 2⟩ ({ n := 67, m := [(1, vn), (2, rsl 0 0 nt ct), (10, vi (↑y0 : Int)), (11, vi (↑y2 : Int))] }) ({ h := [(1, CB a b c d e), (0, Blk.row true [IntKind.i64] et nt ct ft)], next := 2 })) ∧ ((((↑y2 : Int) ≤ (↑y0 : Int)) ∧ (∀ y3 : Nat, ((y3 < y2) → (¬ft y3 0 = ft y0 0)))) ∧ (y0 - y2 < y0 - y1)))))))))))))))))))))))) else ((TS ∧ (eN 1)) ∧ (((0 ≤ (↑y0 : Int)) ∧ ((↑y0 : Int) < (↑nt : Int))) ∧ ((y0 < nt) ∧ (False)))))))))))))))))))) else (∃ y1 : Value, (∃ y2 : List Blk, ((Go.Rx.Found 1 (vt [vi 0, vi 0]) ({ h := [(1, CB a b c d e), (0, Blk.row true [IntKind.i64] et nt ct ft)], next := 2 }) (y1) (y2)) ∧ (K y1 y2)))))))))) else (∃ y0 : Value, (∃ y1 : List Blk, ((Go.Rx.Found 1 (vt [vi (-1 : Int), vi (Prod.snd (ckF a b c d e 0 zF))]) ({ h := [(1, CB a b c d e), (0, Blk.row true [IntKind.i64] et nt ct ft)], next := 2 }) (y0) (y1)) ∧ (K y0 y1))))))))))))
set_option maxRecDepth 100000 in
theorem con50_nrE (a b c d e : Int) (et nt ct : Nat) (ft : RF) (K : Value → List Blk → Prop) : con50_nrV a b c d e et nt ct ft K = bodyX (mk X50) (callN (mk X50) 4) (con50_nrA a b c d e et nt ct ft) Try.f50 [.agg ⟨[.int .i64 a, .int .i64 b, .int .i64 c, .int .i64 d, .int .i64 e]⟩, .slice none 0 0, rsl 0 0 nt ct] (stOf [.row true [.i64] et nt ct ft]) fun v s' => ∃ v1 news, Rx.Found 1 v s' v1 news ∧ K v1 news := by kernel_rfl
set_option maxRecDepth 100000 in
set_option maxHeartbeats 4000000 in
set_option tactic.hygienic false in
theorem con50_nrP (a b c d e : Int) (et nt ct : Nat) (ft : RF) (K : Value → List Blk → Prop)  (hI : InC a b c d e) (hnt : nt ≤ 100000) (h : K (.tuple ⟨[.int .i64 (bck a b c d e 0 zF nt ft).1, .int .i64 (bck a b c d e 0 zF nt ft).2]⟩) []) : con50_nrV a b c d e et nt ct ft K := by
  unfold con50_nrV
  have G : (ckF a b c d e 0 zF).2 = 0 → good a b c d e ∧ ((0 : Nat) : Int) = b ∧ ∀ i, i < 0 → fok a zF i := ckF_zero
  repeat' (first | (with_reducible exact rfl) | (with_reducible exact trivial) | (with_reducible refine And.intro ?_ ?_) | (intro) | (with_reducible refine br_intro (fun hq => ?_) (fun hq => ?_)) | (with_reducible refine if_both (fun hz => ?_) (fun hz => ?_)) | fail)
  all_goals try (rename _ ≤ _ ∧ tr _ _ _ _ _ = _ => I; obtain ⟨I1, I2⟩ := I)
  all_goals try (rename _ ≤ _ ∧ (∀ _, _ → ¬ _ = _) => J; obtain ⟨J1, J2⟩ := J)
  all_goals try (have g := G (by assumption); obtain ⟨g1, g2, g3⟩ := g)
  all_goals first
    | omega
    | assumption
    | contradiction
    | exact ⟨0, (by (refine And.intro (And.intro rfl (And.intro rfl (And.intro rfl rfl))) ?_; (repeat' (first | exact trivial | exact rfl | exact fun _ _ _ _ => rfl | refine And.intro ?_ ?_ | omega | fail)); done)), by omega, rfl⟩
    | exact ⟨0, (by (refine And.intro (And.intro rfl (And.intro rfl (And.intro rfl rfl))) ?_; (repeat' (first | exact trivial | exact rfl | exact fun _ _ _ _ => rfl | refine And.intro ?_ ?_ | omega | fail)); done)), by omega, fun r hr => absurd hr (by omega)⟩
    | exact ⟨y1 + 1, (by (refine And.intro (And.intro rfl (And.intro rfl (And.intro rfl rfl))) ?_; (repeat' (first | exact trivial | exact rfl | exact fun _ _ _ _ => rfl | refine And.intro ?_ ?_ | omega | fail)); done)), ⟨by omega, fun r hr => (by
        rcases Nat.lt_or_ge r y1 with q | q
        · exact J2 r q
        · obtain rfl : r = y1 := by omega
          assumption)⟩, by omega⟩
    | exact ⟨y0 + 1, (by (refine And.intro (And.intro rfl (And.intro rfl (And.intro rfl rfl))) ?_; (repeat' (first | exact trivial | exact rfl | exact fun _ _ _ _ => rfl | refine And.intro ?_ ?_ | omega | fail)); done)), ⟨by omega, (by
        have q2 := tr_step b zF ft (m := nt) (k := y0) (by omega)
        rw [if_neg (by omega), if_neg (fun e => (by obtain ⟨r, h1, h2⟩ := selB_iff.1 e; exact J2 r (by omega) h2)), if_neg (by assumption)] at q2
        rw [← q2]
        exact I2)⟩, by omega⟩
    | exact fin0 (by kernel_rfl) (by kernel_rfl) (by rw [bck_bad (by assumption)] at h; exact h)
    | exact fin0 (by kernel_rfl) (by kernel_rfl) (by
        rw [bck_go (by assumption)] at h
        first
          | (rw [← I2, show nt - y0 = 0 by omega] at h; exact h)
          | (have q2 := tr_step b zF ft (m := nt) (k := y0) (by omega)
             rw [← I2, q2] at h
             first
               | (rw [if_pos (by omega)] at h; exact h)
               | (rw [if_neg (by omega), if_pos (selB_iff.2 ⟨y1, by omega, by assumption⟩)] at h; exact h)
               | (rw [if_neg (by omega), if_neg (fun e => (by obtain ⟨r, h1, h2⟩ := selB_iff.1 e; exact J2 r (by omega) h2)), if_pos (by assumption)] at h; exact h)))
    | (have g := G (by assumption); omega)
set_option maxRecDepth 100000 in
def con50_rnV (a b c d e : Int) (el nl cl : Nat) (fl : RF) (K : Value → List Blk → Prop) : Prop := (T0 ∧ (T0 ∧ (T0 ∧ ((0 + nl ≤ nl) ∧ ((InC a b c d e) ∧ ((eN 0) ∧ ((nl ≤ 100000) ∧ ((eK ∧ ((eN nl) ∧ (eN cl))) ∧ (eB ∧ (T0 ∧ (if (@Eq Int (Prod.snd (ckF a b c d e nl fl)) (0)) then ((∃ y0 : Nat, ((Go.Rx.Sub 1 [(1, 1)] ⟨67, [(10, vi 0), (1, rsl 0 0 nl cl), (2, vn)]⟩ ⟨[(1, CB a b c d e), (0, rT el nl cl fl)], 2⟩ ({ n := 67, m := [(1, rsl 0 0 nl cl), (2, vn), (10, vi (↑y0 : Int))] }) ({ h := [(1, CB a b c d e), (0, rT el nl cl fl)], next := 2 })) ∧ ((y0 ≤ 0) ∧ (tr b fl zF (0 - y0) y0 = tr b fl zF 0 0)))) ∧ (∀ y0 : Nat, (((y0 ≤ 0) ∧ (tr b fl zF (0 - y0) y0 = tr b fl zF 0 0)) → (TS ∧ (T0 ∧ (∃ y1 : Value, (∃ y2 : List Blk, ((Go.Rx.Found 1 (vt [vi 0, vi 0]) ({ h := [(1, CB a b c d e), (0, rT el nl cl fl)], next := 2 }) (y1) (y2)) ∧ (K y1 y2))))))))) else (∃ y0 : Value, (∃ y1 : List Blk, ((Go.Rx.Found 1 (vt [vi (-1 : Int), vi (Prod.snd (ckF a b c d e nl fl))]) ({ h := [(1, CB a b c d e), (0, rT el nl cl fl)], next := 2 }) (y0) (y1)) ∧ (K y0 y1)))))))))))))))
set_option maxRecDepth 100000 in
theorem con50_rnE (a b c d e : Int) (el nl cl : Nat) (fl : RF) (K : Value → List Blk → Prop) : con50_rnV a b c d e el nl cl fl K = bodyX (mk X50) (callN (mk X50) 4) (con50_rnA a b c d e el nl cl fl) Try.f50 [.agg ⟨[.int .i64 a, .int .i64 b, .int .i64 c, .int .i64 d, .int .i64 e]⟩, rsl 0 0 nl cl, .slice none 0 0] (stOf [.row true [.i64, .i64] el nl cl fl]) fun v s' => ∃ v1 news, Rx.Found 1 v s' v1 news ∧ K v1 news := by kernel_rfl
set_option maxRecDepth 100000 in
set_option maxHeartbeats 4000000 in
set_option tactic.hygienic false in
theorem con50_rnP (a b c d e : Int) (el nl cl : Nat) (fl : RF) (K : Value → List Blk → Prop)  (hI : InC a b c d e) (hnl : nl ≤ 100000) (h : K (.tuple ⟨[.int .i64 (bck a b c d e nl fl 0 zF).1, .int .i64 (bck a b c d e nl fl 0 zF).2]⟩) []) : con50_rnV a b c d e el nl cl fl K := by
  unfold con50_rnV
  have G : (ckF a b c d e nl fl).2 = 0 → good a b c d e ∧ ((nl : Nat) : Int) = b ∧ ∀ i, i < nl → fok a fl i := ckF_zero
  repeat' (first | (with_reducible exact rfl) | (with_reducible exact trivial) | (with_reducible refine And.intro ?_ ?_) | (intro) | (with_reducible refine br_intro (fun hq => ?_) (fun hq => ?_)) | (with_reducible refine if_both (fun hz => ?_) (fun hz => ?_)) | fail)
  all_goals try (rename _ ≤ _ ∧ tr _ _ _ _ _ = _ => I; obtain ⟨I1, I2⟩ := I)
  all_goals try (rename _ ≤ _ ∧ (∀ _, _ → ¬ _ = _) => J; obtain ⟨J1, J2⟩ := J)
  all_goals try (have g := G (by assumption); obtain ⟨g1, g2, g3⟩ := g)
  all_goals first
    | omega
    | assumption
    | contradiction
    | exact ⟨0, (by (refine And.intro (And.intro rfl (And.intro rfl (And.intro rfl rfl))) ?_; (repeat' (first | exact trivial | exact rfl | exact fun _ _ _ _ => rfl | refine And.intro ?_ ?_ | omega | fail)); done)), by omega, rfl⟩
    | exact ⟨0, (by (refine And.intro (And.intro rfl (And.intro rfl (And.intro rfl rfl))) ?_; (repeat' (first | exact trivial | exact rfl | exact fun _ _ _ _ => rfl | refine And.intro ?_ ?_ | omega | fail)); done)), by omega, fun r hr => absurd hr (by omega)⟩
    | exact ⟨y1 + 1, (by (refine And.intro (And.intro rfl (And.intro rfl (And.intro rfl rfl))) ?_; (repeat' (first | exact trivial | exact rfl | exact fun _ _ _ _ => rfl | refine And.intro ?_ ?_ | omega | fail)); done)), ⟨by omega, fun r hr => (by
        rcases Nat.lt_or_ge r y1 with q | q
        · exact J2 r q
        · obtain rfl : r = y1 := by omega
          assumption)⟩, by omega⟩
    | exact ⟨y0 + 1, (by (refine And.intro (And.intro rfl (And.intro rfl (And.intro rfl rfl))) ?_; (repeat' (first | exact trivial | exact rfl | exact fun _ _ _ _ => rfl | refine And.intro ?_ ?_ | omega | fail)); done)), ⟨by omega, (by
        have q2 := tr_step b fl zF (m := 0) (k := y0) (by omega)
        rw [if_neg (by omega), if_neg (fun e => (by obtain ⟨r, h1, h2⟩ := selB_iff.1 e; exact J2 r (by omega) h2)), if_neg (by assumption)] at q2
        rw [← q2]
        exact I2)⟩, by omega⟩
    | exact fin0 (by kernel_rfl) (by kernel_rfl) (by rw [bck_bad (by assumption)] at h; exact h)
    | exact fin0 (by kernel_rfl) (by kernel_rfl) (by
        rw [bck_go (by assumption)] at h
        first
          | (rw [← I2, show 0 - y0 = 0 by omega] at h; exact h)
          | (have q2 := tr_step b fl zF (m := 0) (k := y0) (by omega)
             rw [← I2, q2] at h
             first
               | (rw [if_pos (by omega)] at h; exact h)
               | (rw [if_neg (by omega), if_pos (selB_iff.2 ⟨y1, by omega, by assumption⟩)] at h; exact h)
               | (rw [if_neg (by omega), if_neg (fun e => (by obtain ⟨r, h1, h2⟩ := selB_iff.1 e; exact J2 r (by omega) h2)), if_pos (by assumption)] at h; exact h)))
    | (have g := G (by assumption); omega)
set_option maxRecDepth 100000 in
def con50_rrV (a b c d e : Int) (el nl cl : Nat) (fl : RF) (et nt ct : Nat) (ft : RF) (K : Value → List Blk → Prop) : Prop := (T0 ∧ (T0 ∧ (T0 ∧ ((0 + nl ≤ nl) ∧ ((InC a b c d e) ∧ ((eN 0) ∧ ((nl ≤ 100000) ∧ ((eK ∧ ((eN nl) ∧ (eN cl))) ∧ (eB ∧ (T0 ∧ (if (@Eq Int (Prod.snd (ckF a b c d e nl fl)) (0)) then ((∃ y0 : Nat, ((Go.Rx.Sub 2 [(2, 2)] ⟨67, [(10, vi 0), (1, rsl 0 0 nl cl), (2, rsl 1 0 nt ct)]⟩ ⟨[(2, CB a b c d e), (0, rT el nl cl fl), (1, Blk.row true [IntKind.i64] et nt ct ft)], 3⟩ ({ n := 67, m := [(1, rsl 0 0 nl cl), (2, rsl 1 0 nt ct), (10, vi (↑y0 : Int))] }) ({ h := [(2, CB a b c d e), (0, rT el nl cl fl), (1, Blk.row true [IntKind.i64] et nt ct ft)], next := 3 })) ∧ ((y0 ≤ nt) ∧ (tr b fl ft (nt - y0) y0 = tr b fl ft nt 0)))) ∧ (∀ y0 : Nat, (((y0 ≤ nt) ∧ (tr b fl ft (nt - y0) y0 = tr b fl ft nt 0)) → (TS ∧ (T0 ∧ (if ((↑y0 : Int) < (↑nt : Int)) then ((TS ∧ (eN 1)) ∧ (((0 ≤ (↑y0 : Int)) ∧ ((↑y0 : Int) < (↑nt : Int))) ∧ ((y0 < nt) ∧ (T0 ∧ (if (ft y0 0 < 0) then (∃ y1 : Value, (∃ y2 : List Blk, ((Go.Rx.Found 2 (vt [vi (↑y0 : Int), vi 7]) ({ h := [(2, CB a b c d e), (0, rT el nl cl fl), (1, Blk.row true [IntKind.i64] et nt ct ft)], next := 3 }) (y1) (y2)) ∧ (K y1 y2)))) else ((TS ∧ (eN 1)) ∧ (((0 ≤ (↑y0 : Int)) ∧ ((↑y0 : Int) < (↑nt : Int))) ∧ ((y0 < nt) ∧ (TS ∧ (T0 ∧ (if ((↑nl : Int) ≤ ft y0 0) then (∃ y1 : Value, (∃ y2 : List Blk, ((Go.Rx.Found 2 (vt [vi (↑y0 : Int), vi 7]) ({ h := [(2, CB a b c d e), (0, rT el nl cl fl), (1, Blk.row true [IntKind.i64] et nt ct ft)], next := 3 }) (y1) (y2)) ∧ (K y1 y2)))) else ((∃ y1 : Nat, ((Go.Rx.Sub 2 [(2, 2)] ⟨67, [(11, vi 0), (1, rsl 0 0 nl cl), (2, rsl 1 0 nt ct), (10, vi (↑y0 : Int))]⟩ ⟨[(2, CB a b c d e), (0, rT el nl cl fl), (1, Blk.row true [IntKind.i64] et nt ct ft)], 3⟩ ({ n := 67, m := [(1, rsl 0 0 nl cl), (2, rsl 1 0 nt ct), (10, vi (↑y0 : Int)), (11, vi (↑y1 : Int))] }) ({ h := [(2, CB a b c d e), (0, rT el nl cl fl), (1, Blk.row true [IntKind.i64] et nt ct ft)], next := 3 })) ∧ (((↑y1 : Int) ≤ (↑y0 : Int)) ∧ (∀ y2 : Nat, ((y2 < y1) → (¬ft y2 0 = ft y0 0)))))) ∧ (∀ y1 : Nat, ((((↑y1 : Int) ≤ (↑y0 : Int)) ∧ (∀ y2 : Nat, ((y2 < y1) → (¬ft y2 0 = ft y0 0)))) → (T0 ∧ (if ((↑y1 : Int) < (↑y0 : Int)) then (T0 ∧ (T0 ∧ (T0 ∧ (T0 ∧ ((TS ∧ (eN 1)) ∧ (((0 ≤ (↑y1 : Int)) ∧ ((↑y1 : Int) < (↑nt : Int))) ∧ (T0 ∧ ((y1 < nt) ∧ (T0 ∧ (T0 ∧ (T0 ∧ ((TS ∧ (eN 1)) ∧ (((0 ≤ (↑y0 : Int)) ∧ ((↑y0 : Int) < (↑nt : Int))) ∧ (T0 ∧ ((y0 < nt) ∧ (T0 ∧ (T0 ∧ (if (@Eq Int (ft y1 0) (ft y0 0)) then (∃ y2 : Value, (∃ y3 : List Blk, ((Go.Rx.Found 2 (vt [vi (↑y0 : Int), vi 8]) ({ h := [(2, CB a b c d e), (0, rT el nl cl fl), (1, Blk.row true [IntKind.i64] et nt ct ft)], next := 3 }) (y2) (y3)) ∧ (K y2 y3)))) else (T0 ∧ ((((-9223372036854775808 : Int) ≤ (↑y1 : Int) + 1) ∧ ((↑y1 : Int) + (1 : Int) ≤ 9223372036854775807)) ∧ (∃ y2 : Nat, ((Go.Rx.Sub 2 [(2, 2)] ⟨67, [(11, vi ((↑y1 : Int) + 1)), (1, rsl 0 0 nl cl), (2, rsl 1 0 nt ct), (10, vi (↑y0 : Int))]⟩ ⟨[(2, CB a b c d e), (0, rT el nl cl fl), (1, Blk.row true [IntKind.i64] et nt ct ft)], 3⟩ ({ n := 67, m := [(1, rsl 0 0 nl cl), (2, rsl 1 0 nt ct), (10, vi (↑y0 : Int)), (11, vi (↑y2 : Int))] }) ({ h := [(2, CB a b c d e), (0, rT el nl cl fl), (1, Blk.row true [IntKind.i64] et nt ct ft)], next := 3 })) ∧ ((((↑y2 : Int) ≤ (↑y0 : Int)) ∧ (∀ y3 : Nat, ((y3 < y2) → (¬ft y3 0 = ft y0 0)))) ∧ (y0 - y2 < y0 - y1)))))))))))))))))))))))) else ((TS ∧ (eN 1)) ∧ (((0 ≤ (↑y0 : Int)) ∧ ((↑y0 : Int) < (↑nt : Int))) ∧ ((y0 < nt) ∧ ((TS ∧ (eN 2)) ∧ (((0 ≤ ft y0 0) ∧ (ft y0 0 < (↑nl : Int))) ∧ (T0 ∧ ((Int.toNat (ft y0 0) < nl) ∧ (T0 ∧ (if (@Eq Int (fl (Int.toNat (ft y0 0)) 0) (0)) then (∃ y2 : Value, (∃ y3 : List Blk, ((Go.Rx.Found 2 (vt [vi (↑y0 : Int), vi 9]) ({ h := [(2, CB a b c d e), (0, rT el nl cl fl), (1, Blk.row true [IntKind.i64] et nt ct ft)], next := 3 }) (y2) (y3)) ∧ (K y2 y3)))) else (T0 ∧ ((((-9223372036854775808 : Int) ≤ (↑y0 : Int) + 1) ∧ ((↑y0 : Int) + (1 : Int) ≤ 9223372036854775807)) ∧ (∃ y2 : Nat, ((Go.Rx.Sub 2 [(2, 2)] ⟨67, [(10, vi ((↑y0 : Int) + 1)), (1, rsl 0 0 nl cl), (2, rsl 1 0 nt ct)]⟩ ⟨[(2, CB a b c d e), (0, rT el nl cl fl), (1, Blk.row true [IntKind.i64] et nt ct ft)], 3⟩ ({ n := 67, m := [(1, rsl 0 0 nl cl), (2, rsl 1 0 nt ct), (10, vi (↑y2 : Int))] }) ({ h := [(2, CB a b c d e), (0, rT el nl cl fl), (1, Blk.row true [IntKind.i64] et nt ct ft)], next := 3 })) ∧ (((y2 ≤ nt) ∧ (tr b fl ft (nt - y2) y2 = tr b fl ft nt 0)) ∧ (nt - y2 < nt - y0))))))))))))))))))))))))))))))) else (∃ y1 : Value, (∃ y2 : List Blk, ((Go.Rx.Found 2 (vt [vi 0, vi 0]) ({ h := [(2, CB a b c d e), (0, rT el nl cl fl), (1, Blk.row true [IntKind.i64] et nt ct ft)], next := 3 }) (y1) (y2)) ∧ (K y1 y2)))))))))) else (∃ y0 : Value, (∃ y1 : List Blk, ((Go.Rx.Found 2 (vt [vi (-1 : Int), vi (Prod.snd (ckF a b c d e nl fl))]) ({ h := [(2, CB a b c d e), (0, rT el nl cl fl), (1, Blk.row true [IntKind.i64] et nt ct ft)], next := 3 }) (y0) (y1)) ∧ (K y0 y1)))))))))))))))
set_option maxRecDepth 100000 in
theorem con50_rrE (a b c d e : Int) (el nl cl : Nat) (fl : RF) (et nt ct : Nat) (ft : RF) (K : Value → List Blk → Prop) : con50_rrV a b c d e el nl cl fl et nt ct ft K = bodyX (mk X50) (callN (mk X50) 4) (con50_rrA a b c d e el nl cl fl et nt ct ft) Try.f50 [.agg ⟨[.int .i64 a, .int .i64 b, .int .i64 c, .int .i64 d, .int .i64 e]⟩, rsl 0 0 nl cl, rsl 1 0 nt ct] (stOf [.row true [.i64, .i64] el nl cl fl, .row true [.i64] et nt ct ft]) fun v s' => ∃ v1 news, Rx.Found 2 v s' v1 news ∧ K v1 news := by kernel_rfl
set_option maxRecDepth 100000 in
set_option maxHeartbeats 4000000 in
set_option tactic.hygienic false in
theorem con50_rrP (a b c d e : Int) (el nl cl : Nat) (fl : RF) (et nt ct : Nat) (ft : RF) (K : Value → List Blk → Prop)  (hI : InC a b c d e) (hnl : nl ≤ 100000) (hnt : nt ≤ 100000) (h : K (.tuple ⟨[.int .i64 (bck a b c d e nl fl nt ft).1, .int .i64 (bck a b c d e nl fl nt ft).2]⟩) []) : con50_rrV a b c d e el nl cl fl et nt ct ft K := by
  unfold con50_rrV
  have G : (ckF a b c d e nl fl).2 = 0 → good a b c d e ∧ ((nl : Nat) : Int) = b ∧ ∀ i, i < nl → fok a fl i := ckF_zero
  repeat' (first | (with_reducible exact rfl) | (with_reducible exact trivial) | (with_reducible refine And.intro ?_ ?_) | (intro) | (with_reducible refine br_intro (fun hq => ?_) (fun hq => ?_)) | (with_reducible refine if_both (fun hz => ?_) (fun hz => ?_)) | fail)
  all_goals try (rename _ ≤ _ ∧ tr _ _ _ _ _ = _ => I; obtain ⟨I1, I2⟩ := I)
  all_goals try (rename _ ≤ _ ∧ (∀ _, _ → ¬ _ = _) => J; obtain ⟨J1, J2⟩ := J)
  all_goals try (have g := G (by assumption); obtain ⟨g1, g2, g3⟩ := g)
  all_goals first
    | omega
    | assumption
    | contradiction
    | exact ⟨0, (by (refine And.intro (And.intro rfl (And.intro rfl (And.intro rfl rfl))) ?_; (repeat' (first | exact trivial | exact rfl | exact fun _ _ _ _ => rfl | refine And.intro ?_ ?_ | omega | fail)); done)), by omega, rfl⟩
    | exact ⟨0, (by (refine And.intro (And.intro rfl (And.intro rfl (And.intro rfl rfl))) ?_; (repeat' (first | exact trivial | exact rfl | exact fun _ _ _ _ => rfl | refine And.intro ?_ ?_ | omega | fail)); done)), by omega, fun r hr => absurd hr (by omega)⟩
    | exact ⟨y1 + 1, (by (refine And.intro (And.intro rfl (And.intro rfl (And.intro rfl rfl))) ?_; (repeat' (first | exact trivial | exact rfl | exact fun _ _ _ _ => rfl | refine And.intro ?_ ?_ | omega | fail)); done)), ⟨by omega, fun r hr => (by
        rcases Nat.lt_or_ge r y1 with q | q
        · exact J2 r q
        · obtain rfl : r = y1 := by omega
          assumption)⟩, by omega⟩
    | exact ⟨y0 + 1, (by (refine And.intro (And.intro rfl (And.intro rfl (And.intro rfl rfl))) ?_; (repeat' (first | exact trivial | exact rfl | exact fun _ _ _ _ => rfl | refine And.intro ?_ ?_ | omega | fail)); done)), ⟨by omega, (by
        have q2 := tr_step b fl ft (m := nt) (k := y0) (by omega)
        rw [if_neg (by omega), if_neg (fun e => (by obtain ⟨r, h1, h2⟩ := selB_iff.1 e; exact J2 r (by omega) h2)), if_neg (by assumption)] at q2
        rw [← q2]
        exact I2)⟩, by omega⟩
    | exact fin0 (by kernel_rfl) (by kernel_rfl) (by rw [bck_bad (by assumption)] at h; exact h)
    | exact fin0 (by kernel_rfl) (by kernel_rfl) (by
        rw [bck_go (by assumption)] at h
        first
          | (rw [← I2, show nt - y0 = 0 by omega] at h; exact h)
          | (have q2 := tr_step b fl ft (m := nt) (k := y0) (by omega)
             rw [← I2, q2] at h
             first
               | (rw [if_pos (by omega)] at h; exact h)
               | (rw [if_neg (by omega), if_pos (selB_iff.2 ⟨y1, by omega, by assumption⟩)] at h; exact h)
               | (rw [if_neg (by omega), if_neg (fun e => (by obtain ⟨r, h1, h2⟩ := selB_iff.1 e; exact J2 r (by omega) h2)), if_pos (by assumption)] at h; exact h)))
    | (have g := G (by assumption); omega)
theorem con50_ok : BodyOk (mk X50) 4 Try.f50 con50 := by
  intro vs bs K hh hro
  clear hro
  unfold con50 at hh
  split at hh
  · rename_i u vl vt
    obtain ⟨a, b, c, d, e, rfl, hI, hh0⟩ := five_inv hh
    rcases parse_inv hh0 with ⟨rfl, hh1⟩ | ⟨el, nl, cl, fl, btl, rfl, hnl, rfl, hh1⟩ <;> clear hh0
    · rcases parse_inv hh1 with ⟨rfl, hh2⟩ | ⟨et, nt, ct, ft, btt, rfl, hnt, rfl, hh2⟩ <;> clear hh1
      · obtain ⟨rfl, -, hc⟩ := hh2
        exact ⟨_, _, cast (con50_nnE a b c d e   K) (con50_nnP a b c d e   K hI   hc)⟩
      · obtain ⟨rfl, -, hc⟩ := hh2
        exact ⟨_, _, cast (con50_nrE a b c d e et nt ct ft  K) (con50_nrP a b c d e et nt ct ft  K hI hnt  hc)⟩
    · rcases parse_inv hh1 with ⟨rfl, hh2⟩ | ⟨et, nt, ct, ft, btt, rfl, hnt, rfl, hh2⟩ <;> clear hh1
      · obtain ⟨rfl, -, hc⟩ := hh2
        exact ⟨_, _, cast (con50_rnE a b c d e el nl cl fl  K) (con50_rnP a b c d e el nl cl fl  K hI hnl  hc)⟩
      · obtain ⟨rfl, -, hc⟩ := hh2
        exact ⟨_, _, cast (con50_rrE a b c d e el nl cl fl et nt ct ft  K) (con50_rrP a b c d e el nl cl fl et nt ct ft  K hI hnl hnt  hc)⟩
  · exact hh.elim
theorem con50_told : Told 50 (specOf con50) := told (X := X50) X50_told (by kernel_rfl) (by kernel_rfl) (by kernel_rfl) con50_ok
end Go.Proofs.Ytkflmglpniebfaa.Fr
