/-
  Bump: the last car, the reference. No project text.
-/
import Derived.Test.YtkflmglpniebfaaBu3
namespace Go.Proofs.Ytkflmglpniebfaa.Fr
open Go.Rx
open Go.RowKit (Below)
set_option linter.unusedVariables false
theorem tr_ok (b : Int) (f g : RF) : ∀ (l k : Nat), (tr b f g l k).2 = 0 → ∀ i, k ≤ i → i < k + l → 0 ≤ g i 0 ∧ g i 0 < b ∧ ¬ selB i g g i = true ∧ ¬ f (g i 0).toNat 0 = 0
  | 0, k, _, i, h1, h2 => by omega
  | l + 1, k, h, i, h1, h2 => by
    unfold tr at h
    split at h
    · cases h
    · split at h
      · cases h
      · split at h
        · cases h
        · rcases Nat.lt_or_ge k i with q | q
          · exact tr_ok b f g l (k + 1) h i (by omega) (by omega)
          · obtain rfl : i = k := by omega
            exact ⟨by omega, by omega, by assumption, by assumption⟩
theorem bck_ok {a b c d e : Int} {n m : Nat} {f g : RF} (h : (bck a b c d e n f m g).2 = 0) : good a b c d e ∧ (n : Int) = b ∧ (∀ i, i < n → fok a f i) ∧ ∀ i, i < m → 0 ≤ g i 0 ∧ g i 0 < b ∧ ¬ selB i g g i = true ∧ ¬ f (g i 0).toNat 0 = 0 := by
  have h0 := bck_ck h
  rw [bck_go h0] at h
  obtain ⟨g1, g2, g3⟩ := ckF_zero h0
  exact ⟨g1, g2, g3, fun i hi => tr_ok b f g m 0 h i (by omega) (by omega)⟩
theorem askT_bck {a b c d e : Int} {n m : Nat} {f g : RF} {s y : Int} (h : askT a b c d e n f m g s y = 0) : (bck a b c d e n f m g).2 = 0 ∧ 1 ≤ y ∧ y ≤ a ∧ -1 ≤ s ∧ s < b ∧ (0 ≤ s → ¬ f s.toNat 0 = 0) := by
  unfold askT at h
  split at h
  · refine ⟨by assumption, ?_⟩
    split at h
    · cases h
    · split at h
      · cases h
      · exact ⟨by omega, by omega, by omega, by omega, by omega⟩
  · exact absurd h (by assumption)
/-- The last car of a train. -/
def lastC (m : Nat) (g : RF) : Int := g (Int.toNat ((m : Int) - 1)) 0
def lastT (a b c d e : Int) (n : Nat) (f : RF) (m : Nat) (g : RF) (s y : Int) : Int × Int := if askT a b c d e n f m g s y = 0 then (if 0 < m ∧ f (lastC m g).toNat 0 = 1 ∧ ¬ lastC m g = s ∧ y ≤ a - f (lastC m g).toNat 1 then (lastC m g, 0) else (0, 5)) else (0, askT a b c d e n f m g s y)
@[reducible] def X54 : List (Nat × Rx.Spec) := [(85, specOf con85)]
theorem X54_told : ∀ p ∈ X54, Told p.1 p.2 := by
  intro p hp
  simp only [List.mem_cons, List.not_mem_nil, or_false] at hp
  rcases hp with rfl
  · exact con85_told
def con54 : Con := fun vs bs K => match vs with
  | [u, vl, vt, .int .i64 s, .int .i64 y] => five u fun a b c d e => parse [.i64, .i64] 0 vl bs fun nl fl j0 bs0 => parse [.i64] j0 vt bs0 fun nt ft j1 bs1 => bs1 = [] ∧ (True) ∧ (K (.tuple ⟨[.int .i64 (lastT a b c d e nl fl nt ft s y).1, .int .i64 (lastT a b c d e nl fl nt ft s y).2]⟩) [])
  | _ => False

def con54_nnA (a b c d e : Int) (s : Int) (y : Int) : Ann := fun _ _ _ => none
def con54_nrA (a b c d e : Int) (et nt ct : Nat) (ft : RF) (s : Int) (y : Int) : Ann := fun _ _ _ => none
def con54_rnA (a b c d e : Int) (el nl cl : Nat) (fl : RF) (s : Int) (y : Int) : Ann := fun _ _ _ => none
def con54_rrA (a b c d e : Int) (el nl cl : Nat) (fl : RF) (et nt ct : Nat) (ft : RF) (s : Int) (y : Int) : Ann := fun _ _ _ => none
set_option maxRecDepth 100000 in
def con54_nnV (a b c d e : Int) (s : Int) (y : Int) (K : Value → List Blk → Prop) : Prop := (T0 ∧ (T0 ∧ (T0 ∧ (T0 ∧ (T0 ∧ (T0 ∧ (T0 ∧ ((InC a b c d e) ∧ (eB ∧ ((True) ∧ (T0 ∧ (if (@Eq Int (askT a b c d e 0 zF 0 zF s y) (0)) then (TS ∧ (T0 ∧ (∃ y0 : Value, (∃ y1 : List Blk, ((Go.Rx.Found 0 (vt [vi 0, vi 5]) ({ h := [(0, CB a b c d e)], next := 1 }) (y0) (y1)) ∧ (K y0 y1)))))) else (∃ y0 : Value, (∃ y1 : List Blk, ((Go.Rx.Found 0 (vt [vi 0, vi (askT a b c d e 0 zF 0 zF s y)]) ({ h := [(0, CB a b c d e)], next := 1 }) (y0) (y1)) ∧ (K y0 y1))))))))))))))))
set_option maxRecDepth 100000 in
theorem con54_nnE (a b c d e : Int) (s : Int) (y : Int) (K : Value → List Blk → Prop) : con54_nnV a b c d e s y K = bodyX (mk X54) (callN (mk X54) 4) (con54_nnA a b c d e s y) Try.f54 [.agg ⟨[.int .i64 a, .int .i64 b, .int .i64 c, .int .i64 d, .int .i64 e]⟩, .slice none 0 0, .slice none 0 0, .int .i64 s, .int .i64 y] (stOf []) fun v s' => ∃ v1 news, Rx.Found 0 v s' v1 news ∧ K v1 news := by kernel_rfl
set_option maxRecDepth 100000 in
set_option maxHeartbeats 4000000 in
set_option tactic.hygienic false in
theorem con54_nnP (a b c d e : Int) (s : Int) (y : Int) (K : Value → List Blk → Prop)  (hI : InC a b c d e) (h : K (.tuple ⟨[.int .i64 (lastT a b c d e 0 zF 0 zF s y).1, .int .i64 (lastT a b c d e 0 zF 0 zF s y).2]⟩) []) : con54_nnV a b c d e s y K := by
  unfold con54_nnV
  have G : askT a b c d e 0 zF 0 zF s y = 0 → good a b c d e ∧ ((0 : Nat) : Int) = b ∧ (0 < 0 → 0 ≤ lastC 0 zF ∧ lastC 0 zF < b ∧ fok a zF (lastC 0 zF).toNat) := fun q => (by
    obtain ⟨g1, g2, g3, g4⟩ := bck_ok (askT_bck q).1
    refine ⟨g1, g2, fun hm => ?_⟩
    obtain ⟨k1, k2, k3, k4⟩ := g4 (Int.toNat (((0 : Nat) : Int) - 1)) (by omega)
    exact ⟨k1, k2, g3 _ (by show (lastC 0 zF).toNat < _; have : lastC 0 zF < b := k2; have : 0 ≤ lastC 0 zF := k1; omega)⟩)
  unfold lastT at h
  repeat' (first | (with_reducible exact rfl) | (with_reducible exact trivial) | (with_reducible refine And.intro ?_ ?_) | (intro) | (with_reducible refine br_intro (fun hq => ?_) (fun hq => ?_)) | (with_reducible refine if_both (fun hz => ?_) (fun hz => ?_)) | fail)

  all_goals first
    | omega
    | assumption
    | contradiction
    | (have g := G (by assumption); unfold fok lastC at g; omega)
    | (refine fin0 (by kernel_rfl) (by kernel_rfl) ?_
       unfold lastC at h
       repeat' (split at h)
       all_goals first | exact h | omega | (exfalso; have g := G (by assumption); unfold fok lastC at g; omega) | (exfalso; simp_all; done))
set_option maxRecDepth 100000 in
def con54_nrV (a b c d e : Int) (et nt ct : Nat) (ft : RF) (s : Int) (y : Int) (K : Value → List Blk → Prop) : Prop := (T0 ∧ (T0 ∧ (T0 ∧ (T0 ∧ ((0 + nt ≤ nt) ∧ (T0 ∧ (T0 ∧ ((InC a b c d e) ∧ ((eN 0) ∧ ((nt ≤ 100000) ∧ (((@Eq (List IntKind) ([IntKind.i64]) ([IntKind.i64])) ∧ ((eN nt) ∧ (eN ct))) ∧ (eB ∧ ((True) ∧ (T0 ∧ (if (@Eq Int (askT a b c d e 0 zF nt ft s y) (0)) then (TS ∧ (T0 ∧ (if (0 < (↑nt : Int)) then (TS ∧ (T0 ∧ ((((-9223372036854775808 : Int) ≤ (↑nt : Int) - 1) ∧ ((↑nt : Int) - (1 : Int) ≤ 9223372036854775807)) ∧ ((TS ∧ (eN 1)) ∧ (((0 ≤ (↑nt : Int) - 1) ∧ ((↑nt : Int) - 1 < (↑nt : Int))) ∧ ((Int.toNat ((↑nt : Int) - 1) < nt) ∧ (T0 ∧ (T0 ∧ (T0 ∧ (T0 ∧ (False))))))))))) else (∃ y0 : Value, (∃ y1 : List Blk, ((Go.Rx.Found 1 (vt [vi 0, vi 5]) ({ h := [(1, CB a b c d e), (0, Blk.row true [IntKind.i64] et nt ct ft)], next := 2 }) (y0) (y1)) ∧ (K y0 y1))))))) else (∃ y0 : Value, (∃ y1 : List Blk, ((Go.Rx.Found 1 (vt [vi 0, vi (askT a b c d e 0 zF nt ft s y)]) ({ h := [(1, CB a b c d e), (0, Blk.row true [IntKind.i64] et nt ct ft)], next := 2 }) (y0) (y1)) ∧ (K y0 y1)))))))))))))))))))
set_option maxRecDepth 100000 in
theorem con54_nrE (a b c d e : Int) (et nt ct : Nat) (ft : RF) (s : Int) (y : Int) (K : Value → List Blk → Prop) : con54_nrV a b c d e et nt ct ft s y K = bodyX (mk X54) (callN (mk X54) 4) (con54_nrA a b c d e et nt ct ft s y) Try.f54 [.agg ⟨[.int .i64 a, .int .i64 b, .int .i64 c, .int .i64 d, .int .i64 e]⟩, .slice none 0 0, rsl 0 0 nt ct, .int .i64 s, .int .i64 y] (stOf [.row true [.i64] et nt ct ft]) fun v s' => ∃ v1 news, Rx.Found 1 v s' v1 news ∧ K v1 news := by kernel_rfl
set_option maxRecDepth 100000 in
set_option maxHeartbeats 4000000 in
set_option tactic.hygienic false in
theorem con54_nrP (a b c d e : Int) (et nt ct : Nat) (ft : RF) (s : Int) (y : Int) (K : Value → List Blk → Prop)  (hI : InC a b c d e) (hnt : nt ≤ 100000) (h : K (.tuple ⟨[.int .i64 (lastT a b c d e 0 zF nt ft s y).1, .int .i64 (lastT a b c d e 0 zF nt ft s y).2]⟩) []) : con54_nrV a b c d e et nt ct ft s y K := by
  unfold con54_nrV
  have G : askT a b c d e 0 zF nt ft s y = 0 → good a b c d e ∧ ((0 : Nat) : Int) = b ∧ (0 < nt → 0 ≤ lastC nt ft ∧ lastC nt ft < b ∧ fok a zF (lastC nt ft).toNat) := fun q => (by
    obtain ⟨g1, g2, g3, g4⟩ := bck_ok (askT_bck q).1
    refine ⟨g1, g2, fun hm => ?_⟩
    obtain ⟨k1, k2, k3, k4⟩ := g4 (Int.toNat (((nt : Nat) : Int) - 1)) (by omega)
    exact ⟨k1, k2, g3 _ (by show (lastC nt ft).toNat < _; have : lastC nt ft < b := k2; have : 0 ≤ lastC nt ft := k1; omega)⟩)
  unfold lastT at h
  repeat' (first | (with_reducible exact rfl) | (with_reducible exact trivial) | (with_reducible refine And.intro ?_ ?_) | (intro) | (with_reducible refine br_intro (fun hq => ?_) (fun hq => ?_)) | (with_reducible refine if_both (fun hz => ?_) (fun hz => ?_)) | fail)

  all_goals first
    | omega
    | assumption
    | contradiction
    | (have g := G (by assumption); unfold fok lastC at g; omega)
    | (refine fin0 (by kernel_rfl) (by kernel_rfl) ?_
       unfold lastC at h
       repeat' (split at h)
       all_goals first | exact h | omega | (exfalso; have g := G (by assumption); unfold fok lastC at g; omega) | (exfalso; simp_all; done))
set_option maxRecDepth 100000 in
def con54_rnV (a b c d e : Int) (el nl cl : Nat) (fl : RF) (s : Int) (y : Int) (K : Value → List Blk → Prop) : Prop := (T0 ∧ (T0 ∧ (T0 ∧ ((0 + nl ≤ nl) ∧ (T0 ∧ (T0 ∧ (T0 ∧ ((InC a b c d e) ∧ ((eN 0) ∧ ((nl ≤ 100000) ∧ ((eK ∧ ((eN nl) ∧ (eN cl))) ∧ (eB ∧ ((True) ∧ (T0 ∧ (if (@Eq Int (askT a b c d e nl fl 0 zF s y) (0)) then (TS ∧ (T0 ∧ (∃ y0 : Value, (∃ y1 : List Blk, ((Go.Rx.Found 1 (vt [vi 0, vi 5]) ({ h := [(1, CB a b c d e), (0, rT el nl cl fl)], next := 2 }) (y0) (y1)) ∧ (K y0 y1)))))) else (∃ y0 : Value, (∃ y1 : List Blk, ((Go.Rx.Found 1 (vt [vi 0, vi (askT a b c d e nl fl 0 zF s y)]) ({ h := [(1, CB a b c d e), (0, rT el nl cl fl)], next := 2 }) (y0) (y1)) ∧ (K y0 y1)))))))))))))))))))
set_option maxRecDepth 100000 in
theorem con54_rnE (a b c d e : Int) (el nl cl : Nat) (fl : RF) (s : Int) (y : Int) (K : Value → List Blk → Prop) : con54_rnV a b c d e el nl cl fl s y K = bodyX (mk X54) (callN (mk X54) 4) (con54_rnA a b c d e el nl cl fl s y) Try.f54 [.agg ⟨[.int .i64 a, .int .i64 b, .int .i64 c, .int .i64 d, .int .i64 e]⟩, rsl 0 0 nl cl, .slice none 0 0, .int .i64 s, .int .i64 y] (stOf [.row true [.i64, .i64] el nl cl fl]) fun v s' => ∃ v1 news, Rx.Found 1 v s' v1 news ∧ K v1 news := by kernel_rfl
set_option maxRecDepth 100000 in
set_option maxHeartbeats 4000000 in
set_option tactic.hygienic false in
theorem con54_rnP (a b c d e : Int) (el nl cl : Nat) (fl : RF) (s : Int) (y : Int) (K : Value → List Blk → Prop)  (hI : InC a b c d e) (hnl : nl ≤ 100000) (h : K (.tuple ⟨[.int .i64 (lastT a b c d e nl fl 0 zF s y).1, .int .i64 (lastT a b c d e nl fl 0 zF s y).2]⟩) []) : con54_rnV a b c d e el nl cl fl s y K := by
  unfold con54_rnV
  have G : askT a b c d e nl fl 0 zF s y = 0 → good a b c d e ∧ ((nl : Nat) : Int) = b ∧ (0 < 0 → 0 ≤ lastC 0 zF ∧ lastC 0 zF < b ∧ fok a fl (lastC 0 zF).toNat) := fun q => (by
    obtain ⟨g1, g2, g3, g4⟩ := bck_ok (askT_bck q).1
    refine ⟨g1, g2, fun hm => ?_⟩
    obtain ⟨k1, k2, k3, k4⟩ := g4 (Int.toNat (((0 : Nat) : Int) - 1)) (by omega)
    exact ⟨k1, k2, g3 _ (by show (lastC 0 zF).toNat < _; have : lastC 0 zF < b := k2; have : 0 ≤ lastC 0 zF := k1; omega)⟩)
  unfold lastT at h
  repeat' (first | (with_reducible exact rfl) | (with_reducible exact trivial) | (with_reducible refine And.intro ?_ ?_) | (intro) | (with_reducible refine br_intro (fun hq => ?_) (fun hq => ?_)) | (with_reducible refine if_both (fun hz => ?_) (fun hz => ?_)) | fail)

  all_goals first
    | omega
    | assumption
    | contradiction
    | (have g := G (by assumption); unfold fok lastC at g; omega)
    | (refine fin0 (by kernel_rfl) (by kernel_rfl) ?_
       unfold lastC at h
       repeat' (split at h)
       all_goals first | exact h | omega | (exfalso; have g := G (by assumption); unfold fok lastC at g; omega) | (exfalso; simp_all; done))
set_option maxRecDepth 100000 in
def con54_rrV (a b c d e : Int) (el nl cl : Nat) (fl : RF) (et nt ct : Nat) (ft : RF) (s : Int) (y : Int) (K : Value → List Blk → Prop) : Prop := (T0 ∧ (T0 ∧ (T0 ∧ ((0 + nl ≤ nl) ∧ ((0 + nt ≤ nt) ∧ (T0 ∧ (T0 ∧ ((InC a b c d e) ∧ ((eN 0) ∧ ((nl ≤ 100000) ∧ ((eK ∧ ((eN nl) ∧ (eN cl))) ∧ ((eN 1) ∧ ((nt ≤ 100000) ∧ (((@Eq (List IntKind) ([IntKind.i64]) ([IntKind.i64])) ∧ ((eN nt) ∧ (eN ct))) ∧ (eB ∧ ((True) ∧ (T0 ∧ (if (@Eq Int (askT a b c d e nl fl nt ft s y) (0)) then (TS ∧ (T0 ∧ (if (0 < (↑nt : Int)) then (TS ∧ (T0 ∧ ((((-9223372036854775808 : Int) ≤ (↑nt : Int) - 1) ∧ ((↑nt : Int) - (1 : Int) ≤ 9223372036854775807)) ∧ ((TS ∧ (eN 1)) ∧ (((0 ≤ (↑nt : Int) - 1) ∧ ((↑nt : Int) - 1 < (↑nt : Int))) ∧ ((Int.toNat ((↑nt : Int) - 1) < nt) ∧ (T0 ∧ (T0 ∧ (T0 ∧ (T0 ∧ ((TS ∧ (eN 2)) ∧ (((0 ≤ ft (Int.toNat ((↑nt : Int) - 1)) 0) ∧ (ft (Int.toNat ((↑nt : Int) - 1)) 0 < (↑nl : Int))) ∧ (T0 ∧ (T0 ∧ (T0 ∧ ((Int.toNat (ft (Int.toNat ((↑nt : Int) - 1)) 0) < nl) ∧ (T0 ∧ (T0 ∧ (if (@Eq Int (fl (Int.toNat (ft (Int.toNat ((↑nt : Int) - 1)) 0)) 0) (1)) then (T0 ∧ (T0 ∧ (T0 ∧ (T0 ∧ (T0 ∧ (if (@Eq Int (ft (Int.toNat ((↑nt : Int) - 1)) 0) (s)) then (T0 ∧ (T0 ∧ (T0 ∧ (∃ y0 : Value, (∃ y1 : List Blk, ((Go.Rx.Found 2 (vt [vi 0, vi 5]) ({ h := [(2, CB a b c d e), (0, rT el nl cl fl), (1, Blk.row true [IntKind.i64] et nt ct ft)], next := 3 }) (y0) (y1)) ∧ (K y0 y1))))))) else (T0 ∧ (T0 ∧ (T0 ∧ (T0 ∧ (T0 ∧ (T0 ∧ (T0 ∧ (T0 ∧ ((TS ∧ (eN 2)) ∧ (((0 ≤ ft (Int.toNat ((↑nt : Int) - 1)) 0) ∧ (ft (Int.toNat ((↑nt : Int) - 1)) 0 < (↑nl : Int))) ∧ (T0 ∧ (T0 ∧ (T0 ∧ ((Int.toNat (ft (Int.toNat ((↑nt : Int) - 1)) 0) < nl) ∧ (T0 ∧ (T0 ∧ ((((-9223372036854775808 : Int) ≤ a - fl (Int.toNat (ft (Int.toNat ((↑nt : Int) - 1)) 0)) 1) ∧ (a - fl (Int.toNat (ft (Int.toNat ((↑nt : Int) - 1)) 0)) 1 ≤ 9223372036854775807)) ∧ (T0 ∧ (T0 ∧ (T0 ∧ (if (y ≤ a - fl (Int.toNat (ft (Int.toNat ((↑nt : Int) - 1)) 0)) 1) then (T0 ∧ (∃ y0 : Value, (∃ y1 : List Blk, ((Go.Rx.Found 2 (vt [vi (ft (Int.toNat ((↑nt : Int) - 1)) 0), vi 0]) ({ h := [(2, CB a b c d e), (0, rT el nl cl fl), (1, Blk.row true [IntKind.i64] et nt ct ft)], next := 3 }) (y0) (y1)) ∧ (K y0 y1))))) else (T0 ∧ (∃ y0 : Value, (∃ y1 : List Blk, ((Go.Rx.Found 2 (vt [vi 0, vi 5]) ({ h := [(2, CB a b c d e), (0, rT el nl cl fl), (1, Blk.row true [IntKind.i64] et nt ct ft)], next := 3 }) (y0) (y1)) ∧ (K y0 y1)))))))))))))))))))))))))))))))) else (T0 ∧ (T0 ∧ (T0 ∧ (T0 ∧ (∃ y0 : Value, (∃ y1 : List Blk, ((Go.Rx.Found 2 (vt [vi 0, vi 5]) ({ h := [(2, CB a b c d e), (0, rT el nl cl fl), (1, Blk.row true [IntKind.i64] et nt ct ft)], next := 3 }) (y0) (y1)) ∧ (K y0 y1))))))))))))))))))))))))))) else (∃ y0 : Value, (∃ y1 : List Blk, ((Go.Rx.Found 2 (vt [vi 0, vi 5]) ({ h := [(2, CB a b c d e), (0, rT el nl cl fl), (1, Blk.row true [IntKind.i64] et nt ct ft)], next := 3 }) (y0) (y1)) ∧ (K y0 y1))))))) else (∃ y0 : Value, (∃ y1 : List Blk, ((Go.Rx.Found 2 (vt [vi 0, vi (askT a b c d e nl fl nt ft s y)]) ({ h := [(2, CB a b c d e), (0, rT el nl cl fl), (1, Blk.row true [IntKind.i64] et nt ct ft)], next := 3 }) (y0) (y1)) ∧ (K y0 y1))))))))))))))))))))))
set_option maxRecDepth 100000 in
theorem con54_rrE (a b c d e : Int) (el nl cl : Nat) (fl : RF) (et nt ct : Nat) (ft : RF) (s : Int) (y : Int) (K : Value → List Blk → Prop) : con54_rrV a b c d e el nl cl fl et nt ct ft s y K = bodyX (mk X54) (callN (mk X54) 4) (con54_rrA a b c d e el nl cl fl et nt ct ft s y) Try.f54 [.agg ⟨[.int .i64 a, .int .i64 b, .int .i64 c, .int .i64 d, .int .i64 e]⟩, rsl 0 0 nl cl, rsl 1 0 nt ct, .int .i64 s, .int .i64 y] (stOf [.row true [.i64, .i64] el nl cl fl, .row true [.i64] et nt ct ft]) fun v s' => ∃ v1 news, Rx.Found 2 v s' v1 news ∧ K v1 news := by kernel_rfl
set_option maxRecDepth 100000 in
set_option maxHeartbeats 4000000 in
set_option tactic.hygienic false in
theorem con54_rrP (a b c d e : Int) (el nl cl : Nat) (fl : RF) (et nt ct : Nat) (ft : RF) (s : Int) (y : Int) (K : Value → List Blk → Prop)  (hI : InC a b c d e) (hnl : nl ≤ 100000) (hnt : nt ≤ 100000) (h : K (.tuple ⟨[.int .i64 (lastT a b c d e nl fl nt ft s y).1, .int .i64 (lastT a b c d e nl fl nt ft s y).2]⟩) []) : con54_rrV a b c d e el nl cl fl et nt ct ft s y K := by
  unfold con54_rrV
  have G : askT a b c d e nl fl nt ft s y = 0 → good a b c d e ∧ ((nl : Nat) : Int) = b ∧ (0 < nt → 0 ≤ lastC nt ft ∧ lastC nt ft < b ∧ fok a fl (lastC nt ft).toNat) := fun q => (by
    obtain ⟨g1, g2, g3, g4⟩ := bck_ok (askT_bck q).1
    refine ⟨g1, g2, fun hm => ?_⟩
    obtain ⟨k1, k2, k3, k4⟩ := g4 (Int.toNat (((nt : Nat) : Int) - 1)) (by omega)
    exact ⟨k1, k2, g3 _ (by show (lastC nt ft).toNat < _; have : lastC nt ft < b := k2; have : 0 ≤ lastC nt ft := k1; omega)⟩)
  unfold lastT at h
  repeat' (first | (with_reducible exact rfl) | (with_reducible exact trivial) | (with_reducible refine And.intro ?_ ?_) | (intro) | (with_reducible refine br_intro (fun hq => ?_) (fun hq => ?_)) | (with_reducible refine if_both (fun hz => ?_) (fun hz => ?_)) | fail)

  all_goals first
    | omega
    | assumption
    | contradiction
    | (have g := G (by assumption); unfold fok lastC at g; omega)
    | (refine fin0 (by kernel_rfl) (by kernel_rfl) ?_
       unfold lastC at h
       repeat' (split at h)
       all_goals first | exact h | omega | (exfalso; have g := G (by assumption); unfold fok lastC at g; omega) | (exfalso; simp_all; done))
theorem con54_ok : BodyOk (mk X54) 4 Try.f54 con54 := by
  intro vs bs K hh hro
  clear hro
  unfold con54 at hh
  split at hh
  · rename_i u vl vt s y
    obtain ⟨a, b, c, d, e, rfl, hI, hh0⟩ := five_inv hh
    rcases parse_inv hh0 with ⟨rfl, hh1⟩ | ⟨el, nl, cl, fl, btl, rfl, hnl, rfl, hh1⟩ <;> clear hh0
    · rcases parse_inv hh1 with ⟨rfl, hh2⟩ | ⟨et, nt, ct, ft, btt, rfl, hnt, rfl, hh2⟩ <;> clear hh1
      · obtain ⟨rfl, -, hc⟩ := hh2
        exact ⟨_, _, cast (con54_nnE a b c d e  s y K) (con54_nnP a b c d e  s y K hI   hc)⟩
      · obtain ⟨rfl, -, hc⟩ := hh2
        exact ⟨_, _, cast (con54_nrE a b c d e et nt ct ft s y K) (con54_nrP a b c d e et nt ct ft s y K hI hnt  hc)⟩
    · rcases parse_inv hh1 with ⟨rfl, hh2⟩ | ⟨et, nt, ct, ft, btt, rfl, hnt, rfl, hh2⟩ <;> clear hh1
      · obtain ⟨rfl, -, hc⟩ := hh2
        exact ⟨_, _, cast (con54_rnE a b c d e el nl cl fl s y K) (con54_rnP a b c d e el nl cl fl s y K hI hnl  hc)⟩
      · obtain ⟨rfl, -, hc⟩ := hh2
        exact ⟨_, _, cast (con54_rrE a b c d e el nl cl fl et nt ct ft s y K) (con54_rrP a b c d e el nl cl fl et nt ct ft s y K hI hnl hnt  hc)⟩
  · exact hh.elim
theorem con54_told : Told 54 (specOf con54) := told (X := X54) X54_told (by kernel_rfl) (by kernel_rfl) (by kernel_rfl) con54_ok
end Go.Proofs.Ytkflmglpniebfaa.Fr
