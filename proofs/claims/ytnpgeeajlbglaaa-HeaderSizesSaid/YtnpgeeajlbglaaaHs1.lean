/-
  Header: sizes, shapes. No project text.
-/
import Derived.Test.YtnpgeeajlbglaaaFr0
namespace Go.Proofs.Ytnpgeeajlbglaaa.Fr
open Go.Rx
open Go.RowKit (Below)
set_option linter.unusedVariables false
theorem locA_mono {s : Rx.St} {c c' : List Value → List Blk → Prop} (h : ∀ us bs, c' us bs → c us bs) : ∀ (args : List Value) (k : Nat), locA s k args c' → locA s k args c := by
  intro args
  induction args generalizing c c' with
  | nil => exact fun k hc => h _ _ hc
  | cons v vs ih =>
    intro k hc
    unfold locA at hc ⊢
    split at hc
    · obtain ⟨o, ho, hc⟩ := kO_some hc
      show kO (Rx.look s.h _) _
      rw [ho]
      cases o with
      | cells cs e => exact hc.elim
      | row ro ks e n q f => exact ⟨hc.1, ih (fun us bs => h _ _) _ hc.2⟩
    · rename_i hne
      exact ⟨hc.1, ih (fun us bs => h _ _) _ hc.2⟩
/-- A narrower contract. -/
theorem Told.mono {f : Nat} {c c' : Con} (h : Told f (specOf c)) (hc : ∀ vs bs K, c' vs bs K → c vs bs K) : Told f (specOf c') :=
  ⟨h.1, fun args s K hk => h.2 args s K (locA_mono (fun us bs => hc us bs _) args 0 hk)⟩
/-- The error of a shape, and its size. -/
def sze (p q : Int) : Int := if p < 0 ∨ q < 0 then 7 else if 64 ≤ p ∨ 64 ≤ q ∨ 64 < 1 + p + q then 11 else 0
def szn (p q : Int) : Int := if sze p q = 0 then 1 + p + q else 0
theorem sze_cases (p q : Int) : (sze p q = 7 ∧ (p < 0 ∨ q < 0)) ∨ (sze p q = 11 ∧ 0 ≤ p ∧ 0 ≤ q ∧ (64 ≤ p ∨ 64 ≤ q ∨ 64 < 1 + p + q)) ∨ (sze p q = 0 ∧ 0 ≤ p ∧ 0 ≤ q ∧ 1 + p + q ≤ 64) := by
  unfold sze
  repeat' split
  all_goals omega
theorem szn_cases (p q : Int) : (sze p q = 0 ∧ szn p q = 1 + p + q) ∨ (¬ sze p q = 0 ∧ szn p q = 0) := by
  unfold szn
  split
  · exact .inl ⟨by assumption, rfl⟩
  · exact .inr ⟨by assumption, rfl⟩
theorem fin0p {K : Value → List Blk → Prop} {x y x' y' : Int} (e : x = x') (e' : y = y') (h : K (.tuple ⟨[.int .i64 x, .int .i64 y]⟩) []) : K (.tuple ⟨[.int .i64 x', .int .i64 y']⟩) [] := e ▸ e' ▸ h
/-- All shapes with n words. -/
def Shp (n : Int) (k : Nat) (g : RF) : Prop := ∀ i, i < k → g i 0 = (i : Int) ∧ g i 1 = n - 1 - i
theorem shp_put {n : Int} {k : Nat} {g : RF} (h : Shp n k g) : Shp n (k + 1) (putE g (Int.toNat (k : Int)) [(k : Int), n - 1 - (k : Int)]) := by
  intro i hi
  rw [Int.toNat_natCast]
  by_cases e : i = k
  · subst e
    simp [putE]
  · have := h i (by omega)
    simp [putE, e, this]
def tri : Nat → Int
  | 0 => 0
  | k + 1 => tri k + ((k : Int) + 1)
theorem tri_bd : ∀ k : Nat, k ≤ 64 → 0 ≤ tri k ∧ tri k ≤ 65 * k
  | 0, _ => by simp [tri]
  | k + 1, h => by
    have ih := tri_bd k (by omega)
    simp only [tri]
    omega
theorem tri_64 : tri 64 = 2080 := by decide +kernel
@[reducible] def XH0 : List (Nat × Rx.Spec) := [(14, sp14)]
theorem XH0_told : ∀ p ∈ XH0, Told p.1 p.2 := by
  intro p hp
  simp only [List.mem_cons, List.not_mem_nil, or_false] at hp
  rcases hp with rfl
  · exact told14
def con13 : Con := fun vs bs K => match vs with
  | [.agg ⟨[.int .i64 p, .int .i64 q]⟩] => bs = [] ∧ (True) ∧ (K (.tuple ⟨[.int .i64 (szn p q), .int .i64 (sze p q)]⟩) [])
  | _ => False

def con13_zA (p : Int) (q : Int) : Ann := fun _ _ _ => none
def con12B : Con := fun vs bs K => match vs with
  | [.int .i64 n] => bs = [] ∧ ((¬ (1 ≤ n ∧ n ≤ 64))) ∧ (K (.tuple ⟨[.slice none 0 0, .int .i64 7]⟩) [])
  | _ => False

def con12B_zA (n : Int) : Ann := fun k tt ss => bif Nat.beq k 5 then some [{ α := Nat, T := fun k => ⟨30, []⟩, S := fun _ => ⟨[], 0⟩, I := fun k => False, m := fun k => 0, ρ0 := [], ρ1 := [[]] }] else none
def con12G : Con := fun vs bs K => match vs with
  | [.int .i64 n] => bs = [] ∧ ((1 ≤ n ∧ n ≤ 64)) ∧ (∀ g, Shp n n.toNat g → K (.tuple ⟨[rsl 0 0 n.toNat n.toNat, .int .i64 0]⟩) [.row false [.i64, .i64] 23 n.toNat n.toNat g])
  | _ => False

def con12G_zA (n : Int) : Ann := fun k tt ss => bif Nat.beq k 5 then some [{ α := Nat × RF, T := fun k => ⟨30, [(0, .int .i64 n), (4, rsl 0 0 n.toNat n.toNat), (15, .int .i64 (n.toNat : Nat)), (16, .int .i64 (k.1 : Int))]⟩, S := fun k => ⟨[(0, .row false [.i64, .i64] 23 n.toNat n.toNat k.2)], 1⟩, I := fun k => k.1 ≤ n.toNat ∧ Shp n k.1 k.2, m := fun k => n.toNat - k.1, ρ0 := [(0, 0)], ρ1 := [[(0, 0)]] }] else none
set_option maxRecDepth 100000 in
def con13_zV (p : Int) (q : Int) (K : Value → List Blk → Prop) : Prop := let q0 := (9223372036854775807 : Int); let q1 := (-9223372036854775808 : Int); let q2 := ((q1 ≤ (1 : Int) + p) ∧ ((1 : Int) + p ≤ q0)); let q3 := ((q1 ≤ (1 : Int) + p + q) ∧ ((1 : Int) + p + q ≤ q0)); let q4 := (T0 ∧ (∃ y0 : Value, (∃ y1 : List Blk, ((Go.Rx.Found 0 (Value.tuple { toList := [vi (0 : Int), vi (7 : Int)] }) ({ h := [((1 : Nat), Blk.cells [vi p, vi q] (23 : Nat)), ((0 : Nat), Blk.cells [vi p, vi q] (23 : Nat))], next := (2 : Nat) }) (y0) (y1)) ∧ (K y0 y1))))); let q5 := (T0 ∧ (∃ y0 : Value, (∃ y1 : List Blk, ((Go.Rx.Found 0 (Value.tuple { toList := [vi (0 : Int), vi (11 : Int)] }) ({ h := [((1 : Nat), Blk.cells [vi p, vi q] (23 : Nat)), ((0 : Nat), Blk.cells [vi p, vi q] (23 : Nat))], next := (2 : Nat) }) (y0) (y1)) ∧ (K y0 y1))))); (T0 ∧ (T0 ∧ (T0 ∧ (T0 ∧ (T0 ∧ (if (p < (0 : Int)) then q4 else (T0 ∧ (T0 ∧ (if (q < (0 : Int)) then q4 else (T0 ∧ (T0 ∧ (if ((64 : Int) ≤ p) then q5 else (T0 ∧ (T0 ∧ (if ((64 : Int) ≤ q) then q5 else (T0 ∧ (T0 ∧ (q2 ∧ (T0 ∧ (T0 ∧ (q3 ∧ (T0 ∧ (if ((64 : Int) < (1 : Int) + p + q) then q5 else (T0 ∧ (T0 ∧ (T0 ∧ (q2 ∧ (T0 ∧ (T0 ∧ (q3 ∧ (∃ y0 : Value, (∃ y1 : List Blk, ((Go.Rx.Found 0 (Value.tuple { toList := [vi ((1 : Int) + p + q), vi (0 : Int)] }) ({ h := [((1 : Nat), Blk.cells [vi p, vi q] (23 : Nat)), ((0 : Nat), Blk.cells [vi p, vi q] (23 : Nat))], next := (2 : Nat) }) (y0) (y1)) ∧ (K y0 y1))))))))))))))))))))))))))))))))))
set_option maxRecDepth 100000 in
theorem con13_zE (p : Int) (q : Int) (K : Value → List Blk → Prop) : con13_zV p q K = bodyX (mk XH0) (callN (mk XH0) 3) (con13_zA p q) Try.f13 [.agg ⟨[.int .i64 p, .int .i64 q]⟩] (stOf []) fun v s' => ∃ v1 news, Rx.Found 0 v s' v1 news ∧ K v1 news := by kernel_rfl
set_option maxRecDepth 100000 in
set_option maxHeartbeats 4000000 in
set_option tactic.hygienic false in
theorem con13_zP (p : Int) (q : Int) (K : Value → List Blk → Prop)  (h : K (.tuple ⟨[.int .i64 (szn p q), .int .i64 (sze p q)]⟩) []) : con13_zV p q K := by
  unfold con13_zV
  conv => zeta
  have z1 := sze_cases p q
  have z2 := szn_cases p q

  repeat' (first | (with_reducible exact rfl) | (with_reducible exact trivial) | (with_reducible refine And.intro ?_ ?_) | (intro) | (with_reducible refine br_intro (fun hq => ?_) (fun hq => ?_)) | (with_reducible refine if_both (fun hz => ?_) (fun hz => ?_)) | fail)

  all_goals first
    | omega
    | assumption
    | contradiction
    | (exact fin0 (by kernel_rfl) (by kernel_rfl) (fin0i (by have z1 := sze_cases p q; have z2 := szn_cases p q; omega) h))
    | (exact fin0 (by kernel_rfl) (by kernel_rfl) (fin0p (by have z1 := sze_cases p q; have z2 := szn_cases p q; omega) (by have z1 := sze_cases p q; have z2 := szn_cases p q; omega) h))
    | (exfalso; simp at hq; omega)
theorem con13_ok : BodyOk (mk XH0) 3 Try.f13 con13 := by
  intro vs bs K hh hro
  clear hro
  unfold con13 at hh
  split at hh
  · rename_i p q
    obtain ⟨rfl, -, hc⟩ := hh
    exact ⟨_, _, cast (con13_zE  p q K) (con13_zP  p q K   hc)⟩
  · exact hh.elim
theorem con13_told : Told 13 (specOf con13) := told (X := XH0) XH0_told (by kernel_rfl) (by kernel_rfl) (by kernel_rfl) con13_ok
set_option maxRecDepth 100000 in
def con12B_zV (n : Int) (K : Value → List Blk → Prop) : Prop := let q0 := TS; let q1 := (∃ y0 : Value, (∃ y1 : List Blk, ((Go.Rx.Found 0 (Value.tuple { toList := [vn, vi (7 : Int)] }) ({ h := [], next := (0 : Nat) }) (y0) (y1)) ∧ (K y0 y1)))); (T0 ∧ (T0 ∧ (if (n < (1 : Int)) then q1 else (T0 ∧ (if ((64 : Int) < n) then q1 else (q0 ∧ (T0 ∧ (T0 ∧ (T0 ∧ ((((0 : Int) ≤ n) ∧ ((n ≤ n) ∧ (n ≤ (100000 : Int)))) ∧ (q0 ∧ ((∃ y0 : Nat, ((Go.Rx.Sub 0 [] ⟨30, []⟩ ⟨[], 1⟩ ({ n := (30 : Nat), m := [] }) ({ h := [], next := (0 : Nat) })) ∧ (False))) ∧ (∀ y0 : Nat, ((False) → (False)))))))))))))))
set_option maxRecDepth 100000 in
theorem con12B_zE (n : Int) (K : Value → List Blk → Prop) : con12B_zV n K = bodyX (mk XH0) (callN (mk XH0) 3) (con12B_zA n) Try.f12 [.int .i64 n] (stOf []) fun v s' => ∃ v1 news, Rx.Found 0 v s' v1 news ∧ K v1 news := by kernel_rfl
set_option maxRecDepth 100000 in
set_option maxHeartbeats 4000000 in
set_option tactic.hygienic false in
theorem con12B_zP (n : Int) (K : Value → List Blk → Prop)  (h1 : ¬ (1 ≤ n ∧ n ≤ 64)) (h : K (.tuple ⟨[.slice none 0 0, .int .i64 7]⟩) []) : con12B_zV n K := by
  unfold con12B_zV
  conv => zeta

  repeat' (first | (with_reducible exact rfl) | (with_reducible exact trivial) | (with_reducible refine And.intro ?_ ?_) | (intro) | (with_reducible refine br_intro (fun hq => ?_) (fun hq => ?_)) | (with_reducible refine if_both (fun hz => ?_) (fun hz => ?_)) | fail)

  all_goals first
    | omega
    | assumption
    | contradiction
    | exact fin0 (by kernel_rfl) (by kernel_rfl) (by first | exact h | simpa using h)
    | (exfalso; omega)
theorem con12B_ok : BodyOk (mk XH0) 3 Try.f12 con12B := by
  intro vs bs K hh hro
  clear hro
  unfold con12B at hh
  split at hh
  · rename_i n
    obtain ⟨rfl, h1, hc⟩ := hh
    exact ⟨_, _, cast (con12B_zE  n K) (con12B_zP  n K  h1 hc)⟩
  · exact hh.elim
theorem con12B_told : Told 12 (specOf con12B) := told (X := XH0) XH0_told (by kernel_rfl) (by kernel_rfl) (by kernel_rfl) con12B_ok
set_option maxRecDepth 100000 in
def con12G_zV (n : Int) (K : Value → List Blk → Prop) : Prop := let q0 := ((0 : Nat), (0 : Nat)); let q1 := (↑(Int.toNat n) : Int); let q2 := (9223372036854775807 : Int); let q3 := (0, vi n); let q4 := (-9223372036854775808 : Int); let q5 := (@Eq Nat ((2 : Nat)) ((2 : Nat))); let q6 := ((0 : Nat), vi n); let q7 := TS; let q8 := (15, vi q1); let q9 := (4, rsl (0 : Nat) (0 : Nat) (Int.toNat n) (Int.toNat n)); let q10 := ((15 : Nat), vi q1); let q11 := ((4 : Nat), rsl (0 : Nat) (0 : Nat) (Int.toNat n) (Int.toNat n)); let q12 := (∃ y0 : Value, (∃ y1 : List Blk, ((Go.Rx.Found 0 (Value.tuple { toList := [vn, vi (7 : Int)] }) ({ h := [], next := (0 : Nat) }) (y0) (y1)) ∧ (K y0 y1)))); (T0 ∧ (T0 ∧ (if (n < (1 : Int)) then q12 else (T0 ∧ (if ((64 : Int) < n) then q12 else (q7 ∧ (T0 ∧ (T0 ∧ (T0 ∧ ((((0 : Int) ≤ n) ∧ ((n ≤ n) ∧ (n ≤ (100000 : Int)))) ∧ (q7 ∧ ((∃ y0 : Nat × RF, ((Go.Rx.Sub 0 [q0] ⟨30, [(16, vi (0 : Int)), q8, q9, q3]⟩ ⟨[(0, rF (23 : Nat) (Int.toNat n) (Int.toNat n) fun x x_1 ↦ (0 : Int))], 1⟩ ({ n := (30 : Nat), m := [q6, q11, q10, ((16 : Nat), vi (↑(Prod.fst y0) : Int))] }) ({ h := [((0 : Nat), rF (23 : Nat) (Int.toNat n) (Int.toNat n) (Prod.snd y0))], next := (1 : Nat) })) ∧ ((Prod.fst y0 ≤ Int.toNat n) ∧ (∀ y1 : Nat, ((y1 < Prod.fst y0) → ((@Eq Int (Prod.snd y0 y1 (0 : Nat)) ((↑y1 : Int))) ∧ (@Eq Int (Prod.snd y0 y1 (1 : Nat)) (n - (1 : Int) - (↑y1 : Int))))))))) ∧ (∀ y0 : Nat × RF, let q13 := (↑(Prod.fst y0) : Int); (((Prod.fst y0 ≤ Int.toNat n) ∧ (∀ y1 : Nat, ((y1 < Prod.fst y0) → ((@Eq Int (Prod.snd y0 y1 (0 : Nat)) ((↑y1 : Int))) ∧ (@Eq Int (Prod.snd y0 y1 (1 : Nat)) (n - (1 : Int) - (↑y1 : Int))))))) → (T0 ∧ (if (q13 < q1) then (T0 ∧ (((q4 ≤ n - (1 : Int)) ∧ (n - (1 : Int) ≤ q2)) ∧ (T0 ∧ (((q4 ≤ n - (1 : Int) - q13) ∧ (n - (1 : Int) - q13 ≤ q2)) ∧ ((q7 ∧ q5) ∧ ((((0 : Int) ≤ q13) ∧ (q13 < q1)) ∧ ((false = false) ∧ ((Prod.fst y0 < Int.toNat n) ∧ (((@Eq Nat ((0 : Nat)) ((0 : Nat))) ∧ q5) ∧ (T0 ∧ (((q4 ≤ q13 + (1 : Int)) ∧ (q13 + (1 : Int) ≤ q2)) ∧ (∃ y1 : Nat × RF, ((Go.Rx.Sub 0 [q0] ⟨30, [(16, vi (q13 + (1 : Int))), q3, q9, q8]⟩ ⟨[(0, rF (23 : Nat) (Int.toNat n) (Int.toNat n) (putE (Prod.snd y0) (Prod.fst y0) [q13, n - (1 : Int) - q13]))], 1⟩ ({ n := (30 : Nat), m := [q6, q11, q10, ((16 : Nat), vi (↑(Prod.fst y1) : Int))] }) ({ h := [((0 : Nat), rF (23 : Nat) (Int.toNat n) (Int.toNat n) (Prod.snd y1))], next := (1 : Nat) })) ∧ (((Prod.fst y1 ≤ Int.toNat n) ∧ (∀ y2 : Nat, ((y2 < Prod.fst y1) → ((@Eq Int (Prod.snd y1 y2 (0 : Nat)) ((↑y2 : Int))) ∧ (@Eq Int (Prod.snd y1 y2 (1 : Nat)) (n - (1 : Int) - (↑y2 : Int))))))) ∧ (Int.toNat n - Prod.fst y1 < Int.toNat n - Prod.fst y0))))))))))))))) else (∃ y1 : Value, (∃ y2 : List Blk, ((Go.Rx.Found 0 (Value.tuple { toList := [rsl (0 : Nat) (0 : Nat) (Int.toNat n) (Int.toNat n), vi (0 : Int)] }) ({ h := [((0 : Nat), rF (23 : Nat) (Int.toNat n) (Int.toNat n) (Prod.snd y0))], next := (1 : Nat) }) (y1) (y2)) ∧ (K y1 y2))))))))))))))))))))
set_option maxRecDepth 100000 in
theorem con12G_zE (n : Int) (K : Value → List Blk → Prop) : con12G_zV n K = bodyX (mk XH0) (callN (mk XH0) 3) (con12G_zA n) Try.f12 [.int .i64 n] (stOf []) fun v s' => ∃ v1 news, Rx.Found 0 v s' v1 news ∧ K v1 news := by kernel_rfl
set_option maxRecDepth 100000 in
set_option maxHeartbeats 4000000 in
set_option tactic.hygienic false in
theorem con12G_zP (n : Int) (K : Value → List Blk → Prop)  (h1 : 1 ≤ n ∧ n ≤ 64) (h : ∀ g, Shp n n.toNat g → K (.tuple ⟨[rsl 0 0 n.toNat n.toNat, .int .i64 0]⟩) [.row false [.i64, .i64] 23 n.toNat n.toNat g]) : con12G_zV n K := by
  unfold con12G_zV
  conv => zeta

  repeat' (first | (with_reducible exact rfl) | (with_reducible exact trivial) | (with_reducible refine And.intro ?_ ?_) | (intro) | (with_reducible refine br_intro (fun hq => ?_) (fun hq => ?_)) | (with_reducible refine if_both (fun hz => ?_) (fun hz => ?_)) | fail)
  all_goals try (rename Nat × RF => k; rename _ ∧ Shp _ _ _ => I; obtain ⟨I1, I2⟩ := I)
  all_goals first
    | omega
    | assumption
    | contradiction
    | exact ⟨(0, fun _ _ => 0), (by (refine And.intro (And.intro rfl (And.intro rfl (And.intro rfl rfl))) ?_; (repeat' (first | exact trivial | exact rfl | exact fun _ _ _ _ => rfl | refine And.intro ?_ ?_ | omega | fail)); done)), ⟨by show 0 ≤ n.toNat; omega, fun i hi => absurd hi (Nat.not_lt_zero i)⟩⟩
    | exact ⟨(k.1 + 1, putE k.2 (Int.toNat (k.1 : Int)) [(k.1 : Int), n - 1 - (k.1 : Int)]), (by (refine And.intro (And.intro rfl (And.intro rfl (And.intro rfl rfl))) ?_; (repeat' (first | exact trivial | exact rfl | exact fun _ _ _ _ => rfl | refine And.intro ?_ ?_ | omega | fail)); done)), ⟨by show k.1 + 1 ≤ n.toNat; omega, shp_put I2⟩, by show n.toNat - (k.1 + 1) < n.toNat - k.1; omega⟩
    | (have e : k.1 = n.toNat := (by omega)
       rw [e] at I2
       exact fin1t rfl (fun _ _ _ _ => rfl) (by kernel_rfl) (by kernel_rfl) (h _ I2))
    | (exfalso; simp at hq; omega)
    | (exfalso; omega)
theorem con12G_ok : BodyOk (mk XH0) 3 Try.f12 con12G := by
  intro vs bs K hh hro
  clear hro
  unfold con12G at hh
  split at hh
  · rename_i n
    obtain ⟨rfl, h1, hc⟩ := hh
    exact ⟨_, _, cast (con12G_zE  n K) (con12G_zP  n K  h1 hc)⟩
  · exact hh.elim
theorem con12G_told : Told 12 (specOf con12G) := told (X := XH0) XH0_told (by kernel_rfl) (by kernel_rfl) (by kernel_rfl) con12G_ok
end Go.Proofs.Ytnpgeeajlbglaaa.Fr
