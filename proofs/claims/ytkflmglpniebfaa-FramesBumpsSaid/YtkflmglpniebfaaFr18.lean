/-
  FramesBumps: what it calls. No project text.
-/
import Derived.Test.YtkflmglpniebfaaFr15
import Derived.Test.YtkflmglpniebfaaFr14x39
namespace Go.Proofs.Ytkflmglpniebfaa.Fr
open Go.Rx
open Go.RowKit (Below)
set_option linter.unusedVariables false
/-- Words of a car are used. -/
structure Bumped (a b c d e : Int) (n : Nat) (f : RF) (x y : Int) (g : RF) : Prop where
  now1 : g x.toNat 1 = f x.toNat 1 + y
  now0 : g x.toNat 0 = f x.toNat 0
  rest : ∀ j q, ¬ (j = x.toNat ∧ q = 1) → g j q = f j q
  ask : askF a b c d e n g x = 0
theorem pc_same {f g : RF} (h : ∀ j, g j 0 = f j 0) : ∀ n : Nat, pc g n = pc f n
  | 0 => rfl
  | n + 1 => by
    have ih := pc_same h n
    simp only [pc, h, ih]
theorem bumped {a b c d e : Int} {n : Nat} {f : RF} {x y : Int} (h : askF a b c d e n f x = 0) (h1 : 1 ≤ y) (h2 : ¬ f x.toNat 0 = 0) (h3 : y ≤ a - f x.toNat 1) : Bumped a b c d e n f x y (putF f x.toNat 1 (f x.toNat 1 + y)) := by
  obtain ⟨k1, k2, k3, k4, k5, k6, k7, k8⟩ := bumpy h
  have r : ∀ j q, ¬ (j = x.toNat ∧ q = 1) → putF f x.toNat 1 (f x.toNat 1 + y) j q = f j q := fun j q hj => if_neg hj
  have ok : (ckF a b c d e n (putF f x.toNat 1 (f x.toNat 1 + y))).2 = 0 := by
    refine ckF_of k2 k3 (fun j hj => ?_) ?_
    · have gj := k7 j hj
      unfold fok at gj k8 ⊢
      rw [r j 0 (by simp)]
      by_cases hx : j = x.toNat
      · subst hx
        have : putF f x.toNat 1 (f x.toNat 1 + y) x.toNat 1 = f x.toNat 1 + y := if_pos ⟨rfl, rfl⟩
        rw [this]
        omega
      · rw [r j 1 (by simp [hx])]
        exact gj
    · rw [pc_same (fun j => r j 0 (by simp))]
      exact ckF_pc k1
  refine ⟨if_pos ⟨rfl, rfl⟩, r _ _ (by simp), r, ?_⟩
  unfold askF
  rw [if_pos ok, if_neg (by omega)]
theorem bump_same {a b c d e : Int} {n : Nat} {f g1 g2 g3 : RF} {x y z s : Int} (h1 : Bumped a b c d e n f x y g1) (h2 : Bumped a b c d e n g1 x z g2) (h3 : Bumped a b c d e n f x s g3) (hs : s = y + z) (j : Nat) : g2 j 0 = g3 j 0 ∧ g2 j 1 = g3 j 1 := by
  refine ⟨by rw [h2.rest j 0 (by simp), h1.rest j 0 (by simp), h3.rest j 0 (by simp)], ?_⟩
  by_cases hx : j = x.toNat
  · subst hx
    rw [h2.now1, h1.now1, h3.now1]
    omega
  · rw [h2.rest j 1 (by simp [hx]), h1.rest j 1 (by simp [hx]), h3.rest j 1 (by simp [hx])]
theorem bump_rest {a b c d e : Int} {n : Nat} {f g : RF} {x y : Int} (h : Bumped a b c d e n f x y g) {k : Nat} (hk : ¬ (k : Int) = x) (h0 : 0 ≤ x) : eqL [g k 0, g k 1] [f k 0, f k 1] := by
  refine ⟨h.rest k 0 (by simp), h.rest k 1 (by omega)⟩
def con39Ga : Con := fun vs bs K => match vs with
  | [u, v, .int .i64 x, .int .i64 y] => five u fun a b c d e => parseR [.i64, .i64] 0 v bs fun n f j bs => bs = [] ∧ (askF a b c d e n f x = 0 ∧ 1 ≤ y ∧ ¬ f x.toNat 0 = 0 ∧ y ≤ a - f x.toNat 1) ∧ ∀ g, Bumped a b c d e n f x y g → ∀ cp, n ≤ cp → K (.tuple ⟨[rsl j 0 n cp, .int .i64 (1 + c + x * a + f x.toNat 1), .int .i64 0]⟩) [.row false [.i64, .i64] 54 n cp g]
  | _ => False
theorem con39Ga_told : Told 39 (specOf con39Ga) := con39G_told.mono fun vs bs K x => by
  unfold con39Ga at x
  unfold con39G
  split at x
  · refine five_mono (fun a b c d e => parseR_mono fun n f j bs y => ?_) x
    obtain ⟨y1, y2, y4⟩ := y
    exact ⟨y1, y2, fun cp hcp => y4 _ (bumped y2.1 y2.2.1 y2.2.2.1 y2.2.2.2) cp hcp⟩
  · exact x.elim
def con39V : Con := fun vs bs K => match vs with
  | [u, v, .int .i64 x, .int .i64 y] => five u fun a b c d e => parseR [.i64, .i64] 0 v bs fun n f j bs => bs = [] ∧ (askF a b c d e n f x = 0 ∧ 1 ≤ y ∧ ¬ f x.toNat 0 = 0) ∧ (a - f x.toNat 1 < y → K (.tuple ⟨[.slice none 0 0, .int .i64 0, .int .i64 5]⟩) []) ∧ (y ≤ a - f x.toNat 1 → ∀ g, Bumped a b c d e n f x y g → ∀ cp, n ≤ cp → K (.tuple ⟨[rsl j 0 n cp, .int .i64 (1 + c + x * a + f x.toNat 1), .int .i64 0]⟩) [.row false [.i64, .i64] 54 n cp g])
  | _ => False
theorem con39V_told : Told 39 (specOf con39V) := Told.or con39F_told con39Ga_told fun vs bs K hx => by
  unfold con39V at hx
  split at hx
  · rename_i u v x y
    obtain ⟨a, b, c, d, e, rfl, hI, hx⟩ := five_inv hx
    obtain ⟨e1, n, c1, f, bs', rfl, hn, rfl, y1, y2, y3, y4⟩ := parseR_inv hx
    by_cases h : a - f x.toNat 1 < y
    · exact .inl ⟨hI, rfl, hn, ⟨rfl, rfl, rfl⟩, y1, ⟨y2.1, y2.2.1, y2.2.2, h⟩, y3 h⟩
    · exact .inr ⟨hI, rfl, hn, ⟨rfl, rfl, rfl⟩, y1, ⟨y2.1, y2.2.1, y2.2.2, by omega⟩, y4 (by omega)⟩
  · exact hx.elim
theorem wrap_u8 {x : Int} (h : 0 ≤ x ∧ x ≤ 255) : IntKind.i64.wrap x = x := by
  rw [Ev.wrap_i64]
  omega
@[reducible] def X8B : List (Nat × Rx.Spec) := [(18, sp18), (31, specOf con31B)]
theorem X8B_told : ∀ p ∈ X8B, Told p.1 p.2 := by
  intro p hp
  simp only [List.mem_cons, List.not_mem_nil, or_false] at hp
  rcases hp with rfl | rfl
  · exact told18
  · exact con31B_told
@[reducible] def X8D : List (Nat × Rx.Spec) := [(18, sp18), (31, specOf con31D)]
theorem X8D_told : ∀ p ∈ X8D, Told p.1 p.2 := by
  intro p hp
  simp only [List.mem_cons, List.not_mem_nil, or_false] at hp
  rcases hp with rfl | rfl
  · exact told18
  · exact con31D_told
@[reducible] def X8F : List (Nat × Rx.Spec) := [(18, sp18), (31, specOf con31G), (39, specOf con39F)]
theorem X8F_told : ∀ p ∈ X8F, Told p.1 p.2 := by
  intro p hp
  simp only [List.mem_cons, List.not_mem_nil, or_false] at hp
  rcases hp with rfl | rfl | rfl
  · exact told18
  · exact con31G_told
  · exact con39F_told
@[reducible] def X8G : List (Nat × Rx.Spec) := [(18, sp18), (31, specOf con31G), (33, specOf con33G), (23, specOf conSameT), (39, specOf con39Ga)]
theorem X8G_told : ∀ p ∈ X8G, Told p.1 p.2 := by
  intro p hp
  simp only [List.mem_cons, List.not_mem_nil, or_false] at hp
  rcases hp with rfl | rfl | rfl | rfl | rfl
  · exact told18
  · exact con31G_told
  · exact con33G_told
  · exact conSameT_told
  · exact con39Ga_told
@[reducible] def X8H : List (Nat × Rx.Spec) := [(18, sp18), (31, specOf con31G), (33, specOf con33G), (23, specOf conSameT), (39, specRo con39V con39F)]
theorem X8H_told : ∀ p ∈ X8H, Told p.1 p.2 := by
  intro p hp
  simp only [List.mem_cons, List.not_mem_nil, or_false] at hp
  rcases hp with rfl | rfl | rfl | rfl | rfl
  · exact told18
  · exact con31G_told
  · exact con33G_told
  · exact conSameT_told
  · exact told_ro con39V_told con39F_told
end Go.Proofs.Ytkflmglpniebfaa.Fr
