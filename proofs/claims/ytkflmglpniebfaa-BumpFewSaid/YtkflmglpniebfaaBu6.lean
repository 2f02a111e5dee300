/-
  Bump: sound. No project text.
-/
import Derived.Test.YtkflmglpniebfaaBu5b
import Derived.Test.YtkflmglpniebfaaFr3
namespace Go.Proofs.Ytkflmglpniebfaa.Fr
open Go.Rx
open Go.RowKit (Below)
set_option linter.unusedVariables false
theorem look_allT : ∀ p ∈ T, Ev.mkTI Try.prog p.1 = some p.2 := by
  intro p hp
  simp only [T, List.mem_cons, List.not_mem_nil, or_false] at hp
  rcases hp with rfl | rfl | rfl | rfl | rfl | rfl | rfl | rfl | rfl | rfl <;> kernel_rfl
theorem look_allF : ∀ p ∈ F, Try.prog.funcs[p.1]? = some p.2 ∧ (p.2.name == "runtime.NumGoroutine") = false := by
  intro p hp
  simp only [F, List.mem_cons, List.not_mem_nil, or_false] at hp
  rcases hp with rfl | rfl | rfl | rfl | rfl | rfl | rfl | rfl | rfl | rfl | rfl | rfl | rfl | rfl | rfl | rfl | rfl | rfl | rfl | rfl | rfl | rfl | rfl | rfl | rfl | rfl | rfl | rfl | rfl | rfl | rfl | rfl | rfl | rfl | rfl | rfl | rfl | rfl | rfl | rfl <;> exact ⟨by kernel_rfl, by kernel_rfl⟩
def TB : List (Nat × Ev.TI) := [(62, ⟨3, 56, true, some [.slice none 0 0, .slice none 0 0, z64], some (.agg ⟨[.slice none 0 0, .slice none 0 0, z64]⟩), .struct, [(0, false, 1), (1, false, 1), (2, false, 1)], 0, 0, false, 1, .other⟩), (96, ⟨6, 64, true, some [z64, z64, z64, z64, z64, .slice none 0 0], some (.agg ⟨[z64, z64, z64, z64, z64, .slice none 0 0]⟩), .struct, [(0, true, 5), (5, false, 1)], 0, 0, false, 1, .other⟩), (98, ⟨1, 24, true, some [.slice none 0 0], some (.agg ⟨[.slice none 0 0]⟩), .struct, [(0, false, 1)], 0, 0, false, 1, .other⟩), (99, ⟨8, 96, true, some [z64, z64, z64, z64, z64, .slice none 0 0, .slice none 0 0, z64], some (.agg ⟨[z64, z64, z64, z64, z64, .slice none 0 0, .slice none 0 0, z64]⟩), .struct, [(0, true, 6), (6, true, 1), (7, false, 1)], 0, 0, false, 1, .other⟩), (100, ⟨8, 96, true, some [z64, z64, z64, z64, z64, .slice none 0 0, .slice none 0 0, z64], some (.agg ⟨[z64, z64, z64, z64, z64, .slice none 0 0, .slice none 0 0, z64]⟩), .struct, [(0, true, 6), (6, true, 1), (7, false, 1)], 0, 0, false, 1, .other⟩), (75, ⟨1, 24, false, some [.slice none 0 0], some (.slice none 0 0), .slice, [], 0, 5, false, 1, .other⟩)]
noncomputable def FB : List (Nat × Func) := [(47, Try.f47), (49, Try.f49), (50, Try.f50), (51, Try.f51), (52, Try.f52), (53, Try.f53), (54, Try.f54), (55, Try.f55), (56, Try.f56), (57, Try.f57), (58, Try.f58), (59, Try.f59), (60, Try.f60), (61, Try.f61), (62, Try.f62), (63, Try.f63), (64, Try.f64), (80, Try.f80), (81, Try.f81), (82, Try.f82), (83, Try.f83), (84, Try.f84), (85, Try.f85), (86, Try.f86), (87, Try.f87), (88, Try.f88), (89, Try.f89), (92, Try.f92), (93, Try.f93), (94, Try.f94), (95, Try.f95), (96, Try.f96), (97, Try.f97), (98, Try.f98)]
noncomputable abbrev mkB (X : List (Nat × Rx.Spec)) : Env := ⟨Try.prog, T ++ TB, F ++ FB, Rx.look X, Q, [4]⟩
theorem mkOkB {X : List (Nat × Rx.Spec)} (h : ∀ p ∈ X, Told p.1 p.2) : EnvOk (mkB X) where
  types := look_all (q := fun ty i => Ev.mkTI Try.prog ty = some i) (by
    intro p hp
    rcases List.mem_append.1 hp with hp | hp
    · exact look_allT p hp
    · simp only [TB, List.mem_cons, List.not_mem_nil, or_false] at hp
      rcases hp with rfl | rfl | rfl | rfl | rfl | rfl <;> kernel_rfl)
  funcs := look_all (q := fun f fn => Try.prog.funcs[f]? = some fn ∧ (fn.name == "runtime.NumGoroutine") = false) (by
    intro p hp
    rcases List.mem_append.1 hp with hp | hp
    · exact look_allF p hp
    · simp only [FB, List.mem_cons, List.not_mem_nil, or_false] at hp
      rcases hp with rfl | rfl | rfl | rfl | rfl | rfl | rfl | rfl | rfl | rfl | rfl | rfl | rfl | rfl | rfl | rfl | rfl | rfl | rfl | rfl | rfl | rfl | rfl | rfl | rfl | rfl | rfl | rfl | rfl | rfl | rfl | rfl | rfl | rfl <;> exact ⟨by kernel_rfl, by kernel_rfl⟩)
  specs := look_all (q := Told) h
  mixed := mixed
  qs := (mkOk (X := X) h).qs
  bo := (mkOk (X := X) h).bo
theorem toldB {X : List (Nat × Rx.Spec)} (hX : ∀ p ∈ X, Told p.1 p.2) {f n : Nat} {fn : Func} (hf : Try.prog.funcs[f]? = some fn) (h1 : fn.body.isSome = true) (h2 : (fn.name == "runtime.NumGoroutine") = false) {c : Con} (hb : BodyOk (mkB X) n fn c) : Told f (specOf c) :=
  ⟨⟨fn, hf, h1, h2⟩, specOf_ok (mkOkB hX) hf hb⟩
theorem bck_one {a b c d e : Int} {n m : Nat} {f g : RF} (h : (bck a b c d e n f m g).2 = 0) (i : Nat) (hi : i < m) : 0 ≤ g i 0 ∧ g i 0 < b ∧ (g i 0).toNat < n ∧ (f (g i 0).toNat 0 = 1 ∨ f (g i 0).toNat 0 = 2) ∧ 0 ≤ f (g i 0).toNat 1 ∧ f (g i 0).toNat 1 ≤ a := by
  obtain ⟨h1, h2, h3, h4⟩ := bck_ok h
  obtain ⟨k1, k2, -, k4⟩ := h4 i hi
  have hn : (g i 0).toNat < n := by omega
  have := h3 _ hn
  unfold fok at this
  omega
theorem ask_of {a b c d e : Int} {n : Nat} {f : RF} {x : Int} (h : (ckF a b c d e n f).2 = 0) (h1 : 0 ≤ x) (h2 : x < b) : askF a b c d e n f x = 0 := by
  unfold askF
  rw [if_pos h, if_neg (by omega)]
def spF : Rx.Spec := fun _ _ _ => False
theorem toldF {f : Nat} {fn : Func} (hf : Try.prog.funcs[f]? = some fn) (h1 : fn.body.isSome = true) (h2 : (fn.name == "runtime.NumGoroutine") = false) : Told f spF := ⟨⟨fn, hf, h1, h2⟩, fun _ _ _ h => h.elim⟩
theorem bck_fst {a b c d e : Int} {n m : Nat} {f g : RF} (h : (bck a b c d e n f m g).2 = 0) : (bck a b c d e n f m g).1 = 0 := by
  have h0 := bck_ck h
  rw [bck_go h0] at h ⊢
  have : ∀ (l k : Nat), (tr b f g l k).2 = 0 → (tr b f g l k).1 = 0 := by
    intro l
    induction l with
    | zero => intro k _; rfl
    | succ l ih =>
      intro k hk
      unfold tr at hk ⊢
      repeat' split at hk
      all_goals first | (cases hk; done) | (rw [if_neg (by assumption), if_neg (by assumption), if_neg (by assumption)]; exact ih _ hk)
  exact this _ _ h
def onCFI (O : Int → Int → Int → Int → Int → Nat → RF → Nat → RF → Nat → Prop → KK → Prop) : Con := fun vs bs K => match vs with
  | [u, vl, vt] => five u fun a b c d e => parse [.i64, .i64] 0 vl bs fun nl fl j0 bs0 => parse [.i64] j0 vt bs0 fun nt ft j1 bs1 => bs1 = [] ∧ O a b c d e nl fl nt ft j1 (capOk vt) K
  | _ => False
theorem onCFI_mono {O O' : Int → Int → Int → Int → Int → Nat → RF → Nat → RF → Nat → Prop → KK → Prop} (h : ∀ a b c d e n f m g j p K, O' a b c d e n f m g j p K → O a b c d e n f m g j p K) : ∀ vs bs K, onCFI O' vs bs K → onCFI O vs bs K := by
  intro vs bs K x
  unfold onCFI at x ⊢
  split at x
  · exact five_mono (fun a b c d e => parse_mono fun n f j bs => parse_mono fun m g j bs y => ⟨y.1, h _ _ _ _ _ _ _ _ _ _ _ _ y.2⟩) x
  · exact x.elim
def con49G : Con := onCFI fun a b c d e n f m g j p K => (p ∧ (bck a b c d e n f m g).2 = 0) ∧ K (.tuple ⟨[.int .i64 0, .int .i64 0]⟩) []
theorem con49G_told : Told 49 (specOf con49G) := con49_told.mono (onCFI_mono (O := fun a b c d e n f m g j p K => p ∧ K (.tuple ⟨[.int .i64 (bck a b c d e n f m g).1, .int .i64 (bck a b c d e n f m g).2]⟩) []) fun a b c d e n f m g j p K h => ⟨h.1.1, (by
  rw [bck_fst h.1.2, h.1.2]
  exact h.2)⟩)
end Go.Proofs.Ytkflmglpniebfaa.Fr
