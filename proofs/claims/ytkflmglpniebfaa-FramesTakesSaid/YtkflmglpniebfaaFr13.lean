/-
  Frames: take, bump, empty: what they call. No project text.
-/
import Derived.Test.YtkflmglpniebfaaFr12
import Derived.Test.YtkflmglpniebfaaFr3x31
import Derived.Test.YtkflmglpniebfaaFr3
namespace Go.Proofs.Ytkflmglpniebfaa.Fr
open Go.Rx
open Go.RowKit (Below)
set_option linter.unusedVariables false
/-- A slice of a row of these kinds. -/
def parseR (ks : List IntKind) (j : Nat) (v : Value) (bs : List Blk) (k : Nat → RF → Nat → List Blk → Prop) : Prop :=
  match v with
  | .slice (some ⟨b, 0, some 0⟩) n c => b = j ∧ n ≤ 100000 ∧ match bs with
    | .row true ks' _ n' c' f :: bs' => (ks' = ks ∧ n' = n ∧ c' = c) ∧ k n f (j + 1) bs'
    | _ => False
  | _ => False
theorem parseR_inv {ks : List IntKind} {j : Nat} {v : Value} {bs : List Blk} {k : Nat → RF → Nat → List Blk → Prop} (h : parseR ks j v bs k) : ∃ e n c f bs', v = rsl j 0 n c ∧ n ≤ 100000 ∧ bs = .row true ks e n c f :: bs' ∧ k n f (j + 1) bs' := by
  unfold parseR at h
  split at h
  · obtain ⟨rfl, hn, h⟩ := h
    split at h
    · obtain ⟨⟨rfl, rfl, rfl⟩, h⟩ := h
      exact ⟨_, _, _, _, _, rfl, hn, rfl, h⟩
    · exact h.elim
  · exact h.elim
theorem parseR_parse {ks : List IntKind} {j : Nat} {v : Value} {bs : List Blk} {k k' : Nat → RF → Nat → List Blk → Prop} (h : ∀ n f j bs, k' n f j bs → k n f j bs) (x : parseR ks j v bs k') : parse ks j v bs k := by
  obtain ⟨e, n, c, f, bs', rfl, hn, rfl, h'⟩ := parseR_inv x
  exact ⟨rfl, hn, ⟨rfl, rfl, rfl⟩, h _ _ _ _ h'⟩
theorem sel0_mem {f : RF} {x : Int} {n : Nat} (h : ¬ sel (selE f x) n = []) : ∃ i, i < n ∧ lF (sel (selE f x) n) 0 0 = (i : Int) ∧ f i 0 = x := by
  obtain ⟨i, h1, h2, h3⟩ := sel_mem (p := selE f x) (n := n) (k := 0) (List.length_pos_iff.2 h)
  exact ⟨i, h1, h2, of_decide_eq_true h3⟩
theorem bumpy {a b c d e : Int} {n : Nat} {f : RF} {x : Int} (h : askF a b c d e n f x = 0) : (ckF a b c d e n f).2 = 0 ∧ good a b c d e ∧ (n : Int) = b ∧ 0 ≤ x ∧ x < b ∧ x.toNat < n ∧ (∀ i, i < n → fok a f i) ∧ fok a f x.toNat := by
  unfold askF at h
  split at h
  · rename_i h0
    have g := ckF_zero h0
    split at h
    · cases h
    · exact ⟨h0, g.1, g.2.1, by omega, by omega, by omega, g.2.2, g.2.2 _ (by omega)⟩
  · exact absurd h (by assumption)
/-- Cars in a state, which are named one by one; are there free ones, popular ones? -/
def con68S (z t : Bool) : Con := fun vs bs K => match vs with
  | [u, v] => parseR [.i64, .i64] 0 u bs fun n f j bs => parseR [.i64] j v bs fun m g j2 bs => (bs = [] ∧ m = 1) ∧ match g 0 0 with
    | .ofNat 0 => bif z then sel (selE f 0) n = [] ∧ K (.slice none 0 0) [] else ¬ sel (selE f 0) n = [] ∧ ∀ cp, List.length (sel (selE f 0) n) ≤ cp → K (rsl j2 0 (List.length (sel (selE f 0) n)) cp) [.row false [.i64] 3 (List.length (sel (selE f 0) n)) cp (lF (sel (selE f 0) n))]
    | .ofNat 2 => bif t then sel (selE f 2) n = [] ∧ K (.slice none 0 0) [] else ¬ sel (selE f 2) n = [] ∧ ∀ cp, List.length (sel (selE f 2) n) ≤ cp → K (rsl j2 0 (List.length (sel (selE f 2) n)) cp) [.row false [.i64] 3 (List.length (sel (selE f 2) n)) cp (lF (sel (selE f 2) n))]
    | _ => False
  | _ => False
theorem con68S_told (z t : Bool) : Told 68 (specOf (con68S z t)) := con68_told.mono fun vs bs K x => by
  unfold con68S at x
  unfold con68
  split at x
  · refine parseR_parse (fun n f j bs y => parseR_parse (fun m g j2 bs y => ?_) y) x
    obtain ⟨⟨h1, rfl⟩, y⟩ := y
    refine ⟨h1, ?_⟩
    split at y
    · rename_i h0
      have e1 : sel (selB 1 g f) n = sel (selE f 0) n := congrArg (fun p => sel p n) (selB_one h0)
      rw [e1]
      cases z with
      | true => exact ⟨fun _ => y.2, fun q => absurd y.1 q⟩
      | false => exact ⟨fun q => absurd q y.1, fun _ => y.2⟩
    · rename_i h0
      have e1 : sel (selB 1 g f) n = sel (selE f 2) n := congrArg (fun p => sel p n) (selB_one h0)
      rw [e1]
      cases t with
      | true => exact ⟨fun _ => y.2, fun q => absurd y.1 q⟩
      | false => exact ⟨fun q => absurd q y.1, fun _ => y.2⟩
    · exact y.elim
  · exact x.elim
@[reducible] def X37EF : List (Nat × Rx.Spec) := [(21, specOf con21), (68, specOf (con68S true false))]
theorem X37EF_told : ∀ p ∈ X37EF, Told p.1 p.2 := by
  intro p hp
  simp only [List.mem_cons, List.not_mem_nil, or_false] at hp
  rcases hp with rfl | rfl
  · exact con21_told
  · exact con68S_told true false
@[reducible] def X37ET : List (Nat × Rx.Spec) := [(21, specOf con21), (68, specOf (con68S true false))]
theorem X37ET_told : ∀ p ∈ X37ET, Told p.1 p.2 := by
  intro p hp
  simp only [List.mem_cons, List.not_mem_nil, or_false] at hp
  rcases hp with rfl | rfl
  · exact con21_told
  · exact con68S_told true false
@[reducible] def X37GF : List (Nat × Rx.Spec) := [(21, specOf con21), (68, specOf (con68S false false))]
theorem X37GF_told : ∀ p ∈ X37GF, Told p.1 p.2 := by
  intro p hp
  simp only [List.mem_cons, List.not_mem_nil, or_false] at hp
  rcases hp with rfl | rfl
  · exact con21_told
  · exact con68S_told false false
@[reducible] def X37FT : List (Nat × Rx.Spec) := [(21, specOf con21), (68, specOf (con68S false false))]
theorem X37FT_told : ∀ p ∈ X37FT, Told p.1 p.2 := by
  intro p hp
  simp only [List.mem_cons, List.not_mem_nil, or_false] at hp
  rcases hp with rfl | rfl
  · exact con21_told
  · exact con68S_told false false
@[reducible] def X37GT : List (Nat × Rx.Spec) := [(21, specOf con21), (68, specOf (con68S false false))]
theorem X37GT_told : ∀ p ∈ X37GT, Told p.1 p.2 := by
  intro p hp
  simp only [List.mem_cons, List.not_mem_nil, or_false] at hp
  rcases hp with rfl | rfl
  · exact con21_told
  · exact con68S_told false false
@[reducible] def X37HT : List (Nat × Rx.Spec) := [(21, specOf con21), (68, specOf (con68S false true))]
theorem X37HT_told : ∀ p ∈ X37HT, Told p.1 p.2 := by
  intro p hp
  simp only [List.mem_cons, List.not_mem_nil, or_false] at hp
  rcases hp with rfl | rfl
  · exact con21_told
  · exact con68S_told false true
end Go.Proofs.Ytkflmglpniebfaa.Fr
