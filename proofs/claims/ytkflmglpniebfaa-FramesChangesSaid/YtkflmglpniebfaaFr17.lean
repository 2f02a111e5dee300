/-
  FramesChanges: what it calls. No project text.
-/
import Derived.Test.YtkflmglpniebfaaFr15
import Derived.Test.YtkflmglpniebfaaFr13x37
import Derived.Test.YtkflmglpniebfaaFr13x38
import Derived.Test.YtkflmglpniebfaaFr14x39
import Derived.Test.YtkflmglpniebfaaFr14x40
import Derived.Test.YtkflmglpniebfaaFr14x41
import Derived.Test.YtkflmglpniebfaaFr14x42
namespace Go.Proofs.Ytkflmglpniebfaa.Fr
open Go.Rx
open Go.RowKit (Below)
set_option linter.unusedVariables false
def con37o0 : Con := con37EF
theorem con37o0_told : Told 37 (specOf con37o0) := con37EF_told
def con37o1 : Con := fun vs bs K => con37o0 vs bs K ∨ con37GF vs bs K
theorem con37o1_told : Told 37 (specOf con37o1) := Told.or con37o0_told con37GF_told fun _ _ _ x => x
def con37o2 : Con := fun vs bs K => con37o1 vs bs K ∨ con37ET vs bs K
theorem con37o2_told : Told 37 (specOf con37o2) := Told.or con37o1_told con37ET_told fun _ _ _ x => x
def con37o3 : Con := fun vs bs K => con37o2 vs bs K ∨ con37FT vs bs K
theorem con37o3_told : Told 37 (specOf con37o3) := Told.or con37o2_told con37FT_told fun _ _ _ x => x
def con37o4 : Con := fun vs bs K => con37o3 vs bs K ∨ con37GT vs bs K
theorem con37o4_told : Told 37 (specOf con37o4) := Told.or con37o3_told con37GT_told fun _ _ _ x => x
def con37o5 : Con := fun vs bs K => con37o4 vs bs K ∨ con37HT vs bs K
theorem con37o5_told : Told 37 (specOf con37o5) := Told.or con37o4_told con37HT_told fun _ _ _ x => x
def con37W : Con := fun vs bs K => match vs with
  | [u, v, .bool false] => five u fun a b c d e => parseR [.i64, .i64] 0 v bs fun n f j bs => bs = [] ∧ (ckF a b c d e n f).2 = 0 ∧ (fullP n f false → K (.tuple ⟨[.slice none 0 0, .int .i64 0, .int .i64 5]⟩) []) ∧ (¬ fullP n f false → ∀ cp, n ≤ cp → K (.tuple ⟨[rsl j 0 n cp, .int .i64 (lF (sel (selE f 0) n) 0 0), .int .i64 0]⟩) [.row false [.i64, .i64] 54 n cp (putE f (lF (sel (selE f 0) n) 0 0).toNat [1, 0])])
  | [u, v, .bool true] => five u fun a b c d e => parseR [.i64, .i64] 0 v bs fun n f j bs => bs = [] ∧ (ckF a b c d e n f).2 = 0 ∧ (fullP n f true → K (.tuple ⟨[.slice none 0 0, .int .i64 0, .int .i64 5]⟩) []) ∧ (¬ fullP n f true → ∀ cp, n ≤ cp → K (.tuple ⟨[rsl j 0 n cp, .int .i64 (lF (sel (selE f 0) n) 0 0), .int .i64 0]⟩) [.row false [.i64, .i64] 54 n cp (putE f (lF (sel (selE f 0) n) 0 0).toNat [2, 0])])
  | _ => False
theorem con37W_told : Told 37 (specOf con37W) := con37o5_told.mono fun vs bs K x => by
  unfold con37W at x
  split at x
  · obtain ⟨a, b, c, d, e, rfl, hI, x⟩ := five_inv x
    obtain ⟨e1, n, c1, f, bs', rfl, hn, rfl, y1, y2, y3, y4⟩ := parseR_inv x
    by_cases h0 : sel (selE f 0) n = []
    · exact .inl (.inl (.inl (.inl (.inl (⟨hI, rfl, hn, ⟨rfl, rfl, rfl⟩, y1, ⟨y2, h0⟩, y3 (.inl h0)⟩)))))
    · exact .inl (.inl (.inl (.inl (.inr (⟨hI, rfl, hn, ⟨rfl, rfl, rfl⟩, y1, ⟨y2, h0⟩, y4 (fun q => q.elim h0 fun q => by cases q.1)⟩)))))
  · obtain ⟨a, b, c, d, e, rfl, hI, x⟩ := five_inv x
    obtain ⟨e1, n, c1, f, bs', rfl, hn, rfl, y1, y2, y3, y4⟩ := parseR_inv x
    by_cases h0 : sel (selE f 0) n = []
    · exact .inl (.inl (.inl (.inr (⟨hI, rfl, hn, ⟨rfl, rfl, rfl⟩, y1, ⟨y2, h0⟩, y3 (.inl h0)⟩))))
    · by_cases h2 : sel (selE f 2) n = []
      · exact .inr (⟨hI, rfl, hn, ⟨rfl, rfl, rfl⟩, y1, ⟨y2, h0, h2⟩, y4 (fun q => q.elim h0 fun q => by have := q.2; rw [h2] at this; simp at this)⟩)
      · by_cases h3 : List.length (sel (selE f 2) n) = 2
        · exact .inl (.inl (.inr (⟨hI, rfl, hn, ⟨rfl, rfl, rfl⟩, y1, ⟨y2, h0, h2, h3⟩, y3 (.inr ⟨rfl, h3⟩)⟩)))
        · exact .inl (.inr (⟨hI, rfl, hn, ⟨rfl, rfl, rfl⟩, y1, ⟨y2, h0, h2, h3⟩, y4 (fun q => q.elim h0 fun q => h3 q.2)⟩))
  · exact x.elim
def con37BB : Con := fun vs bs K => con37BF vs bs K ∨ con37BT vs bs K
theorem con37BB_told : Told 37 (specOf con37BB) := Told.or con37BF_told con37BT_told fun _ _ _ x => x
def con37Bm : Con := fun vs bs K => match vs with
  | [u, v, .bool false] => con37BF [u, v, .bool false] bs K
  | [u, v, .bool true] => con37BT [u, v, .bool true] bs K
  | _ => False
theorem con37Bm_told : Told 37 (specOf con37Bm) := con37BB_told.mono fun vs bs K x => by
  unfold con37Bm at x
  split at x
  · exact .inl x
  · exact .inr x
  · exact x.elim
def con38o0 : Con := con38EF
theorem con38o0_told : Told 38 (specOf con38o0) := con38EF_told
def con38o1 : Con := fun vs bs K => con38o0 vs bs K ∨ con38GF vs bs K
theorem con38o1_told : Told 38 (specOf con38o1) := Told.or con38o0_told con38GF_told fun _ _ _ x => x
def con38o2 : Con := fun vs bs K => con38o1 vs bs K ∨ con38ET vs bs K
theorem con38o2_told : Told 38 (specOf con38o2) := Told.or con38o1_told con38ET_told fun _ _ _ x => x
def con38o3 : Con := fun vs bs K => con38o2 vs bs K ∨ con38FT vs bs K
theorem con38o3_told : Told 38 (specOf con38o3) := Told.or con38o2_told con38FT_told fun _ _ _ x => x
def con38o4 : Con := fun vs bs K => con38o3 vs bs K ∨ con38GT vs bs K
theorem con38o4_told : Told 38 (specOf con38o4) := Told.or con38o3_told con38GT_told fun _ _ _ x => x
def con38o5 : Con := fun vs bs K => con38o4 vs bs K ∨ con38HT vs bs K
theorem con38o5_told : Told 38 (specOf con38o5) := Told.or con38o4_told con38HT_told fun _ _ _ x => x
def con38W : Con := fun vs bs K => match vs with
  | [u, v, .bool false] => five u fun a b c d e => parseR [.i64, .i64] 0 v bs fun n f j bs => bs = [] ∧ (ckF a b c d e n f).2 = 0 ∧ (fullP n f false → K (.tuple ⟨[.slice none 0 0, .int .i64 0, .int .i64 5]⟩) []) ∧ (¬ fullP n f false → ∀ cp, n ≤ cp → K (.tuple ⟨[rsl j 0 n cp, .int .i64 (lF (sel (selE f 0) n) 0 0), .int .i64 0]⟩) [.row false [.i64, .i64] 54 n cp (putE f (lF (sel (selE f 0) n) 0 0).toNat [1, 0])])
  | [u, v, .bool true] => five u fun a b c d e => parseR [.i64, .i64] 0 v bs fun n f j bs => bs = [] ∧ (ckF a b c d e n f).2 = 0 ∧ (fullP n f true → K (.tuple ⟨[.slice none 0 0, .int .i64 0, .int .i64 5]⟩) []) ∧ (¬ fullP n f true → ∀ cp, n ≤ cp → K (.tuple ⟨[rsl j 0 n cp, .int .i64 (lF (sel (selE f 0) n) 0 0), .int .i64 0]⟩) [.row false [.i64, .i64] 54 n cp (putE f (lF (sel (selE f 0) n) 0 0).toNat [2, 0])])
  | _ => False
theorem con38W_told : Told 38 (specOf con38W) := con38o5_told.mono fun vs bs K x => by
  unfold con38W at x
  split at x
  · obtain ⟨a, b, c, d, e, rfl, hI, x⟩ := five_inv x
    obtain ⟨e1, n, c1, f, bs', rfl, hn, rfl, y1, y2, y3, y4⟩ := parseR_inv x
    by_cases h0 : sel (selE f 0) n = []
    · exact .inl (.inl (.inl (.inl (.inl (⟨hI, rfl, hn, ⟨rfl, rfl, rfl⟩, y1, ⟨y2, h0⟩, y3 (.inl h0)⟩)))))
    · exact .inl (.inl (.inl (.inl (.inr (⟨hI, rfl, hn, ⟨rfl, rfl, rfl⟩, y1, ⟨y2, h0⟩, y4 (fun q => q.elim h0 fun q => by cases q.1)⟩)))))
  · obtain ⟨a, b, c, d, e, rfl, hI, x⟩ := five_inv x
    obtain ⟨e1, n, c1, f, bs', rfl, hn, rfl, y1, y2, y3, y4⟩ := parseR_inv x
    by_cases h0 : sel (selE f 0) n = []
    · exact .inl (.inl (.inl (.inr (⟨hI, rfl, hn, ⟨rfl, rfl, rfl⟩, y1, ⟨y2, h0⟩, y3 (.inl h0)⟩))))
    · by_cases h2 : sel (selE f 2) n = []
      · exact .inr (⟨hI, rfl, hn, ⟨rfl, rfl, rfl⟩, y1, ⟨y2, h0, h2⟩, y4 (fun q => q.elim h0 fun q => by have := q.2; rw [h2] at this; simp at this)⟩)
      · by_cases h3 : List.length (sel (selE f 2) n) = 2
        · exact .inl (.inl (.inr (⟨hI, rfl, hn, ⟨rfl, rfl, rfl⟩, y1, ⟨y2, h0, h2, h3⟩, y3 (.inr ⟨rfl, h3⟩)⟩)))
        · exact .inl (.inr (⟨hI, rfl, hn, ⟨rfl, rfl, rfl⟩, y1, ⟨y2, h0, h2, h3⟩, y4 (fun q => q.elim h0 fun q => h3 q.2)⟩))
  · exact x.elim
def con38BB : Con := fun vs bs K => con38BF vs bs K ∨ con38BT vs bs K
theorem con38BB_told : Told 38 (specOf con38BB) := Told.or con38BF_told con38BT_told fun _ _ _ x => x
def con38Bm : Con := fun vs bs K => match vs with
  | [u, v, .bool false] => con38BF [u, v, .bool false] bs K
  | [u, v, .bool true] => con38BT [u, v, .bool true] bs K
  | _ => False
theorem con38Bm_told : Told 38 (specOf con38Bm) := con38BB_told.mono fun vs bs K x => by
  unfold con38Bm at x
  split at x
  · exact .inl x
  · exact .inr x
  · exact x.elim
def bumpE (a b c d e : Int) (n : Nat) (f : RF) (x y : Int) : Int := if askF a b c d e n f x = 0 then (if y < 1 then 7 else if f x.toNat 0 = 0 then 9 else if a - f x.toNat 1 < y then 5 else 0) else askF a b c d e n f x
def emptyE (a b c d e : Int) (n : Nat) (f : RF) (x : Int) : Int := if askF a b c d e n f x = 0 then (if f x.toNat 0 = 0 then 9 else 0) else askF a b c d e n f x
def con39e0 : Con := con39B
theorem con39e0_told : Told 39 (specOf con39e0) := con39B_told
def con39e1 : Con := fun vs bs K => con39e0 vs bs K ∨ con39Y vs bs K
theorem con39e1_told : Told 39 (specOf con39e1) := Told.or con39e0_told con39Y_told fun _ _ _ x => x
def con39e2 : Con := fun vs bs K => con39e1 vs bs K ∨ con39D vs bs K
theorem con39e2_told : Told 39 (specOf con39e2) := Told.or con39e1_told con39D_told fun _ _ _ x => x
def con39e3 : Con := fun vs bs K => con39e2 vs bs K ∨ con39F vs bs K
theorem con39e3_told : Told 39 (specOf con39e3) := Told.or con39e2_told con39F_told fun _ _ _ x => x
def con39e4 : Con := fun vs bs K => con39e3 vs bs K ∨ con39G vs bs K
theorem con39e4_told : Told 39 (specOf con39e4) := Told.or con39e3_told con39G_told fun _ _ _ x => x
def con39E : Con := fun vs bs K => match vs with
  | [u, v, .int .i64 x, .int .i64 y] => five u fun a b c d e => parseR [.i64, .i64] 0 v bs fun n f j bs => bs = [] ∧ (¬ bumpE a b c d e n f x y = 0 → K (.tuple ⟨[.slice none 0 0, .int .i64 0, .int .i64 (bumpE a b c d e n f x y)]⟩) []) ∧ (bumpE a b c d e n f x y = 0 → ∀ cp, n ≤ cp → K (.tuple ⟨[rsl j 0 n cp, .int .i64 (1 + c + x * a + f x.toNat 1), .int .i64 0]⟩) [.row false [.i64, .i64] 54 n cp (putF f x.toNat 1 (f x.toNat 1 + y))])
  | _ => False
theorem con39E_told : Told 39 (specOf con39E) := con39e4_told.mono fun vs bs K hx => by
  unfold con39E at hx
  split at hx
  · rename_i u v x y
    obtain ⟨a, b, c, d, e, rfl, hI, hx⟩ := five_inv hx
    obtain ⟨e1, n, c1, f, bs', rfl, hn, rfl, y1, y2, y3⟩ := parseR_inv hx
    unfold bumpE at y2 y3
    by_cases h1 : askF a b c d e n f x = 0
    · rw [if_pos h1] at y2 y3
      by_cases h2 : y < 1
      · rw [if_pos h2] at y2 y3
        exact .inl (.inl (.inl (.inr (⟨hI, rfl, hn, ⟨rfl, rfl, rfl⟩, y1, ⟨h1, h2⟩, y2 (by decide)⟩))))
      · rw [if_neg h2] at y2 y3
        by_cases h3 : f x.toNat 0 = 0
        · rw [if_pos h3] at y2 y3
          exact .inl (.inl (.inr (⟨hI, rfl, hn, ⟨rfl, rfl, rfl⟩, y1, ⟨h1, by omega, h3⟩, y2 (by decide)⟩)))
        · rw [if_neg h3] at y2 y3
          by_cases h4 : a - f x.toNat 1 < y
          · rw [if_pos h4] at y2 y3
            exact .inl (.inr (⟨hI, rfl, hn, ⟨rfl, rfl, rfl⟩, y1, ⟨h1, by omega, h3, h4⟩, y2 (by decide)⟩))
          · rw [if_neg h4] at y2 y3
            exact .inr (⟨hI, rfl, hn, ⟨rfl, rfl, rfl⟩, y1, ⟨h1, by omega, h3, by omega⟩, y3 rfl⟩)
    · rw [if_neg h1] at y2
      exact .inl (.inl (.inl (.inl (⟨hI, ⟨rfl, hn, ⟨rfl, rfl, rfl⟩, y1, h1, y2 h1⟩⟩))))
  · exact hx.elim
def con40e0 : Con := con40B
theorem con40e0_told : Told 40 (specOf con40e0) := con40B_told
def con40e1 : Con := fun vs bs K => con40e0 vs bs K ∨ con40Y vs bs K
theorem con40e1_told : Told 40 (specOf con40e1) := Told.or con40e0_told con40Y_told fun _ _ _ x => x
def con40e2 : Con := fun vs bs K => con40e1 vs bs K ∨ con40D vs bs K
theorem con40e2_told : Told 40 (specOf con40e2) := Told.or con40e1_told con40D_told fun _ _ _ x => x
def con40e3 : Con := fun vs bs K => con40e2 vs bs K ∨ con40F vs bs K
theorem con40e3_told : Told 40 (specOf con40e3) := Told.or con40e2_told con40F_told fun _ _ _ x => x
def con40e4 : Con := fun vs bs K => con40e3 vs bs K ∨ con40G vs bs K
theorem con40e4_told : Told 40 (specOf con40e4) := Told.or con40e3_told con40G_told fun _ _ _ x => x
def con40E : Con := fun vs bs K => match vs with
  | [u, v, .int .i64 x, .int .i64 y] => five u fun a b c d e => parseR [.i64, .i64] 0 v bs fun n f j bs => bs = [] ∧ (¬ bumpE a b c d e n f x y = 0 → K (.tuple ⟨[.slice none 0 0, .int .i64 0, .int .i64 (bumpE a b c d e n f x y)]⟩) []) ∧ (bumpE a b c d e n f x y = 0 → ∀ cp, n ≤ cp → K (.tuple ⟨[rsl j 0 n cp, .int .i64 (1 + c + x * a + f x.toNat 1), .int .i64 0]⟩) [.row false [.i64, .i64] 54 n cp (putF f x.toNat 1 (f x.toNat 1 + y))])
  | _ => False
theorem con40E_told : Told 40 (specOf con40E) := con40e4_told.mono fun vs bs K hx => by
  unfold con40E at hx
  split at hx
  · rename_i u v x y
    obtain ⟨a, b, c, d, e, rfl, hI, hx⟩ := five_inv hx
    obtain ⟨e1, n, c1, f, bs', rfl, hn, rfl, y1, y2, y3⟩ := parseR_inv hx
    unfold bumpE at y2 y3
    by_cases h1 : askF a b c d e n f x = 0
    · rw [if_pos h1] at y2 y3
      by_cases h2 : y < 1
      · rw [if_pos h2] at y2 y3
        exact .inl (.inl (.inl (.inr (⟨hI, rfl, hn, ⟨rfl, rfl, rfl⟩, y1, ⟨h1, h2⟩, y2 (by decide)⟩))))
      · rw [if_neg h2] at y2 y3
        by_cases h3 : f x.toNat 0 = 0
        · rw [if_pos h3] at y2 y3
          exact .inl (.inl (.inr (⟨hI, rfl, hn, ⟨rfl, rfl, rfl⟩, y1, ⟨h1, by omega, h3⟩, y2 (by decide)⟩)))
        · rw [if_neg h3] at y2 y3
          by_cases h4 : a - f x.toNat 1 < y
          · rw [if_pos h4] at y2 y3
            exact .inl (.inr (⟨hI, rfl, hn, ⟨rfl, rfl, rfl⟩, y1, ⟨h1, by omega, h3, h4⟩, y2 (by decide)⟩))
          · rw [if_neg h4] at y2 y3
            exact .inr (⟨hI, rfl, hn, ⟨rfl, rfl, rfl⟩, y1, ⟨h1, by omega, h3, by omega⟩, y3 rfl⟩)
    · rw [if_neg h1] at y2
      exact .inl (.inl (.inl (.inl (⟨hI, ⟨rfl, hn, ⟨rfl, rfl, rfl⟩, y1, h1, y2 h1⟩⟩))))
  · exact hx.elim
def con41e0 : Con := con41B
theorem con41e0_told : Told 41 (specOf con41e0) := con41B_told
def con41e1 : Con := fun vs bs K => con41e0 vs bs K ∨ con41D vs bs K
theorem con41e1_told : Told 41 (specOf con41e1) := Told.or con41e0_told con41D_told fun _ _ _ x => x
def con41e2 : Con := fun vs bs K => con41e1 vs bs K ∨ con41G vs bs K
theorem con41e2_told : Told 41 (specOf con41e2) := Told.or con41e1_told con41G_told fun _ _ _ x => x
def con41E : Con := fun vs bs K => match vs with
  | [u, v, .int .i64 x] => five u fun a b c d e => parseR [.i64, .i64] 0 v bs fun n f j bs => bs = [] ∧ (¬ emptyE a b c d e n f x = 0 → K (.tuple ⟨[.slice none 0 0, .int .i64 (emptyE a b c d e n f x)]⟩) []) ∧ (emptyE a b c d e n f x = 0 → ∀ cp, n ≤ cp → K (.tuple ⟨[rsl j 0 n cp, .int .i64 0]⟩) [.row false [.i64, .i64] 54 n cp (putE f x.toNat [0, 0])])
  | _ => False
theorem con41E_told : Told 41 (specOf con41E) := con41e2_told.mono fun vs bs K hx => by
  unfold con41E at hx
  split at hx
  · rename_i u v x
    obtain ⟨a, b, c, d, e, rfl, hI, hx⟩ := five_inv hx
    obtain ⟨e1, n, c1, f, bs', rfl, hn, rfl, y1, y2, y3⟩ := parseR_inv hx
    unfold emptyE at y2 y3
    by_cases h1 : askF a b c d e n f x = 0
    · rw [if_pos h1] at y2 y3
      by_cases h3 : f x.toNat 0 = 0
      · rw [if_pos h3] at y2 y3
        exact .inl (.inr (⟨hI, rfl, hn, ⟨rfl, rfl, rfl⟩, y1, ⟨h1, h3⟩, y2 (by decide)⟩))
      · rw [if_neg h3] at y2 y3
        exact .inr (⟨hI, rfl, hn, ⟨rfl, rfl, rfl⟩, y1, ⟨h1, h3⟩, y3 rfl⟩)
    · rw [if_neg h1] at y2
      exact .inl (.inl (⟨hI, rfl, hn, ⟨rfl, rfl, rfl⟩, y1, h1, y2 h1⟩))
  · exact hx.elim
def con42e0 : Con := con42B
theorem con42e0_told : Told 42 (specOf con42e0) := con42B_told
def con42e1 : Con := fun vs bs K => con42e0 vs bs K ∨ con42D vs bs K
theorem con42e1_told : Told 42 (specOf con42e1) := Told.or con42e0_told con42D_told fun _ _ _ x => x
def con42e2 : Con := fun vs bs K => con42e1 vs bs K ∨ con42G vs bs K
theorem con42e2_told : Told 42 (specOf con42e2) := Told.or con42e1_told con42G_told fun _ _ _ x => x
def con42E : Con := fun vs bs K => match vs with
  | [u, v, .int .i64 x] => five u fun a b c d e => parseR [.i64, .i64] 0 v bs fun n f j bs => bs = [] ∧ (¬ emptyE a b c d e n f x = 0 → K (.tuple ⟨[.slice none 0 0, .int .i64 (emptyE a b c d e n f x)]⟩) []) ∧ (emptyE a b c d e n f x = 0 → ∀ cp, n ≤ cp → K (.tuple ⟨[rsl j 0 n cp, .int .i64 0]⟩) [.row false [.i64, .i64] 54 n cp (putE f x.toNat [0, 0])])
  | _ => False
theorem con42E_told : Told 42 (specOf con42E) := con42e2_told.mono fun vs bs K hx => by
  unfold con42E at hx
  split at hx
  · rename_i u v x
    obtain ⟨a, b, c, d, e, rfl, hI, hx⟩ := five_inv hx
    obtain ⟨e1, n, c1, f, bs', rfl, hn, rfl, y1, y2, y3⟩ := parseR_inv hx
    unfold emptyE at y2 y3
    by_cases h1 : askF a b c d e n f x = 0
    · rw [if_pos h1] at y2 y3
      by_cases h3 : f x.toNat 0 = 0
      · rw [if_pos h3] at y2 y3
        exact .inl (.inr (⟨hI, rfl, hn, ⟨rfl, rfl, rfl⟩, y1, ⟨h1, h3⟩, y2 (by decide)⟩))
      · rw [if_neg h3] at y2 y3
        exact .inr (⟨hI, rfl, hn, ⟨rfl, rfl, rfl⟩, y1, ⟨h1, h3⟩, y3 rfl⟩)
    · rw [if_neg h1] at y2
      exact .inl (.inl (⟨hI, rfl, hn, ⟨rfl, rfl, rfl⟩, y1, h1, y2 h1⟩))
  · exact hx.elim
@[reducible] def X5B : List (Nat × Rx.Spec) := [(18, sp18), (23, specOf conSameT), (37, specOf con37Bm), (38, specOf con38Bm), (39, specOf con39B), (40, specOf con40B), (41, specOf con41B), (42, specOf con42B)]
theorem X5B_told : ∀ p ∈ X5B, Told p.1 p.2 := by
  intro p hp
  simp only [List.mem_cons, List.not_mem_nil, or_false] at hp
  rcases hp with rfl | rfl | rfl | rfl | rfl | rfl | rfl | rfl
  · exact told18
  · exact conSameT_told
  · exact con37Bm_told
  · exact con38Bm_told
  · exact con39B_told
  · exact con40B_told
  · exact con41B_told
  · exact con42B_told
@[reducible] def X5A : List (Nat × Rx.Spec) := [(18, sp18), (23, specOf conSameT), (37, specOf con37W), (38, specOf con38W), (39, specOf con39E), (40, specOf con40E), (41, specOf con41E), (42, specOf con42E)]
theorem X5A_told : ∀ p ∈ X5A, Told p.1 p.2 := by
  intro p hp
  simp only [List.mem_cons, List.not_mem_nil, or_false] at hp
  rcases hp with rfl | rfl | rfl | rfl | rfl | rfl | rfl | rfl
  · exact told18
  · exact conSameT_told
  · exact con37W_told
  · exact con38W_told
  · exact con39E_told
  · exact con40E_told
  · exact con41E_told
  · exact con42E_told
end Go.Proofs.Ytkflmglpniebfaa.Fr
