/-
  Frames: occupied, the code. No project text.
-/
import Derived.Test.YtkflmglpniebfaaFr10
namespace Go.Proofs.Ytkflmglpniebfaa.Fr
open Go.Rx
open Go.RowKit (Below)
set_option linter.unusedVariables false
/-- The used words of the first k cars of a list. -/
def sl (f : RF) (l : List Int) : Nat → Int
  | 0 => 0
  | k + 1 => sl f l k + f (Int.toNat (lF l k 0)) 1
theorem lF_left {l : List Int} {x : Int} {k : Nat} (h : k < l.length) : lF (l ++ [x]) k 0 = lF l k 0 := by
  unfold lF
  simp [List.getD, List.getElem?_append_left h]
theorem lF_last {l : List Int} {x : Int} : lF (l ++ [x]) l.length 0 = x := by
  unfold lF
  simp
theorem sl_left {f : RF} {l : List Int} {x : Int} : ∀ {k : Nat}, k ≤ l.length → sl f (l ++ [x]) k = sl f l k
  | 0, _ => rfl
  | k + 1, h => by
    simp only [sl]
    rw [sl_left (k := k) (by omega), lF_left (by omega)]
theorem sl_app {f : RF} {l : List Int} {x : Int} : sl f (l ++ [x]) (l.length + 1) = sl f l l.length + f x.toNat 1 := by
  simp only [sl]
  rw [sl_left (Nat.le_refl _), lF_last]
theorem sel_mem {p : Nat → Bool} : ∀ {n k : Nat}, k < (sel p n).length → ∃ i, i < n ∧ lF (sel p n) k 0 = (i : Int) ∧ p i = true
  | 0, k, h => by simp [sel] at h
  | n + 1, k, h => by
    by_cases hp : p n = true
    · rw [sel_yes hp] at h ⊢
      by_cases hk : k < (sel p n).length
      · obtain ⟨i, h1, h2, h3⟩ := sel_mem hk
        exact ⟨i, by omega, by rw [lF_left hk]; exact h2, h3⟩
      · have e : k = (sel p n).length := by simp at h; omega
        subst e
        exact ⟨n, by omega, lF_last, hp⟩
    · rw [sel_no hp] at h ⊢
      obtain ⟨i, h1, h2, h3⟩ := sel_mem h
      exact ⟨i, by omega, h2, h3⟩
theorem sl_tot {p : Nat → Bool} {f : RF} : ∀ {n : Nat}, (∀ i, i < n → ¬ p i = true → f i 1 = 0) → sl f (sel p n) (sel p n).length = tot f n
  | 0, _ => rfl
  | n + 1, h => by
    have ih := sl_tot (p := p) (f := f) (n := n) (fun i hi => h i (by omega))
    by_cases hp : p n = true
    · rw [sel_yes hp, List.length_append]
      show sl f (sel p n ++ [(n : Int)]) ((sel p n).length + 1) = _
      rw [sl_app, ih]
      rfl
    · rw [sel_no hp, ih]
      simp only [tot]
      rw [h n (by omega) hp]
      omega
/-- Used, or popular. -/
def P12 (f : RF) : Nat → Bool := selB 2 (litF 1 [1, 2]) f
theorem P12_no {a : Int} {f : RF} {i : Nat} (h : fok a f i) (hp : ¬ P12 f i = true) : f i 1 = 0 := by
  unfold fok at h
  have h1 : ¬ f i 0 = 1 := fun e => hp (selB_iff.2 ⟨0, by omega, by rw [e]; rfl⟩)
  have h2 : ¬ f i 0 = 2 := fun e => hp (selB_iff.2 ⟨1, by omega, by rw [e]; rfl⟩)
  omega
theorem sl_bd {a : Int} {f : RF} {p : Nat → Bool} {n : Nat} (ha : a ≤ 64) (h : ∀ i, i < n → fok a f i) : ∀ {k : Nat}, k ≤ (sel p n).length → 0 ≤ sl f (sel p n) k ∧ sl f (sel p n) k ≤ 64 * (k : Int)
  | 0, _ => by simp [sl]
  | k + 1, hk => by
    have ih := sl_bd (p := p) ha h (k := k) (by omega)
    obtain ⟨i, h1, h2, -⟩ := sel_mem (p := p) (n := n) (k := k) (by omega)
    have g := h i h1
    unfold fok at g
    simp only [sl]
    rw [h2]
    simp only [Int.toNat_natCast]
    omega
theorem sel_len {p : Nat → Bool} : ∀ {n : Nat}, (sel p n).length ≤ n
  | 0 => by simp [sel]
  | n + 1 => by
    have := sel_len (p := p) (n := n)
    by_cases hp : p n = true
    · rw [sel_yes hp]; simp; omega
    · rw [sel_no hp]; omega
def con29 : Con := fun vs bs K => match vs with
  | [u, v] => five u fun a b c d e => parse [.i64, .i64] 0 v bs fun n f _ bs => bs = [] ∧ (¬ (ckF a b c d e n f).2 = 0 → K (.tuple ⟨[.int .i64 0, .int .i64 (ckF a b c d e n f).2]⟩) []) ∧ ((ckF a b c d e n f).2 = 0 → K (.tuple ⟨[.int .i64 (tot f n), .int .i64 0]⟩) [])
  | _ => False

def con29_nA (a : Int) (b : Int) (c : Int) (d : Int) (e : Int) : Ann := fun k => bif Nat.beq k 6 then some [{ α := Nat, T := fun _ => ⟨37, [(1, .slice none 0 0), (8, .int .i64 0), (22, .slice none 0 0), (23, .int .i64 0), (24, .int .i64 0)]⟩, S := fun _ => ⟨[], 0⟩, I := fun k => k = 0 ∧ (sel (P12 zF) 0) = [], m := fun _ => 0, ρ0 := [], ρ1 := [[]] }, { α := Nat × Nat, T := fun a => ⟨37, [(1, .slice none 0 0), (8, .int .i64 (sl zF (sel (P12 zF) 0) a.1)), (22, rsl 0 0 (List.length (sel (P12 zF) 0)) a.2), (23, .int .i64 (List.length (sel (P12 zF) 0) : Nat)), (24, .int .i64 (a.1 : Int))]⟩, S := fun a => ⟨[(0, .row false [.i64] 3 (List.length (sel (P12 zF) 0)) a.2 (lF (sel (P12 zF) 0)))], 1⟩, I := fun a => a.1 ≤ List.length (sel (P12 zF) 0) ∧ 0 ≤ a.1, m := fun a => List.length (sel (P12 zF) 0) - a.1, ρ0 := [(0, 2)], ρ1 := [[(0, 0)]] }] else none
def con29_rA (el nl cl : Nat) (fl : RF) (a : Int) (b : Int) (c : Int) (d : Int) (e : Int) : Ann := fun k => bif Nat.beq k 6 then some [{ α := Nat, T := fun _ => ⟨37, [(1, rsl 0 0 nl cl), (8, .int .i64 0), (22, .slice none 0 0), (23, .int .i64 0), (24, .int .i64 0)]⟩, S := fun _ => ⟨[(0, .row true [.i64, .i64] el nl cl fl)], 1⟩, I := fun k => k = 0 ∧ (sel (P12 fl) nl) = [], m := fun _ => 0, ρ0 := [], ρ1 := [[]] }, { α := Nat × Nat, T := fun a => ⟨37, [(1, rsl 0 0 nl cl), (8, .int .i64 (sl fl (sel (P12 fl) nl) a.1)), (22, rsl 1 0 (List.length (sel (P12 fl) nl)) a.2), (23, .int .i64 (List.length (sel (P12 fl) nl) : Nat)), (24, .int .i64 (a.1 : Int))]⟩, S := fun a => ⟨[(0, .row true [.i64, .i64] el nl cl fl), (1, .row false [.i64] 3 (List.length (sel (P12 fl) nl)) a.2 (lF (sel (P12 fl) nl)))], 2⟩, I := fun a => a.1 ≤ List.length (sel (P12 fl) nl) ∧ 0 ≤ a.1, m := fun a => List.length (sel (P12 fl) nl) - a.1, ρ0 := [(1, 3)], ρ1 := [[(1, 1)]] }] else none
def con29_nV (a : Int) (b : Int) (c : Int) (d : Int) (e : Int) (K : Value → List Blk → Prop) : Prop := ((true = true) ∧ ((true = true) ∧ ((true = true) ∧ ((true = true) ∧ ((InC a b c d e) ∧ ((@Eq (List Blk) ([]) ([])) ∧ ((true = true) ∧ (if (@Eq Int (Prod.snd (ckF a b c d e (0 : Nat) zF)) ((0 : Int))) then ((@Eq (Ev.TK) (Ev.TK.slice) (Ev.TK.slice)) ∧ ((true = true) ∧ ((true = true) ∧ ((true = true) ∧ ((true = true) ∧ ((true = true) ∧ (((2 : Nat) ≤ (2 : Nat)) ∧ ((@Eq Nat ((0 : Nat)) ((0 : Nat))) ∧ (((2 : Nat) ≤ (100000 : Nat)) ∧ (((@Eq (List IntKind) ([IntKind.i64]) ([IntKind.i64])) ∧ ((@Eq Nat ((2 : Nat)) ((2 : Nat))) ∧ (@Eq Nat ((2 : Nat)) ((2 : Nat))))) ∧ ((@Eq (List Blk) ([]) ([])) ∧ (((sel (selB (2 : Nat) (litF (List.length [IntKind.i64]) ([(1 : Int)] ++ ([(2 : Int)] ++ []))) zF) (0 : Nat) = []) → ((@Eq (Ev.TK) (Ev.TK.slice) (Ev.TK.slice)) ∧ (((∃ y0 : Nat, ((Go.Rx.Sub 0 [] ⟨37, [(24, Value.int IntKind.i64 (0 : Int)), (23, Value.int IntKind.i64 (0 : Int)), (22, Value.slice none (0 : Nat) (0 : Nat)), (8, Value.int IntKind.i64 (0 : Int)), (1, Value.slice none (0 : Nat) (0 : Nat))]⟩ ⟨[], 2⟩ ({ n := (37 : Nat), m := [((1 : Nat), Value.slice none (0 : Nat) (0 : Nat)), ((8 : Nat), Value.int IntKind.i64 (0 : Int)), ((22 : Nat), Value.slice none (0 : Nat) (0 : Nat)), ((23 : Nat), Value.int IntKind.i64 (0 : Int)), ((24 : Nat), Value.int IntKind.i64 (0 : Int))] }) ({ h := [], next := (0 : Nat) })) ∧ ((@Eq Nat (y0) ((0 : Nat))) ∧ (sel (P12 zF) (0 : Nat) = [])))) ∨ (∃ y0 : Nat × Nat, ((Go.Rx.Sub 0 [((0 : Nat), (2 : Nat))] ⟨37, [(24, Value.int IntKind.i64 (0 : Int)), (23, Value.int IntKind.i64 (0 : Int)), (22, Value.slice none (0 : Nat) (0 : Nat)), (8, Value.int IntKind.i64 (0 : Int)), (1, Value.slice none (0 : Nat) (0 : Nat))]⟩ ⟨[], 2⟩ ({ n := (37 : Nat), m := [((1 : Nat), Value.slice none (0 : Nat) (0 : Nat)), ((8 : Nat), Value.int IntKind.i64 (sl zF (sel (P12 zF) (0 : Nat)) (Prod.fst y0))), ((22 : Nat), rsl (0 : Nat) (0 : Nat) (0 : Nat) (Prod.snd y0)), ((23 : Nat), Value.int IntKind.i64 (0 : Int)), ((24 : Nat), Value.int IntKind.i64 (↑(Prod.fst y0) : Int))] }) ({ h := [((0 : Nat), Blk.row false [IntKind.i64] (3 : Nat) (0 : Nat) (Prod.snd y0) (lF (sel (P12 zF) (0 : Nat))))], next := (1 : Nat) })) ∧ ((Prod.fst y0 ≤ List.length (sel (P12 zF) (0 : Nat))) ∧ ((0 : Nat) ≤ Prod.fst y0))))) ∧ ((∀ y0 : Nat, (((@Eq Nat (y0) ((0 : Nat))) ∧ (sel (P12 zF) (0 : Nat) = [])) → ((true = true) ∧ (∃ y1 : Value, (∃ y2 : List Blk, ((Go.Rx.Found 0 (Value.tuple { toList := [Value.int IntKind.i64 (0 : Int), Value.int IntKind.i64 (0 : Int)] }) ({ h := [], next := (0 : Nat) }) (y1) (y2)) ∧ (K y1 y2))))))) ∧ (∀ y0 : Nat × Nat, (((Prod.fst y0 ≤ List.length (sel (P12 zF) (0 : Nat))) ∧ ((0 : Nat) ≤ Prod.fst y0)) → ((true = true) ∧ (∃ y1 : Value, (∃ y2 : List Blk, ((Go.Rx.Found 0 (Value.tuple { toList := [Value.int IntKind.i64 (sl zF (sel (P12 zF) (0 : Nat)) (Prod.fst y0)), Value.int IntKind.i64 (0 : Int)] }) ({ h := [((0 : Nat), Blk.row false [IntKind.i64] (3 : Nat) (0 : Nat) (Prod.snd y0) (lF (sel (P12 zF) (0 : Nat))))], next := (1 : Nat) }) (y1) (y2)) ∧ (K y1 y2))))))))))) ∧ ((¬sel (selB (2 : Nat) (litF (List.length [IntKind.i64]) ([(1 : Int)] ++ ([(2 : Int)] ++ []))) zF) (0 : Nat) = []) → (∀ y0 : Nat, ((List.length (sel (selB (2 : Nat) (litF (List.length [IntKind.i64]) ([(1 : Int)] ++ ([(2 : Int)] ++ []))) zF) (0 : Nat)) ≤ y0) → ((@Eq (Ev.TK) (Ev.TK.slice) (Ev.TK.slice)) ∧ (((∃ y1 : Nat, ((Go.Rx.Sub 0 [] ⟨37, [(24, Value.int IntKind.i64 (0 : Int)), (23, Value.int IntKind.i64 (0 : Int)), (22, rsl (2 : Nat) (0 : Nat) (0 : Nat) y0), (8, Value.int IntKind.i64 (0 : Int)), (1, Value.slice none (0 : Nat) (0 : Nat))]⟩ ⟨[], 3⟩ ({ n := (37 : Nat), m := [((1 : Nat), Value.slice none (0 : Nat) (0 : Nat)), ((8 : Nat), Value.int IntKind.i64 (0 : Int)), ((22 : Nat), Value.slice none (0 : Nat) (0 : Nat)), ((23 : Nat), Value.int IntKind.i64 (0 : Int)), ((24 : Nat), Value.int IntKind.i64 (0 : Int))] }) ({ h := [], next := (0 : Nat) })) ∧ ((@Eq Nat (y1) ((0 : Nat))) ∧ (sel (P12 zF) (0 : Nat) = [])))) ∨ (∃ y1 : Nat × Nat, ((Go.Rx.Sub 0 [((0 : Nat), (2 : Nat))] ⟨37, [(24, Value.int IntKind.i64 (0 : Int)), (23, Value.int IntKind.i64 (0 : Int)), (22, rsl (2 : Nat) (0 : Nat) (0 : Nat) y0), (8, Value.int IntKind.i64 (0 : Int)), (1, Value.slice none (0 : Nat) (0 : Nat))]⟩ ⟨[(2, Blk.row false [IntKind.i64] (3 : Nat) (0 : Nat) y0 (lF (sel (selB (2 : Nat) (litF (List.length [IntKind.i64]) ([(1 : Int)] ++ ([(2 : Int)] ++ []))) zF) (0 : Nat))))], 3⟩ ({ n := (37 : Nat), m := [((1 : Nat), Value.slice none (0 : Nat) (0 : Nat)), ((8 : Nat), Value.int IntKind.i64 (sl zF (sel (P12 zF) (0 : Nat)) (Prod.fst y1))), ((22 : Nat), rsl (0 : Nat) (0 : Nat) (0 : Nat) (Prod.snd y1)), ((23 : Nat), Value.int IntKind.i64 (0 : Int)), ((24 : Nat), Value.int IntKind.i64 (↑(Prod.fst y1) : Int))] }) ({ h := [((0 : Nat), Blk.row false [IntKind.i64] (3 : Nat) (0 : Nat) (Prod.snd y1) (lF (sel (P12 zF) (0 : Nat))))], next := (1 : Nat) })) ∧ ((Prod.fst y1 ≤ List.length (sel (P12 zF) (0 : Nat))) ∧ ((0 : Nat) ≤ Prod.fst y1))))) ∧ ((∀ y1 : Nat, (((@Eq Nat (y1) ((0 : Nat))) ∧ (sel (P12 zF) (0 : Nat) = [])) → ((true = true) ∧ (∃ y2 : Value, (∃ y3 : List Blk, ((Go.Rx.Found 0 (Value.tuple { toList := [Value.int IntKind.i64 (0 : Int), Value.int IntKind.i64 (0 : Int)] }) ({ h := [], next := (0 : Nat) }) (y2) (y3)) ∧ (K y2 y3))))))) ∧ (∀ y1 : Nat × Nat, (((Prod.fst y1 ≤ List.length (sel (P12 zF) (0 : Nat))) ∧ ((0 : Nat) ≤ Prod.fst y1)) → ((true = true) ∧ (∃ y2 : Value, (∃ y3 : List Blk, ((Go.Rx.Found 0 (Value.tuple { toList := [Value.int IntKind.i64 (sl zF (sel (P12 zF) (0 : Nat)) (Prod.fst y1)), Value.int IntKind.i64 (0 : Int)] }) ({ h := [((0 : Nat), Blk.row false [IntKind.i64] (3 : Nat) (0 : Nat) (Prod.snd y1) (lF (sel (P12 zF) (0 : Nat))))], next := (1 : Nat) }) (y2) (y3)) ∧ (K y2 y3))))))))))))))))))))))))) else (∃ y0 : Value, (∃ y1 : List Blk, ((Go.Rx.Found 0 (Value.tuple { toList := [Value.int IntKind.i64 (0 : Int), Value.int IntKind.i64 (Prod.snd (ckF a b c d e (0 : Nat) zF))] }) ({ h := [((0 : Nat), Blk.cells [Value.int IntKind.i64 a, Value.int IntKind.i64 b, Value.int IntKind.i64 c, Value.int IntKind.i64 d, Value.int IntKind.i64 e] (23 : Nat))], next := (1 : Nat) }) (y0) (y1)) ∧ (K y0 y1))))))))))))
theorem con29_nE (a : Int) (b : Int) (c : Int) (d : Int) (e : Int) (K : Value → List Blk → Prop) : con29_nV a b c d e K = bodyX (mk X10) (callN (mk X10) 3) (con29_nA a b c d e) Try.f29 [.agg ⟨[.int .i64 a, .int .i64 b, .int .i64 c, .int .i64 d, .int .i64 e]⟩, .slice none 0 0] (stOf []) fun v s' => ∃ v1 news, Rx.Found 0 v s' v1 news ∧ K v1 news := by kernel_rfl
set_option maxHeartbeats 4000000 in
set_option tactic.hygienic false in
theorem con29_nP (a : Int) (b : Int) (c : Int) (d : Int) (e : Int) (K : Value → List Blk → Prop)  (hI : InC a b c d e) (h : (¬ (ckF a b c d e 0 zF).2 = 0 → K (.tuple ⟨[.int .i64 0, .int .i64 (ckF a b c d e 0 zF).2]⟩) []) ∧ ((ckF a b c d e 0 zF).2 = 0 → K (.tuple ⟨[.int .i64 (tot zF 0), .int .i64 0]⟩) [])) : con29_nV a b c d e K := by
  unfold con29_nV
  have G : (ckF a b c d e 0 zF).2 = 0 → good a b c d e ∧ ((0 : Nat) : Int) = b ∧ ∀ i, i < 0 → fok a zF i := ckF_zero
  have SL := sel_len (p := P12 zF) (n := 0)
  repeat' (first | (with_reducible exact rfl) | (with_reducible exact trivial) | (with_reducible refine And.intro ?_ ?_) | (intro) | (with_reducible refine br_intro (fun hq => ?_) (fun hq => ?_)) | (with_reducible refine if_both (fun hz => ?_) (fun hz => ?_)) | fail)
  all_goals first
    | omega
    | assumption
    | exact .inl ⟨0, (by (refine And.intro (And.intro rfl (And.intro rfl (And.intro rfl rfl))) ?_; repeat' (first | exact trivial | exact rfl | exact fun _ _ _ _ => rfl | refine And.intro ?_ ?_ | omega | fail))), rfl, by assumption⟩
    | exact .inr ⟨(0, y0), (by (refine And.intro (And.intro rfl (And.intro rfl (And.intro rfl rfl))) ?_; repeat' (first | exact trivial | exact rfl | exact fun _ _ _ _ => rfl | refine And.intro ?_ ?_ | omega | fail))), by show 0 ≤ List.length (sel (P12 zF) 0); omega, by show (0 : Nat) ≤ 0; omega⟩
    | exact .inr ⟨(y0.1 + 1, y0.2), (by (refine And.intro (And.intro rfl (And.intro rfl (And.intro rfl rfl))) ?_; repeat' (first | exact trivial | exact rfl | exact fun _ _ _ _ => rfl | refine And.intro ?_ ?_ | omega | fail))), ⟨by show y0.1 + 1 ≤ List.length (sel (P12 zF) 0); omega, by show 0 ≤ y0.1 + 1; omega⟩, by show List.length (sel (P12 zF) 0) - (y0.1 + 1) < List.length (sel (P12 zF) 0) - y0.1; omega⟩
    | exact .inr ⟨(y1.1 + 1, y1.2), (by (refine And.intro (And.intro rfl (And.intro rfl (And.intro rfl rfl))) ?_; repeat' (first | exact trivial | exact rfl | exact fun _ _ _ _ => rfl | refine And.intro ?_ ?_ | omega | fail))), ⟨by show y1.1 + 1 ≤ List.length (sel (P12 zF) 0); omega, by show 0 ≤ y1.1 + 1; omega⟩, by show List.length (sel (P12 zF) 0) - (y1.1 + 1) < List.length (sel (P12 zF) 0) - y1.1; omega⟩
    | (have g := G (by assumption)
       obtain ⟨i, h1, h2, -⟩ := sel_mem (p := P12 zF) (n := 0) (k := y0.1) (by omega)
       rw [h2]
       first | omega | (simp only [Int.toNat_natCast]; omega))
    | (have g := G (by assumption)
       obtain ⟨i, h1, h2, -⟩ := sel_mem (p := P12 zF) (n := 0) (k := y1.1) (by omega)
       rw [h2]
       first | omega | (simp only [Int.toNat_natCast]; omega))
    | (have g := G (by assumption)
       obtain ⟨i, h1, h2, -⟩ := sel_mem (p := P12 zF) (n := 0) (k := y0.1) (by omega)
       have g1 := sl_bd g.1.2.1 g.2.2 (p := P12 zF) (k := y0.1) (by omega)
       have g2 := g.2.2 i h1
       unfold fok at g2
       rw [h2]
       simp only [Int.toNat_natCast]
       omega)
    | (have g := G (by assumption)
       obtain ⟨i, h1, h2, -⟩ := sel_mem (p := P12 zF) (n := 0) (k := y1.1) (by omega)
       have g1 := sl_bd g.1.2.1 g.2.2 (p := P12 zF) (k := y1.1) (by omega)
       have g2 := g.2.2 i h1
       unfold fok at g2
       rw [h2]
       simp only [Int.toNat_natCast]
       omega)
    | exact fin0 (by kernel_rfl) (by kernel_rfl) (h.1 (by assumption))
    | (have g := G (by assumption)
       have q := sl_tot (p := P12 zF) (f := zF) (n := 0) (fun i hi hp => P12_no (g.2.2 i hi) hp)
       have e1 : (sel (P12 zF) 0) = [] := by (first | assumption | exact (show y0 = 0 ∧ (sel (P12 zF) 0) = [] by assumption).2)
       rw [e1] at q
       have q2 : tot zF 0 = 0 := q.symm
       rw [q2] at h
       exact fin0 (by kernel_rfl) (by kernel_rfl) (h.2 (by assumption)))
    | (have g := G (by assumption)
       have q := sl_tot (p := P12 zF) (f := zF) (n := 0) (fun i hi hp => P12_no (g.2.2 i hi) hp)
       have e1 : (sel (P12 zF) 0) = [] := by (first | assumption | exact (show y1 = 0 ∧ (sel (P12 zF) 0) = [] by assumption).2)
       rw [e1] at q
       have q2 : tot zF 0 = 0 := q.symm
       rw [q2] at h
       exact fin0 (by kernel_rfl) (by kernel_rfl) (h.2 (by assumption)))
    | (have g := G (by assumption)
       have q := sl_tot (p := P12 zF) (f := zF) (n := 0) (fun i hi hp => P12_no (g.2.2 i hi) hp)
       have e1 : y0.1 = List.length (sel (P12 zF) 0) := by omega
       rw [e1, q]
       exact fin0 (by kernel_rfl) (by kernel_rfl) (h.2 (by assumption)))
    | (have g := G (by assumption)
       have q := sl_tot (p := P12 zF) (f := zF) (n := 0) (fun i hi hp => P12_no (g.2.2 i hi) hp)
       have e1 : y1.1 = List.length (sel (P12 zF) 0) := by omega
       rw [e1, q]
       exact fin0 (by kernel_rfl) (by kernel_rfl) (h.2 (by assumption)))
def con29_rV (el nl cl : Nat) (fl : RF) (a : Int) (b : Int) (c : Int) (d : Int) (e : Int) (K : Value → List Blk → Prop) : Prop := ((true = true) ∧ ((true = true) ∧ ((true = true) ∧ (((0 : Nat) + nl ≤ nl) ∧ ((InC a b c d e) ∧ ((@Eq Nat ((0 : Nat)) ((0 : Nat))) ∧ ((nl ≤ (100000 : Nat)) ∧ (((@Eq (List IntKind) ([IntKind.i64, IntKind.i64]) ([IntKind.i64, IntKind.i64])) ∧ ((@Eq Nat (nl) (nl)) ∧ (@Eq Nat (cl) (cl)))) ∧ ((@Eq (List Blk) ([]) ([])) ∧ ((true = true) ∧ (if (@Eq Int (Prod.snd (ckF a b c d e nl fl)) ((0 : Int))) then ((@Eq (Ev.TK) (Ev.TK.slice) (Ev.TK.slice)) ∧ ((true = true) ∧ ((true = true) ∧ ((true = true) ∧ ((true = true) ∧ (((0 : Nat) + nl ≤ nl) ∧ (((2 : Nat) ≤ (2 : Nat)) ∧ ((@Eq Nat ((0 : Nat)) ((0 : Nat))) ∧ ((nl ≤ (100000 : Nat)) ∧ (((@Eq (List IntKind) ([IntKind.i64, IntKind.i64]) ([IntKind.i64, IntKind.i64])) ∧ ((@Eq Nat (nl) (nl)) ∧ (@Eq Nat (cl) (cl)))) ∧ ((@Eq Nat ((1 : Nat)) ((1 : Nat))) ∧ (((2 : Nat) ≤ (100000 : Nat)) ∧ (((@Eq (List IntKind) ([IntKind.i64]) ([IntKind.i64])) ∧ ((@Eq Nat ((2 : Nat)) ((2 : Nat))) ∧ (@Eq Nat ((2 : Nat)) ((2 : Nat))))) ∧ ((@Eq (List Blk) ([]) ([])) ∧ (((sel (selB (2 : Nat) (litF (List.length [IntKind.i64]) ([(1 : Int)] ++ ([(2 : Int)] ++ []))) fl) nl = []) → ((@Eq (Ev.TK) (Ev.TK.slice) (Ev.TK.slice)) ∧ (((∃ y0 : Nat, ((Go.Rx.Sub 1 [] ⟨37, [(24, Value.int IntKind.i64 (0 : Int)), (23, Value.int IntKind.i64 (0 : Int)), (22, Value.slice none (0 : Nat) (0 : Nat)), (8, Value.int IntKind.i64 (0 : Int)), (1, rsl (0 : Nat) (0 : Nat) nl cl)]⟩ ⟨[(0, Blk.row true [IntKind.i64, IntKind.i64] el nl cl fl)], 3⟩ ({ n := (37 : Nat), m := [((1 : Nat), rsl (0 : Nat) (0 : Nat) nl cl), ((8 : Nat), Value.int IntKind.i64 (0 : Int)), ((22 : Nat), Value.slice none (0 : Nat) (0 : Nat)), ((23 : Nat), Value.int IntKind.i64 (0 : Int)), ((24 : Nat), Value.int IntKind.i64 (0 : Int))] }) ({ h := [((0 : Nat), Blk.row true [IntKind.i64, IntKind.i64] el nl cl fl)], next := (1 : Nat) })) ∧ ((@Eq Nat (y0) ((0 : Nat))) ∧ (sel (P12 fl) nl = [])))) ∨ (∃ y0 : Nat × Nat, ((Go.Rx.Sub 1 [((1 : Nat), (3 : Nat))] ⟨37, [(24, Value.int IntKind.i64 (0 : Int)), (23, Value.int IntKind.i64 (0 : Int)), (22, Value.slice none (0 : Nat) (0 : Nat)), (8, Value.int IntKind.i64 (0 : Int)), (1, rsl (0 : Nat) (0 : Nat) nl cl)]⟩ ⟨[(0, Blk.row true [IntKind.i64, IntKind.i64] el nl cl fl)], 3⟩ ({ n := (37 : Nat), m := [((1 : Nat), rsl (0 : Nat) (0 : Nat) nl cl), ((8 : Nat), Value.int IntKind.i64 (sl fl (sel (P12 fl) nl) (Prod.fst y0))), ((22 : Nat), rsl (1 : Nat) (0 : Nat) (List.length (sel (P12 fl) nl)) (Prod.snd y0)), ((23 : Nat), Value.int IntKind.i64 (↑(List.length (sel (P12 fl) nl)) : Int)), ((24 : Nat), Value.int IntKind.i64 (↑(Prod.fst y0) : Int))] }) ({ h := [((0 : Nat), Blk.row true [IntKind.i64, IntKind.i64] el nl cl fl), ((1 : Nat), Blk.row false [IntKind.i64] (3 : Nat) (List.length (sel (P12 fl) nl)) (Prod.snd y0) (lF (sel (P12 fl) nl)))], next := (2 : Nat) })) ∧ ((Prod.fst y0 ≤ List.length (sel (P12 fl) nl)) ∧ ((0 : Nat) ≤ Prod.fst y0))))) ∧ ((∀ y0 : Nat, (((@Eq Nat (y0) ((0 : Nat))) ∧ (sel (P12 fl) nl = [])) → ((true = true) ∧ (∃ y1 : Value, (∃ y2 : List Blk, ((Go.Rx.Found 1 (Value.tuple { toList := [Value.int IntKind.i64 (0 : Int), Value.int IntKind.i64 (0 : Int)] }) ({ h := [((0 : Nat), Blk.row true [IntKind.i64, IntKind.i64] el nl cl fl)], next := (1 : Nat) }) (y1) (y2)) ∧ (K y1 y2))))))) ∧ (∀ y0 : Nat × Nat, (((Prod.fst y0 ≤ List.length (sel (P12 fl) nl)) ∧ ((0 : Nat) ≤ Prod.fst y0)) → ((true = true) ∧ (if ((↑(Prod.fst y0) : Int) < (↑(List.length (sel (P12 fl) nl)) : Int)) then (((@Eq (Ev.TK) (Ev.TK.slice) (Ev.TK.slice)) ∧ (@Eq Nat ((1 : Nat)) ((1 : Nat)))) ∧ ((((0 : Int) ≤ (↑(Prod.fst y0) : Int)) ∧ ((↑(Prod.fst y0) : Int) < (↑(List.length (sel (P12 fl) nl)) : Int))) ∧ ((Prod.fst y0 < List.length (sel (P12 fl) nl)) ∧ (((@Eq (Ev.TK) (Ev.TK.slice) (Ev.TK.slice)) ∧ (@Eq Nat ((2 : Nat)) ((2 : Nat)))) ∧ ((((0 : Int) ≤ lF (sel (P12 fl) nl) (Prod.fst y0) (0 : Nat)) ∧ (lF (sel (P12 fl) nl) (Prod.fst y0) (0 : Nat) < (↑nl : Int))) ∧ ((true = true) ∧ ((Int.toNat (lF (sel (P12 fl) nl) (Prod.fst y0) (0 : Nat)) < nl) ∧ ((true = true) ∧ ((((-9223372036854775808 : Int) ≤ sl fl (sel (P12 fl) nl) (Prod.fst y0) + fl (Int.toNat (lF (sel (P12 fl) nl) (Prod.fst y0) (0 : Nat))) (1 : Nat)) ∧ (sl fl (sel (P12 fl) nl) (Prod.fst y0) + fl (Int.toNat (lF (sel (P12 fl) nl) (Prod.fst y0) (0 : Nat))) (1 : Nat) ≤ (9223372036854775807 : Int))) ∧ ((true = true) ∧ ((((-9223372036854775808 : Int) ≤ (↑(Prod.fst y0) : Int) + (1 : Int)) ∧ ((↑(Prod.fst y0) : Int) + (1 : Int) ≤ (9223372036854775807 : Int))) ∧ ((∃ y1 : Nat, ((Go.Rx.Sub 1 [] ⟨37, [(24, Value.int IntKind.i64 ((↑(Prod.fst y0) : Int) + (1 : Int))), (8, Value.int IntKind.i64 (sl fl (sel (P12 fl) nl) (Prod.fst y0) + fl (Int.toNat (lF (sel (P12 fl) nl) (Prod.fst y0) (0 : Nat))) (1 : Nat))), (1, rsl (0 : Nat) (0 : Nat) nl cl), (22, rsl (1 : Nat) (0 : Nat) (List.length (sel (P12 fl) nl)) (Prod.snd y0)), (23, Value.int IntKind.i64 (↑(List.length (sel (P12 fl) nl)) : Int))]⟩ ⟨[(0, Blk.row true [IntKind.i64, IntKind.i64] el nl cl fl)], 2⟩ ({ n := (37 : Nat), m := [((1 : Nat), rsl (0 : Nat) (0 : Nat) nl cl), ((8 : Nat), Value.int IntKind.i64 (0 : Int)), ((22 : Nat), Value.slice none (0 : Nat) (0 : Nat)), ((23 : Nat), Value.int IntKind.i64 (0 : Int)), ((24 : Nat), Value.int IntKind.i64 (0 : Int))] }) ({ h := [((0 : Nat), Blk.row true [IntKind.i64, IntKind.i64] el nl cl fl)], next := (1 : Nat) })) ∧ (((@Eq Nat (y1) ((0 : Nat))) ∧ (sel (P12 fl) nl = [])) ∧ ((0 : Nat) < List.length (sel (P12 fl) nl) - Prod.fst y0)))) ∨ (∃ y1 : Nat × Nat, ((Go.Rx.Sub 1 [((1 : Nat), (1 : Nat))] ⟨37, [(24, Value.int IntKind.i64 ((↑(Prod.fst y0) : Int) + (1 : Int))), (8, Value.int IntKind.i64 (sl fl (sel (P12 fl) nl) (Prod.fst y0) + fl (Int.toNat (lF (sel (P12 fl) nl) (Prod.fst y0) (0 : Nat))) (1 : Nat))), (1, rsl (0 : Nat) (0 : Nat) nl cl), (22, rsl (1 : Nat) (0 : Nat) (List.length (sel (P12 fl) nl)) (Prod.snd y0)), (23, Value.int IntKind.i64 (↑(List.length (sel (P12 fl) nl)) : Int))]⟩ ⟨[(0, Blk.row true [IntKind.i64, IntKind.i64] el nl cl fl), (1, Blk.row false [IntKind.i64] (3 : Nat) (List.length (sel (P12 fl) nl)) (Prod.snd y0) (lF (sel (P12 fl) nl)))], 2⟩ ({ n := (37 : Nat), m := [((1 : Nat), rsl (0 : Nat) (0 : Nat) nl cl), ((8 : Nat), Value.int IntKind.i64 (sl fl (sel (P12 fl) nl) (Prod.fst y1))), ((22 : Nat), rsl (1 : Nat) (0 : Nat) (List.length (sel (P12 fl) nl)) (Prod.snd y1)), ((23 : Nat), Value.int IntKind.i64 (↑(List.length (sel (P12 fl) nl)) : Int)), ((24 : Nat), Value.int IntKind.i64 (↑(Prod.fst y1) : Int))] }) ({ h := [((0 : Nat), Blk.row true [IntKind.i64, IntKind.i64] el nl cl fl), ((1 : Nat), Blk.row false [IntKind.i64] (3 : Nat) (List.length (sel (P12 fl) nl)) (Prod.snd y1) (lF (sel (P12 fl) nl)))], next := (2 : Nat) })) ∧ (((Prod.fst y1 ≤ List.length (sel (P12 fl) nl)) ∧ ((0 : Nat) ≤ Prod.fst y1)) ∧ (List.length (sel (P12 fl) nl) - Prod.fst y1 < List.length (sel (P12 fl) nl) - Prod.fst y0)))))))))))))))) else (∃ y1 : Value, (∃ y2 : List Blk, ((Go.Rx.Found 1 (Value.tuple { toList := [Value.int IntKind.i64 (sl fl (sel (P12 fl) nl) (Prod.fst y0)), Value.int IntKind.i64 (0 : Int)] }) ({ h := [((0 : Nat), Blk.row true [IntKind.i64, IntKind.i64] el nl cl fl), ((1 : Nat), Blk.row false [IntKind.i64] (3 : Nat) (List.length (sel (P12 fl) nl)) (Prod.snd y0) (lF (sel (P12 fl) nl)))], next := (2 : Nat) }) (y1) (y2)) ∧ (K y1 y2)))))))))))) ∧ ((¬sel (selB (2 : Nat) (litF (List.length [IntKind.i64]) ([(1 : Int)] ++ ([(2 : Int)] ++ []))) fl) nl = []) → (∀ y0 : Nat, ((List.length (sel (selB (2 : Nat) (litF (List.length [IntKind.i64]) ([(1 : Int)] ++ ([(2 : Int)] ++ []))) fl) nl) ≤ y0) → ((@Eq (Ev.TK) (Ev.TK.slice) (Ev.TK.slice)) ∧ (((∃ y1 : Nat, ((Go.Rx.Sub 1 [] ⟨37, [(24, Value.int IntKind.i64 (0 : Int)), (23, Value.int IntKind.i64 (↑(List.length (sel (selB (2 : Nat) (litF (List.length [IntKind.i64]) ([(1 : Int)] ++ ([(2 : Int)] ++ []))) fl) nl)) : Int)), (22, rsl (3 : Nat) (0 : Nat) (List.length (sel (selB (2 : Nat) (litF (List.length [IntKind.i64]) ([(1 : Int)] ++ ([(2 : Int)] ++ []))) fl) nl)) y0), (8, Value.int IntKind.i64 (0 : Int)), (1, rsl (0 : Nat) (0 : Nat) nl cl)]⟩ ⟨[(0, Blk.row true [IntKind.i64, IntKind.i64] el nl cl fl)], 4⟩ ({ n := (37 : Nat), m := [((1 : Nat), rsl (0 : Nat) (0 : Nat) nl cl), ((8 : Nat), Value.int IntKind.i64 (0 : Int)), ((22 : Nat), Value.slice none (0 : Nat) (0 : Nat)), ((23 : Nat), Value.int IntKind.i64 (0 : Int)), ((24 : Nat), Value.int IntKind.i64 (0 : Int))] }) ({ h := [((0 : Nat), Blk.row true [IntKind.i64, IntKind.i64] el nl cl fl)], next := (1 : Nat) })) ∧ ((@Eq Nat (y1) ((0 : Nat))) ∧ (sel (P12 fl) nl = [])))) ∨ (∃ y1 : Nat × Nat, ((Go.Rx.Sub 1 [((1 : Nat), (3 : Nat))] ⟨37, [(24, Value.int IntKind.i64 (0 : Int)), (23, Value.int IntKind.i64 (↑(List.length (sel (selB (2 : Nat) (litF (List.length [IntKind.i64]) ([(1 : Int)] ++ ([(2 : Int)] ++ []))) fl) nl)) : Int)), (22, rsl (3 : Nat) (0 : Nat) (List.length (sel (selB (2 : Nat) (litF (List.length [IntKind.i64]) ([(1 : Int)] ++ ([(2 : Int)] ++ []))) fl) nl)) y0), (8, Value.int IntKind.i64 (0 : Int)), (1, rsl (0 : Nat) (0 : Nat) nl cl)]⟩ ⟨[(3, Blk.row false [IntKind.i64] (3 : Nat) (List.length (sel (selB (2 : Nat) (litF (List.length [IntKind.i64]) ([(1 : Int)] ++ ([(2 : Int)] ++ []))) fl) nl)) y0 (lF (sel (selB (2 : Nat) (litF (List.length [IntKind.i64]) ([(1 : Int)] ++ ([(2 : Int)] ++ []))) fl) nl))), (0, Blk.row true [IntKind.i64, IntKind.i64] el nl cl fl)], 4⟩ ({ n := (37 : Nat), m := [((1 : Nat), rsl (0 : Nat) (0 : Nat) nl cl), ((8 : Nat), Value.int IntKind.i64 (sl fl (sel (P12 fl) nl) (Prod.fst y1))), ((22 : Nat), rsl (1 : Nat) (0 : Nat) (List.length (sel (P12 fl) nl)) (Prod.snd y1)), ((23 : Nat), Value.int IntKind.i64 (↑(List.length (sel (P12 fl) nl)) : Int)), ((24 : Nat), Value.int IntKind.i64 (↑(Prod.fst y1) : Int))] }) ({ h := [((0 : Nat), Blk.row true [IntKind.i64, IntKind.i64] el nl cl fl), ((1 : Nat), Blk.row false [IntKind.i64] (3 : Nat) (List.length (sel (P12 fl) nl)) (Prod.snd y1) (lF (sel (P12 fl) nl)))], next := (2 : Nat) })) ∧ ((Prod.fst y1 ≤ List.length (sel (P12 fl) nl)) ∧ ((0 : Nat) ≤ Prod.fst y1))))) ∧ ((∀ y1 : Nat, (((@Eq Nat (y1) ((0 : Nat))) ∧ (sel (P12 fl) nl = [])) → ((true = true) ∧ (∃ y2 : Value, (∃ y3 : List Blk, ((Go.Rx.Found 1 (Value.tuple { toList := [Value.int IntKind.i64 (0 : Int), Value.int IntKind.i64 (0 : Int)] }) ({ h := [((0 : Nat), Blk.row true [IntKind.i64, IntKind.i64] el nl cl fl)], next := (1 : Nat) }) (y2) (y3)) ∧ (K y2 y3))))))) ∧ (∀ y1 : Nat × Nat, (((Prod.fst y1 ≤ List.length (sel (P12 fl) nl)) ∧ ((0 : Nat) ≤ Prod.fst y1)) → ((true = true) ∧ (if ((↑(Prod.fst y1) : Int) < (↑(List.length (sel (P12 fl) nl)) : Int)) then (((@Eq (Ev.TK) (Ev.TK.slice) (Ev.TK.slice)) ∧ (@Eq Nat ((1 : Nat)) ((1 : Nat)))) ∧ ((((0 : Int) ≤ (↑(Prod.fst y1) : Int)) ∧ ((↑(Prod.fst y1) : Int) < (↑(List.length (sel (P12 fl) nl)) : Int))) ∧ ((Prod.fst y1 < List.length (sel (P12 fl) nl)) ∧ (((@Eq (Ev.TK) (Ev.TK.slice) (Ev.TK.slice)) ∧ (@Eq Nat ((2 : Nat)) ((2 : Nat)))) ∧ ((((0 : Int) ≤ lF (sel (P12 fl) nl) (Prod.fst y1) (0 : Nat)) ∧ (lF (sel (P12 fl) nl) (Prod.fst y1) (0 : Nat) < (↑nl : Int))) ∧ ((true = true) ∧ ((Int.toNat (lF (sel (P12 fl) nl) (Prod.fst y1) (0 : Nat)) < nl) ∧ ((true = true) ∧ ((((-9223372036854775808 : Int) ≤ sl fl (sel (P12 fl) nl) (Prod.fst y1) + fl (Int.toNat (lF (sel (P12 fl) nl) (Prod.fst y1) (0 : Nat))) (1 : Nat)) ∧ (sl fl (sel (P12 fl) nl) (Prod.fst y1) + fl (Int.toNat (lF (sel (P12 fl) nl) (Prod.fst y1) (0 : Nat))) (1 : Nat) ≤ (9223372036854775807 : Int))) ∧ ((true = true) ∧ ((((-9223372036854775808 : Int) ≤ (↑(Prod.fst y1) : Int) + (1 : Int)) ∧ ((↑(Prod.fst y1) : Int) + (1 : Int) ≤ (9223372036854775807 : Int))) ∧ ((∃ y2 : Nat, ((Go.Rx.Sub 1 [] ⟨37, [(24, Value.int IntKind.i64 ((↑(Prod.fst y1) : Int) + (1 : Int))), (8, Value.int IntKind.i64 (sl fl (sel (P12 fl) nl) (Prod.fst y1) + fl (Int.toNat (lF (sel (P12 fl) nl) (Prod.fst y1) (0 : Nat))) (1 : Nat))), (1, rsl (0 : Nat) (0 : Nat) nl cl), (22, rsl (1 : Nat) (0 : Nat) (List.length (sel (P12 fl) nl)) (Prod.snd y1)), (23, Value.int IntKind.i64 (↑(List.length (sel (P12 fl) nl)) : Int))]⟩ ⟨[(0, Blk.row true [IntKind.i64, IntKind.i64] el nl cl fl)], 2⟩ ({ n := (37 : Nat), m := [((1 : Nat), rsl (0 : Nat) (0 : Nat) nl cl), ((8 : Nat), Value.int IntKind.i64 (0 : Int)), ((22 : Nat), Value.slice none (0 : Nat) (0 : Nat)), ((23 : Nat), Value.int IntKind.i64 (0 : Int)), ((24 : Nat), Value.int IntKind.i64 (0 : Int))] }) ({ h := [((0 : Nat), Blk.row true [IntKind.i64, IntKind.i64] el nl cl fl)], next := (1 : Nat) })) ∧ (((@Eq Nat (y2) ((0 : Nat))) ∧ (sel (P12 fl) nl = [])) ∧ ((0 : Nat) < List.length (sel (P12 fl) nl) - Prod.fst y1)))) ∨ (∃ y2 : Nat × Nat, ((Go.Rx.Sub 1 [((1 : Nat), (1 : Nat))] ⟨37, [(24, Value.int IntKind.i64 ((↑(Prod.fst y1) : Int) + (1 : Int))), (8, Value.int IntKind.i64 (sl fl (sel (P12 fl) nl) (Prod.fst y1) + fl (Int.toNat (lF (sel (P12 fl) nl) (Prod.fst y1) (0 : Nat))) (1 : Nat))), (1, rsl (0 : Nat) (0 : Nat) nl cl), (22, rsl (1 : Nat) (0 : Nat) (List.length (sel (P12 fl) nl)) (Prod.snd y1)), (23, Value.int IntKind.i64 (↑(List.length (sel (P12 fl) nl)) : Int))]⟩ ⟨[(0, Blk.row true [IntKind.i64, IntKind.i64] el nl cl fl), (1, Blk.row false [IntKind.i64] (3 : Nat) (List.length (sel (P12 fl) nl)) (Prod.snd y1) (lF (sel (P12 fl) nl)))], 2⟩ ({ n := (37 : Nat), m := [((1 : Nat), rsl (0 : Nat) (0 : Nat) nl cl), ((8 : Nat), Value.int IntKind.i64 (sl fl (sel (P12 fl) nl) (Prod.fst y2))), ((22 : Nat), rsl (1 : Nat) (0 : Nat) (List.length (sel (P12 fl) nl)) (Prod.snd y2)), ((23 : Nat), Value.int IntKind.i64 (↑(List.length (sel (P12 fl) nl)) : Int)), ((24 : Nat), Value.int IntKind.i64 (↑(Prod.fst y2) : Int))] }) ({ h := [((0 : Nat), Blk.row true [IntKind.i64, IntKind.i64] el nl cl fl), ((1 : Nat), Blk.row false [IntKind.i64] (3 : Nat) (List.length (sel (P12 fl) nl)) (Prod.snd y2) (lF (sel (P12 fl) nl)))], next := (2 : Nat) })) ∧ (((Prod.fst y2 ≤ List.length (sel (P12 fl) nl)) ∧ ((0 : Nat) ≤ Prod.fst y2)) ∧ (List.length (sel (P12 fl) nl) - Prod.fst y2 < List.length (sel (P12 fl) nl) - Prod.fst y1)))))))))))))))) else (∃ y2 : Value, (∃ y3 : List Blk, ((Go.Rx.Found 1 (Value.tuple { toList := [Value.int IntKind.i64 (sl fl (sel (P12 fl) nl) (Prod.fst y1)), Value.int IntKind.i64 (0 : Int)] }) ({ h := [((0 : Nat), Blk.row true [IntKind.i64, IntKind.i64] el nl cl fl), ((1 : Nat), Blk.row false [IntKind.i64] (3 : Nat) (List.length (sel (P12 fl) nl)) (Prod.snd y1) (lF (sel (P12 fl) nl)))], next := (2 : Nat) }) (y2) (y3)) ∧ (K y2 y3))))))))))))))))))))))))))))) else (∃ y0 : Value, (∃ y1 : List Blk, ((Go.Rx.Found 1 (Value.tuple { toList := [Value.int IntKind.i64 (0 : Int), Value.int IntKind.i64 (Prod.snd (ckF a b c d e nl fl))] }) ({ h := [((1 : Nat), Blk.cells [Value.int IntKind.i64 a, Value.int IntKind.i64 b, Value.int IntKind.i64 c, Value.int IntKind.i64 d, Value.int IntKind.i64 e] (23 : Nat)), ((0 : Nat), Blk.row true [IntKind.i64, IntKind.i64] el nl cl fl)], next := (2 : Nat) }) (y0) (y1)) ∧ (K y0 y1)))))))))))))))
theorem con29_rE (el nl cl : Nat) (fl : RF) (a : Int) (b : Int) (c : Int) (d : Int) (e : Int) (K : Value → List Blk → Prop) : con29_rV el nl cl fl a b c d e K = bodyX (mk X10) (callN (mk X10) 3) (con29_rA el nl cl fl a b c d e) Try.f29 [.agg ⟨[.int .i64 a, .int .i64 b, .int .i64 c, .int .i64 d, .int .i64 e]⟩, rsl 0 0 nl cl] (stOf [.row true [.i64, .i64] el nl cl fl]) fun v s' => ∃ v1 news, Rx.Found 1 v s' v1 news ∧ K v1 news := by kernel_rfl
set_option maxHeartbeats 4000000 in
set_option tactic.hygienic false in
theorem con29_rP (el nl cl : Nat) (fl : RF) (a : Int) (b : Int) (c : Int) (d : Int) (e : Int) (K : Value → List Blk → Prop)  (hI : InC a b c d e) (hnl : nl ≤ 100000) (h : (¬ (ckF a b c d e nl fl).2 = 0 → K (.tuple ⟨[.int .i64 0, .int .i64 (ckF a b c d e nl fl).2]⟩) []) ∧ ((ckF a b c d e nl fl).2 = 0 → K (.tuple ⟨[.int .i64 (tot fl nl), .int .i64 0]⟩) [])) : con29_rV el nl cl fl a b c d e K := by
  unfold con29_rV
  have G : (ckF a b c d e nl fl).2 = 0 → good a b c d e ∧ ((nl : Nat) : Int) = b ∧ ∀ i, i < nl → fok a fl i := ckF_zero
  have SL := sel_len (p := P12 fl) (n := nl)
  repeat' (first | (with_reducible exact rfl) | (with_reducible exact trivial) | (with_reducible refine And.intro ?_ ?_) | (intro) | (with_reducible refine br_intro (fun hq => ?_) (fun hq => ?_)) | (with_reducible refine if_both (fun hz => ?_) (fun hz => ?_)) | fail)
  all_goals first
    | omega
    | assumption
    | exact .inl ⟨0, (by (refine And.intro (And.intro rfl (And.intro rfl (And.intro rfl rfl))) ?_; repeat' (first | exact trivial | exact rfl | exact fun _ _ _ _ => rfl | refine And.intro ?_ ?_ | omega | fail))), rfl, by assumption⟩
    | exact .inr ⟨(0, y0), (by (refine And.intro (And.intro rfl (And.intro rfl (And.intro rfl rfl))) ?_; repeat' (first | exact trivial | exact rfl | exact fun _ _ _ _ => rfl | refine And.intro ?_ ?_ | omega | fail))), by show 0 ≤ List.length (sel (P12 fl) nl); omega, by show (0 : Nat) ≤ 0; omega⟩
    | exact .inr ⟨(y0.1 + 1, y0.2), (by (refine And.intro (And.intro rfl (And.intro rfl (And.intro rfl rfl))) ?_; repeat' (first | exact trivial | exact rfl | exact fun _ _ _ _ => rfl | refine And.intro ?_ ?_ | omega | fail))), ⟨by show y0.1 + 1 ≤ List.length (sel (P12 fl) nl); omega, by show 0 ≤ y0.1 + 1; omega⟩, by show List.length (sel (P12 fl) nl) - (y0.1 + 1) < List.length (sel (P12 fl) nl) - y0.1; omega⟩
    | exact .inr ⟨(y1.1 + 1, y1.2), (by (refine And.intro (And.intro rfl (And.intro rfl (And.intro rfl rfl))) ?_; repeat' (first | exact trivial | exact rfl | exact fun _ _ _ _ => rfl | refine And.intro ?_ ?_ | omega | fail))), ⟨by show y1.1 + 1 ≤ List.length (sel (P12 fl) nl); omega, by show 0 ≤ y1.1 + 1; omega⟩, by show List.length (sel (P12 fl) nl) - (y1.1 + 1) < List.length (sel (P12 fl) nl) - y1.1; omega⟩
    | (have g := G (by assumption)
       obtain ⟨i, h1, h2, -⟩ := sel_mem (p := P12 fl) (n := nl) (k := y0.1) (by omega)
       rw [h2]
       first | omega | (simp only [Int.toNat_natCast]; omega))
    | (have g := G (by assumption)
       obtain ⟨i, h1, h2, -⟩ := sel_mem (p := P12 fl) (n := nl) (k := y1.1) (by omega)
       rw [h2]
       first | omega | (simp only [Int.toNat_natCast]; omega))
    | (have g := G (by assumption)
       obtain ⟨i, h1, h2, -⟩ := sel_mem (p := P12 fl) (n := nl) (k := y0.1) (by omega)
       have g1 := sl_bd g.1.2.1 g.2.2 (p := P12 fl) (k := y0.1) (by omega)
       have g2 := g.2.2 i h1
       unfold fok at g2
       rw [h2]
       simp only [Int.toNat_natCast]
       omega)
    | (have g := G (by assumption)
       obtain ⟨i, h1, h2, -⟩ := sel_mem (p := P12 fl) (n := nl) (k := y1.1) (by omega)
       have g1 := sl_bd g.1.2.1 g.2.2 (p := P12 fl) (k := y1.1) (by omega)
       have g2 := g.2.2 i h1
       unfold fok at g2
       rw [h2]
       simp only [Int.toNat_natCast]
       omega)
    | exact fin0 (by kernel_rfl) (by kernel_rfl) (h.1 (by assumption))
    | (have g := G (by assumption)
       have q := sl_tot (p := P12 fl) (f := fl) (n := nl) (fun i hi hp => P12_no (g.2.2 i hi) hp)
       have e1 : (sel (P12 fl) nl) = [] := by (first | assumption | exact (show y0 = 0 ∧ (sel (P12 fl) nl) = [] by assumption).2)
       rw [e1] at q
       have q2 : tot fl nl = 0 := q.symm
       rw [q2] at h
       exact fin0 (by kernel_rfl) (by kernel_rfl) (h.2 (by assumption)))
    | (have g := G (by assumption)
       have q := sl_tot (p := P12 fl) (f := fl) (n := nl) (fun i hi hp => P12_no (g.2.2 i hi) hp)
       have e1 : (sel (P12 fl) nl) = [] := by (first | assumption | exact (show y1 = 0 ∧ (sel (P12 fl) nl) = [] by assumption).2)
       rw [e1] at q
       have q2 : tot fl nl = 0 := q.symm
       rw [q2] at h
       exact fin0 (by kernel_rfl) (by kernel_rfl) (h.2 (by assumption)))
    | (have g := G (by assumption)
       have q := sl_tot (p := P12 fl) (f := fl) (n := nl) (fun i hi hp => P12_no (g.2.2 i hi) hp)
       have e1 : y0.1 = List.length (sel (P12 fl) nl) := by omega
       rw [e1, q]
       exact fin0 (by kernel_rfl) (by kernel_rfl) (h.2 (by assumption)))
    | (have g := G (by assumption)
       have q := sl_tot (p := P12 fl) (f := fl) (n := nl) (fun i hi hp => P12_no (g.2.2 i hi) hp)
       have e1 : y1.1 = List.length (sel (P12 fl) nl) := by omega
       rw [e1, q]
       exact fin0 (by kernel_rfl) (by kernel_rfl) (h.2 (by assumption)))
theorem con29_ok : BodyOk (mk X10) 3 Try.f29 con29 := by
  intro vs bs K hh hro
  clear hro
  unfold con29 at hh
  split at hh
  · obtain ⟨a, b, c, d, e, rfl, hI, hh0⟩ := five_inv hh
    rcases parse_inv hh0 with ⟨rfl, hh1⟩ | ⟨el, nl, cl, fl, bs1, rfl, hnl, rfl, hh1⟩ <;> clear hh0
    · obtain ⟨rfl, hc⟩ := hh1
      exact ⟨_, cast (con29_nE a b c d e K) (con29_nP a b c d e K hI hc)⟩
    · obtain ⟨rfl, hc⟩ := hh1
      exact ⟨_, cast (con29_rE el nl cl fl a b c d e K) (con29_rP el nl cl fl a b c d e K hI hnl hc)⟩
  · exact hh.elim
theorem con29_told : Told 29 (specOf con29) := told (X := X10) (X10_told) (by kernel_rfl) (by kernel_rfl) (by kernel_rfl) con29_ok
end Go.Proofs.Ytkflmglpniebfaa.Fr
