/-
  Frames: occupied. No project text.
-/
import Derived.Test.YtkflmglpniebfaaFr9
namespace Go.Proofs.Ytkflmglpniebfaa.Fr
open Go.Rx
open Go.RowKit (Below)
set_option linter.unusedVariables false
@[reducible] def X10 : List (Nat × Rx.Spec) := [(21, specOf con21), (22, specOf con22), (68, specOf con68)]
theorem X10_told : ∀ p ∈ X10, Told p.1 p.2 := by
  intro p hp
  simp only [List.mem_cons, List.not_mem_nil, or_false] at hp
  rcases hp with rfl | rfl | rfl
  · exact con21_told
  · exact con22_told
  · exact con68_told
/-- The used words of the first k frames. -/
def tot (f : RF) : Nat → Int
  | 0 => 0
  | k + 1 => tot f k + f k 1
theorem tot_bd {a : Int} {f : RF} (ha : a ≤ 64) : ∀ {k : Nat}, (∀ i, i < k → fok a f i) → 0 ≤ tot f k ∧ tot f k ≤ 64 * (k : Int)
  | 0, _ => by simp [tot]
  | k + 1, h => by
    have ih := tot_bd ha (k := k) (fun i hi => h i (by omega))
    have g := h k (by omega)
    unfold fok at g
    simp only [tot]
    omega
def con30 : Con := fun vs bs K => match vs with
  | [u, v] => five u fun a b c d e => parse [.i64, .i64] 0 v bs fun n f _ bs => bs = [] ∧ (¬ (ckF a b c d e n f).2 = 0 → K (.tuple ⟨[.int .i64 0, .int .i64 (ckF a b c d e n f).2]⟩) []) ∧ ((ckF a b c d e n f).2 = 0 → K (.tuple ⟨[.int .i64 (tot f n), .int .i64 0]⟩) [])
  | _ => False

def con30_nA (a : Int) (b : Int) (c : Int) (d : Int) (e : Int) : Ann := fun k => bif Nat.beq k 6 then some [{ α := Nat, T := fun k => ⟨33, [(1, .slice none 0 0), (8, .int .i64 (tot zF k)), (9, .int .i64 (k : Int))]⟩, S := fun _ => ⟨[], 0⟩, I := fun k => k ≤ 0 ∧ 0 ≤ k, m := fun k => 0 - k, ρ0 := [], ρ1 := [[]] }] else none
def con30_rA (el nl cl : Nat) (fl : RF) (a : Int) (b : Int) (c : Int) (d : Int) (e : Int) : Ann := fun k => bif Nat.beq k 6 then some [{ α := Nat, T := fun k => ⟨33, [(1, rsl 0 0 nl cl), (8, .int .i64 (tot fl k)), (9, .int .i64 (k : Int))]⟩, S := fun _ => ⟨[(0, .row true [.i64, .i64] el nl cl fl)], 1⟩, I := fun k => k ≤ nl ∧ 0 ≤ k, m := fun k => nl - k, ρ0 := [], ρ1 := [[]] }] else none
def con30_nV (a : Int) (b : Int) (c : Int) (d : Int) (e : Int) (K : Value → List Blk → Prop) : Prop := ((true = true) ∧ ((true = true) ∧ ((true = true) ∧ ((true = true) ∧ ((InC a b c d e) ∧ ((@Eq (List Blk) ([]) ([])) ∧ ((true = true) ∧ (if (@Eq Int (Prod.snd (ckF a b c d e (0 : Nat) zF)) ((0 : Int))) then ((∃ y0 : Nat, ((Go.Rx.Sub 0 [] ⟨33, [(9, Value.int IntKind.i64 (0 : Int)), (8, Value.int IntKind.i64 (0 : Int)), (1, Value.slice none (0 : Nat) (0 : Nat))]⟩ ⟨[], 1⟩ ({ n := (33 : Nat), m := [((1 : Nat), Value.slice none (0 : Nat) (0 : Nat)), ((8 : Nat), Value.int IntKind.i64 (tot zF y0)), ((9 : Nat), Value.int IntKind.i64 (↑y0 : Int))] }) ({ h := [], next := (0 : Nat) })) ∧ ((y0 ≤ (0 : Nat)) ∧ ((0 : Nat) ≤ y0)))) ∧ (∀ y0 : Nat, (((y0 ≤ (0 : Nat)) ∧ ((0 : Nat) ≤ y0)) → ((@Eq (Ev.TK) (Ev.TK.slice) (Ev.TK.slice)) ∧ ((true = true) ∧ (∃ y1 : Value, (∃ y2 : List Blk, ((Go.Rx.Found 0 (Value.tuple { toList := [Value.int IntKind.i64 (tot zF y0), Value.int IntKind.i64 (0 : Int)] }) ({ h := [], next := (0 : Nat) }) (y1) (y2)) ∧ (K y1 y2))))))))) else (∃ y0 : Value, (∃ y1 : List Blk, ((Go.Rx.Found 0 (Value.tuple { toList := [Value.int IntKind.i64 (0 : Int), Value.int IntKind.i64 (Prod.snd (ckF a b c d e (0 : Nat) zF))] }) ({ h := [((0 : Nat), Blk.cells [Value.int IntKind.i64 a, Value.int IntKind.i64 b, Value.int IntKind.i64 c, Value.int IntKind.i64 d, Value.int IntKind.i64 e] (23 : Nat))], next := (1 : Nat) }) (y0) (y1)) ∧ (K y0 y1))))))))))))
theorem con30_nE (a : Int) (b : Int) (c : Int) (d : Int) (e : Int) (K : Value → List Blk → Prop) : con30_nV a b c d e K = bodyX (mk X10) (callN (mk X10) 3) (con30_nA a b c d e) Try.f30 [.agg ⟨[.int .i64 a, .int .i64 b, .int .i64 c, .int .i64 d, .int .i64 e]⟩, .slice none 0 0] (stOf []) fun v s' => ∃ v1 news, Rx.Found 0 v s' v1 news ∧ K v1 news := by kernel_rfl
set_option maxHeartbeats 4000000 in
set_option tactic.hygienic false in
theorem con30_nP (a : Int) (b : Int) (c : Int) (d : Int) (e : Int) (K : Value → List Blk → Prop)  (hI : InC a b c d e) (h : (¬ (ckF a b c d e 0 zF).2 = 0 → K (.tuple ⟨[.int .i64 0, .int .i64 (ckF a b c d e 0 zF).2]⟩) []) ∧ ((ckF a b c d e 0 zF).2 = 0 → K (.tuple ⟨[.int .i64 (tot zF 0), .int .i64 0]⟩) [])) : con30_nV a b c d e K := by
  unfold con30_nV
  have G : (ckF a b c d e 0 zF).2 = 0 → good a b c d e ∧ ((0 : Nat) : Int) = b ∧ ∀ i, i < 0 → fok a zF i := ckF_zero
  repeat' (first | (with_reducible exact rfl) | (with_reducible exact trivial) | (with_reducible refine And.intro ?_ ?_) | (intro) | (with_reducible refine br_intro (fun hq => ?_) (fun hq => ?_)) | (with_reducible refine if_both (fun hz => ?_) (fun hz => ?_)) | fail)
  all_goals first
    | omega
    | assumption
    | exact ⟨0, (by (refine And.intro (And.intro rfl (And.intro rfl (And.intro rfl rfl))) ?_; repeat' (first | exact trivial | exact rfl | exact fun _ _ _ _ => rfl | refine And.intro ?_ ?_ | omega | fail))), by omega, by omega⟩
    | exact ⟨y0 + 1, (by (refine And.intro (And.intro rfl (And.intro rfl (And.intro rfl rfl))) ?_; repeat' (first | exact trivial | exact rfl | exact fun _ _ _ _ => rfl | refine And.intro ?_ ?_ | omega | fail))), ⟨by omega, by omega⟩, by omega⟩
    | (have g := G (by assumption)
       have g1 := tot_bd g.1.2.1 (k := y0) (fun i hi => g.2.2 i (by omega))
       have g2 := g.2.2 y0 (by omega)
       unfold fok at g2
       omega)
    | exact fin0 (by kernel_rfl) (by kernel_rfl) (h.1 (by assumption))
    | (have e1 : y0 = 0 := by omega
       rw [e1]
       exact fin0 (by kernel_rfl) (by kernel_rfl) (h.2 (by assumption)))
def con30_rV (el nl cl : Nat) (fl : RF) (a : Int) (b : Int) (c : Int) (d : Int) (e : Int) (K : Value → List Blk → Prop) : Prop := ((true = true) ∧ ((true = true) ∧ ((true = true) ∧ (((0 : Nat) + nl ≤ nl) ∧ ((InC a b c d e) ∧ ((@Eq Nat ((0 : Nat)) ((0 : Nat))) ∧ ((nl ≤ (100000 : Nat)) ∧ (((@Eq (List IntKind) ([IntKind.i64, IntKind.i64]) ([IntKind.i64, IntKind.i64])) ∧ ((@Eq Nat (nl) (nl)) ∧ (@Eq Nat (cl) (cl)))) ∧ ((@Eq (List Blk) ([]) ([])) ∧ ((true = true) ∧ (if (@Eq Int (Prod.snd (ckF a b c d e nl fl)) ((0 : Int))) then ((∃ y0 : Nat, ((Go.Rx.Sub 1 [] ⟨33, [(9, Value.int IntKind.i64 (0 : Int)), (8, Value.int IntKind.i64 (0 : Int)), (1, rsl (0 : Nat) (0 : Nat) nl cl)]⟩ ⟨[(0, Blk.row true [IntKind.i64, IntKind.i64] el nl cl fl)], 2⟩ ({ n := (33 : Nat), m := [((1 : Nat), rsl (0 : Nat) (0 : Nat) nl cl), ((8 : Nat), Value.int IntKind.i64 (tot fl y0)), ((9 : Nat), Value.int IntKind.i64 (↑y0 : Int))] }) ({ h := [((0 : Nat), Blk.row true [IntKind.i64, IntKind.i64] el nl cl fl)], next := (1 : Nat) })) ∧ ((y0 ≤ nl) ∧ ((0 : Nat) ≤ y0)))) ∧ (∀ y0 : Nat, (((y0 ≤ nl) ∧ ((0 : Nat) ≤ y0)) → ((@Eq (Ev.TK) (Ev.TK.slice) (Ev.TK.slice)) ∧ ((true = true) ∧ (if ((↑y0 : Int) < (↑nl : Int)) then (((@Eq (Ev.TK) (Ev.TK.slice) (Ev.TK.slice)) ∧ (@Eq Nat ((2 : Nat)) ((2 : Nat)))) ∧ ((((0 : Int) ≤ (↑y0 : Int)) ∧ ((↑y0 : Int) < (↑nl : Int))) ∧ ((true = true) ∧ ((y0 < nl) ∧ ((true = true) ∧ ((((-9223372036854775808 : Int) ≤ tot fl y0 + fl y0 (1 : Nat)) ∧ (tot fl y0 + fl y0 (1 : Nat) ≤ (9223372036854775807 : Int))) ∧ ((true = true) ∧ ((((-9223372036854775808 : Int) ≤ (↑y0 : Int) + (1 : Int)) ∧ ((↑y0 : Int) + (1 : Int) ≤ (9223372036854775807 : Int))) ∧ (∃ y1 : Nat, ((Go.Rx.Sub 1 [] ⟨33, [(9, Value.int IntKind.i64 ((↑y0 : Int) + (1 : Int))), (8, Value.int IntKind.i64 (tot fl y0 + fl y0 (1 : Nat))), (1, rsl (0 : Nat) (0 : Nat) nl cl)]⟩ ⟨[(0, Blk.row true [IntKind.i64, IntKind.i64] el nl cl fl)], 1⟩ ({ n := (33 : Nat), m := [((1 : Nat), rsl (0 : Nat) (0 : Nat) nl cl), ((8 : Nat), Value.int IntKind.i64 (tot fl y1)), ((9 : Nat), Value.int IntKind.i64 (↑y1 : Int))] }) ({ h := [((0 : Nat), Blk.row true [IntKind.i64, IntKind.i64] el nl cl fl)], next := (1 : Nat) })) ∧ (((y1 ≤ nl) ∧ ((0 : Nat) ≤ y1)) ∧ (nl - y1 < nl - y0)))))))))))) else (∃ y1 : Value, (∃ y2 : List Blk, ((Go.Rx.Found 1 (Value.tuple { toList := [Value.int IntKind.i64 (tot fl y0), Value.int IntKind.i64 (0 : Int)] }) ({ h := [((0 : Nat), Blk.row true [IntKind.i64, IntKind.i64] el nl cl fl)], next := (1 : Nat) }) (y1) (y2)) ∧ (K y1 y2)))))))))) else (∃ y0 : Value, (∃ y1 : List Blk, ((Go.Rx.Found 1 (Value.tuple { toList := [Value.int IntKind.i64 (0 : Int), Value.int IntKind.i64 (Prod.snd (ckF a b c d e nl fl))] }) ({ h := [((1 : Nat), Blk.cells [Value.int IntKind.i64 a, Value.int IntKind.i64 b, Value.int IntKind.i64 c, Value.int IntKind.i64 d, Value.int IntKind.i64 e] (23 : Nat)), ((0 : Nat), Blk.row true [IntKind.i64, IntKind.i64] el nl cl fl)], next := (2 : Nat) }) (y0) (y1)) ∧ (K y0 y1)))))))))))))))
theorem con30_rE (el nl cl : Nat) (fl : RF) (a : Int) (b : Int) (c : Int) (d : Int) (e : Int) (K : Value → List Blk → Prop) : con30_rV el nl cl fl a b c d e K = bodyX (mk X10) (callN (mk X10) 3) (con30_rA el nl cl fl a b c d e) Try.f30 [.agg ⟨[.int .i64 a, .int .i64 b, .int .i64 c, .int .i64 d, .int .i64 e]⟩, rsl 0 0 nl cl] (stOf [.row true [.i64, .i64] el nl cl fl]) fun v s' => ∃ v1 news, Rx.Found 1 v s' v1 news ∧ K v1 news := by kernel_rfl
set_option maxHeartbeats 4000000 in
set_option tactic.hygienic false in
theorem con30_rP (el nl cl : Nat) (fl : RF) (a : Int) (b : Int) (c : Int) (d : Int) (e : Int) (K : Value → List Blk → Prop)  (hI : InC a b c d e) (hnl : nl ≤ 100000) (h : (¬ (ckF a b c d e nl fl).2 = 0 → K (.tuple ⟨[.int .i64 0, .int .i64 (ckF a b c d e nl fl).2]⟩) []) ∧ ((ckF a b c d e nl fl).2 = 0 → K (.tuple ⟨[.int .i64 (tot fl nl), .int .i64 0]⟩) [])) : con30_rV el nl cl fl a b c d e K := by
  unfold con30_rV
  have G : (ckF a b c d e nl fl).2 = 0 → good a b c d e ∧ ((nl : Nat) : Int) = b ∧ ∀ i, i < nl → fok a fl i := ckF_zero
  repeat' (first | (with_reducible exact rfl) | (with_reducible exact trivial) | (with_reducible refine And.intro ?_ ?_) | (intro) | (with_reducible refine br_intro (fun hq => ?_) (fun hq => ?_)) | (with_reducible refine if_both (fun hz => ?_) (fun hz => ?_)) | fail)
  all_goals first
    | omega
    | assumption
    | exact ⟨0, (by (refine And.intro (And.intro rfl (And.intro rfl (And.intro rfl rfl))) ?_; repeat' (first | exact trivial | exact rfl | exact fun _ _ _ _ => rfl | refine And.intro ?_ ?_ | omega | fail))), by omega, by omega⟩
    | exact ⟨y0 + 1, (by (refine And.intro (And.intro rfl (And.intro rfl (And.intro rfl rfl))) ?_; repeat' (first | exact trivial | exact rfl | exact fun _ _ _ _ => rfl | refine And.intro ?_ ?_ | omega | fail))), ⟨by omega, by omega⟩, by omega⟩
    | (have g := G (by assumption)
       have g1 := tot_bd g.1.2.1 (k := y0) (fun i hi => g.2.2 i (by omega))
       have g2 := g.2.2 y0 (by omega)
       unfold fok at g2
       omega)
    | exact fin0 (by kernel_rfl) (by kernel_rfl) (h.1 (by assumption))
    | (have e1 : y0 = nl := by omega
       rw [e1]
       exact fin0 (by kernel_rfl) (by kernel_rfl) (h.2 (by assumption)))
theorem con30_ok : BodyOk (mk X10) 3 Try.f30 con30 := by
  intro vs bs K hh hro
  clear hro
  unfold con30 at hh
  split at hh
  · obtain ⟨a, b, c, d, e, rfl, hI, hh0⟩ := five_inv hh
    rcases parse_inv hh0 with ⟨rfl, hh1⟩ | ⟨el, nl, cl, fl, bs1, rfl, hnl, rfl, hh1⟩ <;> clear hh0
    · obtain ⟨rfl, hc⟩ := hh1
      exact ⟨_, cast (con30_nE a b c d e K) (con30_nP a b c d e K hI hc)⟩
    · obtain ⟨rfl, hc⟩ := hh1
      exact ⟨_, cast (con30_rE el nl cl fl a b c d e K) (con30_rP el nl cl fl a b c d e K hI hnl hc)⟩
  · exact hh.elim
theorem con30_told : Told 30 (specOf con30) := told (X := X10) (X10_told) (by kernel_rfl) (by kernel_rfl) (by kernel_rfl) con30_ok
end Go.Proofs.Ytkflmglpniebfaa.Fr
