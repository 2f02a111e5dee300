/-
  Admit: a run. No project text.
-/
import Derived.Test.YtnpgeeajlbglaaaHa2b
namespace Go.Proofs.Ytnpgeeajlbglaaa.Fr
open Go.Rx
open Go.RowKit (Below)
set_option linter.unusedVariables false
/-- What is admitted of m numbers from number k on: how many, and the error of the one that was not. -/
def rn (a b c d e : Int) (f : RF) : Nat → Nat → Int → Int → Int × Int
  | 0, k, _, _ => ((k : Int), 0)
  | m + 1, k, o, l => if aft a b c d e o l (f k 0) = 0 then rn a b c d e f m (k + 1) (o + f k 0) (l - f k 0) else ((k : Int), aft a b c d e o l (f k 0))
def rrn (a b c d e o l : Int) (n : Nat) (f : RF) : Int × Int := if ste a b c d e o l = 0 then (if 200 < n then (0, 3) else rn a b c d e f n 0 o l) else (0, ste a b c d e o l)
theorem rrn_bad {a b c d e o l : Int} {n : Nat} {f : RF} (h : ¬ ste a b c d e o l = 0) : rrn a b c d e o l n f = (0, ste a b c d e o l) := if_neg h
theorem rrn_long {a b c d e o l : Int} {n : Nat} {f : RF} (h : ste a b c d e o l = 0) (h' : 200 < n) : rrn a b c d e o l n f = (0, 3) := by unfold rrn; rw [if_pos h, if_pos h']
theorem rrn_go {a b c d e o l : Int} {n : Nat} {f : RF} (h : ste a b c d e o l = 0) (h' : ¬ 200 < n) : rrn a b c d e o l n f = rn a b c d e f n 0 o l := by unfold rrn; rw [if_pos h, if_neg h']
theorem rn_step (a b c d e : Int) (f : RF) {n k : Nat} (o l : Int) (h : k < n) : rn a b c d e f (n - k) k o l = if aft a b c d e o l (f k 0) = 0 then rn a b c d e f (n - (k + 1)) (k + 1) (o + f k 0) (l - f k 0) else ((k : Int), aft a b c d e o l (f k 0)) := by
  rw [show n - k = (n - (k + 1)) + 1 by omega]
  rfl
theorem rn_ok {a b c d e : Int} {f : RF} {n k : Nat} {o l : Int} (h : k < n) (h' : aft a b c d e o l (f k 0) = 0) : rn a b c d e f (n - k) k o l = rn a b c d e f (n - (k + 1)) (k + 1) (o + f k 0) (l - f k 0) := by
  rw [rn_step a b c d e f o l h, if_pos h']
theorem rn_no {a b c d e : Int} {f : RF} {n k : Nat} {o l : Int} (h : k < n) (h' : ¬ aft a b c d e o l (f k 0) = 0) : rn a b c d e f (n - k) k o l = ((k : Int), aft a b c d e o l (f k 0)) := by
  rw [rn_step a b c d e f o l h, if_neg h']
theorem rn_end {a b c d e : Int} {f : RF} {n k : Nat} {o l : Int} (h : ¬ k < n) (h' : k ≤ n) : rn a b c d e f (n - k) k o l = ((n : Int), 0) := by
  obtain rfl : k = n := by omega
  rw [Nat.sub_self]
  rfl
/-- Where one number is admitted, there is a state again. -/
theorem aft_next {a b c d e o l x : Int} (h : aft a b c d e o l x = 0) : ste a b c d e o l = 0 ∧ ste a b c d e (o + x) (l - x) = 0 ∧ 1 ≤ x ∧ x ≤ 64 ∧ 0 ≤ o ∧ o ≤ 2000 ∧ 0 ≤ l ∧ l ≤ 64 ∧ x ≤ l := by
  have z1 := ste_cases a b c d e o l
  have z2 := ade_cases a b c d e o l x
  have z3 := aft_cases a b c d e o l x
  have z4 := ste_cases a b c d e (o + x) (l - x)
  have z5 := mulC a b c d e
  have z6 := chk_cases a b c d e
  omega
@[reducible] def XR1 : List (Nat × Rx.Spec) := [(32, specOf con32), (53, specOf con53)]
theorem XR1_told : ∀ p ∈ XR1, Told p.1 p.2 := by
  intro p hp
  simp only [List.mem_cons, List.not_mem_nil, or_false] at hp
  rcases hp with rfl | rfl
  · exact con32_told
  · exact con53_told
def con29 : Con := fun vs bs K => match vs with
  | [u, .int .i64 o, .int .i64 l, vr] => five u fun a b c d e => parse [.i64] 0 vr bs fun nr fr j0 bs0 => bs0 = [] ∧ (True) ∧ (K (.tuple ⟨[.int .i64 (rrn a b c d e o l nr fr).1, .int .i64 (rrn a b c d e o l nr fr).2]⟩) [])
  | _ => False

def con29_nA (a b c d e : Int) (o : Int) (l : Int) : Ann := fun k tt ss => bif Nat.beq k 7 then some [{ α := Nat × Int × Int, T := fun k => ⟨49, [(1, .int .i64 k.2.1), (2, .int .i64 k.2.2), (3, .slice none 0 0), (4, .pointer (some ⟨0, 0, none⟩)), (24, .slice none 0 0), (25, .int .i64 (0 : Nat)), (26, .int .i64 (k.1 : Int))]⟩, S := fun _ => ⟨[(0, .cells [.int .i64 a, .int .i64 b, .int .i64 c, .int .i64 d, .int .i64 e] 54)], 1⟩, I := fun k => (k.1 ≤ 0 ∧ 0 ≤ 200 ∧ ste a b c d e k.2.1 k.2.2 = 0) ∧ rrn a b c d e o l 0 zF = rn a b c d e zF (0 - k.1) k.1 k.2.1 k.2.2, m := fun k => 0 - k.1, ρ0 := [(0, 0)], ρ1 := [[(0, 0)]] }] else none
def con29_rA (a b c d e : Int) (er nr cr : Nat) (fr : RF) (o : Int) (l : Int) : Ann := fun k tt ss => bif Nat.beq k 7 then some [{ α := Nat × Int × Int, T := fun k => ⟨49, [(1, .int .i64 k.2.1), (2, .int .i64 k.2.2), (3, rsl 0 0 nr cr), (4, .pointer (some ⟨1, 0, none⟩)), (24, rsl 0 0 nr cr), (25, .int .i64 (nr : Nat)), (26, .int .i64 (k.1 : Int))]⟩, S := fun _ => ⟨[(1, .cells [.int .i64 a, .int .i64 b, .int .i64 c, .int .i64 d, .int .i64 e] 54), (0, .row true [.i64] er nr cr fr)], 2⟩, I := fun k => (k.1 ≤ nr ∧ nr ≤ 200 ∧ ste a b c d e k.2.1 k.2.2 = 0) ∧ rrn a b c d e o l nr fr = rn a b c d e fr (nr - k.1) k.1 k.2.1 k.2.2, m := fun k => nr - k.1, ρ0 := [(1, 1)], ρ1 := [[(1, 1)]] }] else none
set_option maxRecDepth 100000 in
def con29_nV (a b c d e : Int) (o : Int) (l : Int) (K : Value → List Blk → Prop) : Prop := let q0 := ((0 : Nat) ≤ (200 : Nat)); let q1 := TS; (T0 ∧ (T0 ∧ (T0 ∧ (T0 ∧ (T0 ∧ ((InC a b c d e) ∧ (eB ∧ ((True) ∧ (T0 ∧ (if (@Eq Int (ste a b c d e o l) ((0 : Int))) then (q1 ∧ (T0 ∧ (q1 ∧ ((∃ y0 : Nat × Int × Int, let q4 := (Prod.fst (Prod.snd y0)); let q5 := (Prod.snd (Prod.snd y0)); ((Go.Rx.Sub 0 [((0 : Nat), (0 : Nat))] ⟨49, [(26, vi (0 : Int)), (25, vi (0 : Int)), (24, vn), (4, Value.pointer (some { block := (0 : Nat), off := (0 : Nat) })), (1, vi o), (2, vi l), (3, vn)]⟩ ⟨[(0, Blk.cells [vi a, vi b, vi c, vi d, vi e] (54 : Nat))], 1⟩ ({ n := (49 : Nat), m := [((1 : Nat), vi q4), ((2 : Nat), vi q5), ((3 : Nat), vn), ((4 : Nat), Value.pointer (some { block := (0 : Nat), off := (0 : Nat) })), ((24 : Nat), vn), ((25 : Nat), vi (0 : Int)), ((26 : Nat), vi (↑(Prod.fst y0) : Int))] }) ({ h := [((0 : Nat), Blk.cells [vi a, vi b, vi c, vi d, vi e] (54 : Nat))], next := (1 : Nat) })) ∧ (((Prod.fst y0 ≤ (0 : Nat)) ∧ (q0 ∧ (@Eq Int (ste a b c d e q4 q5) ((0 : Int))))) ∧ (rrn a b c d e o l (0 : Nat) zF = rn a b c d e zF ((0 : Nat) - Prod.fst y0) (Prod.fst y0) q4 q5)))) ∧ (∀ y0 : Nat × Int × Int, let q2 := (Prod.fst (Prod.snd y0)); let q3 := (Prod.snd (Prod.snd y0)); ((((Prod.fst y0 ≤ (0 : Nat)) ∧ (q0 ∧ (@Eq Int (ste a b c d e q2 q3) ((0 : Int))))) ∧ (rrn a b c d e o l (0 : Nat) zF = rn a b c d e zF ((0 : Nat) - Prod.fst y0) (Prod.fst y0) q2 q3)) → (T0 ∧ (q1 ∧ (∃ y1 : Value, (∃ y2 : List Blk, ((Go.Rx.Found 0 (Value.tuple { toList := [vi (0 : Int), vi (0 : Int)] }) ({ h := [((0 : Nat), Blk.cells [vi a, vi b, vi c, vi d, vi e] (54 : Nat))], next := (1 : Nat) }) (y1) (y2)) ∧ (K y1 y2)))))))))))) else (∃ y0 : Value, (∃ y1 : List Blk, ((Go.Rx.Found 0 (Value.tuple { toList := [vi (0 : Int), vi (ste a b c d e o l)] }) ({ h := [((0 : Nat), Blk.cells [vi a, vi b, vi c, vi d, vi e] (54 : Nat))], next := (1 : Nat) }) (y0) (y1)) ∧ (K y0 y1))))))))))))))
set_option maxRecDepth 100000 in
theorem con29_nE (a b c d e : Int) (o : Int) (l : Int) (K : Value → List Blk → Prop) : con29_nV a b c d e o l K = bodyX (mk XR1) (callN (mk XR1) 4) (con29_nA a b c d e o l) Try.f29 [.agg ⟨[.int .i64 a, .int .i64 b, .int .i64 c, .int .i64 d, .int .i64 e]⟩, .int .i64 o, .int .i64 l, .slice none 0 0] (stOf []) fun v s' => ∃ v1 news, Rx.Found 0 v s' v1 news ∧ K v1 news := by kernel_rfl
set_option maxRecDepth 100000 in
set_option maxHeartbeats 4000000 in
set_option tactic.hygienic false in
theorem con29_nP (a b c d e : Int) (o : Int) (l : Int) (K : Value → List Blk → Prop)  (hI : InC a b c d e) (h : K (.tuple ⟨[.int .i64 (rrn a b c d e o l 0 zF).1, .int .i64 (rrn a b c d e o l 0 zF).2]⟩) []) : con29_nV a b c d e o l K := by
  unfold con29_nV
  conv => zeta

  repeat' (first | (with_reducible exact rfl) | (with_reducible exact trivial) | (with_reducible refine And.intro ?_ ?_) | (intro) | (with_reducible refine br_intro (fun hq => ?_) (fun hq => ?_)) | (with_reducible refine if_both (fun hz => ?_) (fun hz => ?_)) | fail)
  all_goals try (rename Nat × Int × Int => k; rename _ ∧ rrn _ _ _ _ _ _ _ _ _ = _ => I; obtain ⟨⟨I1, I2, I3⟩, I4⟩ := I)
  all_goals first
    | omega
    | assumption
    | contradiction
    | exact ⟨(0, o, l), (by (refine And.intro (And.intro rfl (And.intro rfl (And.intro rfl rfl))) ?_; (repeat' (first | exact trivial | exact rfl | exact fun _ _ _ _ => rfl | refine And.intro ?_ ?_ | omega | fail)); done)), ⟨⟨by show 0 ≤ 0; omega, by omega, by assumption⟩, rrn_go (by assumption) (by omega)⟩⟩
    | (have q := aft_next (by assumption)
       exact ⟨(k.1 + 1, k.2.1 + zF k.1 0, k.2.2 - zF k.1 0), (by (refine And.intro (And.intro rfl (And.intro rfl (And.intro rfl rfl))) ?_; (repeat' (first | exact trivial | exact rfl | exact fun _ _ _ _ => rfl | refine And.intro ?_ ?_ | omega | fail)); done)), ⟨⟨by show k.1 + 1 ≤ 0; omega, by omega, q.2.1⟩, by rw [I4]; exact rn_ok (by omega) (by assumption)⟩, by show 0 - (k.1 + 1) < 0 - k.1; omega⟩)
    | (have q := aft_next (by assumption); omega)
    | exact fin0 (by kernel_rfl) (by kernel_rfl) (by rw [rrn_bad (by assumption)] at h; exact h)
    | exact fin0 (by kernel_rfl) (by kernel_rfl) (by rw [rrn_long (by assumption) (by omega)] at h; exact h)
    | exact fin0 (by kernel_rfl) (by kernel_rfl) (by rw [I4, rn_no (by omega) (by assumption)] at h; exact h)
    | exact fin0 (by kernel_rfl) (by kernel_rfl) (by rw [I4, rn_end (by omega) (by omega)] at h; exact h)
    | (exfalso; simp at hq; omega)
set_option maxRecDepth 100000 in
def con29_rV (a b c d e : Int) (er nr cr : Nat) (fr : RF) (o : Int) (l : Int) (K : Value → List Blk → Prop) : Prop := let q0 := ((1 : Nat), (1 : Nat)); let q1 := eB; let q2 := (9223372036854775807 : Int); let q3 := (-9223372036854775808 : Int); let q4 := (3, rsl (0 : Nat) (0 : Nat) nr cr); let q5 := (24, rsl (0 : Nat) (0 : Nat) nr cr); let q6 := (25, vi (↑nr : Int)); let q7 := TS; let q8 := ((3 : Nat), rsl (0 : Nat) (0 : Nat) nr cr); let q9 := (0, Blk.row true [IntKind.i64] er nr cr fr); let q10 := ((24 : Nat), rsl (0 : Nat) (0 : Nat) nr cr); let q11 := ((25 : Nat), vi (↑nr : Int)); let q12 := (4, Value.pointer (some { block := (1 : Nat), off := (0 : Nat) })); let q13 := ((4 : Nat), Value.pointer (some { block := (1 : Nat), off := (0 : Nat) })); let q14 := (1, Blk.cells [vi a, vi b, vi c, vi d, vi e] (54 : Nat)); (T0 ∧ (T0 ∧ (T0 ∧ (T0 ∧ (T0 ∧ ((InC a b c d e) ∧ (q1 ∧ ((True) ∧ (T0 ∧ (if (@Eq Int (ste a b c d e o l) ((0 : Int))) then (q7 ∧ (T0 ∧ (if ((200 : Int) < (↑nr : Int)) then (∃ y0 : Value, (∃ y1 : List Blk, ((Go.Rx.Found 1 (Value.tuple { toList := [vi (0 : Int), vi (3 : Int)] }) ({ h := [((1 : Nat), Blk.cells [vi a, vi b, vi c, vi d, vi e] (54 : Nat)), ((0 : Nat), Blk.row true [IntKind.i64] er nr cr fr)], next := (2 : Nat) }) (y0) (y1)) ∧ (K y0 y1)))) else (q7 ∧ ((∃ y0 : Nat × Int × Int, let q21 := (Prod.fst (Prod.snd y0)); let q22 := (Prod.snd (Prod.snd y0)); ((Go.Rx.Sub 1 [q0] ⟨49, [(26, vi (0 : Int)), q6, q5, q12, (1, vi o), (2, vi l), q4]⟩ ⟨[q14, q9], 2⟩ ({ n := (49 : Nat), m := [((1 : Nat), vi q21), ((2 : Nat), vi q22), q8, q13, q10, q11, ((26 : Nat), vi (↑(Prod.fst y0) : Int))] }) ({ h := [((1 : Nat), Blk.cells [vi a, vi b, vi c, vi d, vi e] (54 : Nat)), ((0 : Nat), Blk.row true [IntKind.i64] er nr cr fr)], next := (2 : Nat) })) ∧ (((Prod.fst y0 ≤ nr) ∧ ((nr ≤ (200 : Nat)) ∧ (@Eq Int (ste a b c d e q21 q22) ((0 : Int))))) ∧ (rrn a b c d e o l nr fr = rn a b c d e fr (nr - Prod.fst y0) (Prod.fst y0) q21 q22)))) ∧ (∀ y0 : Nat × Int × Int, let q15 := (↑(Prod.fst y0) : Int); let q16 := (Prod.fst (Prod.snd y0)); let q17 := (Prod.snd (Prod.snd y0)); let q18 := (aft a b c d e q16 q17 (fr (Prod.fst y0) (0 : Nat))); ((((Prod.fst y0 ≤ nr) ∧ ((nr ≤ (200 : Nat)) ∧ (@Eq Int (ste a b c d e q16 q17) ((0 : Int))))) ∧ (rrn a b c d e o l nr fr = rn a b c d e fr (nr - Prod.fst y0) (Prod.fst y0) q16 q17)) → (T0 ∧ (if (q15 < (↑nr : Int)) then ((q7 ∧ (@Eq Nat ((1 : Nat)) ((1 : Nat)))) ∧ ((((0 : Int) ≤ q15) ∧ (q15 < (↑nr : Int))) ∧ ((Prod.fst y0 < nr) ∧ (T0 ∧ (T0 ∧ (T0 ∧ (T0 ∧ (T0 ∧ ((InC a b c d e) ∧ (q1 ∧ ((True) ∧ (T0 ∧ (if (@Eq Int q18 ((0 : Int))) then (T0 ∧ (((q3 ≤ Prod.fst (Prod.snd y0) + fr (Prod.fst y0) (0 : Nat)) ∧ (Prod.fst (Prod.snd y0) + fr (Prod.fst y0) (0 : Nat) ≤ q2)) ∧ (T0 ∧ (((q3 ≤ Prod.snd (Prod.snd y0) - fr (Prod.fst y0) (0 : Nat)) ∧ (Prod.snd (Prod.snd y0) - fr (Prod.fst y0) (0 : Nat) ≤ q2)) ∧ (T0 ∧ (((q3 ≤ q15 + (1 : Int)) ∧ (q15 + (1 : Int) ≤ q2)) ∧ (∃ y1 : Nat × Int × Int, let q19 := (Prod.fst (Prod.snd y1)); let q20 := (Prod.snd (Prod.snd y1)); ((Go.Rx.Sub 1 [q0] ⟨49, [(26, vi (q15 + (1 : Int))), (2, vi (Prod.snd (Prod.snd y0) - fr (Prod.fst y0) (0 : Nat))), (1, vi (Prod.fst (Prod.snd y0) + fr (Prod.fst y0) (0 : Nat))), q4, q12, q5, q6]⟩ ⟨[q14, q9], 2⟩ ({ n := (49 : Nat), m := [((1 : Nat), vi q19), ((2 : Nat), vi q20), q8, q13, q10, q11, ((26 : Nat), vi (↑(Prod.fst y1) : Int))] }) ({ h := [((1 : Nat), Blk.cells [vi a, vi b, vi c, vi d, vi e] (54 : Nat)), ((0 : Nat), Blk.row true [IntKind.i64] er nr cr fr)], next := (2 : Nat) })) ∧ ((((Prod.fst y1 ≤ nr) ∧ ((nr ≤ (200 : Nat)) ∧ (@Eq Int (ste a b c d e q19 q20) ((0 : Int))))) ∧ (rrn a b c d e o l nr fr = rn a b c d e fr (nr - Prod.fst y1) (Prod.fst y1) q19 q20)) ∧ (nr - Prod.fst y1 < nr - Prod.fst y0)))))))))) else (∃ y1 : Value, (∃ y2 : List Blk, ((Go.Rx.Found 1 (Value.tuple { toList := [vi q15, vi q18] }) ({ h := [((1 : Nat), Blk.cells [vi a, vi b, vi c, vi d, vi e] (54 : Nat)), ((0 : Nat), Blk.row true [IntKind.i64] er nr cr fr)], next := (2 : Nat) }) (y1) (y2)) ∧ (K y1 y2))))))))))))))))) else (q7 ∧ (∃ y1 : Value, (∃ y2 : List Blk, ((Go.Rx.Found 1 (Value.tuple { toList := [vi (↑nr : Int), vi (0 : Int)] }) ({ h := [((1 : Nat), Blk.cells [vi a, vi b, vi c, vi d, vi e] (54 : Nat)), ((0 : Nat), Blk.row true [IntKind.i64] er nr cr fr)], next := (2 : Nat) }) (y1) (y2)) ∧ (K y1 y2)))))))))))))) else (∃ y0 : Value, (∃ y1 : List Blk, ((Go.Rx.Found 1 (Value.tuple { toList := [vi (0 : Int), vi (ste a b c d e o l)] }) ({ h := [((1 : Nat), Blk.cells [vi a, vi b, vi c, vi d, vi e] (54 : Nat)), ((0 : Nat), Blk.row true [IntKind.i64] er nr cr fr)], next := (2 : Nat) }) (y0) (y1)) ∧ (K y0 y1))))))))))))))
set_option maxRecDepth 100000 in
theorem con29_rE (a b c d e : Int) (er nr cr : Nat) (fr : RF) (o : Int) (l : Int) (K : Value → List Blk → Prop) : con29_rV a b c d e er nr cr fr o l K = bodyX (mk XR1) (callN (mk XR1) 4) (con29_rA a b c d e er nr cr fr o l) Try.f29 [.agg ⟨[.int .i64 a, .int .i64 b, .int .i64 c, .int .i64 d, .int .i64 e]⟩, .int .i64 o, .int .i64 l, rsl 0 0 nr cr] (stOf [.row true [.i64] er nr cr fr]) fun v s' => ∃ v1 news, Rx.Found 1 v s' v1 news ∧ K v1 news := by kernel_rfl
set_option maxRecDepth 100000 in
set_option maxHeartbeats 4000000 in
set_option tactic.hygienic false in
theorem con29_rP (a b c d e : Int) (er nr cr : Nat) (fr : RF) (o : Int) (l : Int) (K : Value → List Blk → Prop)  (hI : InC a b c d e) (hnr : nr ≤ 100000) (h : K (.tuple ⟨[.int .i64 (rrn a b c d e o l nr fr).1, .int .i64 (rrn a b c d e o l nr fr).2]⟩) []) : con29_rV a b c d e er nr cr fr o l K := by
  unfold con29_rV
  conv => zeta

  repeat' (first | (with_reducible exact rfl) | (with_reducible exact trivial) | (with_reducible refine And.intro ?_ ?_) | (intro) | (with_reducible refine br_intro (fun hq => ?_) (fun hq => ?_)) | (with_reducible refine if_both (fun hz => ?_) (fun hz => ?_)) | fail)
  all_goals try (rename Nat × Int × Int => k; rename _ ∧ rrn _ _ _ _ _ _ _ _ _ = _ => I; obtain ⟨⟨I1, I2, I3⟩, I4⟩ := I)
  all_goals first
    | omega
    | assumption
    | contradiction
    | exact ⟨(0, o, l), (by (refine And.intro (And.intro rfl (And.intro rfl (And.intro rfl rfl))) ?_; (repeat' (first | exact trivial | exact rfl | exact fun _ _ _ _ => rfl | refine And.intro ?_ ?_ | omega | fail)); done)), ⟨⟨by show 0 ≤ nr; omega, by omega, by assumption⟩, rrn_go (by assumption) (by omega)⟩⟩
    | (have q := aft_next (by assumption)
       exact ⟨(k.1 + 1, k.2.1 + fr k.1 0, k.2.2 - fr k.1 0), (by (refine And.intro (And.intro rfl (And.intro rfl (And.intro rfl rfl))) ?_; (repeat' (first | exact trivial | exact rfl | exact fun _ _ _ _ => rfl | refine And.intro ?_ ?_ | omega | fail)); done)), ⟨⟨by show k.1 + 1 ≤ nr; omega, by omega, q.2.1⟩, by rw [I4]; exact rn_ok (by omega) (by assumption)⟩, by show nr - (k.1 + 1) < nr - k.1; omega⟩)
    | (have q := aft_next (by assumption); omega)
    | exact fin0 (by kernel_rfl) (by kernel_rfl) (by rw [rrn_bad (by assumption)] at h; exact h)
    | exact fin0 (by kernel_rfl) (by kernel_rfl) (by rw [rrn_long (by assumption) (by omega)] at h; exact h)
    | exact fin0 (by kernel_rfl) (by kernel_rfl) (by rw [I4, rn_no (by omega) (by assumption)] at h; exact h)
    | exact fin0 (by kernel_rfl) (by kernel_rfl) (by rw [I4, rn_end (by omega) (by omega)] at h; exact h)
    | (exfalso; simp at hq; omega)
theorem con29_ok : BodyOk (mk XR1) 4 Try.f29 con29 := by
  intro vs bs K hh hro
  clear hro
  unfold con29 at hh
  split at hh
  · rename_i u o l vr
    obtain ⟨a, b, c, d, e, rfl, hI, hh0⟩ := five_inv hh
    rcases parse_inv hh0 with ⟨rfl, hh3⟩ | ⟨er, nr, cr, fr, btr, rfl, hnr, rfl, hh3⟩ <;> clear hh0
    · obtain ⟨rfl, -, hc⟩ := hh3
      exact ⟨_, _, cast (con29_nE a b c d e  o l K) (con29_nP a b c d e  o l K hI   hc)⟩
    · obtain ⟨rfl, -, hc⟩ := hh3
      exact ⟨_, _, cast (con29_rE a b c d e er nr cr fr o l K) (con29_rP a b c d e er nr cr fr o l K hI hnr  hc)⟩
  · exact hh.elim
theorem con29_told : Told 29 (specOf con29) := told (X := XR1) XR1_told (by kernel_rfl) (by kernel_rfl) (by kernel_rfl) con29_ok
end Go.Proofs.Ytnpgeeajlbglaaa.Fr
