/-
  Frames: room, top, half. No project text.
-/
import Derived.Test.YtkflmglpniebfaaZ2
namespace Go.Proofs.Ytkflmglpniebfaa.Fr
set_option maxRecDepth 100000
set_option maxHeartbeats 4000000
open Go.Rx
open Go.RowKit (Below)
set_option linter.unusedVariables false
def con34 : Con := fun vs bs K => match vs with
  | [u, v, .int .i64 x] => five u fun a b c d e => parse [.i64, .i64] 0 v bs fun n f _ bs => bs = [] ∧ K (.tuple ⟨[.int .i64 (topF a b c d e n f x).1, .int .i64 (topF a b c d e n f x).2]⟩) []
  | _ => False

def con34_nA (a : Int) (b : Int) (c : Int) (d : Int) (e : Int) (x : Int) : Ann := fun _ _ _ => none
def con34_rA (el nl cl : Nat) (fl : RF) (a : Int) (b : Int) (c : Int) (d : Int) (e : Int) (x : Int) : Ann := fun _ _ _ => none
def con34_nV (a : Int) (b : Int) (c : Int) (d : Int) (e : Int) (x : Int) (K : Value → List Blk → Prop) : Prop := let q0 := (T0 ∧ (False)); let q1 := eB; let q2 := (9223372036854775807 : Int); let q3 := (-9223372036854775808 : Int); let q4 := (Prod.snd (ckF a b c d e (0 : Nat) zF)); let q5 := (t2 q0); let q6 := ((q3 ≤ (1 : Int) + c) ∧ ((1 : Int) + c ≤ q2)); let q7 := (T0 ∧ (∃ y0 : Value, (∃ y1 : List Blk, ((Go.Rx.Found 0 (Value.tuple { toList := [vi (0 : Int), vi (7 : Int)] }) ({ h := [((1 : Nat), Blk.cells [vi a, vi b, vi c, vi d, vi e] (23 : Nat)), ((0 : Nat), Blk.cells [vi a, vi b, vi c, vi d, vi e] (23 : Nat))], next := (2 : Nat) }) (y0) (y1)) ∧ (K y0 y1))))); let q8 := (T0 ∧ (if (@Eq Int (chk a b c d e) ((0 : Int))) then (T0 ∧ (if (x < (0 : Int)) then (t6 (q6 ∧ q5)) else (t2 (q6 ∧ (t2 (((q3 ≤ x * a) ∧ (x * a ≤ q2)) ∧ (T0 ∧ (((q3 ≤ (1 : Int) + c + x * a) ∧ ((1 : Int) + c + x * a ≤ q2)) ∧ (t8 (((q3 ≤ (1 : Int) + c + x * a + a) ∧ ((1 : Int) + c + x * a + a ≤ q2)) ∧ q5)))))))))) else (False))); let q9 := (T0 ∧ (if (@Eq Int q4 ((0 : Int))) then (t4 ((InC a b c d e) ∧ (q1 ∧ (T0 ∧ (if (@Eq Int (chk a b c d e) ((0 : Int))) then (t2 (((q3 ≤ b - (1 : Int)) ∧ (b - (1 : Int) ≤ q2)) ∧ (t2 (if ((-1 : Int) ≤ x) then (T0 ∧ (if (x ≤ b - (1 : Int)) then q8 else q0)) else q0)))) else q8))))) else (∃ y0 : Value, (∃ y1 : List Blk, ((Go.Rx.Found 0 (Value.tuple { toList := [vi (0 : Int), vi q4] }) ({ h := [((1 : Nat), Blk.cells [vi a, vi b, vi c, vi d, vi e] (23 : Nat)), ((0 : Nat), Blk.cells [vi a, vi b, vi c, vi d, vi e] (23 : Nat))], next := (2 : Nat) }) (y0) (y1)) ∧ (K y0 y1)))))); (t6 ((InC a b c d e) ∧ (q1 ∧ (T0 ∧ (if (@Eq Int q4 ((0 : Int))) then (T0 ∧ (if (x < (0 : Int)) then q7 else (TS ∧ (T0 ∧ (if ((↑(0 : Nat) : Int) ≤ x) then q7 else q9))))) else q9)))))
theorem con34_nE (a : Int) (b : Int) (c : Int) (d : Int) (e : Int) (x : Int) (K : Value → List Blk → Prop) : con34_nV a b c d e x K = bodyX (mk X3) (callN (mk X3) 4) (con34_nA a b c d e x) Try.f34 [five' a b c d e, .slice none 0 0, .int .i64 x] (stOf []) (Fd 0 K) := by kernel_rfl
set_option tactic.hygienic false in
theorem con34_nP (a : Int) (b : Int) (c : Int) (d : Int) (e : Int) (x : Int) (K : Value → List Blk → Prop)  (hI : InC a b c d e) (h : K (.tuple ⟨[.int .i64 (topF a b c d e 0 zF x).1, .int .i64 (topF a b c d e 0 zF x).2]⟩) []) : con34_nV a b c d e x K := by
  unfold con34_nV
  conv => zeta
  have G : (ckF a b c d e 0 zF).2 = 0 → good a b c d e ∧ ((0 : Nat) : Int) = b ∧ ∀ i, i < 0 → fok a zF i := ckF_zero
  unfold topF askF at h
  repeat' (first | (with_reducible first | exact rfl | exact trivial | refine And.intro ?_ ?_ | refine br_intro (fun hq => ?_) fun hq => ?_ | refine if_both (fun hz => ?_) fun hz => ?_) | (intro) | fail)
  all_goals first
    | omega
    | assumption
    | (have g := G (by assumption)
       have g2 := g.2.2 x.toNat (by omega)
       unfold fok at g2
       have g3 := mul_bd ⟨g.1.1, g.1.2.1⟩ (x := x) (b := b) (by omega) (by omega) (by omega)
       omega)
    | (have g := G (by assumption); omega)
    | (have g := chk_good (by assumption); omega)
    | (refine fin0 (by kernel_rfl) (by kernel_rfl) ?_
       repeat' (split at h)
       all_goals first | exact h | omega | (rw [show (ckF a b c d e 0 zF).2 = 0 by assumption]; exact h))
    | (refine fin0 (by kernel_rfl) (by kernel_rfl) ?_
       have g := G (by assumption)
       repeat' (split at h)
       all_goals first | exact h | omega | (rw [show (ckF a b c d e 0 zF).2 = 0 by assumption]; exact h))
    | (have g := G (by assumption)
       have g4 : chk a b c d e = 0 := if_pos g.1
       omega)
def con34_rV (el nl cl : Nat) (fl : RF) (a : Int) (b : Int) (c : Int) (d : Int) (e : Int) (x : Int) (K : Value → List Blk → Prop) : Prop := let q0 := eB; let q1 := (9223372036854775807 : Int); let q2 := (-9223372036854775808 : Int); let q3 := (Prod.snd (ckF a b c d e nl fl)); let q4 := (((0 : Int) ≤ x) ∧ (x < (↑nl : Int))); let q5 := TS; let q6 := ((0 : Nat), rT el nl cl fl); let q7 := (q5 ∧ (@Eq Nat ((2 : Nat)) ((2 : Nat)))); let q8 := ((q2 ≤ (1 : Int) + c) ∧ ((1 : Int) + c ≤ q1)); let q9 := ((2 : Nat), Blk.cells [vi a, vi b, vi c, vi d, vi e] (23 : Nat)); let q10 := ((1 : Nat), Blk.cells [vi a, vi b, vi c, vi d, vi e] (23 : Nat)); let q11 := (T0 ∧ (∃ y0 : Value, (∃ y1 : List Blk, ((Go.Rx.Found 1 (Value.tuple { toList := [vi (0 : Int), vi (7 : Int)] }) ({ h := [q9, q10, q6], next := (3 : Nat) }) (y0) (y1)) ∧ (K y0 y1))))); let q12 := (q7 ∧ (q4 ∧ (T0 ∧ ((Int.toNat x < nl) ∧ (T0 ∧ (((q2 ≤ (0 : Int) + fl (Int.toNat x) (1 : Nat)) ∧ ((0 : Int) + fl (Int.toNat x) (1 : Nat) ≤ q1)) ∧ (∃ y0 : Value, (∃ y1 : List Blk, ((Go.Rx.Found 1 (Value.tuple { toList := [vi ((0 : Int) + fl (Int.toNat x) (1 : Nat)), vi (0 : Int)] }) ({ h := [((3 : Nat), Blk.cells [vi a, vi b, vi c, vi d, vi e] (23 : Nat)), q9, q10, q6], next := (4 : Nat) }) (y0) (y1)) ∧ (K y0 y1)))))))))); let q13 := (T0 ∧ q12); let q14 := (T0 ∧ (if (@Eq Int (chk a b c d e) ((0 : Int))) then (T0 ∧ (if (x < (0 : Int)) then (t6 (q8 ∧ (t3 (q7 ∧ (q4 ∧ (T0 ∧ ((Int.toNat x < nl) ∧ (T0 ∧ (((q2 ≤ (1 : Int) + fl (Int.toNat x) (1 : Nat)) ∧ ((1 : Int) + fl (Int.toNat x) (1 : Nat) ≤ q1)) ∧ (∃ y0 : Value, (∃ y1 : List Blk, ((Go.Rx.Found 1 (Value.tuple { toList := [vi ((1 : Int) + fl (Int.toNat x) (1 : Nat)), vi (0 : Int)] }) ({ h := [((3 : Nat), Blk.cells [vi a, vi b, vi c, vi d, vi e] (23 : Nat)), q9, q10, q6], next := (4 : Nat) }) (y0) (y1)) ∧ (K y0 y1))))))))))))) else (t2 (q8 ∧ (t2 (((q2 ≤ x * a) ∧ (x * a ≤ q1)) ∧ (T0 ∧ (((q2 ≤ (1 : Int) + c + x * a) ∧ ((1 : Int) + c + x * a ≤ q1)) ∧ (t8 (((q2 ≤ (1 : Int) + c + x * a + a) ∧ ((1 : Int) + c + x * a + a ≤ q1)) ∧ (t3 (q7 ∧ (q4 ∧ (T0 ∧ ((Int.toNat x < nl) ∧ (T0 ∧ (((q2 ≤ (1 : Int) + c + x * a + fl (Int.toNat x) (1 : Nat)) ∧ ((1 : Int) + c + x * a + fl (Int.toNat x) (1 : Nat) ≤ q1)) ∧ (∃ y0 : Value, (∃ y1 : List Blk, ((Go.Rx.Found 1 (Value.tuple { toList := [vi ((1 : Int) + c + x * a + fl (Int.toNat x) (1 : Nat)), vi (0 : Int)] }) ({ h := [((3 : Nat), Blk.cells [vi a, vi b, vi c, vi d, vi e] (23 : Nat)), q9, q10, q6], next := (4 : Nat) }) (y0) (y1)) ∧ (K y0 y1))))))))))))))))))))) else q12)); let q15 := (T0 ∧ (if (@Eq Int q3 ((0 : Int))) then (t4 ((InC a b c d e) ∧ (q0 ∧ (T0 ∧ (if (@Eq Int (chk a b c d e) ((0 : Int))) then (t2 (((q2 ≤ b - (1 : Int)) ∧ (b - (1 : Int) ≤ q1)) ∧ (t2 (if ((-1 : Int) ≤ x) then (T0 ∧ (if (x ≤ b - (1 : Int)) then q14 else q13)) else q13)))) else q14))))) else (∃ y0 : Value, (∃ y1 : List Blk, ((Go.Rx.Found 1 (Value.tuple { toList := [vi (0 : Int), vi q3] }) ({ h := [q9, q10, q6], next := (3 : Nat) }) (y0) (y1)) ∧ (K y0 y1)))))); (t5 (((0 : Nat) + nl ≤ nl) ∧ ((InC a b c d e) ∧ ((@Eq Nat ((0 : Nat)) ((0 : Nat))) ∧ ((nl ≤ (100000 : Nat)) ∧ ((eK ∧ ((@Eq Nat (nl) (nl)) ∧ (@Eq Nat (cl) (cl)))) ∧ (q0 ∧ (T0 ∧ (if (@Eq Int q3 ((0 : Int))) then (T0 ∧ (if (x < (0 : Int)) then q11 else (q5 ∧ (T0 ∧ (if ((↑nl : Int) ≤ x) then q11 else q15))))) else q15)))))))))
theorem con34_rE (el nl cl : Nat) (fl : RF) (a : Int) (b : Int) (c : Int) (d : Int) (e : Int) (x : Int) (K : Value → List Blk → Prop) : con34_rV el nl cl fl a b c d e x K = bodyX (mk X3) (callN (mk X3) 4) (con34_rA el nl cl fl a b c d e x) Try.f34 [five' a b c d e, rsl 0 0 nl cl, .int .i64 x] (stOf [.row true [.i64, .i64] el nl cl fl]) (Fd 1 K) := by kernel_rfl
set_option tactic.hygienic false in
theorem con34_rP (el nl cl : Nat) (fl : RF) (a : Int) (b : Int) (c : Int) (d : Int) (e : Int) (x : Int) (K : Value → List Blk → Prop)  (hI : InC a b c d e) (hnl : nl ≤ 100000) (h : K (.tuple ⟨[.int .i64 (topF a b c d e nl fl x).1, .int .i64 (topF a b c d e nl fl x).2]⟩) []) : con34_rV el nl cl fl a b c d e x K := by
  unfold con34_rV
  conv => zeta
  have G : (ckF a b c d e nl fl).2 = 0 → good a b c d e ∧ ((nl : Nat) : Int) = b ∧ ∀ i, i < nl → fok a fl i := ckF_zero
  unfold topF askF at h
  repeat' (first | (with_reducible first | exact rfl | exact trivial | refine And.intro ?_ ?_ | refine br_intro (fun hq => ?_) fun hq => ?_ | refine if_both (fun hz => ?_) fun hz => ?_) | (intro) | fail)
  all_goals first
    | omega
    | assumption
    | (have g := G (by assumption)
       have g2 := g.2.2 x.toNat (by omega)
       unfold fok at g2
       have g3 := mul_bd ⟨g.1.1, g.1.2.1⟩ (x := x) (b := b) (by omega) (by omega) (by omega)
       omega)
    | (have g := G (by assumption); omega)
    | (have g := chk_good (by assumption); omega)
    | (refine fin0 (by kernel_rfl) (by kernel_rfl) ?_
       repeat' (split at h)
       all_goals first | exact h | omega | (rw [show (ckF a b c d e nl fl).2 = 0 by assumption]; exact h))
    | (refine fin0 (by kernel_rfl) (by kernel_rfl) ?_
       have g := G (by assumption)
       repeat' (split at h)
       all_goals first | exact h | omega | (rw [show (ckF a b c d e nl fl).2 = 0 by assumption]; exact h))
    | (have g := G (by assumption)
       have g4 : chk a b c d e = 0 := if_pos g.1
       omega)
theorem con34_ok : BodyOk (mk X3) 4 Try.f34 con34 := by
  intro vs bs K hh hro
  clear hro
  unfold con34 at hh
  split at hh
  · rename_i u v x
    obtain ⟨a, b, c, d, e, rfl, hI, hh0⟩ := five_inv hh
    rcases parse_inv hh0 with ⟨rfl, hh1⟩ | ⟨el, nl, cl, fl, bs1, rfl, hnl, rfl, hh1⟩ <;> clear hh0
    · obtain ⟨rfl, hc⟩ := hh1
      exact ⟨_, _, cast (con34_nE a b c d e x K) (con34_nP a b c d e x K hI hc)⟩
    · obtain ⟨rfl, hc⟩ := hh1
      exact ⟨_, _, cast (con34_rE el nl cl fl a b c d e x K) (con34_rP el nl cl fl a b c d e x K hI hnl hc)⟩
  · exact hh.elim
theorem con34_told : Told 34 (specOf con34) := told (X := X3) (X3_told) (by kernel_rfl) (by kernel_rfl) (by kernel_rfl) con34_ok
end Go.Proofs.Ytkflmglpniebfaa.Fr
namespace Go.Proofs.Ytkflmglpniebfaa.Fr
set_option maxRecDepth 100000
set_option maxHeartbeats 4000000
open Go.Rx
open Go.RowKit (Below)
set_option linter.unusedVariables false
/-- A slice of a row of these kinds. -/
def parseR (ks : List IntKind) (j : Nat) (v : Value) (bs : List Blk) (k : Nat → RF → Nat → List Blk → Prop) : Prop :=
  match v with
  | .slice (some ⟨b, 0, some 0⟩) n c => b = j ∧ n ≤ 100000 ∧ match bs with
    | .row true ks' _ n' c' f :: bs' => (ks' = ks ∧ n' = n ∧ c' = c) ∧ k n f (j + 1) bs'
    | _ => False
  | _ => False
theorem parseR_inv {ks : List IntKind} {j : Nat} {v : Value} {bs : List Blk} {k : Nat → RF → Nat → List Blk → Prop} (h : parseR ks j v bs k) : ∃ e n c f bs', v = rsl j 0 n c ∧ n ≤ 100000 ∧ bs = .row true ks e n c f :: bs' ∧ k n f (j + 1) bs' := by
  unfold parseR at h
  split at h
  · obtain ⟨rfl, hn, h⟩ := h
    split at h
    · obtain ⟨⟨rfl, rfl, rfl⟩, h⟩ := h
      exact ⟨_, _, _, _, _, rfl, hn, rfl, h⟩
    · exact h.elim
  · exact h.elim
theorem parseR_parse {ks : List IntKind} {j : Nat} {v : Value} {bs : List Blk} {k k' : Nat → RF → Nat → List Blk → Prop} (h : ∀ n f j bs, k' n f j bs → k n f j bs) (x : parseR ks j v bs k') : parse ks j v bs k := by
  obtain ⟨e, n, c, f, bs', rfl, hn, rfl, h'⟩ := parseR_inv x
  exact ⟨rfl, hn, ⟨rfl, rfl, rfl⟩, h _ _ _ _ h'⟩
theorem sel0_mem {f : RF} {x : Int} {n : Nat} (h : ¬ sel (selE f x) n = []) : ∃ i, i < n ∧ lF (sel (selE f x) n) 0 0 = (i : Int) ∧ f i 0 = x := by
  obtain ⟨i, h1, h2, h3⟩ := sel_mem (p := selE f x) (n := n) (k := 0) (List.length_pos_iff.2 h)
  exact ⟨i, h1, h2, of_decide_eq_true h3⟩
theorem bumpy {a b c d e : Int} {n : Nat} {f : RF} {x : Int} (h : askF a b c d e n f x = 0) : (ckF a b c d e n f).2 = 0 ∧ good a b c d e ∧ (n : Int) = b ∧ 0 ≤ x ∧ x < b ∧ x.toNat < n ∧ (∀ i, i < n → fok a f i) ∧ fok a f x.toNat := by
  unfold askF at h
  split at h
  · rename_i h0
    have g := ckF_zero h0
    split at h
    · cases h
    · exact ⟨h0, g.1, g.2.1, by omega, by omega, by omega, g.2.2, g.2.2 _ (by omega)⟩
  · exact absurd h (by assumption)
/-- Cars in a state, which are named one by one; are there free ones, popular ones? -/
def con68S (z t : Bool) : Con := fun vs bs K => match vs with
  | [u, v] => parseR [.i64, .i64] 0 u bs fun n f j bs => parseR [.i64] j v bs fun m g j2 bs => (bs = [] ∧ m = 1) ∧ match g 0 0 with
    | .ofNat 0 => bif z then sel (selE f 0) n = [] ∧ K (.slice none 0 0) [] else ¬ sel (selE f 0) n = [] ∧ ∀ cp, List.length (sel (selE f 0) n) ≤ cp → K (rsl j2 0 (List.length (sel (selE f 0) n)) cp) [.row false [.i64] 3 (List.length (sel (selE f 0) n)) cp (lF (sel (selE f 0) n))]
    | .ofNat 2 => bif t then sel (selE f 2) n = [] ∧ K (.slice none 0 0) [] else ¬ sel (selE f 2) n = [] ∧ ∀ cp, List.length (sel (selE f 2) n) ≤ cp → K (rsl j2 0 (List.length (sel (selE f 2) n)) cp) [.row false [.i64] 3 (List.length (sel (selE f 2) n)) cp (lF (sel (selE f 2) n))]
    | _ => False
  | _ => False
theorem con68S_told (z t : Bool) : Told 68 (specOf (con68S z t)) := con68_told.mono fun vs bs K x => by
  unfold con68S at x
  unfold con68
  split at x
  · refine parseR_parse (fun n f j bs y => parseR_parse (fun m g j2 bs y => ?_) y) x
    obtain ⟨⟨h1, rfl⟩, y⟩ := y
    refine ⟨h1, ?_⟩
    split at y
    · rename_i h0
      have e1 : sel (selB 1 g f) n = sel (selE f 0) n := congrArg (fun p => sel p n) (selB_one h0)
      rw [e1]
      cases z with
      | true => exact ⟨fun _ => y.2, fun q => absurd y.1 q⟩
      | false => exact ⟨fun q => absurd q y.1, fun _ => y.2⟩
    · rename_i h0
      have e1 : sel (selB 1 g f) n = sel (selE f 2) n := congrArg (fun p => sel p n) (selB_one h0)
      rw [e1]
      cases t with
      | true => exact ⟨fun _ => y.2, fun q => absurd y.1 q⟩
      | false => exact ⟨fun q => absurd q y.1, fun _ => y.2⟩
    · exact y.elim
  · exact x.elim
def con27W : Con := onCF fun a b c d e n f j K => (ckF a b c d e n f).2 = 0 ∧ ((sel (selE f 2) n) = [] → K (.tuple ⟨[.slice none 0 0, .int .i64 0]⟩) []) ∧ (¬ (sel (selE f 2) n) = [] → ∀ cp, List.length (sel (selE f 2) n) ≤ cp → K (.tuple ⟨[rsl j 0 (List.length (sel (selE f 2) n)) cp, .int .i64 0]⟩) [.row false [.i64] 3 (List.length (sel (selE f 2) n)) cp (lF (sel (selE f 2) n))])
theorem con27W_told : Told 27 (specOf con27W) := con27_told.mono (onCF_mono fun a b c d e n f j K h => ⟨fun q => absurd h.1 q, fun _ => h.2⟩)
@[reducible] def X37EF : List (Nat × Rx.Spec) := [(21, specOf con21), (68, specOf (con68S true false))]
theorem X37EF_told : ∀ p ∈ X37EF, Told p.1 p.2 := by
  intro p hp
  simp only [List.mem_cons, List.not_mem_nil, or_false] at hp
  rcases hp with rfl | rfl
  · exact con21_told
  · exact con68S_told true false
@[reducible] def X38EF : List (Nat × Rx.Spec) := [(25, specOf con25N), (27, specOf con27W)]
theorem X38EF_told : ∀ p ∈ X38EF, Told p.1 p.2 := by
  intro p hp
  simp only [List.mem_cons, List.not_mem_nil, or_false] at hp
  rcases hp with rfl | rfl
  · exact con25N_told
  · exact con27W_told
@[reducible] def X37ET : List (Nat × Rx.Spec) := [(21, specOf con21), (68, specOf (con68S true false))]
theorem X37ET_told : ∀ p ∈ X37ET, Told p.1 p.2 := by
  intro p hp
  simp only [List.mem_cons, List.not_mem_nil, or_false] at hp
  rcases hp with rfl | rfl
  · exact con21_told
  · exact con68S_told true false
@[reducible] def X38ET : List (Nat × Rx.Spec) := [(25, specOf con25N), (27, specOf con27W)]
theorem X38ET_told : ∀ p ∈ X38ET, Told p.1 p.2 := by
  intro p hp
  simp only [List.mem_cons, List.not_mem_nil, or_false] at hp
  rcases hp with rfl | rfl
  · exact con25N_told
  · exact con27W_told
@[reducible] def X37GF : List (Nat × Rx.Spec) := [(21, specOf con21), (68, specOf (con68S false false))]
theorem X37GF_told : ∀ p ∈ X37GF, Told p.1 p.2 := by
  intro p hp
  simp only [List.mem_cons, List.not_mem_nil, or_false] at hp
  rcases hp with rfl | rfl
  · exact con21_told
  · exact con68S_told false false
@[reducible] def X38GF : List (Nat × Rx.Spec) := [(25, specOf con25R), (27, specOf con27W)]
theorem X38GF_told : ∀ p ∈ X38GF, Told p.1 p.2 := by
  intro p hp
  simp only [List.mem_cons, List.not_mem_nil, or_false] at hp
  rcases hp with rfl | rfl
  · exact con25R_told
  · exact con27W_told
@[reducible] def X37FT : List (Nat × Rx.Spec) := [(21, specOf con21), (68, specOf (con68S false false))]
theorem X37FT_told : ∀ p ∈ X37FT, Told p.1 p.2 := by
  intro p hp
  simp only [List.mem_cons, List.not_mem_nil, or_false] at hp
  rcases hp with rfl | rfl
  · exact con21_told
  · exact con68S_told false false
@[reducible] def X38FT : List (Nat × Rx.Spec) := [(25, specOf con25R), (27, specOf con27R)]
theorem X38FT_told : ∀ p ∈ X38FT, Told p.1 p.2 := by
  intro p hp
  simp only [List.mem_cons, List.not_mem_nil, or_false] at hp
  rcases hp with rfl | rfl
  · exact con25R_told
  · exact con27R_told
@[reducible] def X37GT : List (Nat × Rx.Spec) := [(21, specOf con21), (68, specOf (con68S false false))]
theorem X37GT_told : ∀ p ∈ X37GT, Told p.1 p.2 := by
  intro p hp
  simp only [List.mem_cons, List.not_mem_nil, or_false] at hp
  rcases hp with rfl | rfl
  · exact con21_told
  · exact con68S_told false false
@[reducible] def X38GT : List (Nat × Rx.Spec) := [(25, specOf con25R), (27, specOf con27R)]
theorem X38GT_told : ∀ p ∈ X38GT, Told p.1 p.2 := by
  intro p hp
  simp only [List.mem_cons, List.not_mem_nil, or_false] at hp
  rcases hp with rfl | rfl
  · exact con25R_told
  · exact con27R_told
@[reducible] def X37HT : List (Nat × Rx.Spec) := [(21, specOf con21), (68, specOf (con68S false true))]
theorem X37HT_told : ∀ p ∈ X37HT, Told p.1 p.2 := by
  intro p hp
  simp only [List.mem_cons, List.not_mem_nil, or_false] at hp
  rcases hp with rfl | rfl
  · exact con21_told
  · exact con68S_told false true
@[reducible] def X38HT : List (Nat × Rx.Spec) := [(25, specOf con25R), (27, specOf con27N)]
theorem X38HT_told : ∀ p ∈ X38HT, Told p.1 p.2 := by
  intro p hp
  simp only [List.mem_cons, List.not_mem_nil, or_false] at hp
  rcases hp with rfl | rfl
  · exact con25R_told
  · exact con27N_told
end Go.Proofs.Ytkflmglpniebfaa.Fr
namespace Go.Proofs.Ytkflmglpniebfaa.Fr
set_option maxRecDepth 100000
set_option maxHeartbeats 4000000
open Go.Rx
open Go.RowKit (Below)
set_option linter.unusedVariables false
def onCFX (O : Int → Int → Int → Int → Int → Nat → RF → Nat → Int → KK → Prop) : Con := fun vs bs K => match vs with
  | [u, v, .int .i64 x] => five u fun a b c d e => parse [.i64, .i64] 0 v bs fun n f j bs => bs = [] ∧ O a b c d e n f j x K
  | _ => False
theorem onCFX_mono {O O' : Int → Int → Int → Int → Int → Nat → RF → Nat → Int → KK → Prop} (h : ∀ a b c d e n f j x K, O' a b c d e n f j x K → O a b c d e n f j x K) : ∀ vs bs K, onCFX O' vs bs K → onCFX O vs bs K := by
  intro vs bs K x
  unfold onCFX at x ⊢
  split at x
  · exact five_mono (fun a b c d e => parse_mono fun n f j bs y => ⟨y.1, h _ _ _ _ _ _ _ _ _ _ y.2⟩) x
  · exact x.elim
theorem topF_ok {a b c d e : Int} {n : Nat} {f : RF} {x : Int} (h : askF a b c d e n f x = 0) : topF a b c d e n f x = (1 + c + x * a + f x.toNat 1, 0) := if_pos h
theorem roomF_ok {a b c d e : Int} {n : Nat} {f : RF} {x : Int} (h : askF a b c d e n f x = 0) (h' : ¬ f x.toNat 0 = 0) : roomF a b c d e n f x = (a - f x.toNat 1, 0) := by unfold roomF; rw [if_pos h, if_neg h']
def con33G : Con := onCFX fun a b c d e n f j x K => askF a b c d e n f x = 0 ∧ K (.tuple ⟨[.int .i64 (1 + c + x * a + f x.toNat 1), .int .i64 0]⟩) []
theorem con33G_told : Told 33 (specOf con33G) := con33_told.mono (onCFX_mono fun a b c d e n f j x K h => (topF_ok h.1).symm ▸ h.2)
def con34G : Con := onCFX fun a b c d e n f j x K => askF a b c d e n f x = 0 ∧ K (.tuple ⟨[.int .i64 (1 + c + x * a + f x.toNat 1), .int .i64 0]⟩) []
theorem con34G_told : Told 34 (specOf con34G) := con34_told.mono (onCFX_mono fun a b c d e n f j x K h => (topF_ok h.1).symm ▸ h.2)
def con31G : Con := onCFX fun a b c d e n f j x K => (askF a b c d e n f x = 0 ∧ ¬ f x.toNat 0 = 0) ∧ K (.tuple ⟨[.int .i64 (a - f x.toNat 1), .int .i64 0]⟩) []
theorem con31G_told : Told 31 (specOf con31G) := con31_told.mono (onCFX_mono fun a b c d e n f j x K h => (roomF_ok h.1.1 h.1.2).symm ▸ h.2)
def con32G : Con := onCFX fun a b c d e n f j x K => (askF a b c d e n f x = 0 ∧ ¬ f x.toNat 0 = 0) ∧ K (.tuple ⟨[.int .i64 (a - f x.toNat 1), .int .i64 0]⟩) []
theorem con32G_told : Told 32 (specOf con32G) := con32_told.mono (onCFX_mono fun a b c d e n f j x K h => (roomF_ok h.1.1 h.1.2).symm ▸ h.2)
@[reducible] def X71 : List (Nat × Rx.Spec) := [(22, specOf con22)]
theorem X71_told : ∀ p ∈ X71, Told p.1 p.2 := by
  intro p hp
  simp only [List.mem_cons, List.not_mem_nil, or_false] at hp
  rcases hp with rfl
  · exact con22_told
def con71 : Con := fun vs bs K => match vs with
  | [u, vl, .int .i64 x] => five u fun a b c d e => parse [.i64, .i64] 0 vl bs fun nl fl j0 bs0 => bs0 = [] ∧ (True) ∧ (K (.int .i64 (askF a b c d e nl fl x)) [])
  | _ => False

def con71_nA (a b c d e : Int) (x : Int) : Ann := fun _ _ _ => none
def con71_rA (a b c d e : Int) (el nl cl : Nat) (fl : RF) (x : Int) : Ann := fun _ _ _ => none
def con71_nV (a b c d e : Int) (x : Int) (K : Value → List Blk → Prop) : Prop := let q0 := (Prod.snd (ckF a b c d e (0 : Nat) zF)); let q1 := (∃ y0 : Value, (∃ y1 : List Blk, ((Go.Rx.Found 0 (vi (7 : Int)) ({ h := [((0 : Nat), Blk.cells [vi a, vi b, vi c, vi d, vi e] (23 : Nat))], next := (1 : Nat) }) (y0) (y1)) ∧ (K y0 y1)))); let q2 := (∃ y0 : Value, (∃ y1 : List Blk, ((Go.Rx.Found 0 (vi q0) ({ h := [((0 : Nat), Blk.cells [vi a, vi b, vi c, vi d, vi e] (23 : Nat))], next := (1 : Nat) }) (y0) (y1)) ∧ (K y0 y1)))); (t4 ((InC a b c d e) ∧ (eB ∧ (T0 ∧ (if (@Eq Int q0 ((0 : Int))) then (T0 ∧ (if (x < (0 : Int)) then q1 else (TS ∧ (T0 ∧ (if ((↑(0 : Nat) : Int) ≤ x) then q1 else q2))))) else q2)))))
theorem con71_nE (a b c d e : Int) (x : Int) (K : Value → List Blk → Prop) : con71_nV a b c d e x K = bodyX (mk X71) (callN (mk X71) 4) (con71_nA a b c d e x) Try.f71 [five' a b c d e, .slice none 0 0, .int .i64 x] (stOf []) (Fd 0 K) := by kernel_rfl
set_option tactic.hygienic false in
theorem con71_nP (a b c d e : Int) (x : Int) (K : Value → List Blk → Prop)  (hI : InC a b c d e) (h : K (.int .i64 (askF a b c d e 0 zF x)) []) : con71_nV a b c d e x K := by
  unfold con71_nV
  conv => zeta
  unfold askF at h
  have G : (ckF a b c d e 0 zF).2 = 0 → good a b c d e ∧ ((0 : Nat) : Int) = b ∧ ∀ i, i < 0 → fok a zF i := ckF_zero
  repeat' (first | (with_reducible first | exact rfl | exact trivial | refine And.intro ?_ ?_ | refine br_intro (fun hq => ?_) fun hq => ?_ | refine if_both (fun hz => ?_) fun hz => ?_) | (intro) | fail)

  all_goals first
    | omega
    | assumption
    | (refine fin0 (by kernel_rfl) (by kernel_rfl) ?_
       repeat' (split at h)
       all_goals first | exact h | omega | (have g := G (by assumption); omega) | (rw [show (ckF _ _ _ _ _ _ _).2 = 0 by assumption]; exact h))
def con71_rV (a b c d e : Int) (el nl cl : Nat) (fl : RF) (x : Int) (K : Value → List Blk → Prop) : Prop := let q0 := (Prod.snd (ckF a b c d e nl fl)); let q1 := (∃ y0 : Value, (∃ y1 : List Blk, ((Go.Rx.Found 1 (vi (7 : Int)) ({ h := [((1 : Nat), Blk.cells [vi a, vi b, vi c, vi d, vi e] (23 : Nat)), ((0 : Nat), rT el nl cl fl)], next := (2 : Nat) }) (y0) (y1)) ∧ (K y0 y1)))); let q2 := (∃ y0 : Value, (∃ y1 : List Blk, ((Go.Rx.Found 1 (vi q0) ({ h := [((1 : Nat), Blk.cells [vi a, vi b, vi c, vi d, vi e] (23 : Nat)), ((0 : Nat), rT el nl cl fl)], next := (2 : Nat) }) (y0) (y1)) ∧ (K y0 y1)))); (t3 (((0 : Nat) + nl ≤ nl) ∧ ((InC a b c d e) ∧ ((@Eq Nat ((0 : Nat)) ((0 : Nat))) ∧ ((nl ≤ (100000 : Nat)) ∧ ((eK ∧ ((@Eq Nat (nl) (nl)) ∧ (@Eq Nat (cl) (cl)))) ∧ (eB ∧ (T0 ∧ (if (@Eq Int q0 ((0 : Int))) then (T0 ∧ (if (x < (0 : Int)) then q1 else (TS ∧ (T0 ∧ (if ((↑nl : Int) ≤ x) then q1 else q2))))) else q2)))))))))
theorem con71_rE (a b c d e : Int) (el nl cl : Nat) (fl : RF) (x : Int) (K : Value → List Blk → Prop) : con71_rV a b c d e el nl cl fl x K = bodyX (mk X71) (callN (mk X71) 4) (con71_rA a b c d e el nl cl fl x) Try.f71 [five' a b c d e, rsl 0 0 nl cl, .int .i64 x] (stOf [.row true [.i64, .i64] el nl cl fl]) (Fd 1 K) := by kernel_rfl
set_option tactic.hygienic false in
theorem con71_rP (a b c d e : Int) (el nl cl : Nat) (fl : RF) (x : Int) (K : Value → List Blk → Prop)  (hI : InC a b c d e) (hnl : nl ≤ 100000) (h : K (.int .i64 (askF a b c d e nl fl x)) []) : con71_rV a b c d e el nl cl fl x K := by
  unfold con71_rV
  conv => zeta
  unfold askF at h
  have G : (ckF a b c d e nl fl).2 = 0 → good a b c d e ∧ ((nl : Nat) : Int) = b ∧ ∀ i, i < nl → fok a fl i := ckF_zero
  repeat' (first | (with_reducible first | exact rfl | exact trivial | refine And.intro ?_ ?_ | refine br_intro (fun hq => ?_) fun hq => ?_ | refine if_both (fun hz => ?_) fun hz => ?_) | (intro) | fail)

  all_goals first
    | omega
    | assumption
    | (refine fin0 (by kernel_rfl) (by kernel_rfl) ?_
       repeat' (split at h)
       all_goals first | exact h | omega | (have g := G (by assumption); omega) | (rw [show (ckF _ _ _ _ _ _ _).2 = 0 by assumption]; exact h))
theorem con71_ok : BodyOk (mk X71) 4 Try.f71 con71 := by
  intro vs bs K hh hro
  clear hro
  unfold con71 at hh
  split at hh
  · rename_i u vl x
    obtain ⟨a, b, c, d, e, rfl, hI, hh0⟩ := five_inv hh
    rcases parse_inv hh0 with ⟨rfl, hh1⟩ | ⟨el, nl, cl, fl, btl, rfl, hnl, rfl, hh1⟩ <;> clear hh0
    · obtain ⟨rfl, -, hc⟩ := hh1
      exact ⟨_, _, cast (con71_nE a b c d e  x K) (con71_nP a b c d e  x K hI   hc)⟩
    · obtain ⟨rfl, -, hc⟩ := hh1
      exact ⟨_, _, cast (con71_rE a b c d e el nl cl fl x K) (con71_rP a b c d e el nl cl fl x K hI hnl  hc)⟩
  · exact hh.elim
theorem con71_told : Told 71 (specOf con71) := told (X := X71) X71_told (by kernel_rfl) (by kernel_rfl) (by kernel_rfl) con71_ok
end Go.Proofs.Ytkflmglpniebfaa.Fr
namespace Go.Proofs.Ytkflmglpniebfaa.Fr
set_option maxRecDepth 100000
set_option maxHeartbeats 4000000
open Go.Rx
open Go.RowKit (Below)
set_option linter.unusedVariables false
@[reducible] def X39G : List (Nat × Rx.Spec) := [(33, specOf con33G), (31, specOf con31G)]
theorem X39G_told : ∀ p ∈ X39G, Told p.1 p.2 := by
  intro p hp
  simp only [List.mem_cons, List.not_mem_nil, or_false] at hp
  rcases hp with rfl | rfl
  · exact con33G_told
  · exact con31G_told
@[reducible] def X40G : List (Nat × Rx.Spec) := [(71, specOf con71), (34, specOf con34G), (32, specOf con32G)]
theorem X40G_told : ∀ p ∈ X40G, Told p.1 p.2 := by
  intro p hp
  simp only [List.mem_cons, List.not_mem_nil, or_false] at hp
  rcases hp with rfl | rfl | rfl
  · exact con71_told
  · exact con34G_told
  · exact con32G_told
end Go.Proofs.Ytkflmglpniebfaa.Fr
namespace Go.Proofs.Ytkflmglpniebfaa.Fr
set_option maxRecDepth 100000
set_option maxHeartbeats 4000000
open Go.Rx
open Go.RowKit (Below)
set_option linter.unusedVariables false
def con37EF : Con := fun vs bs K => match vs with
  | [u, vl, .bool false] => five u fun a b c d e => parseR [.i64, .i64] 0 vl bs fun nl fl j0 bs0 => bs0 = [] ∧ (((ckF a b c d e nl fl).2 = 0) ∧ (sel (selE fl 0) nl = [])) ∧ (K (.tuple ⟨[.slice none 0 0, .int .i64 0, .int .i64 5]⟩) [])
  | _ => False

def con37EF_rA (a b c d e : Int) (el nl cl : Nat) (fl : RF) : Ann := fun _ _ _ => none
def con37ET : Con := fun vs bs K => match vs with
  | [u, vl, .bool true] => five u fun a b c d e => parseR [.i64, .i64] 0 vl bs fun nl fl j0 bs0 => bs0 = [] ∧ (((ckF a b c d e nl fl).2 = 0) ∧ (sel (selE fl 0) nl = [])) ∧ (K (.tuple ⟨[.slice none 0 0, .int .i64 0, .int .i64 5]⟩) [])
  | _ => False

def con37ET_rA (a b c d e : Int) (el nl cl : Nat) (fl : RF) : Ann := fun _ _ _ => none
def con37GF : Con := fun vs bs K => match vs with
  | [u, vl, .bool false] => five u fun a b c d e => parseR [.i64, .i64] 0 vl bs fun nl fl j0 bs0 => bs0 = [] ∧ (((ckF a b c d e nl fl).2 = 0) ∧ (¬ sel (selE fl 0) nl = [])) ∧ (∀ cp, nl ≤ cp → K (.tuple ⟨[rsl j0 0 nl cp, .int .i64 (lF (sel (selE fl 0) nl) 0 0), .int .i64 0]⟩) [.row false [.i64, .i64] 54 nl cp (putE fl (lF (sel (selE fl 0) nl) 0 0).toNat [1, 0])])
  | _ => False

def con37GF_rA (a b c d e : Int) (el nl cl : Nat) (fl : RF) : Ann := fun _ _ _ => none
def con37FT : Con := fun vs bs K => match vs with
  | [u, vl, .bool true] => five u fun a b c d e => parseR [.i64, .i64] 0 vl bs fun nl fl j0 bs0 => bs0 = [] ∧ (((ckF a b c d e nl fl).2 = 0) ∧ (¬ sel (selE fl 0) nl = []) ∧ (¬ sel (selE fl 2) nl = []) ∧ (List.length (sel (selE fl 2) nl) = 2)) ∧ (K (.tuple ⟨[.slice none 0 0, .int .i64 0, .int .i64 5]⟩) [])
  | _ => False

def con37FT_rA (a b c d e : Int) (el nl cl : Nat) (fl : RF) : Ann := fun _ _ _ => none
def con37GT : Con := fun vs bs K => match vs with
  | [u, vl, .bool true] => five u fun a b c d e => parseR [.i64, .i64] 0 vl bs fun nl fl j0 bs0 => bs0 = [] ∧ (((ckF a b c d e nl fl).2 = 0) ∧ (¬ sel (selE fl 0) nl = []) ∧ (¬ sel (selE fl 2) nl = []) ∧ (¬ List.length (sel (selE fl 2) nl) = 2)) ∧ (∀ cp, nl ≤ cp → K (.tuple ⟨[rsl j0 0 nl cp, .int .i64 (lF (sel (selE fl 0) nl) 0 0), .int .i64 0]⟩) [.row false [.i64, .i64] 54 nl cp (putE fl (lF (sel (selE fl 0) nl) 0 0).toNat [2, 0])])
  | _ => False

def con37GT_rA (a b c d e : Int) (el nl cl : Nat) (fl : RF) : Ann := fun _ _ _ => none
def con37HT : Con := fun vs bs K => match vs with
  | [u, vl, .bool true] => five u fun a b c d e => parseR [.i64, .i64] 0 vl bs fun nl fl j0 bs0 => bs0 = [] ∧ (((ckF a b c d e nl fl).2 = 0) ∧ (¬ sel (selE fl 0) nl = []) ∧ (sel (selE fl 2) nl = [])) ∧ (∀ cp, nl ≤ cp → K (.tuple ⟨[rsl j0 0 nl cp, .int .i64 (lF (sel (selE fl 0) nl) 0 0), .int .i64 0]⟩) [.row false [.i64, .i64] 54 nl cp (putE fl (lF (sel (selE fl 0) nl) 0 0).toNat [2, 0])])
  | _ => False

def con37HT_rA (a b c d e : Int) (el nl cl : Nat) (fl : RF) : Ann := fun _ _ _ => none
def con37EF_rV (a b c d e : Int) (el nl cl : Nat) (fl : RF) (K : Value → List Blk → Prop) : Prop := let q0 := ((0 : Nat) + nl ≤ nl); let q1 := (nl ≤ (100000 : Nat)); let q2 := eB; let q3 := (Prod.snd (ckF a b c d e nl fl)); let q4 := (@Eq Nat ((0 : Nat)) ((0 : Nat))); let q5 := (@Eq Nat ((1 : Nat)) ((1 : Nat))); let q6 := TS; let q7 := ((0 : Nat), rT el nl cl fl); let q8 := (eK ∧ ((@Eq Nat (nl) (nl)) ∧ (@Eq Nat (cl) (cl)))); let q9 := ((1 : Nat), Blk.cells [vi a, vi b, vi c, vi d, vi e] (23 : Nat)); (t3 (q0 ∧ ((InC a b c d e) ∧ (q4 ∧ (q1 ∧ (q8 ∧ (q2 ∧ (T0 ∧ (if (@Eq Int q3 ((0 : Int))) then (t2 (q6 ∧ (t4 (q0 ∧ (((1 : Nat) ≤ (1 : Nat)) ∧ (q4 ∧ (q1 ∧ (q8 ∧ (q5 ∧ (((1 : Nat) ≤ (100000 : Nat)) ∧ (((@Eq (List IntKind) ([IntKind.i64]) ([IntKind.i64])) ∧ (q5 ∧ q5)) ∧ ((q2 ∧ q5) ∧ ((sel (selE fl (0 : Int)) nl = []) ∧ (q6 ∧ (T0 ∧ (∃ y0 : Value, (∃ y1 : List Blk, ((Go.Rx.Found 1 (Value.tuple { toList := [vn, vi (0 : Int), vi (5 : Int)] }) ({ h := [((3 : Nat), Blk.row false [IntKind.i64] (3 : Nat) (1 : Nat) (1 : Nat) (litF (List.length [IntKind.i64]) ([(0 : Int)] ++ []))), ((2 : Nat), Blk.cells [vi (1 : Int)] (3 : Nat)), q9, q7], next := (4 : Nat) }) (y0) (y1)) ∧ (K y0 y1))))))))))))))))))) else (∃ y0 : Value, (∃ y1 : List Blk, ((Go.Rx.Found 1 (Value.tuple { toList := [vn, vi (0 : Int), vi q3] }) ({ h := [q9, q7], next := (2 : Nat) }) (y0) (y1)) ∧ (K y0 y1)))))))))))))
theorem con37EF_rE (a b c d e : Int) (el nl cl : Nat) (fl : RF) (K : Value → List Blk → Prop) : con37EF_rV a b c d e el nl cl fl K = bodyX (mk X37EF) (callN (mk X37EF) 4) (con37EF_rA a b c d e el nl cl fl) Try.f37 [five' a b c d e, rsl 0 0 nl cl, .bool false] (stOf [.row true [.i64, .i64] el nl cl fl]) (Fd 1 K) := by kernel_rfl
set_option tactic.hygienic false in
theorem con37EF_rP (a b c d e : Int) (el nl cl : Nat) (fl : RF) (K : Value → List Blk → Prop)  (hI : InC a b c d e) (hnl : nl ≤ 100000) (h1 : (ckF a b c d e nl fl).2 = 0) (h2 : sel (selE fl 0) nl = []) (h : K (.tuple ⟨[.slice none 0 0, .int .i64 0, .int .i64 5]⟩) []) : con37EF_rV a b c d e el nl cl fl K := by
  unfold con37EF_rV
  conv => zeta
  have G : (ckF a b c d e nl fl).2 = 0 → good a b c d e ∧ ((nl : Nat) : Int) = b ∧ ∀ i, i < nl → fok a fl i := ckF_zero
  have SL0 := sel_len (p := selE fl 0) (n := nl)
  have SL2 := sel_len (p := selE fl 2) (n := nl)
  repeat' (first | (with_reducible first | exact rfl | exact trivial | refine And.intro ?_ ?_ | refine br_intro (fun hq => ?_) fun hq => ?_ | refine if_both (fun hz => ?_) fun hz => ?_) | (intro) | fail)

  all_goals first
    | omega
    | assumption
    | contradiction
    | exact fin0 (by kernel_rfl) (by kernel_rfl) (by first | exact h | simpa using h)
    | (simp only [Int.toNat_zero, hi4, hi2]; first | done | omega | rfl)
    | (refine fin1t rfl ?_ (by kernel_rfl) (by kernel_rfl) (h _ (by omega)); (intro i j hi hj; have hj' : j = 0 ∨ j = 1 := (by simp at hj; omega); simp only [putE, putF, cpyF, appF, shiftF, zF, Nat.min_self, Nat.sub_zero, Nat.add_zero, Nat.zero_add, Int.toNat_natCast, Int.toNat_zero]; rcases hj' with rfl | rfl <;> (repeat' split) <;> first | rfl | omega | (simp_all; done) | (simp_all; omega)))
    | (exfalso; simp at hq; omega)
theorem con37EF_ok : BodyOk (mk X37EF) 4 Try.f37 con37EF := by
  intro vs bs K hh hro
  clear hro
  unfold con37EF at hh
  split at hh
  · rename_i u vl
    obtain ⟨a, b, c, d, e, rfl, hI, hh0⟩ := five_inv hh
    obtain ⟨el, nl, cl, fl, btl, rfl, hnl, rfl, hh1⟩ := parseR_inv hh0
    obtain ⟨rfl, ⟨h1, h2⟩, hc⟩ := hh1
    exact ⟨_, _, cast (con37EF_rE a b c d e el nl cl fl  K) (con37EF_rP a b c d e el nl cl fl  K hI hnl h1 h2 hc)⟩
  · exact hh.elim
theorem con37EF_told : Told 37 (specOf con37EF) := told (X := X37EF) X37EF_told (by kernel_rfl) (by kernel_rfl) (by kernel_rfl) con37EF_ok
def con37ET_rV (a b c d e : Int) (el nl cl : Nat) (fl : RF) (K : Value → List Blk → Prop) : Prop := let q0 := ((0 : Nat) + nl ≤ nl); let q1 := (nl ≤ (100000 : Nat)); let q2 := eB; let q3 := (Prod.snd (ckF a b c d e nl fl)); let q4 := (@Eq Nat ((0 : Nat)) ((0 : Nat))); let q5 := (@Eq Nat ((1 : Nat)) ((1 : Nat))); let q6 := TS; let q7 := ((0 : Nat), rT el nl cl fl); let q8 := (eK ∧ ((@Eq Nat (nl) (nl)) ∧ (@Eq Nat (cl) (cl)))); let q9 := ((1 : Nat), Blk.cells [vi a, vi b, vi c, vi d, vi e] (23 : Nat)); (t3 (q0 ∧ ((InC a b c d e) ∧ (q4 ∧ (q1 ∧ (q8 ∧ (q2 ∧ (T0 ∧ (if (@Eq Int q3 ((0 : Int))) then (t4 (q6 ∧ (t4 (q0 ∧ (((1 : Nat) ≤ (1 : Nat)) ∧ (q4 ∧ (q1 ∧ (q8 ∧ (q5 ∧ (((1 : Nat) ≤ (100000 : Nat)) ∧ (((@Eq (List IntKind) ([IntKind.i64]) ([IntKind.i64])) ∧ (q5 ∧ q5)) ∧ ((q2 ∧ q5) ∧ ((sel (selE fl (0 : Int)) nl = []) ∧ (q6 ∧ (T0 ∧ (∃ y0 : Value, (∃ y1 : List Blk, ((Go.Rx.Found 1 (Value.tuple { toList := [vn, vi (0 : Int), vi (5 : Int)] }) ({ h := [((3 : Nat), Blk.row false [IntKind.i64] (3 : Nat) (1 : Nat) (1 : Nat) (litF (List.length [IntKind.i64]) ([(0 : Int)] ++ []))), ((2 : Nat), Blk.cells [vi (2 : Int)] (3 : Nat)), q9, q7], next := (4 : Nat) }) (y0) (y1)) ∧ (K y0 y1))))))))))))))))))) else (∃ y0 : Value, (∃ y1 : List Blk, ((Go.Rx.Found 1 (Value.tuple { toList := [vn, vi (0 : Int), vi q3] }) ({ h := [q9, q7], next := (2 : Nat) }) (y0) (y1)) ∧ (K y0 y1)))))))))))))
theorem con37ET_rE (a b c d e : Int) (el nl cl : Nat) (fl : RF) (K : Value → List Blk → Prop) : con37ET_rV a b c d e el nl cl fl K = bodyX (mk X37ET) (callN (mk X37ET) 4) (con37ET_rA a b c d e el nl cl fl) Try.f37 [five' a b c d e, rsl 0 0 nl cl, .bool true] (stOf [.row true [.i64, .i64] el nl cl fl]) (Fd 1 K) := by kernel_rfl
set_option tactic.hygienic false in
theorem con37ET_rP (a b c d e : Int) (el nl cl : Nat) (fl : RF) (K : Value → List Blk → Prop)  (hI : InC a b c d e) (hnl : nl ≤ 100000) (h1 : (ckF a b c d e nl fl).2 = 0) (h2 : sel (selE fl 0) nl = []) (h : K (.tuple ⟨[.slice none 0 0, .int .i64 0, .int .i64 5]⟩) []) : con37ET_rV a b c d e el nl cl fl K := by
  unfold con37ET_rV
  conv => zeta
  have G : (ckF a b c d e nl fl).2 = 0 → good a b c d e ∧ ((nl : Nat) : Int) = b ∧ ∀ i, i < nl → fok a fl i := ckF_zero
  have SL0 := sel_len (p := selE fl 0) (n := nl)
  have SL2 := sel_len (p := selE fl 2) (n := nl)
  repeat' (first | (with_reducible first | exact rfl | exact trivial | refine And.intro ?_ ?_ | refine br_intro (fun hq => ?_) fun hq => ?_ | refine if_both (fun hz => ?_) fun hz => ?_) | (intro) | fail)

  all_goals first
    | omega
    | assumption
    | contradiction
    | exact fin0 (by kernel_rfl) (by kernel_rfl) (by first | exact h | simpa using h)
    | (simp only [Int.toNat_zero, hi4, hi2]; first | done | omega | rfl)
    | (refine fin1t rfl ?_ (by kernel_rfl) (by kernel_rfl) (h _ (by omega)); (intro i j hi hj; have hj' : j = 0 ∨ j = 1 := (by simp at hj; omega); simp only [putE, putF, cpyF, appF, shiftF, zF, Nat.min_self, Nat.sub_zero, Nat.add_zero, Nat.zero_add, Int.toNat_natCast, Int.toNat_zero]; rcases hj' with rfl | rfl <;> (repeat' split) <;> first | rfl | omega | (simp_all; done) | (simp_all; omega)))
    | (exfalso; simp at hq; omega)
theorem con37ET_ok : BodyOk (mk X37ET) 4 Try.f37 con37ET := by
  intro vs bs K hh hro
  clear hro
  unfold con37ET at hh
  split at hh
  · rename_i u vl
    obtain ⟨a, b, c, d, e, rfl, hI, hh0⟩ := five_inv hh
    obtain ⟨el, nl, cl, fl, btl, rfl, hnl, rfl, hh1⟩ := parseR_inv hh0
    obtain ⟨rfl, ⟨h1, h2⟩, hc⟩ := hh1
    exact ⟨_, _, cast (con37ET_rE a b c d e el nl cl fl  K) (con37ET_rP a b c d e el nl cl fl  K hI hnl h1 h2 hc)⟩
  · exact hh.elim
theorem con37ET_told : Told 37 (specOf con37ET) := told (X := X37ET) X37ET_told (by kernel_rfl) (by kernel_rfl) (by kernel_rfl) con37ET_ok
def con37GF_rV (a b c d e : Int) (el nl cl : Nat) (fl : RF) (K : Value → List Blk → Prop) : Prop := let q0 := ((0 : Nat) + nl ≤ nl); let q1 := (nl ≤ (100000 : Nat)); let q2 := eB; let q3 := (sel (selE fl (0 : Int)) nl); let q4 := (Prod.snd (ckF a b c d e nl fl)); let q5 := (@Eq Nat ((0 : Nat)) ((0 : Nat))); let q6 := (@Eq Nat ((1 : Nat)) ((1 : Nat))); let q7 := (lF q3); let q8 := (@Eq Nat ((2 : Nat)) ((2 : Nat))); let q9 := TS; let q10 := (List.length q3); let q11 := (↑q10 : Int); let q12 := (litF (List.length [IntKind.i64]) ([(0 : Int)] ++ [])); let q13 := (some (rT el nl cl fl)); let q14 := (some (Blk.cells [vi (1 : Int)] (3 : Nat))); let q15 := ((0 : Nat), rT el nl cl fl); let q16 := (Int.toNat (0 : Int) < List.length q3); let q17 := (lF q3 (Int.toNat (0 : Int)) (0 : Nat)); let q18 := ((2 : Nat), Blk.cells [vi (1 : Int)] (3 : Nat)); let q19 := (q9 ∧ q6); let q20 := (((0 : Int) ≤ (0 : Int)) ∧ ((0 : Int) < q11)); let q21 := (some (Blk.row false [IntKind.i64] (3 : Nat) (1 : Nat) (1 : Nat) q12)); let q22 := ((3 : Nat), Blk.row false [IntKind.i64] (3 : Nat) (1 : Nat) (1 : Nat) q12); let q23 := (eK ∧ ((@Eq Nat (nl) (nl)) ∧ (@Eq Nat (cl) (cl)))); let q24 := (some (Blk.cells [vi a, vi b, vi c, vi d, vi e] (23 : Nat))); let q25 := ((1 : Nat), Blk.cells [vi a, vi b, vi c, vi d, vi e] (23 : Nat)); (t3 (q0 ∧ ((InC a b c d e) ∧ (q5 ∧ (q1 ∧ (q23 ∧ (q2 ∧ (T0 ∧ (if (@Eq Int q4 ((0 : Int))) then (t2 (q9 ∧ (t4 (q0 ∧ (((1 : Nat) ≤ (1 : Nat)) ∧ (q5 ∧ (q1 ∧ (q23 ∧ (q6 ∧ (((1 : Nat) ≤ (100000 : Nat)) ∧ (((@Eq (List IntKind) ([IntKind.i64]) ([IntKind.i64])) ∧ (q6 ∧ q6)) ∧ ((q2 ∧ q6) ∧ ((¬sel (selE fl (0 : Int)) nl = []) ∧ (∀ y0 : Nat, let q26 := (some (Blk.row false [IntKind.i64] (3 : Nat) q10 y0 q7)); let q27 := ((4 : Nat), Blk.row false [IntKind.i64] (3 : Nat) q10 y0 q7); ((List.length q3 ≤ y0) → (q9 ∧ (T0 ∧ (if (@Eq Int (q11) ((0 : Int))) then (∃ y1 : Value, (∃ y2 : List Blk, ((Go.Rx.Found 1 (Value.tuple { toList := [vn, vi (0 : Int), vi (5 : Int)] }) ({ h := [q27, q22, q18, q25, q15], next := (5 : Nat) }) (y1) (y2)) ∧ (K y1 y2)))) else (t4 (q19 ∧ (q20 ∧ (T0 ∧ (q16 ∧ (t3 (q19 ∧ (q20 ∧ (T0 ∧ (q16 ∧ (T0 ∧ (q9 ∧ (q9 ∧ (t3 ((((0 : Int) ≤ (↑nl : Int)) ∧ (((↑nl : Int) ≤ (↑nl : Int)) ∧ ((↑nl : Int) ≤ (100000 : Int)))) ∧ (q9 ∧ (q9 ∧ (t4 (q0 ∧ (((false = false) ∧ (T0 ∧ q0)) ∧ ((q9 ∧ q8) ∧ ((((0 : Int) ≤ lF q3 (Int.toNat (0 : Int)) (0 : Nat)) ∧ (lF q3 (Int.toNat (0 : Int)) (0 : Nat) < (↑nl : Int))) ∧ (T0 ∧ ((false = false) ∧ ((Int.toNat q17 < nl) ∧ ((q5 ∧ q8) ∧ (((@Eq (Option Blk) q26 q26) ∧ ((@Eq (Option Blk) q21 q21) ∧ ((@Eq (Option Blk) q14 q14) ∧ ((@Eq (Option Blk) q24 q24) ∧ ((@Eq (Option Blk) q13 q13) ∧ (True)))))) ∧ (T0 ∧ (∃ y1 : Value, (∃ y2 : List Blk, ((Go.Rx.Found 1 (Value.tuple { toList := [rsl (5 : Nat) (0 : Nat) nl nl, vi q17, vi (0 : Int)] }) ({ h := [((5 : Nat), rF (54 : Nat) nl nl (putE (cpyF (fun x x_1 ↦ (0 : Int)) (0 : Nat) (Nat.min nl nl) fl (0 : Nat)) (Int.toNat q17) [(1 : Int), Int.ofNat (0 : Nat)])), q27, q22, q18, q25, q15], next := (6 : Nat) }) (y1) (y2)) ∧ (K y1 y2)))))))))))))))))))))))))))))))))))))))))))))))))) else (∃ y0 : Value, (∃ y1 : List Blk, ((Go.Rx.Found 1 (Value.tuple { toList := [vn, vi (0 : Int), vi q4] }) ({ h := [q25, q15], next := (2 : Nat) }) (y0) (y1)) ∧ (K y0 y1)))))))))))))
theorem con37GF_rE (a b c d e : Int) (el nl cl : Nat) (fl : RF) (K : Value → List Blk → Prop) : con37GF_rV a b c d e el nl cl fl K = bodyX (mk X37GF) (callN (mk X37GF) 4) (con37GF_rA a b c d e el nl cl fl) Try.f37 [five' a b c d e, rsl 0 0 nl cl, .bool false] (stOf [.row true [.i64, .i64] el nl cl fl]) (Fd 1 K) := by kernel_rfl
set_option tactic.hygienic false in
theorem con37GF_rP (a b c d e : Int) (el nl cl : Nat) (fl : RF) (K : Value → List Blk → Prop)  (hI : InC a b c d e) (hnl : nl ≤ 100000) (h1 : (ckF a b c d e nl fl).2 = 0) (h2 : ¬ sel (selE fl 0) nl = []) (h : ∀ cp, nl ≤ cp → K (.tuple ⟨[rsl 1 0 nl cp, .int .i64 (lF (sel (selE fl 0) nl) 0 0), .int .i64 0]⟩) [.row false [.i64, .i64] 54 nl cp (putE fl (lF (sel (selE fl 0) nl) 0 0).toNat [1, 0])]) : con37GF_rV a b c d e el nl cl fl K := by
  unfold con37GF_rV
  conv => zeta
  have G : (ckF a b c d e nl fl).2 = 0 → good a b c d e ∧ ((nl : Nat) : Int) = b ∧ ∀ i, i < nl → fok a fl i := ckF_zero
  have SL0 := sel_len (p := selE fl 0) (n := nl)
  have SL2 := sel_len (p := selE fl 2) (n := nl)
  obtain ⟨i0, hi1, hi2, hi3⟩ := sel0_mem h2
  have hi4 : (lF (sel (selE fl 0) nl) 0 0).toNat = i0 := (by rw [hi2]; rfl)
  have L0 : 0 < List.length (sel (selE fl 0) nl) := List.length_pos_iff.2 h2
  repeat' (first | (with_reducible first | exact rfl | exact trivial | refine And.intro ?_ ?_ | refine br_intro (fun hq => ?_) fun hq => ?_ | refine if_both (fun hz => ?_) fun hz => ?_) | (intro) | fail)

  all_goals first
    | omega
    | assumption
    | contradiction
    | exact fin0 (by kernel_rfl) (by kernel_rfl) (by first | exact h | simpa using h)
    | (simp only [Int.toNat_zero, hi4, hi2]; first | done | omega | rfl)
    | (refine fin1t rfl ?_ (by kernel_rfl) (by kernel_rfl) (h _ (by omega)); (intro i j hi hj; have hj' : j = 0 ∨ j = 1 := (by simp at hj; omega); simp only [putE, putF, cpyF, appF, shiftF, zF, Nat.min_self, Nat.sub_zero, Nat.add_zero, Nat.zero_add, Int.toNat_natCast, Int.toNat_zero]; rcases hj' with rfl | rfl <;> (repeat' split) <;> first | rfl | omega | (simp_all; done) | (simp_all; omega)))
    | (exfalso; simp at hq; omega)
theorem con37GF_ok : BodyOk (mk X37GF) 4 Try.f37 con37GF := by
  intro vs bs K hh hro
  clear hro
  unfold con37GF at hh
  split at hh
  · rename_i u vl
    obtain ⟨a, b, c, d, e, rfl, hI, hh0⟩ := five_inv hh
    obtain ⟨el, nl, cl, fl, btl, rfl, hnl, rfl, hh1⟩ := parseR_inv hh0
    obtain ⟨rfl, ⟨h1, h2⟩, hc⟩ := hh1
    exact ⟨_, _, cast (con37GF_rE a b c d e el nl cl fl  K) (con37GF_rP a b c d e el nl cl fl  K hI hnl h1 h2 hc)⟩
  · exact hh.elim
theorem con37GF_told : Told 37 (specOf con37GF) := told (X := X37GF) X37GF_told (by kernel_rfl) (by kernel_rfl) (by kernel_rfl) con37GF_ok
def con37FT_rV (a b c d e : Int) (el nl cl : Nat) (fl : RF) (K : Value → List Blk → Prop) : Prop := let q0 := ((0 : Nat) + nl ≤ nl); let q1 := (nl ≤ (100000 : Nat)); let q2 := ((1 : Nat) ≤ (1 : Nat)); let q3 := eB; let q4 := (List.length [IntKind.i64]); let q5 := ((1 : Nat) ≤ (100000 : Nat)); let q6 := (sel (selE fl (0 : Int)) nl); let q7 := (sel (selE fl (2 : Int)) nl); let q8 := (Prod.snd (ckF a b c d e nl fl)); let q9 := (@Eq Nat ((0 : Nat)) ((0 : Nat))); let q10 := (@Eq Nat ((1 : Nat)) ((1 : Nat))); let q11 := (lF q6); let q12 := (lF q7); let q13 := (@Eq Nat ((2 : Nat)) ((2 : Nat))); let q14 := TS; let q15 := (List.length q6); let q16 := (List.length q7); let q17 := (↑q15 : Int); let q18 := (litF q4 ([(0 : Int)] ++ [])); let q19 := (litF q4 ([(2 : Int)] ++ [])); let q20 := (some (rT el nl cl fl)); let q21 := (some (Blk.cells [vi (2 : Int)] (3 : Nat))); let q22 := ((0 : Nat), rT el nl cl fl); let q23 := (q3 ∧ q10); let q24 := (Int.toNat (0 : Int) < List.length q6); let q25 := (lF q6 (Int.toNat (0 : Int)) (0 : Nat)); let q26 := ((2 : Nat), Blk.cells [vi (2 : Int)] (3 : Nat)); let q27 := (q14 ∧ q10); let q28 := (((0 : Int) ≤ (0 : Int)) ∧ ((0 : Int) < q17)); let q29 := (some (Blk.row false [IntKind.i64] (3 : Nat) (1 : Nat) (1 : Nat) q18)); let q30 := (some (Blk.row false [IntKind.i64] (3 : Nat) (1 : Nat) (1 : Nat) q19)); let q31 := ((5 : Nat), Blk.row false [IntKind.i64] (3 : Nat) (1 : Nat) (1 : Nat) q19); let q32 := ((3 : Nat), Blk.row false [IntKind.i64] (3 : Nat) (1 : Nat) (1 : Nat) q18); let q33 := (eK ∧ ((@Eq Nat (nl) (nl)) ∧ (@Eq Nat (cl) (cl)))); let q34 := ((@Eq (List IntKind) ([IntKind.i64]) ([IntKind.i64])) ∧ (q10 ∧ q10)); let q35 := (some (Blk.cells [vi a, vi b, vi c, vi d, vi e] (23 : Nat))); let q36 := ((1 : Nat), Blk.cells [vi a, vi b, vi c, vi d, vi e] (23 : Nat)); (t3 (q0 ∧ ((InC a b c d e) ∧ (q9 ∧ (q1 ∧ (q33 ∧ (q3 ∧ (T0 ∧ (if (@Eq Int q8 ((0 : Int))) then (t4 (q14 ∧ (t4 (q0 ∧ (q2 ∧ (q9 ∧ (q1 ∧ (q33 ∧ (q10 ∧ (q5 ∧ (q34 ∧ (q23 ∧ ((¬sel (selE fl (0 : Int)) nl = []) ∧ (∀ y0 : Nat, let q39 := (some (Blk.row false [IntKind.i64] (3 : Nat) q15 y0 q11)); let q40 := ((4 : Nat), Blk.row false [IntKind.i64] (3 : Nat) q15 y0 q11); ((List.length q6 ≤ y0) → (q14 ∧ (T0 ∧ (if (@Eq Int (q17) ((0 : Int))) then (∃ y1 : Value, (∃ y2 : List Blk, ((Go.Rx.Found 1 (Value.tuple { toList := [vn, vi (0 : Int), vi (5 : Int)] }) ({ h := [q40, q32, q26, q36, q22], next := (5 : Nat) }) (y1) (y2)) ∧ (K y1 y2)))) else (q14 ∧ (t4 (q0 ∧ (q2 ∧ (q9 ∧ (q1 ∧ (q33 ∧ (q10 ∧ (q5 ∧ (q34 ∧ (q23 ∧ ((¬sel (selE fl (2 : Int)) nl = []) ∧ (∀ y1 : Nat, let q37 := (some (Blk.row false [IntKind.i64] (3 : Nat) q16 y1 q12)); let q38 := ((6 : Nat), Blk.row false [IntKind.i64] (3 : Nat) q16 y1 q12); ((List.length q7 ≤ y1) → (q14 ∧ (T0 ∧ (if (@Eq Int ((↑q16 : Int)) ((2 : Int))) then (∃ y2 : Value, (∃ y3 : List Blk, ((Go.Rx.Found 1 (Value.tuple { toList := [vn, vi (0 : Int), vi (5 : Int)] }) ({ h := [q38, q31, q40, q32, q26, q36, q22], next := (7 : Nat) }) (y2) (y3)) ∧ (K y2 y3)))) else (t4 (q27 ∧ (q28 ∧ (T0 ∧ (q24 ∧ (t3 (q27 ∧ (q28 ∧ (T0 ∧ (q24 ∧ (T0 ∧ (q14 ∧ (q14 ∧ (t3 ((((0 : Int) ≤ (↑nl : Int)) ∧ (((↑nl : Int) ≤ (↑nl : Int)) ∧ ((↑nl : Int) ≤ (100000 : Int)))) ∧ (q14 ∧ (q14 ∧ (t4 (q0 ∧ (((false = false) ∧ (T0 ∧ q0)) ∧ ((q14 ∧ q13) ∧ ((((0 : Int) ≤ lF q6 (Int.toNat (0 : Int)) (0 : Nat)) ∧ (lF q6 (Int.toNat (0 : Int)) (0 : Nat) < (↑nl : Int))) ∧ (T0 ∧ ((false = false) ∧ ((Int.toNat q25 < nl) ∧ ((q9 ∧ q13) ∧ (((@Eq (Option Blk) q37 q37) ∧ ((@Eq (Option Blk) q30 q30) ∧ ((@Eq (Option Blk) q39 q39) ∧ ((@Eq (Option Blk) q29 q29) ∧ ((@Eq (Option Blk) q21 q21) ∧ ((@Eq (Option Blk) q35 q35) ∧ ((@Eq (Option Blk) q20 q20) ∧ (True)))))))) ∧ (T0 ∧ (∃ y2 : Value, (∃ y3 : List Blk, ((Go.Rx.Found 1 (Value.tuple { toList := [rsl (7 : Nat) (0 : Nat) nl nl, vi q25, vi (0 : Int)] }) ({ h := [((7 : Nat), rF (54 : Nat) nl nl (putE (cpyF (fun x x_1 ↦ (0 : Int)) (0 : Nat) (Nat.min nl nl) fl (0 : Nat)) (Int.toNat q25) [(2 : Int), Int.ofNat (0 : Nat)])), q38, q31, q40, q32, q26, q36, q22], next := (8 : Nat) }) (y2) (y3)) ∧ (K y2 y3))))))))))))))))))))))))))))))))))))))))))))))))))))))))))))))))))) else (∃ y0 : Value, (∃ y1 : List Blk, ((Go.Rx.Found 1 (Value.tuple { toList := [vn, vi (0 : Int), vi q8] }) ({ h := [q36, q22], next := (2 : Nat) }) (y0) (y1)) ∧ (K y0 y1)))))))))))))
theorem con37FT_rE (a b c d e : Int) (el nl cl : Nat) (fl : RF) (K : Value → List Blk → Prop) : con37FT_rV a b c d e el nl cl fl K = bodyX (mk X37FT) (callN (mk X37FT) 4) (con37FT_rA a b c d e el nl cl fl) Try.f37 [five' a b c d e, rsl 0 0 nl cl, .bool true] (stOf [.row true [.i64, .i64] el nl cl fl]) (Fd 1 K) := by kernel_rfl
set_option tactic.hygienic false in
theorem con37FT_rP (a b c d e : Int) (el nl cl : Nat) (fl : RF) (K : Value → List Blk → Prop)  (hI : InC a b c d e) (hnl : nl ≤ 100000) (h1 : (ckF a b c d e nl fl).2 = 0) (h2 : ¬ sel (selE fl 0) nl = []) (h3 : ¬ sel (selE fl 2) nl = []) (h4 : List.length (sel (selE fl 2) nl) = 2) (h : K (.tuple ⟨[.slice none 0 0, .int .i64 0, .int .i64 5]⟩) []) : con37FT_rV a b c d e el nl cl fl K := by
  unfold con37FT_rV
  conv => zeta
  have G : (ckF a b c d e nl fl).2 = 0 → good a b c d e ∧ ((nl : Nat) : Int) = b ∧ ∀ i, i < nl → fok a fl i := ckF_zero
  have SL0 := sel_len (p := selE fl 0) (n := nl)
  have SL2 := sel_len (p := selE fl 2) (n := nl)
  obtain ⟨i0, hi1, hi2, hi3⟩ := sel0_mem h2
  have hi4 : (lF (sel (selE fl 0) nl) 0 0).toNat = i0 := (by rw [hi2]; rfl)
  have L0 : 0 < List.length (sel (selE fl 0) nl) := List.length_pos_iff.2 h2
  repeat' (first | (with_reducible first | exact rfl | exact trivial | refine And.intro ?_ ?_ | refine br_intro (fun hq => ?_) fun hq => ?_ | refine if_both (fun hz => ?_) fun hz => ?_) | (intro) | fail)

  all_goals first
    | omega
    | assumption
    | contradiction
    | exact fin0 (by kernel_rfl) (by kernel_rfl) (by first | exact h | simpa using h)
    | (simp only [Int.toNat_zero, hi4, hi2]; first | done | omega | rfl)
    | (refine fin1t rfl ?_ (by kernel_rfl) (by kernel_rfl) (h _ (by omega)); (intro i j hi hj; have hj' : j = 0 ∨ j = 1 := (by simp at hj; omega); simp only [putE, putF, cpyF, appF, shiftF, zF, Nat.min_self, Nat.sub_zero, Nat.add_zero, Nat.zero_add, Int.toNat_natCast, Int.toNat_zero]; rcases hj' with rfl | rfl <;> (repeat' split) <;> first | rfl | omega | (simp_all; done) | (simp_all; omega)))
    | (exfalso; simp at hq; omega)
theorem con37FT_ok : BodyOk (mk X37FT) 4 Try.f37 con37FT := by
  intro vs bs K hh hro
  clear hro
  unfold con37FT at hh
  split at hh
  · rename_i u vl
    obtain ⟨a, b, c, d, e, rfl, hI, hh0⟩ := five_inv hh
    obtain ⟨el, nl, cl, fl, btl, rfl, hnl, rfl, hh1⟩ := parseR_inv hh0
    obtain ⟨rfl, ⟨h1, h2, h3, h4⟩, hc⟩ := hh1
    exact ⟨_, _, cast (con37FT_rE a b c d e el nl cl fl  K) (con37FT_rP a b c d e el nl cl fl  K hI hnl h1 h2 h3 h4 hc)⟩
  · exact hh.elim
theorem con37FT_told : Told 37 (specOf con37FT) := told (X := X37FT) X37FT_told (by kernel_rfl) (by kernel_rfl) (by kernel_rfl) con37FT_ok
def con37GT_rV (a b c d e : Int) (el nl cl : Nat) (fl : RF) (K : Value → List Blk → Prop) : Prop := let q0 := ((0 : Nat) + nl ≤ nl); let q1 := (nl ≤ (100000 : Nat)); let q2 := ((1 : Nat) ≤ (1 : Nat)); let q3 := eB; let q4 := (List.length [IntKind.i64]); let q5 := ((1 : Nat) ≤ (100000 : Nat)); let q6 := (sel (selE fl (0 : Int)) nl); let q7 := (sel (selE fl (2 : Int)) nl); let q8 := (Prod.snd (ckF a b c d e nl fl)); let q9 := (@Eq Nat ((0 : Nat)) ((0 : Nat))); let q10 := (@Eq Nat ((1 : Nat)) ((1 : Nat))); let q11 := (lF q6); let q12 := (lF q7); let q13 := (@Eq Nat ((2 : Nat)) ((2 : Nat))); let q14 := TS; let q15 := (List.length q6); let q16 := (List.length q7); let q17 := (↑q15 : Int); let q18 := (litF q4 ([(0 : Int)] ++ [])); let q19 := (litF q4 ([(2 : Int)] ++ [])); let q20 := (some (rT el nl cl fl)); let q21 := (some (Blk.cells [vi (2 : Int)] (3 : Nat))); let q22 := ((0 : Nat), rT el nl cl fl); let q23 := (q3 ∧ q10); let q24 := (Int.toNat (0 : Int) < List.length q6); let q25 := (lF q6 (Int.toNat (0 : Int)) (0 : Nat)); let q26 := ((2 : Nat), Blk.cells [vi (2 : Int)] (3 : Nat)); let q27 := (q14 ∧ q10); let q28 := (((0 : Int) ≤ (0 : Int)) ∧ ((0 : Int) < q17)); let q29 := (some (Blk.row false [IntKind.i64] (3 : Nat) (1 : Nat) (1 : Nat) q18)); let q30 := (some (Blk.row false [IntKind.i64] (3 : Nat) (1 : Nat) (1 : Nat) q19)); let q31 := ((5 : Nat), Blk.row false [IntKind.i64] (3 : Nat) (1 : Nat) (1 : Nat) q19); let q32 := ((3 : Nat), Blk.row false [IntKind.i64] (3 : Nat) (1 : Nat) (1 : Nat) q18); let q33 := (eK ∧ ((@Eq Nat (nl) (nl)) ∧ (@Eq Nat (cl) (cl)))); let q34 := ((@Eq (List IntKind) ([IntKind.i64]) ([IntKind.i64])) ∧ (q10 ∧ q10)); let q35 := (some (Blk.cells [vi a, vi b, vi c, vi d, vi e] (23 : Nat))); let q36 := ((1 : Nat), Blk.cells [vi a, vi b, vi c, vi d, vi e] (23 : Nat)); (t3 (q0 ∧ ((InC a b c d e) ∧ (q9 ∧ (q1 ∧ (q33 ∧ (q3 ∧ (T0 ∧ (if (@Eq Int q8 ((0 : Int))) then (t4 (q14 ∧ (t4 (q0 ∧ (q2 ∧ (q9 ∧ (q1 ∧ (q33 ∧ (q10 ∧ (q5 ∧ (q34 ∧ (q23 ∧ ((¬sel (selE fl (0 : Int)) nl = []) ∧ (∀ y0 : Nat, let q39 := (some (Blk.row false [IntKind.i64] (3 : Nat) q15 y0 q11)); let q40 := ((4 : Nat), Blk.row false [IntKind.i64] (3 : Nat) q15 y0 q11); ((List.length q6 ≤ y0) → (q14 ∧ (T0 ∧ (if (@Eq Int (q17) ((0 : Int))) then (∃ y1 : Value, (∃ y2 : List Blk, ((Go.Rx.Found 1 (Value.tuple { toList := [vn, vi (0 : Int), vi (5 : Int)] }) ({ h := [q40, q32, q26, q36, q22], next := (5 : Nat) }) (y1) (y2)) ∧ (K y1 y2)))) else (q14 ∧ (t4 (q0 ∧ (q2 ∧ (q9 ∧ (q1 ∧ (q33 ∧ (q10 ∧ (q5 ∧ (q34 ∧ (q23 ∧ ((¬sel (selE fl (2 : Int)) nl = []) ∧ (∀ y1 : Nat, let q37 := (some (Blk.row false [IntKind.i64] (3 : Nat) q16 y1 q12)); let q38 := ((6 : Nat), Blk.row false [IntKind.i64] (3 : Nat) q16 y1 q12); ((List.length q7 ≤ y1) → (q14 ∧ (T0 ∧ (if (@Eq Int ((↑q16 : Int)) ((2 : Int))) then (∃ y2 : Value, (∃ y3 : List Blk, ((Go.Rx.Found 1 (Value.tuple { toList := [vn, vi (0 : Int), vi (5 : Int)] }) ({ h := [q38, q31, q40, q32, q26, q36, q22], next := (7 : Nat) }) (y2) (y3)) ∧ (K y2 y3)))) else (t4 (q27 ∧ (q28 ∧ (T0 ∧ (q24 ∧ (t3 (q27 ∧ (q28 ∧ (T0 ∧ (q24 ∧ (T0 ∧ (q14 ∧ (q14 ∧ (t3 ((((0 : Int) ≤ (↑nl : Int)) ∧ (((↑nl : Int) ≤ (↑nl : Int)) ∧ ((↑nl : Int) ≤ (100000 : Int)))) ∧ (q14 ∧ (q14 ∧ (t4 (q0 ∧ (((false = false) ∧ (T0 ∧ q0)) ∧ ((q14 ∧ q13) ∧ ((((0 : Int) ≤ lF q6 (Int.toNat (0 : Int)) (0 : Nat)) ∧ (lF q6 (Int.toNat (0 : Int)) (0 : Nat) < (↑nl : Int))) ∧ (T0 ∧ ((false = false) ∧ ((Int.toNat q25 < nl) ∧ ((q9 ∧ q13) ∧ (((@Eq (Option Blk) q37 q37) ∧ ((@Eq (Option Blk) q30 q30) ∧ ((@Eq (Option Blk) q39 q39) ∧ ((@Eq (Option Blk) q29 q29) ∧ ((@Eq (Option Blk) q21 q21) ∧ ((@Eq (Option Blk) q35 q35) ∧ ((@Eq (Option Blk) q20 q20) ∧ (True)))))))) ∧ (T0 ∧ (∃ y2 : Value, (∃ y3 : List Blk, ((Go.Rx.Found 1 (Value.tuple { toList := [rsl (7 : Nat) (0 : Nat) nl nl, vi q25, vi (0 : Int)] }) ({ h := [((7 : Nat), rF (54 : Nat) nl nl (putE (cpyF (fun x x_1 ↦ (0 : Int)) (0 : Nat) (Nat.min nl nl) fl (0 : Nat)) (Int.toNat q25) [(2 : Int), Int.ofNat (0 : Nat)])), q38, q31, q40, q32, q26, q36, q22], next := (8 : Nat) }) (y2) (y3)) ∧ (K y2 y3))))))))))))))))))))))))))))))))))))))))))))))))))))))))))))))))))) else (∃ y0 : Value, (∃ y1 : List Blk, ((Go.Rx.Found 1 (Value.tuple { toList := [vn, vi (0 : Int), vi q8] }) ({ h := [q36, q22], next := (2 : Nat) }) (y0) (y1)) ∧ (K y0 y1)))))))))))))
theorem con37GT_rE (a b c d e : Int) (el nl cl : Nat) (fl : RF) (K : Value → List Blk → Prop) : con37GT_rV a b c d e el nl cl fl K = bodyX (mk X37GT) (callN (mk X37GT) 4) (con37GT_rA a b c d e el nl cl fl) Try.f37 [five' a b c d e, rsl 0 0 nl cl, .bool true] (stOf [.row true [.i64, .i64] el nl cl fl]) (Fd 1 K) := by kernel_rfl
set_option tactic.hygienic false in
theorem con37GT_rP (a b c d e : Int) (el nl cl : Nat) (fl : RF) (K : Value → List Blk → Prop)  (hI : InC a b c d e) (hnl : nl ≤ 100000) (h1 : (ckF a b c d e nl fl).2 = 0) (h2 : ¬ sel (selE fl 0) nl = []) (h3 : ¬ sel (selE fl 2) nl = []) (h4 : ¬ List.length (sel (selE fl 2) nl) = 2) (h : ∀ cp, nl ≤ cp → K (.tuple ⟨[rsl 1 0 nl cp, .int .i64 (lF (sel (selE fl 0) nl) 0 0), .int .i64 0]⟩) [.row false [.i64, .i64] 54 nl cp (putE fl (lF (sel (selE fl 0) nl) 0 0).toNat [2, 0])]) : con37GT_rV a b c d e el nl cl fl K := by
  unfold con37GT_rV
  conv => zeta
  have G : (ckF a b c d e nl fl).2 = 0 → good a b c d e ∧ ((nl : Nat) : Int) = b ∧ ∀ i, i < nl → fok a fl i := ckF_zero
  have SL0 := sel_len (p := selE fl 0) (n := nl)
  have SL2 := sel_len (p := selE fl 2) (n := nl)
  obtain ⟨i0, hi1, hi2, hi3⟩ := sel0_mem h2
  have hi4 : (lF (sel (selE fl 0) nl) 0 0).toNat = i0 := (by rw [hi2]; rfl)
  have L0 : 0 < List.length (sel (selE fl 0) nl) := List.length_pos_iff.2 h2
  repeat' (first | (with_reducible first | exact rfl | exact trivial | refine And.intro ?_ ?_ | refine br_intro (fun hq => ?_) fun hq => ?_ | refine if_both (fun hz => ?_) fun hz => ?_) | (intro) | fail)

  all_goals first
    | omega
    | assumption
    | contradiction
    | exact fin0 (by kernel_rfl) (by kernel_rfl) (by first | exact h | simpa using h)
    | (simp only [Int.toNat_zero, hi4, hi2]; first | done | omega | rfl)
    | (refine fin1t rfl ?_ (by kernel_rfl) (by kernel_rfl) (h _ (by omega)); (intro i j hi hj; have hj' : j = 0 ∨ j = 1 := (by simp at hj; omega); simp only [putE, putF, cpyF, appF, shiftF, zF, Nat.min_self, Nat.sub_zero, Nat.add_zero, Nat.zero_add, Int.toNat_natCast, Int.toNat_zero]; rcases hj' with rfl | rfl <;> (repeat' split) <;> first | rfl | omega | (simp_all; done) | (simp_all; omega)))
    | (exfalso; simp at hq; omega)
theorem con37GT_ok : BodyOk (mk X37GT) 4 Try.f37 con37GT := by
  intro vs bs K hh hro
  clear hro
  unfold con37GT at hh
  split at hh
  · rename_i u vl
    obtain ⟨a, b, c, d, e, rfl, hI, hh0⟩ := five_inv hh
    obtain ⟨el, nl, cl, fl, btl, rfl, hnl, rfl, hh1⟩ := parseR_inv hh0
    obtain ⟨rfl, ⟨h1, h2, h3, h4⟩, hc⟩ := hh1
    exact ⟨_, _, cast (con37GT_rE a b c d e el nl cl fl  K) (con37GT_rP a b c d e el nl cl fl  K hI hnl h1 h2 h3 h4 hc)⟩
  · exact hh.elim
theorem con37GT_told : Told 37 (specOf con37GT) := told (X := X37GT) X37GT_told (by kernel_rfl) (by kernel_rfl) (by kernel_rfl) con37GT_ok
def con37HT_rV (a b c d e : Int) (el nl cl : Nat) (fl : RF) (K : Value → List Blk → Prop) : Prop := let q0 := ((0 : Nat) + nl ≤ nl); let q1 := (nl ≤ (100000 : Nat)); let q2 := ((1 : Nat) ≤ (1 : Nat)); let q3 := eB; let q4 := (List.length [IntKind.i64]); let q5 := ((1 : Nat) ≤ (100000 : Nat)); let q6 := (sel (selE fl (0 : Int)) nl); let q7 := (Prod.snd (ckF a b c d e nl fl)); let q8 := (@Eq Nat ((0 : Nat)) ((0 : Nat))); let q9 := (@Eq Nat ((1 : Nat)) ((1 : Nat))); let q10 := (lF q6); let q11 := (@Eq Nat ((2 : Nat)) ((2 : Nat))); let q12 := TS; let q13 := (List.length q6); let q14 := (↑q13 : Int); let q15 := (litF q4 ([(0 : Int)] ++ [])); let q16 := (litF q4 ([(2 : Int)] ++ [])); let q17 := (some (rT el nl cl fl)); let q18 := (some (Blk.cells [vi (2 : Int)] (3 : Nat))); let q19 := ((0 : Nat), rT el nl cl fl); let q20 := (q3 ∧ q9); let q21 := (Int.toNat (0 : Int) < List.length q6); let q22 := (lF q6 (Int.toNat (0 : Int)) (0 : Nat)); let q23 := ((2 : Nat), Blk.cells [vi (2 : Int)] (3 : Nat)); let q24 := (q12 ∧ q9); let q25 := (((0 : Int) ≤ (0 : Int)) ∧ ((0 : Int) < q14)); let q26 := (some (Blk.row false [IntKind.i64] (3 : Nat) (1 : Nat) (1 : Nat) q15)); let q27 := (some (Blk.row false [IntKind.i64] (3 : Nat) (1 : Nat) (1 : Nat) q16)); let q28 := ((3 : Nat), Blk.row false [IntKind.i64] (3 : Nat) (1 : Nat) (1 : Nat) q15); let q29 := (eK ∧ ((@Eq Nat (nl) (nl)) ∧ (@Eq Nat (cl) (cl)))); let q30 := ((@Eq (List IntKind) ([IntKind.i64]) ([IntKind.i64])) ∧ (q9 ∧ q9)); let q31 := (some (Blk.cells [vi a, vi b, vi c, vi d, vi e] (23 : Nat))); let q32 := ((1 : Nat), Blk.cells [vi a, vi b, vi c, vi d, vi e] (23 : Nat)); (t3 (q0 ∧ ((InC a b c d e) ∧ (q8 ∧ (q1 ∧ (q29 ∧ (q3 ∧ (T0 ∧ (if (@Eq Int q7 ((0 : Int))) then (t4 (q12 ∧ (t4 (q0 ∧ (q2 ∧ (q8 ∧ (q1 ∧ (q29 ∧ (q9 ∧ (q5 ∧ (q30 ∧ (q20 ∧ ((¬sel (selE fl (0 : Int)) nl = []) ∧ (∀ y0 : Nat, let q33 := (some (Blk.row false [IntKind.i64] (3 : Nat) q13 y0 q10)); let q34 := ((4 : Nat), Blk.row false [IntKind.i64] (3 : Nat) q13 y0 q10); ((List.length q6 ≤ y0) → (q12 ∧ (T0 ∧ (if (@Eq Int (q14) ((0 : Int))) then (∃ y1 : Value, (∃ y2 : List Blk, ((Go.Rx.Found 1 (Value.tuple { toList := [vn, vi (0 : Int), vi (5 : Int)] }) ({ h := [q34, q28, q23, q32, q19], next := (5 : Nat) }) (y1) (y2)) ∧ (K y1 y2)))) else (q12 ∧ (t4 (q0 ∧ (q2 ∧ (q8 ∧ (q1 ∧ (q29 ∧ (q9 ∧ (q5 ∧ (q30 ∧ (q20 ∧ ((sel (selE fl (2 : Int)) nl = []) ∧ (q12 ∧ (t5 (q24 ∧ (q25 ∧ (T0 ∧ (q21 ∧ (t3 (q24 ∧ (q25 ∧ (T0 ∧ (q21 ∧ (T0 ∧ (q12 ∧ (q12 ∧ (t3 ((((0 : Int) ≤ (↑nl : Int)) ∧ (((↑nl : Int) ≤ (↑nl : Int)) ∧ ((↑nl : Int) ≤ (100000 : Int)))) ∧ (q12 ∧ (q12 ∧ (t4 (q0 ∧ (((false = false) ∧ (T0 ∧ q0)) ∧ ((q12 ∧ q11) ∧ ((((0 : Int) ≤ lF q6 (Int.toNat (0 : Int)) (0 : Nat)) ∧ (lF q6 (Int.toNat (0 : Int)) (0 : Nat) < (↑nl : Int))) ∧ (T0 ∧ ((false = false) ∧ ((Int.toNat q22 < nl) ∧ ((q8 ∧ q11) ∧ (((@Eq (Option Blk) q27 q27) ∧ ((@Eq (Option Blk) q33 q33) ∧ ((@Eq (Option Blk) q26 q26) ∧ ((@Eq (Option Blk) q18 q18) ∧ ((@Eq (Option Blk) q31 q31) ∧ ((@Eq (Option Blk) q17 q17) ∧ (True))))))) ∧ (T0 ∧ (∃ y1 : Value, (∃ y2 : List Blk, ((Go.Rx.Found 1 (Value.tuple { toList := [rsl (6 : Nat) (0 : Nat) nl nl, vi q22, vi (0 : Int)] }) ({ h := [((6 : Nat), rF (54 : Nat) nl nl (putE (cpyF (fun x x_1 ↦ (0 : Int)) (0 : Nat) (Nat.min nl nl) fl (0 : Nat)) (Int.toNat q22) [(2 : Int), Int.ofNat (0 : Nat)])), ((5 : Nat), Blk.row false [IntKind.i64] (3 : Nat) (1 : Nat) (1 : Nat) q16), q34, q28, q23, q32, q19], next := (7 : Nat) }) (y1) (y2)) ∧ (K y1 y2))))))))))))))))))))))))))))))))))))))))))))))))))))))))))))))) else (∃ y0 : Value, (∃ y1 : List Blk, ((Go.Rx.Found 1 (Value.tuple { toList := [vn, vi (0 : Int), vi q7] }) ({ h := [q32, q19], next := (2 : Nat) }) (y0) (y1)) ∧ (K y0 y1)))))))))))))
theorem con37HT_rE (a b c d e : Int) (el nl cl : Nat) (fl : RF) (K : Value → List Blk → Prop) : con37HT_rV a b c d e el nl cl fl K = bodyX (mk X37HT) (callN (mk X37HT) 4) (con37HT_rA a b c d e el nl cl fl) Try.f37 [five' a b c d e, rsl 0 0 nl cl, .bool true] (stOf [.row true [.i64, .i64] el nl cl fl]) (Fd 1 K) := by kernel_rfl
set_option tactic.hygienic false in
theorem con37HT_rP (a b c d e : Int) (el nl cl : Nat) (fl : RF) (K : Value → List Blk → Prop)  (hI : InC a b c d e) (hnl : nl ≤ 100000) (h1 : (ckF a b c d e nl fl).2 = 0) (h2 : ¬ sel (selE fl 0) nl = []) (h3 : sel (selE fl 2) nl = []) (h : ∀ cp, nl ≤ cp → K (.tuple ⟨[rsl 1 0 nl cp, .int .i64 (lF (sel (selE fl 0) nl) 0 0), .int .i64 0]⟩) [.row false [.i64, .i64] 54 nl cp (putE fl (lF (sel (selE fl 0) nl) 0 0).toNat [2, 0])]) : con37HT_rV a b c d e el nl cl fl K := by
  unfold con37HT_rV
  conv => zeta
  have G : (ckF a b c d e nl fl).2 = 0 → good a b c d e ∧ ((nl : Nat) : Int) = b ∧ ∀ i, i < nl → fok a fl i := ckF_zero
  have SL0 := sel_len (p := selE fl 0) (n := nl)
  have SL2 := sel_len (p := selE fl 2) (n := nl)
  obtain ⟨i0, hi1, hi2, hi3⟩ := sel0_mem h2
  have hi4 : (lF (sel (selE fl 0) nl) 0 0).toNat = i0 := (by rw [hi2]; rfl)
  have L0 : 0 < List.length (sel (selE fl 0) nl) := List.length_pos_iff.2 h2
  repeat' (first | (with_reducible first | exact rfl | exact trivial | refine And.intro ?_ ?_ | refine br_intro (fun hq => ?_) fun hq => ?_ | refine if_both (fun hz => ?_) fun hz => ?_) | (intro) | fail)

  all_goals first
    | omega
    | assumption
    | contradiction
    | exact fin0 (by kernel_rfl) (by kernel_rfl) (by first | exact h | simpa using h)
    | (simp only [Int.toNat_zero, hi4, hi2]; first | done | omega | rfl)
    | (refine fin1t rfl ?_ (by kernel_rfl) (by kernel_rfl) (h _ (by omega)); (intro i j hi hj; have hj' : j = 0 ∨ j = 1 := (by simp at hj; omega); simp only [putE, putF, cpyF, appF, shiftF, zF, Nat.min_self, Nat.sub_zero, Nat.add_zero, Nat.zero_add, Int.toNat_natCast, Int.toNat_zero]; rcases hj' with rfl | rfl <;> (repeat' split) <;> first | rfl | omega | (simp_all; done) | (simp_all; omega)))
    | (exfalso; simp at hq; omega)
theorem con37HT_ok : BodyOk (mk X37HT) 4 Try.f37 con37HT := by
  intro vs bs K hh hro
  clear hro
  unfold con37HT at hh
  split at hh
  · rename_i u vl
    obtain ⟨a, b, c, d, e, rfl, hI, hh0⟩ := five_inv hh
    obtain ⟨el, nl, cl, fl, btl, rfl, hnl, rfl, hh1⟩ := parseR_inv hh0
    obtain ⟨rfl, ⟨h1, h2, h3⟩, hc⟩ := hh1
    exact ⟨_, _, cast (con37HT_rE a b c d e el nl cl fl  K) (con37HT_rP a b c d e el nl cl fl  K hI hnl h1 h2 h3 hc)⟩
  · exact hh.elim
theorem con37HT_told : Told 37 (specOf con37HT) := told (X := X37HT) X37HT_told (by kernel_rfl) (by kernel_rfl) (by kernel_rfl) con37HT_ok
end Go.Proofs.Ytkflmglpniebfaa.Fr
namespace Go.Proofs.Ytkflmglpniebfaa.Fr
set_option maxRecDepth 100000
set_option maxHeartbeats 4000000
open Go.Rx
open Go.RowKit (Below)
set_option linter.unusedVariables false
theorem locA_or {s : Rx.St} {c c1 c2 : List Value → List Blk → Prop} (h : ∀ us bs, c us bs → c1 us bs ∨ c2 us bs) : ∀ (args : List Value) (k : Nat), locA s k args c → locA s k args c1 ∨ locA s k args c2 := by
  intro args
  induction args generalizing c c1 c2 with
  | nil => exact fun k hc => h _ _ hc
  | cons v vs ih =>
    intro k hc
    unfold locA at hc ⊢
    split at hc
    · obtain ⟨o, ho, hc⟩ := kO_some hc
      show kO (Rx.look s.h _) _ ∨ kO (Rx.look s.h _) _
      rw [ho]
      cases o with
      | cells cs e => exact hc.elim
      | row ro ks e n q f => exact (ih (fun us bs => h _ _) _ hc.2).imp (fun x => ⟨hc.1, x⟩) fun x => ⟨hc.1, x⟩
    · rename_i hne
      exact (ih (fun us bs => h _ _) _ hc.2).imp (fun x => ⟨hc.1, x⟩) fun x => ⟨hc.1, x⟩
theorem Told.or {f : Nat} {c1 c2 c : Con} (h1 : Told f (specOf c1)) (h2 : Told f (specOf c2)) (h : ∀ vs bs K, c vs bs K → c1 vs bs K ∨ c2 vs bs K) : Told f (specOf c) :=
  ⟨h1.1, fun args s K hk => (locA_or (fun us bs => h us bs _) args 0 hk).elim (fun x => h1.2 args s K x) fun x => h2.2 args s K x⟩
theorem pc_len {f : RF} : ∀ n : Nat, pc f n = (List.length (sel (selE f 2) n) : Int)
  | 0 => rfl
  | n + 1 => by
    have ih := pc_len (f := f) n
    by_cases h : f n 0 = 2
    · rw [sel_yes (selE_yes h), List.length_append]
      simp only [pc, if_pos h, ih, List.length_singleton]
      omega
    · rw [sel_no (selE_no h)]
      simp only [pc, if_neg h, ih]
theorem pc_mono {f : RF} (k : Nat) : ∀ l : Nat, pc f k ≤ pc f (k + l)
  | 0 => by simp
  | l + 1 => by
    have := pc_mono (f := f) k l
    show _ ≤ pc f ((k + l) + 1)
    simp only [pc]
    split <;> omega
theorem ck_of (a : Int) (f : RF) : ∀ (l k : Nat), (∀ i, k ≤ i → i < k + l → fok a f i) → pc f (k + l) ≤ 2 → ck a f l k = (0, 0)
  | 0, k, _, _ => rfl
  | l + 1, k, h, hp => by
    have h0 := h k (by omega) (by omega)
    unfold fok at h0
    have hm := pc_mono (f := f) (k + 1) l
    rw [show k + 1 + l = k + (l + 1) by omega] at hm
    have h1 : pc f (k + 1) = if f k 0 = 2 then pc f k + 1 else pc f k := rfl
    unfold ck
    rw [if_neg (by omega), if_neg (by omega), if_neg (by split at h1 <;> omega)]
    exact ck_of a f l (k + 1) (fun i h2 h3 => h i (by omega) (by omega)) (by rw [show k + 1 + l = k + (l + 1) by omega]; exact hp)
theorem ck_pc (a : Int) (f : RF) : ∀ (l k : Nat), (ck a f l k).2 = 0 → pc f k ≤ 2 → pc f (k + l) ≤ 2
  | 0, k, _, hp => hp
  | l + 1, k, h, hp => by
    unfold ck at h
    have h1 : pc f (k + 1) = if f k 0 = 2 then pc f k + 1 else pc f k := rfl
    split at h
    · cases h
    · split at h
      · cases h
      · split at h
        · cases h
        · have := ck_pc a f l (k + 1) h (by split at h1 <;> omega)
          rw [show k + (l + 1) = k + 1 + l by omega]
          exact this
theorem ckF_of {a b c d e : Int} {n : Nat} {f : RF} (h : good a b c d e) (hn : (n : Int) = b) (hf : ∀ i, i < n → fok a f i) (hp : pc f n ≤ 2) : (ckF a b c d e n f).2 = 0 := by
  rw [ckF_go (if_pos h) hn, ck_of a f n 0 (fun i _ hi => hf i (by omega)) (by simpa using hp)]
theorem ckF_pc {a b c d e : Int} {n : Nat} {f : RF} (h : (ckF a b c d e n f).2 = 0) : pc f n ≤ 2 := by
  obtain ⟨h1, h2, -⟩ := ckF_zero h
  rw [ckF_go (if_pos h1) h2] at h
  have := ck_pc a f n 0 h (by simp [pc])
  simpa using this
/-- The least one comes first. -/
theorem sel_head {p : Nat → Bool} : ∀ {n : Nat}, ¬ sel p n = [] → ∃ i, i < n ∧ p i = true ∧ sel p n = (i : Int) :: sel (fun j => p j && !decide (j = i)) n
  | 0, h => by simp [sel] at h
  | n + 1, h => by
    by_cases h0 : sel p n = []
    · by_cases hp : p n = true
      · have none : ∀ k, k ≤ n → sel (fun j => p j && !decide (j = n)) k = [] := fun k hk => by
          have hz : ∀ k, k ≤ n → sel p k = [] := fun k hk => by
            have : ∀ d k, k + d = n → sel p k = [] := fun d => by
              induction d with
              | zero => intro k hk; rw [show k = n by omega]; exact h0
              | succ d ih =>
                intro k hk
                have := ih (k + 1) (by omega)
                by_cases hq : p k = true
                · rw [sel_yes hq] at this; simp at this
                · rwa [sel_no hq] at this
            exact this (n - k) k (by omega)
          induction k with
          | zero => rfl
          | succ k ih =>
            have hk1 := hz (k + 1) hk
            have hq : ¬ p k = true := fun hq => by rw [sel_yes hq] at hk1; simp at hk1
            rw [sel_no (by simp [hq])]
            exact ih (by omega)
        refine ⟨n, by omega, hp, ?_⟩
        rw [sel_yes hp, h0, sel_no (by simp), none n (Nat.le_refl _)]
        rfl
      · rw [sel_no hp] at h
        exact absurd h0 h
    · obtain ⟨i, h1, h2, h3⟩ := sel_head h0
      refine ⟨i, by omega, h2, ?_⟩
      by_cases hp : p n = true
      · rw [sel_yes hp, sel_yes (by simp [hp]; omega), h3]
        rfl
      · rw [sel_no hp, sel_no (by simp [hp])]
        exact h3
theorem sel_congr {p q : Nat → Bool} : ∀ {n : Nat}, (∀ i, i < n → p i = q i) → sel p n = sel q n
  | 0, _ => rfl
  | n + 1, h => by
    have ih := sel_congr (n := n) fun i hi => h i (by omega)
    simp only [sel]
    rw [ih, h n (by omega)]
theorem lF_zero {x : Int} {l : List Int} {j : Nat} : lF (x :: l) 0 j = x := by simp [lF]
/-- A free car is taken. -/
structure Taken (a b c d e : Int) (n : Nat) (f : RF) (st : Int) (i : Nat) (g : RF) : Prop where
  lt : i < n
  at0 : f i 0 = 0
  at1 : f i 1 = 0
  first : lF (sel (selE f 0) n) 0 0 = (i : Int)
  now0 : g i 0 = st
  now1 : g i 1 = 0
  free : sel (selE f 0) n = (i : Int) :: sel (selE g 0) n
  some : List.length (sel (selE g 2) n) = List.length (sel (selE f 2) n) + (if st = 2 then 1 else 0)
  ok : (ckF a b c d e n g).2 = 0
  ask : askF a b c d e n g (i : Int) = 0
  rest : ∀ j, j ≠ i → ∀ q, g j q = f j q
theorem taken {a b c d e : Int} {n : Nat} {f : RF} (h : (ckF a b c d e n f).2 = 0) (h0 : ¬ sel (selE f 0) n = []) {st : Int} (hst : st = 1 ∨ (st = 2 ∧ ¬ List.length (sel (selE f 2) n) = 2)) : ∃ i : Nat, Taken a b c d e n f st i (putE f (lF (sel (selE f 0) n) 0 0).toNat [st, 0]) := by
  obtain ⟨i, h1, h2, h3⟩ := sel_head h0
  have e0 : f i 0 = 0 := of_decide_eq_true h2
  obtain ⟨g1, g2, g3⟩ := ckF_zero h
  have gi := g3 i h1
  unfold fok at gi
  have hf : lF (sel (selE f 0) n) 0 0 = (i : Int) := by rw [h3]; exact lF_zero
  have hi : (lF (sel (selE f 0) n) 0 0).toNat = i := by rw [hf]; rfl
  rw [hi]
  have p0 : ∀ j q, putE f i [st, 0] j q = if j = i then ([st, 0][q]?).getD 0 else f j q := fun j q => rfl
  have hsome : ∀ m, pc (putE f i [st, 0]) m = pc f m + (if i < m ∧ st = 2 then 1 else 0) := fun m => by
    induction m with
    | zero => simp [pc]
    | succ m ih =>
      simp only [pc, ih, p0]
      by_cases hm : m = i
      · subst hm
        simp [e0]
        (repeat' split) <;> first | rfl | omega
      · simp only [if_neg hm]
        by_cases h2 : f m 0 = 2
        · simp only [if_pos h2]
          (repeat' split) <;> first | rfl | omega
        · simp only [if_neg h2]
          (repeat' split) <;> first | rfl | omega
  have hsn := hsome n
  have hl1 := pc_len (f := f) n
  have hl2 := pc_len (f := putE f i [st, 0]) n
  have hpc := ckF_pc h
  have ok : (ckF a b c d e n (putE f i [st, 0])).2 = 0 := by
    refine ckF_of g1 g2 (fun j hj => ?_) ?_
    · have gj := g3 j hj
      unfold fok at gj ⊢
      simp only [p0]
      by_cases hm : j = i
      · simp [hm]; omega
      · simp only [if_neg hm]; exact gj
    · rw [hsn]; split <;> omega
  refine ⟨i, h1, e0, gi.2.2.1 e0, hf, by simp [putE], by simp [putE], ?_, ?_, ok, ?_, fun j hj q => by rw [p0, if_neg hj]⟩
  · rw [h3]
    congr 1
    refine sel_congr fun j hj => ?_
    unfold selE
    simp only [p0]
    by_cases hm : j = i
    · simp [hm, e0]; omega
    · simp [hm]
  · have : ((List.length (sel (selE (putE f i [st, 0]) 2) n) : Nat) : Int) = List.length (sel (selE f 2) n) + (if st = 2 then 1 else 0) := by
      rw [← hl2, hsn, hl1]
      simp [h1]
    split at this <;> simp_all <;> omega
  · unfold askF
    rw [if_pos ok, if_neg (by omega)]
theorem parseR_mono {ks : List IntKind} {j : Nat} {v : Value} {bs : List Blk} {k k' : Nat → RF → Nat → List Blk → Prop} (h : ∀ n f j bs, k' n f j bs → k n f j bs) (x : parseR ks j v bs k') : parseR ks j v bs k := by
  obtain ⟨e, n, c, f, bs', rfl, hn, rfl, h'⟩ := parseR_inv x
  exact ⟨rfl, hn, ⟨rfl, rfl, rfl⟩, h _ _ _ _ h'⟩
def con37GFa : Con := fun vs bs K => match vs with
  | [u, v, .bool false] => five u fun a b c d e => parseR [.i64, .i64] 0 v bs fun n f j bs => bs = [] ∧ ((ckF a b c d e n f).2 = 0 ∧ ¬ sel (selE f 0) n = []) ∧ ∀ (i : Nat) (g : RF), Taken a b c d e n f 1 i g → ∀ cp, n ≤ cp → K (.tuple ⟨[rsl j 0 n cp, .int .i64 (i : Int), .int .i64 0]⟩) [.row false [.i64, .i64] 54 n cp g]
  | _ => False
theorem con37GFa_told : Told 37 (specOf con37GFa) := con37GF_told.mono fun vs bs K x => by
  unfold con37GFa at x
  unfold con37GF
  split at x
  · refine five_mono (fun a b c d e => parseR_mono fun n f j bs y => ?_) x
    obtain ⟨y1, y2, y4⟩ := y
    refine ⟨y1, y2, fun cp hcp => ?_⟩
    obtain ⟨i, T⟩ := taken y2.1 (by first | exact y2.2 | exact y2.2.1) (st := 1) (.inl rfl)
    have := y4 i _ T cp hcp
    rw [← T.first] at this
    exact this
  · exact x.elim
def con37GTa : Con := fun vs bs K => match vs with
  | [u, v, .bool true] => five u fun a b c d e => parseR [.i64, .i64] 0 v bs fun n f j bs => bs = [] ∧ ((ckF a b c d e n f).2 = 0 ∧ ¬ sel (selE f 0) n = [] ∧ ¬ sel (selE f 2) n = [] ∧ ¬ List.length (sel (selE f 2) n) = 2) ∧ ∀ (i : Nat) (g : RF), Taken a b c d e n f 2 i g → ∀ cp, n ≤ cp → K (.tuple ⟨[rsl j 0 n cp, .int .i64 (i : Int), .int .i64 0]⟩) [.row false [.i64, .i64] 54 n cp g]
  | _ => False
theorem con37GTa_told : Told 37 (specOf con37GTa) := con37GT_told.mono fun vs bs K x => by
  unfold con37GTa at x
  unfold con37GT
  split at x
  · refine five_mono (fun a b c d e => parseR_mono fun n f j bs y => ?_) x
    obtain ⟨y1, y2, y4⟩ := y
    refine ⟨y1, y2, fun cp hcp => ?_⟩
    obtain ⟨i, T⟩ := taken y2.1 (by first | exact y2.2 | exact y2.2.1) (st := 2) (.inr ⟨rfl, y2.2.2.2⟩)
    have := y4 i _ T cp hcp
    rw [← T.first] at this
    exact this
  · exact x.elim
def con37HTa : Con := fun vs bs K => match vs with
  | [u, v, .bool true] => five u fun a b c d e => parseR [.i64, .i64] 0 v bs fun n f j bs => bs = [] ∧ ((ckF a b c d e n f).2 = 0 ∧ ¬ sel (selE f 0) n = [] ∧ sel (selE f 2) n = []) ∧ ∀ (i : Nat) (g : RF), Taken a b c d e n f 2 i g → ∀ cp, n ≤ cp → K (.tuple ⟨[rsl j 0 n cp, .int .i64 (i : Int), .int .i64 0]⟩) [.row false [.i64, .i64] 54 n cp g]
  | _ => False
theorem con37HTa_told : Told 37 (specOf con37HTa) := con37HT_told.mono fun vs bs K x => by
  unfold con37HTa at x
  unfold con37HT
  split at x
  · refine five_mono (fun a b c d e => parseR_mono fun n f j bs y => ?_) x
    obtain ⟨y1, y2, y4⟩ := y
    refine ⟨y1, y2, fun cp hcp => ?_⟩
    obtain ⟨i, T⟩ := taken y2.1 (by first | exact y2.2 | exact y2.2.1) (st := 2) (.inr ⟨rfl, by rw [y2.2.2]; simp⟩)
    have := y4 i _ T cp hcp
    rw [← T.first] at this
    exact this
  · exact x.elim

end Go.Proofs.Ytkflmglpniebfaa.Fr
namespace Go.Proofs.Ytkflmglpniebfaa.Fr
set_option maxRecDepth 100000
set_option maxHeartbeats 4000000
open Go.Rx
open Go.RowKit (Below)
set_option linter.unusedVariables false
/-- The first car of a train, from place k on, l of them, that is not as it should be. -/
def tr (b : Int) (f g : RF) : Nat → Nat → Int × Int
  | 0, _ => (0, 0)
  | l + 1, k => if g k 0 < 0 ∨ b ≤ g k 0 then ((k : Int), 7) else if selB k g g k = true then ((k : Int), 8) else if f (g k 0).toNat 0 = 0 then ((k : Int), 9) else tr b f g l (k + 1)
theorem tr_step (b : Int) (f g : RF) {m k : Nat} (h : k < m) : tr b f g (m - k) k = if g k 0 < 0 ∨ b ≤ g k 0 then ((k : Int), 7) else if selB k g g k = true then ((k : Int), 8) else if f (g k 0).toNat 0 = 0 then ((k : Int), 9) else tr b f g (m - (k + 1)) (k + 1) := by
  rw [show m - k = (m - (k + 1)) + 1 by omega]
  rfl
def bck (a b c d e : Int) (n : Nat) (f : RF) (m : Nat) (g : RF) : Int × Int := if (ckF a b c d e n f).2 = 0 then tr b f g m 0 else (-1, (ckF a b c d e n f).2)
theorem bck_bad {a b c d e : Int} {n m : Nat} {f g : RF} (h : ¬ (ckF a b c d e n f).2 = 0) : bck a b c d e n f m g = (-1, (ckF a b c d e n f).2) := if_neg h
theorem bck_go {a b c d e : Int} {n m : Nat} {f g : RF} (h : (ckF a b c d e n f).2 = 0) : bck a b c d e n f m g = tr b f g m 0 := if_pos h
@[reducible] def X50 : List (Nat × Rx.Spec) := [(22, specOf con22)]
theorem X50_told : ∀ p ∈ X50, Told p.1 p.2 := by
  intro p hp
  simp only [List.mem_cons, List.not_mem_nil, or_false] at hp
  rcases hp with rfl
  · exact con22_told
def con50 : Con := fun vs bs K => match vs with
  | [u, vl, vt] => five u fun a b c d e => parse [.i64, .i64] 0 vl bs fun nl fl j0 bs0 => parse [.i64] j0 vt bs0 fun nt ft j1 bs1 => bs1 = [] ∧ (True) ∧ (K (.tuple ⟨[.int .i64 (bck a b c d e nl fl nt ft).1, .int .i64 (bck a b c d e nl fl nt ft).2]⟩) [])
  | _ => False

def con50_nnA (a b c d e : Int) : Ann := fun k tt ss => bif Nat.beq k 5 then some [{ α := Nat, T := fun k => ⟨67, [(1, .slice none 0 0), (2, .slice none 0 0), (10, .int .i64 (k : Int))]⟩, S := fun _ => ⟨[(0, .cells [.int .i64 a, .int .i64 b, .int .i64 c, .int .i64 d, .int .i64 e] 23)], 1⟩, I := fun k => k ≤ 0 ∧ tr b zF zF (0 - k) k = tr b zF zF 0 0, m := fun k => 0 - k, ρ0 := [(0, 0)], ρ1 := [[(0, 0)]] }] else bif Nat.beq k 10 then (match Rx.look tt.m 10 with | some (.int _ z) => some [{ α := Nat, T := fun q => ⟨67, [(1, .slice none 0 0), (2, .slice none 0 0), (10, .int .i64 z), (11, .int .i64 (q : Int))]⟩, S := fun _ => ⟨[(0, .cells [.int .i64 a, .int .i64 b, .int .i64 c, .int .i64 d, .int .i64 e] 23)], 1⟩, I := fun q => (q : Int) ≤ z ∧ ∀ r, r < q → ¬ zF r 0 = zF z.toNat 0, m := fun q => z.toNat - q, ρ0 := [(0, 0)], ρ1 := [[(0, 0)]] }] | _ => none) else none
def con50_nrA (a b c d e : Int) (et nt ct : Nat) (ft : RF) : Ann := fun k tt ss => bif Nat.beq k 5 then some [{ α := Nat, T := fun k => ⟨67, [(1, .slice none 0 0), (2, rsl 0 0 nt ct), (10, .int .i64 (k : Int))]⟩, S := fun _ => ⟨[(1, .cells [.int .i64 a, .int .i64 b, .int .i64 c, .int .i64 d, .int .i64 e] 23), (0, .row true [.i64] et nt ct ft)], 2⟩, I := fun k => k ≤ nt ∧ tr b zF ft (nt - k) k = tr b zF ft nt 0, m := fun k => nt - k, ρ0 := [(1, 1)], ρ1 := [[(1, 1)]] }] else bif Nat.beq k 10 then (match Rx.look tt.m 10 with | some (.int _ z) => some [{ α := Nat, T := fun q => ⟨67, [(1, .slice none 0 0), (2, rsl 0 0 nt ct), (10, .int .i64 z), (11, .int .i64 (q : Int))]⟩, S := fun _ => ⟨[(1, .cells [.int .i64 a, .int .i64 b, .int .i64 c, .int .i64 d, .int .i64 e] 23), (0, .row true [.i64] et nt ct ft)], 2⟩, I := fun q => (q : Int) ≤ z ∧ ∀ r, r < q → ¬ ft r 0 = ft z.toNat 0, m := fun q => z.toNat - q, ρ0 := [(1, 1)], ρ1 := [[(1, 1)]] }] | _ => none) else none
def con50_rnA (a b c d e : Int) (el nl cl : Nat) (fl : RF) : Ann := fun k tt ss => bif Nat.beq k 5 then some [{ α := Nat, T := fun k => ⟨67, [(1, rsl 0 0 nl cl), (2, .slice none 0 0), (10, .int .i64 (k : Int))]⟩, S := fun _ => ⟨[(1, .cells [.int .i64 a, .int .i64 b, .int .i64 c, .int .i64 d, .int .i64 e] 23), (0, .row true [.i64, .i64] el nl cl fl)], 2⟩, I := fun k => k ≤ 0 ∧ tr b fl zF (0 - k) k = tr b fl zF 0 0, m := fun k => 0 - k, ρ0 := [(1, 1)], ρ1 := [[(1, 1)]] }] else bif Nat.beq k 10 then (match Rx.look tt.m 10 with | some (.int _ z) => some [{ α := Nat, T := fun q => ⟨67, [(1, rsl 0 0 nl cl), (2, .slice none 0 0), (10, .int .i64 z), (11, .int .i64 (q : Int))]⟩, S := fun _ => ⟨[(1, .cells [.int .i64 a, .int .i64 b, .int .i64 c, .int .i64 d, .int .i64 e] 23), (0, .row true [.i64, .i64] el nl cl fl)], 2⟩, I := fun q => (q : Int) ≤ z ∧ ∀ r, r < q → ¬ zF r 0 = zF z.toNat 0, m := fun q => z.toNat - q, ρ0 := [(1, 1)], ρ1 := [[(1, 1)]] }] | _ => none) else none
def con50_rrA (a b c d e : Int) (el nl cl : Nat) (fl : RF) (et nt ct : Nat) (ft : RF) : Ann := fun k tt ss => bif Nat.beq k 5 then some [{ α := Nat, T := fun k => ⟨67, [(1, rsl 0 0 nl cl), (2, rsl 1 0 nt ct), (10, .int .i64 (k : Int))]⟩, S := fun _ => ⟨[(2, .cells [.int .i64 a, .int .i64 b, .int .i64 c, .int .i64 d, .int .i64 e] 23), (0, .row true [.i64, .i64] el nl cl fl), (1, .row true [.i64] et nt ct ft)], 3⟩, I := fun k => k ≤ nt ∧ tr b fl ft (nt - k) k = tr b fl ft nt 0, m := fun k => nt - k, ρ0 := [(2, 2)], ρ1 := [[(2, 2)]] }] else bif Nat.beq k 10 then (match Rx.look tt.m 10 with | some (.int _ z) => some [{ α := Nat, T := fun q => ⟨67, [(1, rsl 0 0 nl cl), (2, rsl 1 0 nt ct), (10, .int .i64 z), (11, .int .i64 (q : Int))]⟩, S := fun _ => ⟨[(2, .cells [.int .i64 a, .int .i64 b, .int .i64 c, .int .i64 d, .int .i64 e] 23), (0, .row true [.i64, .i64] el nl cl fl), (1, .row true [.i64] et nt ct ft)], 3⟩, I := fun q => (q : Int) ≤ z ∧ ∀ r, r < q → ¬ ft r 0 = ft z.toNat 0, m := fun q => z.toNat - q, ρ0 := [(2, 2)], ρ1 := [[(2, 2)]] }] | _ => none) else none
def con50_nnV (a b c d e : Int) (K : Value → List Blk → Prop) : Prop := let q0 := (Prod.snd (ckF a b c d e (0 : Nat) zF)); (t4 ((InC a b c d e) ∧ (eB ∧ (T0 ∧ (if (@Eq Int q0 ((0 : Int))) then ((∃ y0 : Nat, ((Go.Rx.Sub 0 [((0 : Nat), (0 : Nat))] ⟨67, [(10, vi (0 : Int)), (1, vn), (2, vn)]⟩ ⟨[(0, Blk.cells [vi a, vi b, vi c, vi d, vi e] (23 : Nat))], 1⟩ ({ n := (67 : Nat), m := [((1 : Nat), vn), ((2 : Nat), vn), ((10 : Nat), vi (↑y0 : Int))] }) ({ h := [((0 : Nat), Blk.cells [vi a, vi b, vi c, vi d, vi e] (23 : Nat))], next := (1 : Nat) })) ∧ ((y0 ≤ (0 : Nat)) ∧ (tr b zF zF ((0 : Nat) - y0) y0 = tr b zF zF (0 : Nat) (0 : Nat))))) ∧ (∀ y0 : Nat, (((y0 ≤ (0 : Nat)) ∧ (tr b zF zF ((0 : Nat) - y0) y0 = tr b zF zF (0 : Nat) (0 : Nat))) → (TS ∧ (T0 ∧ (∃ y1 : Value, (∃ y2 : List Blk, ((Go.Rx.Found 0 (Value.tuple { toList := [vi (0 : Int), vi (0 : Int)] }) ({ h := [((0 : Nat), Blk.cells [vi a, vi b, vi c, vi d, vi e] (23 : Nat))], next := (1 : Nat) }) (y1) (y2)) ∧ (K y1 y2))))))))) else (∃ y0 : Value, (∃ y1 : List Blk, ((Go.Rx.Found 0 (Value.tuple { toList := [vi (-1 : Int), vi q0] }) ({ h := [((0 : Nat), Blk.cells [vi a, vi b, vi c, vi d, vi e] (23 : Nat))], next := (1 : Nat) }) (y0) (y1)) ∧ (K y0 y1)))))))))
theorem con50_nnE (a b c d e : Int) (K : Value → List Blk → Prop) : con50_nnV a b c d e K = bodyX (mk X50) (callN (mk X50) 4) (con50_nnA a b c d e) Try.f50 [five' a b c d e, .slice none 0 0, .slice none 0 0] (stOf []) (Fd 0 K) := by kernel_rfl
set_option tactic.hygienic false in
theorem con50_nnP (a b c d e : Int) (K : Value → List Blk → Prop)  (hI : InC a b c d e) (h : K (.tuple ⟨[.int .i64 (bck a b c d e 0 zF 0 zF).1, .int .i64 (bck a b c d e 0 zF 0 zF).2]⟩) []) : con50_nnV a b c d e K := by
  unfold con50_nnV
  conv => zeta
  have G : (ckF a b c d e 0 zF).2 = 0 → good a b c d e ∧ ((0 : Nat) : Int) = b ∧ ∀ i, i < 0 → fok a zF i := ckF_zero
  repeat' (first | (with_reducible first | exact rfl | exact trivial | refine And.intro ?_ ?_ | refine br_intro (fun hq => ?_) fun hq => ?_ | refine if_both (fun hz => ?_) fun hz => ?_) | (intro) | fail)
  all_goals try (rename _ ≤ _ ∧ tr _ _ _ _ _ = _ => I; obtain ⟨I1, I2⟩ := I)
  all_goals try (rename _ ≤ _ ∧ (∀ _, _ → ¬ _ = _) => J; obtain ⟨J1, J2⟩ := J)
  all_goals try (have g := G (by assumption); obtain ⟨g1, g2, g3⟩ := g)
  all_goals first
    | omega
    | assumption
    | contradiction
    | exact ⟨0, (by (refine And.intro (And.intro rfl (And.intro rfl (And.intro rfl rfl))) ?_; (repeat' (first | exact trivial | exact rfl | exact fun _ _ _ _ => rfl | refine And.intro ?_ ?_ | omega | fail)); done)), by omega, rfl⟩
    | exact ⟨0, (by (refine And.intro (And.intro rfl (And.intro rfl (And.intro rfl rfl))) ?_; (repeat' (first | exact trivial | exact rfl | exact fun _ _ _ _ => rfl | refine And.intro ?_ ?_ | omega | fail)); done)), by omega, fun r hr => absurd hr (by omega)⟩
    | exact ⟨y1 + 1, (by (refine And.intro (And.intro rfl (And.intro rfl (And.intro rfl rfl))) ?_; (repeat' (first | exact trivial | exact rfl | exact fun _ _ _ _ => rfl | refine And.intro ?_ ?_ | omega | fail)); done)), ⟨by omega, fun r hr => (by
        rcases Nat.lt_or_ge r y1 with q | q
        · exact J2 r q
        · obtain rfl : r = y1 := by omega
          assumption)⟩, by omega⟩
    | exact ⟨y0 + 1, (by (refine And.intro (And.intro rfl (And.intro rfl (And.intro rfl rfl))) ?_; (repeat' (first | exact trivial | exact rfl | exact fun _ _ _ _ => rfl | refine And.intro ?_ ?_ | omega | fail)); done)), ⟨by omega, (by
        have q2 := tr_step b zF zF (m := 0) (k := y0) (by omega)
        rw [if_neg (by omega), if_neg (fun e => (by obtain ⟨r, h1, h2⟩ := selB_iff.1 e; exact J2 r (by omega) h2)), if_neg (by assumption)] at q2
        rw [← q2]
        exact I2)⟩, by omega⟩
    | exact fin0 (by kernel_rfl) (by kernel_rfl) (by rw [bck_bad (by assumption)] at h; exact h)
    | exact fin0 (by kernel_rfl) (by kernel_rfl) (by
        rw [bck_go (by assumption)] at h
        first
          | (rw [← I2, show 0 - y0 = 0 by omega] at h; exact h)
          | (have q2 := tr_step b zF zF (m := 0) (k := y0) (by omega)
             rw [← I2, q2] at h
             first
               | (rw [if_pos (by omega)] at h; exact h)
               | (rw [if_neg (by omega), if_pos (selB_iff.2 ⟨y1, by omega, by assumption⟩)] at h; exact h)
               | (rw [if_neg (by omega), if_neg (fun e => (by obtain ⟨r, h1, h2⟩ := selB_iff.1 e; exact J2 r (by omega) h2)), if_pos (by assumption)] at h; exact h)))
    | (have g := G (by assumption); omega)
def con50_nrV (a b c d e : Int) (et nt ct : Nat) (ft : RF) (K : Value → List Blk → Prop) : Prop := let q0 := ((1 : Nat), (1 : Nat)); let q1 := (2, rsl (0 : Nat) (0 : Nat) nt ct); let q2 := (Prod.snd (ckF a b c d e (0 : Nat) zF)); let q3 := TS; let q4 := (1, vn); let q5 := ((2 : Nat), rsl (0 : Nat) (0 : Nat) nt ct); let q6 := (0, Blk.row true [IntKind.i64] et nt ct ft); let q7 := ((1 : Nat), vn); let q8 := (q3 ∧ (@Eq Nat ((1 : Nat)) ((1 : Nat)))); let q9 := (1, Blk.cells [vi a, vi b, vi c, vi d, vi e] (23 : Nat)); (t4 ((InC a b c d e) ∧ (eB ∧ (T0 ∧ (if (@Eq Int q2 ((0 : Int))) then ((∃ y0 : Nat, ((Go.Rx.Sub 1 [q0] ⟨67, [(10, vi (0 : Int)), q4, q1]⟩ ⟨[q9, q6], 2⟩ ({ n := (67 : Nat), m := [q7, q5, ((10 : Nat), vi (↑y0 : Int))] }) ({ h := [((1 : Nat), Blk.cells [vi a, vi b, vi c, vi d, vi e] (23 : Nat)), ((0 : Nat), Blk.row true [IntKind.i64] et nt ct ft)], next := (2 : Nat) })) ∧ ((y0 ≤ nt) ∧ (tr b zF ft (nt - y0) y0 = tr b zF ft nt (0 : Nat))))) ∧ (∀ y0 : Nat, let q10 := (10, vi (↑y0 : Int)); let q11 := ((10 : Nat), vi (↑y0 : Int)); let q12 := (((0 : Int) ≤ (↑y0 : Int)) ∧ ((↑y0 : Int) < (↑nt : Int))); let q13 := (∃ y1 : Value, (∃ y2 : List Blk, ((Go.Rx.Found 1 (Value.tuple { toList := [vi (↑y0 : Int), vi (7 : Int)] }) ({ h := [((1 : Nat), Blk.cells [vi a, vi b, vi c, vi d, vi e] (23 : Nat)), ((0 : Nat), Blk.row true [IntKind.i64] et nt ct ft)], next := (2 : Nat) }) (y1) (y2)) ∧ (K y1 y2)))); (((y0 ≤ nt) ∧ (tr b zF ft (nt - y0) y0 = tr b zF ft nt (0 : Nat))) → (q3 ∧ (T0 ∧ (if ((↑y0 : Int) < (↑nt : Int)) then (q8 ∧ (q12 ∧ ((y0 < nt) ∧ (T0 ∧ (if (ft y0 (0 : Nat) < (0 : Int)) then q13 else (q8 ∧ (q12 ∧ ((y0 < nt) ∧ (q3 ∧ (T0 ∧ (if ((↑(0 : Nat) : Int) ≤ ft y0 (0 : Nat)) then q13 else ((∃ y1 : Nat, ((Go.Rx.Sub 1 [q0] ⟨67, [(11, vi (0 : Int)), q4, q1, q10]⟩ ⟨[q9, q6], 2⟩ ({ n := (67 : Nat), m := [q7, q5, q11, ((11 : Nat), vi (↑y1 : Int))] }) ({ h := [((1 : Nat), Blk.cells [vi a, vi b, vi c, vi d, vi e] (23 : Nat)), ((0 : Nat), Blk.row true [IntKind.i64] et nt ct ft)], next := (2 : Nat) })) ∧ (((↑y1 : Int) ≤ (↑y0 : Int)) ∧ (∀ y2 : Nat, ((y2 < y1) → (¬ft y2 (0 : Nat) = ft y0 (0 : Nat))))))) ∧ (∀ y1 : Nat, ((((↑y1 : Int) ≤ (↑y0 : Int)) ∧ (∀ y2 : Nat, ((y2 < y1) → (¬ft y2 (0 : Nat) = ft y0 (0 : Nat))))) → (T0 ∧ (if ((↑y1 : Int) < (↑y0 : Int)) then (t4 (q8 ∧ ((((0 : Int) ≤ (↑y1 : Int)) ∧ ((↑y1 : Int) < (↑nt : Int))) ∧ (T0 ∧ ((y1 < nt) ∧ (t3 (q8 ∧ (q12 ∧ (T0 ∧ ((y0 < nt) ∧ (t2 (if (@Eq Int (ft y1 (0 : Nat)) (ft y0 (0 : Nat))) then (∃ y2 : Value, (∃ y3 : List Blk, ((Go.Rx.Found 1 (Value.tuple { toList := [vi (↑y0 : Int), vi (8 : Int)] }) ({ h := [((1 : Nat), Blk.cells [vi a, vi b, vi c, vi d, vi e] (23 : Nat)), ((0 : Nat), Blk.row true [IntKind.i64] et nt ct ft)], next := (2 : Nat) }) (y2) (y3)) ∧ (K y2 y3)))) else (T0 ∧ ((((-9223372036854775808 : Int) ≤ (↑y1 : Int) + (1 : Int)) ∧ ((↑y1 : Int) + (1 : Int) ≤ (9223372036854775807 : Int))) ∧ (∃ y2 : Nat, ((Go.Rx.Sub 1 [q0] ⟨67, [(11, vi ((↑y1 : Int) + (1 : Int))), q4, q1, q10]⟩ ⟨[q9, q6], 2⟩ ({ n := (67 : Nat), m := [q7, q5, q11, ((11 : Nat), vi (↑y2 : Int))] }) ({ h := [((1 : Nat), Blk.cells [vi a, vi b, vi c, vi d, vi e] (23 : Nat)), ((0 : Nat), Blk.row true [IntKind.i64] et nt ct ft)], next := (2 : Nat) })) ∧ ((((↑y2 : Int) ≤ (↑y0 : Int)) ∧ (∀ y3 : Nat, ((y3 < y2) → (¬ft y3 (0 : Nat) = ft y0 (0 : Nat))))) ∧ (y0 - y2 < y0 - y1)))))))))))))))))) else (q8 ∧ (q12 ∧ ((y0 < nt) ∧ (False)))))))))))))))))))) else (∃ y1 : Value, (∃ y2 : List Blk, ((Go.Rx.Found 1 (Value.tuple { toList := [vi (0 : Int), vi (0 : Int)] }) ({ h := [((1 : Nat), Blk.cells [vi a, vi b, vi c, vi d, vi e] (23 : Nat)), ((0 : Nat), Blk.row true [IntKind.i64] et nt ct ft)], next := (2 : Nat) }) (y1) (y2)) ∧ (K y1 y2)))))))))) else (∃ y0 : Value, (∃ y1 : List Blk, ((Go.Rx.Found 1 (Value.tuple { toList := [vi (-1 : Int), vi q2] }) ({ h := [((1 : Nat), Blk.cells [vi a, vi b, vi c, vi d, vi e] (23 : Nat)), ((0 : Nat), Blk.row true [IntKind.i64] et nt ct ft)], next := (2 : Nat) }) (y0) (y1)) ∧ (K y0 y1)))))))))
theorem con50_nrE (a b c d e : Int) (et nt ct : Nat) (ft : RF) (K : Value → List Blk → Prop) : con50_nrV a b c d e et nt ct ft K = bodyX (mk X50) (callN (mk X50) 4) (con50_nrA a b c d e et nt ct ft) Try.f50 [five' a b c d e, .slice none 0 0, rsl 0 0 nt ct] (stOf [.row true [.i64] et nt ct ft]) (Fd 1 K) := by kernel_rfl
set_option tactic.hygienic false in
theorem con50_nrP (a b c d e : Int) (et nt ct : Nat) (ft : RF) (K : Value → List Blk → Prop)  (hI : InC a b c d e) (hnt : nt ≤ 100000) (h : K (.tuple ⟨[.int .i64 (bck a b c d e 0 zF nt ft).1, .int .i64 (bck a b c d e 0 zF nt ft).2]⟩) []) : con50_nrV a b c d e et nt ct ft K := by
  unfold con50_nrV
  conv => zeta
  have G : (ckF a b c d e 0 zF).2 = 0 → good a b c d e ∧ ((0 : Nat) : Int) = b ∧ ∀ i, i < 0 → fok a zF i := ckF_zero
  repeat' (first | (with_reducible first | exact rfl | exact trivial | refine And.intro ?_ ?_ | refine br_intro (fun hq => ?_) fun hq => ?_ | refine if_both (fun hz => ?_) fun hz => ?_) | (intro) | fail)
  all_goals try (rename _ ≤ _ ∧ tr _ _ _ _ _ = _ => I; obtain ⟨I1, I2⟩ := I)
  all_goals try (rename _ ≤ _ ∧ (∀ _, _ → ¬ _ = _) => J; obtain ⟨J1, J2⟩ := J)
  all_goals try (have g := G (by assumption); obtain ⟨g1, g2, g3⟩ := g)
  all_goals first
    | omega
    | assumption
    | contradiction
    | exact ⟨0, (by (refine And.intro (And.intro rfl (And.intro rfl (And.intro rfl rfl))) ?_; (repeat' (first | exact trivial | exact rfl | exact fun _ _ _ _ => rfl | refine And.intro ?_ ?_ | omega | fail)); done)), by omega, rfl⟩
    | exact ⟨0, (by (refine And.intro (And.intro rfl (And.intro rfl (And.intro rfl rfl))) ?_; (repeat' (first | exact trivial | exact rfl | exact fun _ _ _ _ => rfl | refine And.intro ?_ ?_ | omega | fail)); done)), by omega, fun r hr => absurd hr (by omega)⟩
    | exact ⟨y1 + 1, (by (refine And.intro (And.intro rfl (And.intro rfl (And.intro rfl rfl))) ?_; (repeat' (first | exact trivial | exact rfl | exact fun _ _ _ _ => rfl | refine And.intro ?_ ?_ | omega | fail)); done)), ⟨by omega, fun r hr => (by
        rcases Nat.lt_or_ge r y1 with q | q
        · exact J2 r q
        · obtain rfl : r = y1 := by omega
          assumption)⟩, by omega⟩
    | exact ⟨y0 + 1, (by (refine And.intro (And.intro rfl (And.intro rfl (And.intro rfl rfl))) ?_; (repeat' (first | exact trivial | exact rfl | exact fun _ _ _ _ => rfl | refine And.intro ?_ ?_ | omega | fail)); done)), ⟨by omega, (by
        have q2 := tr_step b zF ft (m := nt) (k := y0) (by omega)
        rw [if_neg (by omega), if_neg (fun e => (by obtain ⟨r, h1, h2⟩ := selB_iff.1 e; exact J2 r (by omega) h2)), if_neg (by assumption)] at q2
        rw [← q2]
        exact I2)⟩, by omega⟩
    | exact fin0 (by kernel_rfl) (by kernel_rfl) (by rw [bck_bad (by assumption)] at h; exact h)
    | exact fin0 (by kernel_rfl) (by kernel_rfl) (by
        rw [bck_go (by assumption)] at h
        first
          | (rw [← I2, show nt - y0 = 0 by omega] at h; exact h)
          | (have q2 := tr_step b zF ft (m := nt) (k := y0) (by omega)
             rw [← I2, q2] at h
             first
               | (rw [if_pos (by omega)] at h; exact h)
               | (rw [if_neg (by omega), if_pos (selB_iff.2 ⟨y1, by omega, by assumption⟩)] at h; exact h)
               | (rw [if_neg (by omega), if_neg (fun e => (by obtain ⟨r, h1, h2⟩ := selB_iff.1 e; exact J2 r (by omega) h2)), if_pos (by assumption)] at h; exact h)))
    | (have g := G (by assumption); omega)
def con50_rnV (a b c d e : Int) (el nl cl : Nat) (fl : RF) (K : Value → List Blk → Prop) : Prop := let q0 := (Prod.snd (ckF a b c d e nl fl)); (t3 (((0 : Nat) + nl ≤ nl) ∧ ((InC a b c d e) ∧ ((@Eq Nat ((0 : Nat)) ((0 : Nat))) ∧ ((nl ≤ (100000 : Nat)) ∧ ((eK ∧ ((@Eq Nat (nl) (nl)) ∧ (@Eq Nat (cl) (cl)))) ∧ (eB ∧ (T0 ∧ (if (@Eq Int q0 ((0 : Int))) then ((∃ y0 : Nat, ((Go.Rx.Sub 1 [((1 : Nat), (1 : Nat))] ⟨67, [(10, vi (0 : Int)), (1, rsl (0 : Nat) (0 : Nat) nl cl), (2, vn)]⟩ ⟨[(1, Blk.cells [vi a, vi b, vi c, vi d, vi e] (23 : Nat)), (0, rT el nl cl fl)], 2⟩ ({ n := (67 : Nat), m := [((1 : Nat), rsl (0 : Nat) (0 : Nat) nl cl), ((2 : Nat), vn), ((10 : Nat), vi (↑y0 : Int))] }) ({ h := [((1 : Nat), Blk.cells [vi a, vi b, vi c, vi d, vi e] (23 : Nat)), ((0 : Nat), rT el nl cl fl)], next := (2 : Nat) })) ∧ ((y0 ≤ (0 : Nat)) ∧ (tr b fl zF ((0 : Nat) - y0) y0 = tr b fl zF (0 : Nat) (0 : Nat))))) ∧ (∀ y0 : Nat, (((y0 ≤ (0 : Nat)) ∧ (tr b fl zF ((0 : Nat) - y0) y0 = tr b fl zF (0 : Nat) (0 : Nat))) → (TS ∧ (T0 ∧ (∃ y1 : Value, (∃ y2 : List Blk, ((Go.Rx.Found 1 (Value.tuple { toList := [vi (0 : Int), vi (0 : Int)] }) ({ h := [((1 : Nat), Blk.cells [vi a, vi b, vi c, vi d, vi e] (23 : Nat)), ((0 : Nat), rT el nl cl fl)], next := (2 : Nat) }) (y1) (y2)) ∧ (K y1 y2))))))))) else (∃ y0 : Value, (∃ y1 : List Blk, ((Go.Rx.Found 1 (Value.tuple { toList := [vi (-1 : Int), vi q0] }) ({ h := [((1 : Nat), Blk.cells [vi a, vi b, vi c, vi d, vi e] (23 : Nat)), ((0 : Nat), rT el nl cl fl)], next := (2 : Nat) }) (y0) (y1)) ∧ (K y0 y1)))))))))))))
theorem con50_rnE (a b c d e : Int) (el nl cl : Nat) (fl : RF) (K : Value → List Blk → Prop) : con50_rnV a b c d e el nl cl fl K = bodyX (mk X50) (callN (mk X50) 4) (con50_rnA a b c d e el nl cl fl) Try.f50 [five' a b c d e, rsl 0 0 nl cl, .slice none 0 0] (stOf [.row true [.i64, .i64] el nl cl fl]) (Fd 1 K) := by kernel_rfl
set_option tactic.hygienic false in
theorem con50_rnP (a b c d e : Int) (el nl cl : Nat) (fl : RF) (K : Value → List Blk → Prop)  (hI : InC a b c d e) (hnl : nl ≤ 100000) (h : K (.tuple ⟨[.int .i64 (bck a b c d e nl fl 0 zF).1, .int .i64 (bck a b c d e nl fl 0 zF).2]⟩) []) : con50_rnV a b c d e el nl cl fl K := by
  unfold con50_rnV
  conv => zeta
  have G : (ckF a b c d e nl fl).2 = 0 → good a b c d e ∧ ((nl : Nat) : Int) = b ∧ ∀ i, i < nl → fok a fl i := ckF_zero
  repeat' (first | (with_reducible first | exact rfl | exact trivial | refine And.intro ?_ ?_ | refine br_intro (fun hq => ?_) fun hq => ?_ | refine if_both (fun hz => ?_) fun hz => ?_) | (intro) | fail)
  all_goals try (rename _ ≤ _ ∧ tr _ _ _ _ _ = _ => I; obtain ⟨I1, I2⟩ := I)
  all_goals try (rename _ ≤ _ ∧ (∀ _, _ → ¬ _ = _) => J; obtain ⟨J1, J2⟩ := J)
  all_goals try (have g := G (by assumption); obtain ⟨g1, g2, g3⟩ := g)
  all_goals first
    | omega
    | assumption
    | contradiction
    | exact ⟨0, (by (refine And.intro (And.intro rfl (And.intro rfl (And.intro rfl rfl))) ?_; (repeat' (first | exact trivial | exact rfl | exact fun _ _ _ _ => rfl | refine And.intro ?_ ?_ | omega | fail)); done)), by omega, rfl⟩
    | exact ⟨0, (by (refine And.intro (And.intro rfl (And.intro rfl (And.intro rfl rfl))) ?_; (repeat' (first | exact trivial | exact rfl | exact fun _ _ _ _ => rfl | refine And.intro ?_ ?_ | omega | fail)); done)), by omega, fun r hr => absurd hr (by omega)⟩
    | exact ⟨y1 + 1, (by (refine And.intro (And.intro rfl (And.intro rfl (And.intro rfl rfl))) ?_; (repeat' (first | exact trivial | exact rfl | exact fun _ _ _ _ => rfl | refine And.intro ?_ ?_ | omega | fail)); done)), ⟨by omega, fun r hr => (by
        rcases Nat.lt_or_ge r y1 with q | q
        · exact J2 r q
        · obtain rfl : r = y1 := by omega
          assumption)⟩, by omega⟩
    | exact ⟨y0 + 1, (by (refine And.intro (And.intro rfl (And.intro rfl (And.intro rfl rfl))) ?_; (repeat' (first | exact trivial | exact rfl | exact fun _ _ _ _ => rfl | refine And.intro ?_ ?_ | omega | fail)); done)), ⟨by omega, (by
        have q2 := tr_step b fl zF (m := 0) (k := y0) (by omega)
        rw [if_neg (by omega), if_neg (fun e => (by obtain ⟨r, h1, h2⟩ := selB_iff.1 e; exact J2 r (by omega) h2)), if_neg (by assumption)] at q2
        rw [← q2]
        exact I2)⟩, by omega⟩
    | exact fin0 (by kernel_rfl) (by kernel_rfl) (by rw [bck_bad (by assumption)] at h; exact h)
    | exact fin0 (by kernel_rfl) (by kernel_rfl) (by
        rw [bck_go (by assumption)] at h
        first
          | (rw [← I2, show 0 - y0 = 0 by omega] at h; exact h)
          | (have q2 := tr_step b fl zF (m := 0) (k := y0) (by omega)
             rw [← I2, q2] at h
             first
               | (rw [if_pos (by omega)] at h; exact h)
               | (rw [if_neg (by omega), if_pos (selB_iff.2 ⟨y1, by omega, by assumption⟩)] at h; exact h)
               | (rw [if_neg (by omega), if_neg (fun e => (by obtain ⟨r, h1, h2⟩ := selB_iff.1 e; exact J2 r (by omega) h2)), if_pos (by assumption)] at h; exact h)))
    | (have g := G (by assumption); omega)
def con50_rrV (a b c d e : Int) (el nl cl : Nat) (fl : RF) (et nt ct : Nat) (ft : RF) (K : Value → List Blk → Prop) : Prop := let q0 := ((2 : Nat), (2 : Nat)); let q1 := (9223372036854775807 : Int); let q2 := (-9223372036854775808 : Int); let q3 := (Prod.snd (ckF a b c d e nl fl)); let q4 := (1, rsl (0 : Nat) (0 : Nat) nl cl); let q5 := (2, rsl (1 : Nat) (0 : Nat) nt ct); let q6 := TS; let q7 := ((1 : Nat), rsl (0 : Nat) (0 : Nat) nl cl); let q8 := ((2 : Nat), rsl (1 : Nat) (0 : Nat) nt ct); let q9 := (1, Blk.row true [IntKind.i64] et nt ct ft); let q10 := (0, rT el nl cl fl); let q11 := (q6 ∧ (@Eq Nat ((1 : Nat)) ((1 : Nat)))); let q12 := (2, Blk.cells [vi a, vi b, vi c, vi d, vi e] (23 : Nat)); (t3 (((0 : Nat) + nl ≤ nl) ∧ ((InC a b c d e) ∧ ((@Eq Nat ((0 : Nat)) ((0 : Nat))) ∧ ((nl ≤ (100000 : Nat)) ∧ ((eK ∧ ((@Eq Nat (nl) (nl)) ∧ (@Eq Nat (cl) (cl)))) ∧ (eB ∧ (T0 ∧ (if (@Eq Int q3 ((0 : Int))) then ((∃ y0 : Nat, ((Go.Rx.Sub 2 [q0] ⟨67, [(10, vi (0 : Int)), q4, q5]⟩ ⟨[q12, q10, q9], 3⟩ ({ n := (67 : Nat), m := [q7, q8, ((10 : Nat), vi (↑y0 : Int))] }) ({ h := [((2 : Nat), Blk.cells [vi a, vi b, vi c, vi d, vi e] (23 : Nat)), ((0 : Nat), rT el nl cl fl), ((1 : Nat), Blk.row true [IntKind.i64] et nt ct ft)], next := (3 : Nat) })) ∧ ((y0 ≤ nt) ∧ (tr b fl ft (nt - y0) y0 = tr b fl ft nt (0 : Nat))))) ∧ (∀ y0 : Nat, let q13 := (10, vi (↑y0 : Int)); let q14 := ((10 : Nat), vi (↑y0 : Int)); let q15 := (((0 : Int) ≤ (↑y0 : Int)) ∧ ((↑y0 : Int) < (↑nt : Int))); let q16 := (∃ y1 : Value, (∃ y2 : List Blk, ((Go.Rx.Found 2 (Value.tuple { toList := [vi (↑y0 : Int), vi (7 : Int)] }) ({ h := [((2 : Nat), Blk.cells [vi a, vi b, vi c, vi d, vi e] (23 : Nat)), ((0 : Nat), rT el nl cl fl), ((1 : Nat), Blk.row true [IntKind.i64] et nt ct ft)], next := (3 : Nat) }) (y1) (y2)) ∧ (K y1 y2)))); (((y0 ≤ nt) ∧ (tr b fl ft (nt - y0) y0 = tr b fl ft nt (0 : Nat))) → (q6 ∧ (T0 ∧ (if ((↑y0 : Int) < (↑nt : Int)) then (q11 ∧ (q15 ∧ ((y0 < nt) ∧ (T0 ∧ (if (ft y0 (0 : Nat) < (0 : Int)) then q16 else (q11 ∧ (q15 ∧ ((y0 < nt) ∧ (q6 ∧ (T0 ∧ (if ((↑nl : Int) ≤ ft y0 (0 : Nat)) then q16 else ((∃ y1 : Nat, ((Go.Rx.Sub 2 [q0] ⟨67, [(11, vi (0 : Int)), q4, q5, q13]⟩ ⟨[q12, q10, q9], 3⟩ ({ n := (67 : Nat), m := [q7, q8, q14, ((11 : Nat), vi (↑y1 : Int))] }) ({ h := [((2 : Nat), Blk.cells [vi a, vi b, vi c, vi d, vi e] (23 : Nat)), ((0 : Nat), rT el nl cl fl), ((1 : Nat), Blk.row true [IntKind.i64] et nt ct ft)], next := (3 : Nat) })) ∧ (((↑y1 : Int) ≤ (↑y0 : Int)) ∧ (∀ y2 : Nat, ((y2 < y1) → (¬ft y2 (0 : Nat) = ft y0 (0 : Nat))))))) ∧ (∀ y1 : Nat, ((((↑y1 : Int) ≤ (↑y0 : Int)) ∧ (∀ y2 : Nat, ((y2 < y1) → (¬ft y2 (0 : Nat) = ft y0 (0 : Nat))))) → (T0 ∧ (if ((↑y1 : Int) < (↑y0 : Int)) then (t4 (q11 ∧ ((((0 : Int) ≤ (↑y1 : Int)) ∧ ((↑y1 : Int) < (↑nt : Int))) ∧ (T0 ∧ ((y1 < nt) ∧ (t3 (q11 ∧ (q15 ∧ (T0 ∧ ((y0 < nt) ∧ (t2 (if (@Eq Int (ft y1 (0 : Nat)) (ft y0 (0 : Nat))) then (∃ y2 : Value, (∃ y3 : List Blk, ((Go.Rx.Found 2 (Value.tuple { toList := [vi (↑y0 : Int), vi (8 : Int)] }) ({ h := [((2 : Nat), Blk.cells [vi a, vi b, vi c, vi d, vi e] (23 : Nat)), ((0 : Nat), rT el nl cl fl), ((1 : Nat), Blk.row true [IntKind.i64] et nt ct ft)], next := (3 : Nat) }) (y2) (y3)) ∧ (K y2 y3)))) else (T0 ∧ (((q2 ≤ (↑y1 : Int) + (1 : Int)) ∧ ((↑y1 : Int) + (1 : Int) ≤ q1)) ∧ (∃ y2 : Nat, ((Go.Rx.Sub 2 [q0] ⟨67, [(11, vi ((↑y1 : Int) + (1 : Int))), q4, q5, q13]⟩ ⟨[q12, q10, q9], 3⟩ ({ n := (67 : Nat), m := [q7, q8, q14, ((11 : Nat), vi (↑y2 : Int))] }) ({ h := [((2 : Nat), Blk.cells [vi a, vi b, vi c, vi d, vi e] (23 : Nat)), ((0 : Nat), rT el nl cl fl), ((1 : Nat), Blk.row true [IntKind.i64] et nt ct ft)], next := (3 : Nat) })) ∧ ((((↑y2 : Int) ≤ (↑y0 : Int)) ∧ (∀ y3 : Nat, ((y3 < y2) → (¬ft y3 (0 : Nat) = ft y0 (0 : Nat))))) ∧ (y0 - y2 < y0 - y1)))))))))))))))))) else (q11 ∧ (q15 ∧ ((y0 < nt) ∧ ((q6 ∧ (@Eq Nat ((2 : Nat)) ((2 : Nat)))) ∧ ((((0 : Int) ≤ ft y0 (0 : Nat)) ∧ (ft y0 (0 : Nat) < (↑nl : Int))) ∧ (T0 ∧ ((Int.toNat (ft y0 (0 : Nat)) < nl) ∧ (T0 ∧ (if (@Eq Int (fl (Int.toNat (ft y0 (0 : Nat))) (0 : Nat)) ((0 : Int))) then (∃ y2 : Value, (∃ y3 : List Blk, ((Go.Rx.Found 2 (Value.tuple { toList := [vi (↑y0 : Int), vi (9 : Int)] }) ({ h := [((2 : Nat), Blk.cells [vi a, vi b, vi c, vi d, vi e] (23 : Nat)), ((0 : Nat), rT el nl cl fl), ((1 : Nat), Blk.row true [IntKind.i64] et nt ct ft)], next := (3 : Nat) }) (y2) (y3)) ∧ (K y2 y3)))) else (T0 ∧ (((q2 ≤ (↑y0 : Int) + (1 : Int)) ∧ ((↑y0 : Int) + (1 : Int) ≤ q1)) ∧ (∃ y2 : Nat, ((Go.Rx.Sub 2 [q0] ⟨67, [(10, vi ((↑y0 : Int) + (1 : Int))), q4, q5]⟩ ⟨[q12, q10, q9], 3⟩ ({ n := (67 : Nat), m := [q7, q8, ((10 : Nat), vi (↑y2 : Int))] }) ({ h := [((2 : Nat), Blk.cells [vi a, vi b, vi c, vi d, vi e] (23 : Nat)), ((0 : Nat), rT el nl cl fl), ((1 : Nat), Blk.row true [IntKind.i64] et nt ct ft)], next := (3 : Nat) })) ∧ (((y2 ≤ nt) ∧ (tr b fl ft (nt - y2) y2 = tr b fl ft nt (0 : Nat))) ∧ (nt - y2 < nt - y0))))))))))))))))))))))))))))))) else (∃ y1 : Value, (∃ y2 : List Blk, ((Go.Rx.Found 2 (Value.tuple { toList := [vi (0 : Int), vi (0 : Int)] }) ({ h := [((2 : Nat), Blk.cells [vi a, vi b, vi c, vi d, vi e] (23 : Nat)), ((0 : Nat), rT el nl cl fl), ((1 : Nat), Blk.row true [IntKind.i64] et nt ct ft)], next := (3 : Nat) }) (y1) (y2)) ∧ (K y1 y2)))))))))) else (∃ y0 : Value, (∃ y1 : List Blk, ((Go.Rx.Found 2 (Value.tuple { toList := [vi (-1 : Int), vi q3] }) ({ h := [((2 : Nat), Blk.cells [vi a, vi b, vi c, vi d, vi e] (23 : Nat)), ((0 : Nat), rT el nl cl fl), ((1 : Nat), Blk.row true [IntKind.i64] et nt ct ft)], next := (3 : Nat) }) (y0) (y1)) ∧ (K y0 y1)))))))))))))
theorem con50_rrE (a b c d e : Int) (el nl cl : Nat) (fl : RF) (et nt ct : Nat) (ft : RF) (K : Value → List Blk → Prop) : con50_rrV a b c d e el nl cl fl et nt ct ft K = bodyX (mk X50) (callN (mk X50) 4) (con50_rrA a b c d e el nl cl fl et nt ct ft) Try.f50 [five' a b c d e, rsl 0 0 nl cl, rsl 1 0 nt ct] (stOf [.row true [.i64, .i64] el nl cl fl, .row true [.i64] et nt ct ft]) (Fd 2 K) := by kernel_rfl
set_option tactic.hygienic false in
theorem con50_rrP (a b c d e : Int) (el nl cl : Nat) (fl : RF) (et nt ct : Nat) (ft : RF) (K : Value → List Blk → Prop)  (hI : InC a b c d e) (hnl : nl ≤ 100000) (hnt : nt ≤ 100000) (h : K (.tuple ⟨[.int .i64 (bck a b c d e nl fl nt ft).1, .int .i64 (bck a b c d e nl fl nt ft).2]⟩) []) : con50_rrV a b c d e el nl cl fl et nt ct ft K := by
  unfold con50_rrV
  conv => zeta
  have G : (ckF a b c d e nl fl).2 = 0 → good a b c d e ∧ ((nl : Nat) : Int) = b ∧ ∀ i, i < nl → fok a fl i := ckF_zero
  repeat' (first | (with_reducible first | exact rfl | exact trivial | refine And.intro ?_ ?_ | refine br_intro (fun hq => ?_) fun hq => ?_ | refine if_both (fun hz => ?_) fun hz => ?_) | (intro) | fail)
  all_goals try (rename _ ≤ _ ∧ tr _ _ _ _ _ = _ => I; obtain ⟨I1, I2⟩ := I)
  all_goals try (rename _ ≤ _ ∧ (∀ _, _ → ¬ _ = _) => J; obtain ⟨J1, J2⟩ := J)
  all_goals try (have g := G (by assumption); obtain ⟨g1, g2, g3⟩ := g)
  all_goals first
    | omega
    | assumption
    | contradiction
    | exact ⟨0, (by (refine And.intro (And.intro rfl (And.intro rfl (And.intro rfl rfl))) ?_; (repeat' (first | exact trivial | exact rfl | exact fun _ _ _ _ => rfl | refine And.intro ?_ ?_ | omega | fail)); done)), by omega, rfl⟩
    | exact ⟨0, (by (refine And.intro (And.intro rfl (And.intro rfl (And.intro rfl rfl))) ?_; (repeat' (first | exact trivial | exact rfl | exact fun _ _ _ _ => rfl | refine And.intro ?_ ?_ | omega | fail)); done)), by omega, fun r hr => absurd hr (by omega)⟩
    | exact ⟨y1 + 1, (by (refine And.intro (And.intro rfl (And.intro rfl (And.intro rfl rfl))) ?_; (repeat' (first | exact trivial | exact rfl | exact fun _ _ _ _ => rfl | refine And.intro ?_ ?_ | omega | fail)); done)), ⟨by omega, fun r hr => (by
        rcases Nat.lt_or_ge r y1 with q | q
        · exact J2 r q
        · obtain rfl : r = y1 := by omega
          assumption)⟩, by omega⟩
    | exact ⟨y0 + 1, (by (refine And.intro (And.intro rfl (And.intro rfl (And.intro rfl rfl))) ?_; (repeat' (first | exact trivial | exact rfl | exact fun _ _ _ _ => rfl | refine And.intro ?_ ?_ | omega | fail)); done)), ⟨by omega, (by
        have q2 := tr_step b fl ft (m := nt) (k := y0) (by omega)
        rw [if_neg (by omega), if_neg (fun e => (by obtain ⟨r, h1, h2⟩ := selB_iff.1 e; exact J2 r (by omega) h2)), if_neg (by assumption)] at q2
        rw [← q2]
        exact I2)⟩, by omega⟩
    | exact fin0 (by kernel_rfl) (by kernel_rfl) (by rw [bck_bad (by assumption)] at h; exact h)
    | exact fin0 (by kernel_rfl) (by kernel_rfl) (by
        rw [bck_go (by assumption)] at h
        first
          | (rw [← I2, show nt - y0 = 0 by omega] at h; exact h)
          | (have q2 := tr_step b fl ft (m := nt) (k := y0) (by omega)
             rw [← I2, q2] at h
             first
               | (rw [if_pos (by omega)] at h; exact h)
               | (rw [if_neg (by omega), if_pos (selB_iff.2 ⟨y1, by omega, by assumption⟩)] at h; exact h)
               | (rw [if_neg (by omega), if_neg (fun e => (by obtain ⟨r, h1, h2⟩ := selB_iff.1 e; exact J2 r (by omega) h2)), if_pos (by assumption)] at h; exact h)))
    | (have g := G (by assumption); omega)
theorem con50_ok : BodyOk (mk X50) 4 Try.f50 con50 := by
  intro vs bs K hh hro
  clear hro
  unfold con50 at hh
  split at hh
  · rename_i u vl vt
    obtain ⟨a, b, c, d, e, rfl, hI, hh0⟩ := five_inv hh
    rcases parse_inv hh0 with ⟨rfl, hh1⟩ | ⟨el, nl, cl, fl, btl, rfl, hnl, rfl, hh1⟩ <;> clear hh0
    · rcases parse_inv hh1 with ⟨rfl, hh2⟩ | ⟨et, nt, ct, ft, btt, rfl, hnt, rfl, hh2⟩ <;> clear hh1
      · obtain ⟨rfl, -, hc⟩ := hh2
        exact ⟨_, _, cast (con50_nnE a b c d e   K) (con50_nnP a b c d e   K hI   hc)⟩
      · obtain ⟨rfl, -, hc⟩ := hh2
        exact ⟨_, _, cast (con50_nrE a b c d e et nt ct ft  K) (con50_nrP a b c d e et nt ct ft  K hI hnt  hc)⟩
    · rcases parse_inv hh1 with ⟨rfl, hh2⟩ | ⟨et, nt, ct, ft, btt, rfl, hnt, rfl, hh2⟩ <;> clear hh1
      · obtain ⟨rfl, -, hc⟩ := hh2
        exact ⟨_, _, cast (con50_rnE a b c d e el nl cl fl  K) (con50_rnP a b c d e el nl cl fl  K hI hnl  hc)⟩
      · obtain ⟨rfl, -, hc⟩ := hh2
        exact ⟨_, _, cast (con50_rrE a b c d e el nl cl fl et nt ct ft  K) (con50_rrP a b c d e el nl cl fl et nt ct ft  K hI hnl hnt  hc)⟩
  · exact hh.elim
theorem con50_told : Told 50 (specOf con50) := told (X := X50) X50_told (by kernel_rfl) (by kernel_rfl) (by kernel_rfl) con50_ok
end Go.Proofs.Ytkflmglpniebfaa.Fr
namespace Go.Proofs.Ytkflmglpniebfaa.Fr
set_option maxRecDepth 100000
set_option maxHeartbeats 4000000
open Go.Rx
open Go.RowKit (Below)
set_option linter.unusedVariables false
/-- No longer than its room. -/
def capOk : Value → Prop
  | .slice _ n c => n ≤ c
  | _ => False
@[reducible] def X49 : List (Nat × Rx.Spec) := [(21, specOf con21), (79, specOf con79)]
theorem X49_told : ∀ p ∈ X49, Told p.1 p.2 := by
  intro p hp
  simp only [List.mem_cons, List.not_mem_nil, or_false] at hp
  rcases hp with rfl | rfl
  · exact con21_told
  · exact con79_told
def con49 : Con := fun vs bs K => match vs with
  | [u, vl, vt] => five u fun a b c d e => parse [.i64, .i64] 0 vl bs fun nl fl j0 bs0 => parse [.i64] j0 vt bs0 fun nt ft j1 bs1 => bs1 = [] ∧ ((capOk (vt))) ∧ (K (.tuple ⟨[.int .i64 (bck a b c d e nl fl nt ft).1, .int .i64 (bck a b c d e nl fl nt ft).2]⟩) [])
  | _ => False

def con49_nnA (a b c d e : Int) : Ann := fun k tt ss => bif Nat.beq k 5 then some [{ α := Nat, T := fun k => ⟨54, [(1, .slice none 0 0), (2, .slice none 0 0), (3, .pointer (some ⟨0, 0, none⟩)), (21, .slice none 0 0), (22, .int .i64 (0 : Nat)), (23, .int .i64 (k : Int))]⟩, S := fun _ => ⟨[(0, .cells [.int .i64 a, .int .i64 b, .int .i64 c, .int .i64 d, .int .i64 e] 23)], 1⟩, I := fun k => k ≤ 0 ∧ tr b zF zF (0 - k) k = tr b zF zF 0 0, m := fun k => 0 - k, ρ0 := [(0, 0)], ρ1 := [[(0, 0)]] }] else none
def con49_nrA (a b c d e : Int) (et nt ct : Nat) (ft : RF) : Ann := fun k tt ss => bif Nat.beq k 5 then some [{ α := Nat, T := fun k => ⟨54, [(1, .slice none 0 0), (2, rsl 0 0 nt ct), (3, .pointer (some ⟨1, 0, none⟩)), (21, rsl 0 0 nt ct), (22, .int .i64 (nt : Nat)), (23, .int .i64 (k : Int))]⟩, S := fun _ => ⟨[(1, .cells [.int .i64 a, .int .i64 b, .int .i64 c, .int .i64 d, .int .i64 e] 23), (0, .row true [.i64] et nt ct ft)], 2⟩, I := fun k => k ≤ nt ∧ tr b zF ft (nt - k) k = tr b zF ft nt 0, m := fun k => nt - k, ρ0 := [(1, 1)], ρ1 := [[(1, 1)]] }] else none
def con49_rnA (a b c d e : Int) (el nl cl : Nat) (fl : RF) : Ann := fun k tt ss => bif Nat.beq k 5 then some [{ α := Nat, T := fun k => ⟨54, [(1, rsl 0 0 nl cl), (2, .slice none 0 0), (3, .pointer (some ⟨1, 0, none⟩)), (21, .slice none 0 0), (22, .int .i64 (0 : Nat)), (23, .int .i64 (k : Int))]⟩, S := fun _ => ⟨[(1, .cells [.int .i64 a, .int .i64 b, .int .i64 c, .int .i64 d, .int .i64 e] 23), (0, .row true [.i64, .i64] el nl cl fl)], 2⟩, I := fun k => k ≤ 0 ∧ tr b fl zF (0 - k) k = tr b fl zF 0 0, m := fun k => 0 - k, ρ0 := [(1, 1)], ρ1 := [[(1, 1)]] }] else none
def con49_rrA (a b c d e : Int) (el nl cl : Nat) (fl : RF) (et nt ct : Nat) (ft : RF) : Ann := fun k tt ss => bif Nat.beq k 5 then some [{ α := Nat, T := fun k => ⟨54, [(1, rsl 0 0 nl cl), (2, rsl 1 0 nt ct), (3, .pointer (some ⟨2, 0, none⟩)), (21, rsl 1 0 nt ct), (22, .int .i64 (nt : Nat)), (23, .int .i64 (k : Int))]⟩, S := fun _ => ⟨[(2, .cells [.int .i64 a, .int .i64 b, .int .i64 c, .int .i64 d, .int .i64 e] 23), (0, .row true [.i64, .i64] el nl cl fl), (1, .row true [.i64] et nt ct ft)], 3⟩, I := fun k => k ≤ nt ∧ tr b fl ft (nt - k) k = tr b fl ft nt 0, m := fun k => nt - k, ρ0 := [(2, 2)], ρ1 := [[(2, 2)]] }] else none
def con49_nnV (a b c d e : Int) (K : Value → List Blk → Prop) : Prop := let q0 := (Prod.snd (ckF a b c d e (0 : Nat) zF)); (t4 ((InC a b c d e) ∧ (eB ∧ (T0 ∧ (if (@Eq Int q0 ((0 : Int))) then (TS ∧ ((∃ y0 : Nat, ((Go.Rx.Sub 0 [((0 : Nat), (0 : Nat))] ⟨54, [(23, vi (0 : Int)), (22, vi (0 : Int)), (21, vn), (3, Value.pointer (some { block := (0 : Nat), off := (0 : Nat) })), (1, vn), (2, vn)]⟩ ⟨[(0, Blk.cells [vi a, vi b, vi c, vi d, vi e] (23 : Nat))], 1⟩ ({ n := (54 : Nat), m := [((1 : Nat), vn), ((2 : Nat), vn), ((3 : Nat), Value.pointer (some { block := (0 : Nat), off := (0 : Nat) })), ((21 : Nat), vn), ((22 : Nat), vi (0 : Int)), ((23 : Nat), vi (↑y0 : Int))] }) ({ h := [((0 : Nat), Blk.cells [vi a, vi b, vi c, vi d, vi e] (23 : Nat))], next := (1 : Nat) })) ∧ ((y0 ≤ (0 : Nat)) ∧ (tr b zF zF ((0 : Nat) - y0) y0 = tr b zF zF (0 : Nat) (0 : Nat))))) ∧ (∀ y0 : Nat, (((y0 ≤ (0 : Nat)) ∧ (tr b zF zF ((0 : Nat) - y0) y0 = tr b zF zF (0 : Nat) (0 : Nat))) → (T0 ∧ (∃ y1 : Value, (∃ y2 : List Blk, ((Go.Rx.Found 0 (Value.tuple { toList := [vi (0 : Int), vi (0 : Int)] }) ({ h := [((0 : Nat), Blk.cells [vi a, vi b, vi c, vi d, vi e] (23 : Nat))], next := (1 : Nat) }) (y1) (y2)) ∧ (K y1 y2))))))))) else (∃ y0 : Value, (∃ y1 : List Blk, ((Go.Rx.Found 0 (Value.tuple { toList := [vi (-1 : Int), vi q0] }) ({ h := [((0 : Nat), Blk.cells [vi a, vi b, vi c, vi d, vi e] (23 : Nat))], next := (1 : Nat) }) (y0) (y1)) ∧ (K y0 y1)))))))))
theorem con49_nnE (a b c d e : Int) (K : Value → List Blk → Prop) : con49_nnV a b c d e K = bodyX (mk X49) (callN (mk X49) 4) (con49_nnA a b c d e) Try.f49 [five' a b c d e, .slice none 0 0, .slice none 0 0] (stOf []) (Fd 0 K) := by kernel_rfl
set_option tactic.hygienic false in
theorem con49_nnP (a b c d e : Int) (K : Value → List Blk → Prop)  (hI : InC a b c d e) (hct : capOk (.slice none 0 0)) (h : K (.tuple ⟨[.int .i64 (bck a b c d e 0 zF 0 zF).1, .int .i64 (bck a b c d e 0 zF 0 zF).2]⟩) []) : con49_nnV a b c d e K := by
  unfold con49_nnV
  conv => zeta
  have hct2 : 0 ≤ 0 := hct
  have G : (ckF a b c d e 0 zF).2 = 0 → good a b c d e ∧ ((0 : Nat) : Int) = b ∧ ∀ i, i < 0 → fok a zF i := ckF_zero
  repeat' (first | (with_reducible first | exact rfl | exact trivial | refine And.intro ?_ ?_ | refine br_intro (fun hq => ?_) fun hq => ?_ | refine if_both (fun hz => ?_) fun hz => ?_) | (intro) | fail)
  all_goals try (rename _ ≤ _ ∧ tr _ _ _ _ _ = _ => I; obtain ⟨I1, I2⟩ := I)
  all_goals try (rename _ ≤ _ ∧ (∀ _, _ → ¬ _ = _) => J; obtain ⟨J1, J2⟩ := J)
  all_goals try (have g := G (by assumption); obtain ⟨g1, g2, g3⟩ := g)
  all_goals try (rename y1 = true ↔ _ => J)
  all_goals try (rename y1 = _ => hb)
  all_goals first
    | omega
    | assumption
    | contradiction
    | exact ⟨0, (by (refine And.intro (And.intro rfl (And.intro rfl (And.intro rfl rfl))) ?_; (repeat' (first | exact trivial | exact rfl | exact fun _ _ _ _ => rfl | refine And.intro ?_ ?_ | omega | fail)); done)), by omega, rfl⟩
    | exact ⟨y0 + 1, (by (refine And.intro (And.intro rfl (And.intro rfl (And.intro rfl rfl))) ?_; (repeat' (first | exact trivial | exact rfl | exact fun _ _ _ _ => rfl | refine And.intro ?_ ?_ | omega | fail)); done)), ⟨by omega, (by
        have q2 := tr_step b zF zF (m := 0) (k := y0) (by omega)
        rw [if_neg (by omega), if_neg (fun e => (by have q := J.2 (selB_iff.1 e); rw [hb] at q; cases q)), if_neg (by assumption)] at q2
        rw [← q2]
        exact I2)⟩, by omega⟩
    | exact fin0 (by kernel_rfl) (by kernel_rfl) (by rw [bck_bad (by assumption)] at h; exact h)
    | exact fin0 (by kernel_rfl) (by kernel_rfl) (by
        rw [bck_go (by assumption)] at h
        first
          | (rw [← I2, show 0 - y0 = 0 by omega] at h; exact h)
          | (have q2 := tr_step b zF zF (m := 0) (k := y0) (by omega)
             rw [← I2, q2] at h
             first
               | (rw [if_pos (by omega)] at h; exact h)
               | (rw [if_neg (by omega), if_pos (show selB y0 zF zF y0 = true from selB_iff.2 (J.1 hb))] at h; exact h)
               | (rw [if_neg (by omega), if_neg (fun e => (by have q := J.2 (selB_iff.1 e); rw [hb] at q; cases q)), if_pos (by assumption)] at h; exact h)))
    | (exfalso; simp at hq; omega)
    | (have g := G (by assumption); omega)
def con49_nrV (a b c d e : Int) (et nt ct : Nat) (ft : RF) (K : Value → List Blk → Prop) : Prop := let q0 := eB; let q1 := (@Eq Nat ((1 : Nat)) ((1 : Nat))); let q2 := (Prod.snd (ckF a b c d e (0 : Nat) zF)); let q3 := TS; (t4 ((InC a b c d e) ∧ (q0 ∧ (T0 ∧ (if (@Eq Int q2 ((0 : Int))) then (q3 ∧ ((∃ y0 : Nat, ((Go.Rx.Sub 1 [((1 : Nat), (1 : Nat))] ⟨54, [(23, vi (0 : Int)), (22, vi (↑nt : Int)), (21, rsl (0 : Nat) (0 : Nat) nt ct), (3, Value.pointer (some { block := (1 : Nat), off := (0 : Nat) })), (1, vn), (2, rsl (0 : Nat) (0 : Nat) nt ct)]⟩ ⟨[(1, Blk.cells [vi a, vi b, vi c, vi d, vi e] (23 : Nat)), (0, Blk.row true [IntKind.i64] et nt ct ft)], 2⟩ ({ n := (54 : Nat), m := [((1 : Nat), vn), ((2 : Nat), rsl (0 : Nat) (0 : Nat) nt ct), ((3 : Nat), Value.pointer (some { block := (1 : Nat), off := (0 : Nat) })), ((21 : Nat), rsl (0 : Nat) (0 : Nat) nt ct), ((22 : Nat), vi (↑nt : Int)), ((23 : Nat), vi (↑y0 : Int))] }) ({ h := [((1 : Nat), Blk.cells [vi a, vi b, vi c, vi d, vi e] (23 : Nat)), ((0 : Nat), Blk.row true [IntKind.i64] et nt ct ft)], next := (2 : Nat) })) ∧ ((y0 ≤ nt) ∧ (tr b zF ft (nt - y0) y0 = tr b zF ft nt (0 : Nat))))) ∧ (∀ y0 : Nat, let q4 := ((0 : Int) ≤ (↑y0 : Int)); let q5 := (∃ y1 : Value, (∃ y2 : List Blk, ((Go.Rx.Found 1 (Value.tuple { toList := [vi (↑y0 : Int), vi (7 : Int)] }) ({ h := [((1 : Nat), Blk.cells [vi a, vi b, vi c, vi d, vi e] (23 : Nat)), ((0 : Nat), Blk.row true [IntKind.i64] et nt ct ft)], next := (2 : Nat) }) (y1) (y2)) ∧ (K y1 y2)))); (((y0 ≤ nt) ∧ (tr b zF ft (nt - y0) y0 = tr b zF ft nt (0 : Nat))) → (T0 ∧ (if ((↑y0 : Int) < (↑nt : Int)) then ((q3 ∧ q1) ∧ ((q4 ∧ ((↑y0 : Int) < (↑nt : Int))) ∧ ((y0 < nt) ∧ (T0 ∧ (if (ft y0 (0 : Nat) < (0 : Int)) then q5 else (t2 (if (b ≤ ft y0 (0 : Nat)) then q5 else (q3 ∧ (t4 (q1 ∧ ((((0 : Int) ≤ (0 : Int)) ∧ (q4 ∧ (((↑y0 : Int) ≤ (↑ct : Int)) ∧ ((↑ct : Int) ≤ (↑ct : Int))))) ∧ (((0 : Nat) + y0 ≤ nt) ∧ (T0 ∧ ((@Eq Nat ((0 : Nat)) ((0 : Nat))) ∧ ((y0 ≤ (100000 : Nat)) ∧ (((@Eq (List IntKind) ([IntKind.i64]) ([IntKind.i64])) ∧ ((@Eq Nat (y0) (y0)) ∧ (@Eq Nat (ct) (ct)))) ∧ (q0 ∧ (∀ y1 : Bool, ((y1 = true ↔ ∃ i, i < y0 ∧ ft i (0 : Nat) = ft y0 (0 : Nat)) → (Go.Rx.br (y1) (∃ y2 : Value, (∃ y3 : List Blk, ((Go.Rx.Found 1 (Value.tuple { toList := [vi (↑y0 : Int), vi (8 : Int)] }) ({ h := [((1 : Nat), Blk.cells [vi a, vi b, vi c, vi d, vi e] (23 : Nat)), ((0 : Nat), Blk.row true [IntKind.i64] et nt ct ft)], next := (2 : Nat) }) (y2) (y3)) ∧ (K y2 y3)))) (False))))))))))))))))))))) else (∃ y1 : Value, (∃ y2 : List Blk, ((Go.Rx.Found 1 (Value.tuple { toList := [vi (0 : Int), vi (0 : Int)] }) ({ h := [((1 : Nat), Blk.cells [vi a, vi b, vi c, vi d, vi e] (23 : Nat)), ((0 : Nat), Blk.row true [IntKind.i64] et nt ct ft)], next := (2 : Nat) }) (y1) (y2)) ∧ (K y1 y2)))))))))) else (∃ y0 : Value, (∃ y1 : List Blk, ((Go.Rx.Found 1 (Value.tuple { toList := [vi (-1 : Int), vi q2] }) ({ h := [((1 : Nat), Blk.cells [vi a, vi b, vi c, vi d, vi e] (23 : Nat)), ((0 : Nat), Blk.row true [IntKind.i64] et nt ct ft)], next := (2 : Nat) }) (y0) (y1)) ∧ (K y0 y1)))))))))
theorem con49_nrE (a b c d e : Int) (et nt ct : Nat) (ft : RF) (K : Value → List Blk → Prop) : con49_nrV a b c d e et nt ct ft K = bodyX (mk X49) (callN (mk X49) 4) (con49_nrA a b c d e et nt ct ft) Try.f49 [five' a b c d e, .slice none 0 0, rsl 0 0 nt ct] (stOf [.row true [.i64] et nt ct ft]) (Fd 1 K) := by kernel_rfl
set_option tactic.hygienic false in
theorem con49_nrP (a b c d e : Int) (et nt ct : Nat) (ft : RF) (K : Value → List Blk → Prop)  (hI : InC a b c d e) (hnt : nt ≤ 100000) (hct : capOk (rsl 0 0 nt ct)) (h : K (.tuple ⟨[.int .i64 (bck a b c d e 0 zF nt ft).1, .int .i64 (bck a b c d e 0 zF nt ft).2]⟩) []) : con49_nrV a b c d e et nt ct ft K := by
  unfold con49_nrV
  conv => zeta
  have hct2 : nt ≤ ct := hct
  have G : (ckF a b c d e 0 zF).2 = 0 → good a b c d e ∧ ((0 : Nat) : Int) = b ∧ ∀ i, i < 0 → fok a zF i := ckF_zero
  repeat' (first | (with_reducible first | exact rfl | exact trivial | refine And.intro ?_ ?_ | refine br_intro (fun hq => ?_) fun hq => ?_ | refine if_both (fun hz => ?_) fun hz => ?_) | (intro) | fail)
  all_goals try (rename _ ≤ _ ∧ tr _ _ _ _ _ = _ => I; obtain ⟨I1, I2⟩ := I)
  all_goals try (rename _ ≤ _ ∧ (∀ _, _ → ¬ _ = _) => J; obtain ⟨J1, J2⟩ := J)
  all_goals try (have g := G (by assumption); obtain ⟨g1, g2, g3⟩ := g)
  all_goals try (rename y1 = true ↔ _ => J)
  all_goals try (rename y1 = _ => hb)
  all_goals first
    | omega
    | assumption
    | contradiction
    | exact ⟨0, (by (refine And.intro (And.intro rfl (And.intro rfl (And.intro rfl rfl))) ?_; (repeat' (first | exact trivial | exact rfl | exact fun _ _ _ _ => rfl | refine And.intro ?_ ?_ | omega | fail)); done)), by omega, rfl⟩
    | exact ⟨y0 + 1, (by (refine And.intro (And.intro rfl (And.intro rfl (And.intro rfl rfl))) ?_; (repeat' (first | exact trivial | exact rfl | exact fun _ _ _ _ => rfl | refine And.intro ?_ ?_ | omega | fail)); done)), ⟨by omega, (by
        have q2 := tr_step b zF ft (m := nt) (k := y0) (by omega)
        rw [if_neg (by omega), if_neg (fun e => (by have q := J.2 (selB_iff.1 e); rw [hb] at q; cases q)), if_neg (by assumption)] at q2
        rw [← q2]
        exact I2)⟩, by omega⟩
    | exact fin0 (by kernel_rfl) (by kernel_rfl) (by rw [bck_bad (by assumption)] at h; exact h)
    | exact fin0 (by kernel_rfl) (by kernel_rfl) (by
        rw [bck_go (by assumption)] at h
        first
          | (rw [← I2, show nt - y0 = 0 by omega] at h; exact h)
          | (have q2 := tr_step b zF ft (m := nt) (k := y0) (by omega)
             rw [← I2, q2] at h
             first
               | (rw [if_pos (by omega)] at h; exact h)
               | (rw [if_neg (by omega), if_pos (show selB y0 ft ft y0 = true from selB_iff.2 (J.1 hb))] at h; exact h)
               | (rw [if_neg (by omega), if_neg (fun e => (by have q := J.2 (selB_iff.1 e); rw [hb] at q; cases q)), if_pos (by assumption)] at h; exact h)))
    | (exfalso; simp at hq; omega)
    | (have g := G (by assumption); omega)
def con49_rnV (a b c d e : Int) (el nl cl : Nat) (fl : RF) (K : Value → List Blk → Prop) : Prop := let q0 := (Prod.snd (ckF a b c d e nl fl)); (t3 (((0 : Nat) + nl ≤ nl) ∧ ((InC a b c d e) ∧ ((@Eq Nat ((0 : Nat)) ((0 : Nat))) ∧ ((nl ≤ (100000 : Nat)) ∧ ((eK ∧ ((@Eq Nat (nl) (nl)) ∧ (@Eq Nat (cl) (cl)))) ∧ (eB ∧ (T0 ∧ (if (@Eq Int q0 ((0 : Int))) then (TS ∧ ((∃ y0 : Nat, ((Go.Rx.Sub 1 [((1 : Nat), (1 : Nat))] ⟨54, [(23, vi (0 : Int)), (22, vi (0 : Int)), (21, vn), (3, Value.pointer (some { block := (1 : Nat), off := (0 : Nat) })), (1, rsl (0 : Nat) (0 : Nat) nl cl), (2, vn)]⟩ ⟨[(1, Blk.cells [vi a, vi b, vi c, vi d, vi e] (23 : Nat)), (0, rT el nl cl fl)], 2⟩ ({ n := (54 : Nat), m := [((1 : Nat), rsl (0 : Nat) (0 : Nat) nl cl), ((2 : Nat), vn), ((3 : Nat), Value.pointer (some { block := (1 : Nat), off := (0 : Nat) })), ((21 : Nat), vn), ((22 : Nat), vi (0 : Int)), ((23 : Nat), vi (↑y0 : Int))] }) ({ h := [((1 : Nat), Blk.cells [vi a, vi b, vi c, vi d, vi e] (23 : Nat)), ((0 : Nat), rT el nl cl fl)], next := (2 : Nat) })) ∧ ((y0 ≤ (0 : Nat)) ∧ (tr b fl zF ((0 : Nat) - y0) y0 = tr b fl zF (0 : Nat) (0 : Nat))))) ∧ (∀ y0 : Nat, (((y0 ≤ (0 : Nat)) ∧ (tr b fl zF ((0 : Nat) - y0) y0 = tr b fl zF (0 : Nat) (0 : Nat))) → (T0 ∧ (∃ y1 : Value, (∃ y2 : List Blk, ((Go.Rx.Found 1 (Value.tuple { toList := [vi (0 : Int), vi (0 : Int)] }) ({ h := [((1 : Nat), Blk.cells [vi a, vi b, vi c, vi d, vi e] (23 : Nat)), ((0 : Nat), rT el nl cl fl)], next := (2 : Nat) }) (y1) (y2)) ∧ (K y1 y2))))))))) else (∃ y0 : Value, (∃ y1 : List Blk, ((Go.Rx.Found 1 (Value.tuple { toList := [vi (-1 : Int), vi q0] }) ({ h := [((1 : Nat), Blk.cells [vi a, vi b, vi c, vi d, vi e] (23 : Nat)), ((0 : Nat), rT el nl cl fl)], next := (2 : Nat) }) (y0) (y1)) ∧ (K y0 y1)))))))))))))
theorem con49_rnE (a b c d e : Int) (el nl cl : Nat) (fl : RF) (K : Value → List Blk → Prop) : con49_rnV a b c d e el nl cl fl K = bodyX (mk X49) (callN (mk X49) 4) (con49_rnA a b c d e el nl cl fl) Try.f49 [five' a b c d e, rsl 0 0 nl cl, .slice none 0 0] (stOf [.row true [.i64, .i64] el nl cl fl]) (Fd 1 K) := by kernel_rfl
set_option tactic.hygienic false in
theorem con49_rnP (a b c d e : Int) (el nl cl : Nat) (fl : RF) (K : Value → List Blk → Prop)  (hI : InC a b c d e) (hnl : nl ≤ 100000) (hct : capOk (.slice none 0 0)) (h : K (.tuple ⟨[.int .i64 (bck a b c d e nl fl 0 zF).1, .int .i64 (bck a b c d e nl fl 0 zF).2]⟩) []) : con49_rnV a b c d e el nl cl fl K := by
  unfold con49_rnV
  conv => zeta
  have hct2 : 0 ≤ 0 := hct
  have G : (ckF a b c d e nl fl).2 = 0 → good a b c d e ∧ ((nl : Nat) : Int) = b ∧ ∀ i, i < nl → fok a fl i := ckF_zero
  repeat' (first | (with_reducible first | exact rfl | exact trivial | refine And.intro ?_ ?_ | refine br_intro (fun hq => ?_) fun hq => ?_ | refine if_both (fun hz => ?_) fun hz => ?_) | (intro) | fail)
  all_goals try (rename _ ≤ _ ∧ tr _ _ _ _ _ = _ => I; obtain ⟨I1, I2⟩ := I)
  all_goals try (rename _ ≤ _ ∧ (∀ _, _ → ¬ _ = _) => J; obtain ⟨J1, J2⟩ := J)
  all_goals try (have g := G (by assumption); obtain ⟨g1, g2, g3⟩ := g)
  all_goals try (rename y1 = true ↔ _ => J)
  all_goals try (rename y1 = _ => hb)
  all_goals first
    | omega
    | assumption
    | contradiction
    | exact ⟨0, (by (refine And.intro (And.intro rfl (And.intro rfl (And.intro rfl rfl))) ?_; (repeat' (first | exact trivial | exact rfl | exact fun _ _ _ _ => rfl | refine And.intro ?_ ?_ | omega | fail)); done)), by omega, rfl⟩
    | exact ⟨y0 + 1, (by (refine And.intro (And.intro rfl (And.intro rfl (And.intro rfl rfl))) ?_; (repeat' (first | exact trivial | exact rfl | exact fun _ _ _ _ => rfl | refine And.intro ?_ ?_ | omega | fail)); done)), ⟨by omega, (by
        have q2 := tr_step b fl zF (m := 0) (k := y0) (by omega)
        rw [if_neg (by omega), if_neg (fun e => (by have q := J.2 (selB_iff.1 e); rw [hb] at q; cases q)), if_neg (by assumption)] at q2
        rw [← q2]
        exact I2)⟩, by omega⟩
    | exact fin0 (by kernel_rfl) (by kernel_rfl) (by rw [bck_bad (by assumption)] at h; exact h)
    | exact fin0 (by kernel_rfl) (by kernel_rfl) (by
        rw [bck_go (by assumption)] at h
        first
          | (rw [← I2, show 0 - y0 = 0 by omega] at h; exact h)
          | (have q2 := tr_step b fl zF (m := 0) (k := y0) (by omega)
             rw [← I2, q2] at h
             first
               | (rw [if_pos (by omega)] at h; exact h)
               | (rw [if_neg (by omega), if_pos (show selB y0 zF zF y0 = true from selB_iff.2 (J.1 hb))] at h; exact h)
               | (rw [if_neg (by omega), if_neg (fun e => (by have q := J.2 (selB_iff.1 e); rw [hb] at q; cases q)), if_pos (by assumption)] at h; exact h)))
    | (exfalso; simp at hq; omega)
    | (have g := G (by assumption); omega)
def con49_rrV (a b c d e : Int) (el nl cl : Nat) (fl : RF) (et nt ct : Nat) (ft : RF) (K : Value → List Blk → Prop) : Prop := let q0 := ((2 : Nat), (2 : Nat)); let q1 := eB; let q2 := (Prod.snd (ckF a b c d e nl fl)); let q3 := (@Eq Nat ((0 : Nat)) ((0 : Nat))); let q4 := (@Eq Nat ((1 : Nat)) ((1 : Nat))); let q5 := (1, rsl (0 : Nat) (0 : Nat) nl cl); let q6 := (2, rsl (1 : Nat) (0 : Nat) nt ct); let q7 := (21, rsl (1 : Nat) (0 : Nat) nt ct); let q8 := (22, vi (↑nt : Int)); let q9 := TS; let q10 := ((1 : Nat), rsl (0 : Nat) (0 : Nat) nl cl); let q11 := ((2 : Nat), rsl (1 : Nat) (0 : Nat) nt ct); let q12 := (1, Blk.row true [IntKind.i64] et nt ct ft); let q13 := ((21 : Nat), rsl (1 : Nat) (0 : Nat) nt ct); let q14 := ((22 : Nat), vi (↑nt : Int)); let q15 := (0, rT el nl cl fl); let q16 := (3, Value.pointer (some { block := (2 : Nat), off := (0 : Nat) })); let q17 := ((3 : Nat), Value.pointer (some { block := (2 : Nat), off := (0 : Nat) })); let q18 := (2, Blk.cells [vi a, vi b, vi c, vi d, vi e] (23 : Nat)); (t3 (((0 : Nat) + nl ≤ nl) ∧ ((InC a b c d e) ∧ (q3 ∧ ((nl ≤ (100000 : Nat)) ∧ ((eK ∧ ((@Eq Nat (nl) (nl)) ∧ (@Eq Nat (cl) (cl)))) ∧ (q1 ∧ (T0 ∧ (if (@Eq Int q2 ((0 : Int))) then (q9 ∧ ((∃ y0 : Nat, ((Go.Rx.Sub 2 [q0] ⟨54, [(23, vi (0 : Int)), q8, q7, q16, q5, q6]⟩ ⟨[q18, q15, q12], 3⟩ ({ n := (54 : Nat), m := [q10, q11, q17, q13, q14, ((23 : Nat), vi (↑y0 : Int))] }) ({ h := [((2 : Nat), Blk.cells [vi a, vi b, vi c, vi d, vi e] (23 : Nat)), ((0 : Nat), rT el nl cl fl), ((1 : Nat), Blk.row true [IntKind.i64] et nt ct ft)], next := (3 : Nat) })) ∧ ((y0 ≤ nt) ∧ (tr b fl ft (nt - y0) y0 = tr b fl ft nt (0 : Nat))))) ∧ (∀ y0 : Nat, let q19 := ((0 : Int) ≤ (↑y0 : Int)); let q20 := (∃ y1 : Value, (∃ y2 : List Blk, ((Go.Rx.Found 2 (Value.tuple { toList := [vi (↑y0 : Int), vi (7 : Int)] }) ({ h := [((2 : Nat), Blk.cells [vi a, vi b, vi c, vi d, vi e] (23 : Nat)), ((0 : Nat), rT el nl cl fl), ((1 : Nat), Blk.row true [IntKind.i64] et nt ct ft)], next := (3 : Nat) }) (y1) (y2)) ∧ (K y1 y2)))); (((y0 ≤ nt) ∧ (tr b fl ft (nt - y0) y0 = tr b fl ft nt (0 : Nat))) → (T0 ∧ (if ((↑y0 : Int) < (↑nt : Int)) then ((q9 ∧ q4) ∧ ((q19 ∧ ((↑y0 : Int) < (↑nt : Int))) ∧ ((y0 < nt) ∧ (T0 ∧ (if (ft y0 (0 : Nat) < (0 : Int)) then q20 else (t2 (if (b ≤ ft y0 (0 : Nat)) then q20 else (q9 ∧ (t4 (q4 ∧ ((((0 : Int) ≤ (0 : Int)) ∧ (q19 ∧ (((↑y0 : Int) ≤ (↑ct : Int)) ∧ ((↑ct : Int) ≤ (↑ct : Int))))) ∧ (((0 : Nat) + y0 ≤ nt) ∧ (T0 ∧ (q3 ∧ ((y0 ≤ (100000 : Nat)) ∧ (((@Eq (List IntKind) ([IntKind.i64]) ([IntKind.i64])) ∧ ((@Eq Nat (y0) (y0)) ∧ (@Eq Nat (ct) (ct)))) ∧ (q1 ∧ (∀ y1 : Bool, ((y1 = true ↔ ∃ i, i < y0 ∧ ft i (0 : Nat) = ft y0 (0 : Nat)) → (Go.Rx.br (y1) (∃ y2 : Value, (∃ y3 : List Blk, ((Go.Rx.Found 2 (Value.tuple { toList := [vi (↑y0 : Int), vi (8 : Int)] }) ({ h := [((2 : Nat), Blk.cells [vi a, vi b, vi c, vi d, vi e] (23 : Nat)), ((0 : Nat), rT el nl cl fl), ((1 : Nat), Blk.row true [IntKind.i64] et nt ct ft)], next := (3 : Nat) }) (y2) (y3)) ∧ (K y2 y3)))) ((q9 ∧ (@Eq Nat ((2 : Nat)) ((2 : Nat)))) ∧ ((((0 : Int) ≤ ft y0 (0 : Nat)) ∧ (ft y0 (0 : Nat) < (↑nl : Int))) ∧ (T0 ∧ ((Int.toNat (ft y0 (0 : Nat)) < nl) ∧ (T0 ∧ (if (@Eq Int (fl (Int.toNat (ft y0 (0 : Nat))) (0 : Nat)) ((0 : Int))) then (∃ y2 : Value, (∃ y3 : List Blk, ((Go.Rx.Found 2 (Value.tuple { toList := [vi (↑y0 : Int), vi (9 : Int)] }) ({ h := [((2 : Nat), Blk.cells [vi a, vi b, vi c, vi d, vi e] (23 : Nat)), ((0 : Nat), rT el nl cl fl), ((1 : Nat), Blk.row true [IntKind.i64] et nt ct ft)], next := (3 : Nat) }) (y2) (y3)) ∧ (K y2 y3)))) else (T0 ∧ ((((-9223372036854775808 : Int) ≤ (↑y0 : Int) + (1 : Int)) ∧ ((↑y0 : Int) + (1 : Int) ≤ (9223372036854775807 : Int))) ∧ (∃ y2 : Nat, ((Go.Rx.Sub 2 [q0] ⟨54, [(23, vi ((↑y0 : Int) + (1 : Int))), q5, q6, q16, q7, q8]⟩ ⟨[q18, q15, q12], 3⟩ ({ n := (54 : Nat), m := [q10, q11, q17, q13, q14, ((23 : Nat), vi (↑y2 : Int))] }) ({ h := [((2 : Nat), Blk.cells [vi a, vi b, vi c, vi d, vi e] (23 : Nat)), ((0 : Nat), rT el nl cl fl), ((1 : Nat), Blk.row true [IntKind.i64] et nt ct ft)], next := (3 : Nat) })) ∧ (((y2 ≤ nt) ∧ (tr b fl ft (nt - y2) y2 = tr b fl ft nt (0 : Nat))) ∧ (nt - y2 < nt - y0)))))))))))))))))))))))))))))))) else (∃ y1 : Value, (∃ y2 : List Blk, ((Go.Rx.Found 2 (Value.tuple { toList := [vi (0 : Int), vi (0 : Int)] }) ({ h := [((2 : Nat), Blk.cells [vi a, vi b, vi c, vi d, vi e] (23 : Nat)), ((0 : Nat), rT el nl cl fl), ((1 : Nat), Blk.row true [IntKind.i64] et nt ct ft)], next := (3 : Nat) }) (y1) (y2)) ∧ (K y1 y2)))))))))) else (∃ y0 : Value, (∃ y1 : List Blk, ((Go.Rx.Found 2 (Value.tuple { toList := [vi (-1 : Int), vi q2] }) ({ h := [((2 : Nat), Blk.cells [vi a, vi b, vi c, vi d, vi e] (23 : Nat)), ((0 : Nat), rT el nl cl fl), ((1 : Nat), Blk.row true [IntKind.i64] et nt ct ft)], next := (3 : Nat) }) (y0) (y1)) ∧ (K y0 y1)))))))))))))
theorem con49_rrE (a b c d e : Int) (el nl cl : Nat) (fl : RF) (et nt ct : Nat) (ft : RF) (K : Value → List Blk → Prop) : con49_rrV a b c d e el nl cl fl et nt ct ft K = bodyX (mk X49) (callN (mk X49) 4) (con49_rrA a b c d e el nl cl fl et nt ct ft) Try.f49 [five' a b c d e, rsl 0 0 nl cl, rsl 1 0 nt ct] (stOf [.row true [.i64, .i64] el nl cl fl, .row true [.i64] et nt ct ft]) (Fd 2 K) := by kernel_rfl
set_option tactic.hygienic false in
theorem con49_rrP (a b c d e : Int) (el nl cl : Nat) (fl : RF) (et nt ct : Nat) (ft : RF) (K : Value → List Blk → Prop)  (hI : InC a b c d e) (hnl : nl ≤ 100000) (hnt : nt ≤ 100000) (hct : capOk (rsl 1 0 nt ct)) (h : K (.tuple ⟨[.int .i64 (bck a b c d e nl fl nt ft).1, .int .i64 (bck a b c d e nl fl nt ft).2]⟩) []) : con49_rrV a b c d e el nl cl fl et nt ct ft K := by
  unfold con49_rrV
  conv => zeta
  have hct2 : nt ≤ ct := hct
  have G : (ckF a b c d e nl fl).2 = 0 → good a b c d e ∧ ((nl : Nat) : Int) = b ∧ ∀ i, i < nl → fok a fl i := ckF_zero
  repeat' (first | (with_reducible first | exact rfl | exact trivial | refine And.intro ?_ ?_ | refine br_intro (fun hq => ?_) fun hq => ?_ | refine if_both (fun hz => ?_) fun hz => ?_) | (intro) | fail)
  all_goals try (rename _ ≤ _ ∧ tr _ _ _ _ _ = _ => I; obtain ⟨I1, I2⟩ := I)
  all_goals try (rename _ ≤ _ ∧ (∀ _, _ → ¬ _ = _) => J; obtain ⟨J1, J2⟩ := J)
  all_goals try (have g := G (by assumption); obtain ⟨g1, g2, g3⟩ := g)
  all_goals try (rename y1 = true ↔ _ => J)
  all_goals try (rename y1 = _ => hb)
  all_goals first
    | omega
    | assumption
    | contradiction
    | exact ⟨0, (by (refine And.intro (And.intro rfl (And.intro rfl (And.intro rfl rfl))) ?_; (repeat' (first | exact trivial | exact rfl | exact fun _ _ _ _ => rfl | refine And.intro ?_ ?_ | omega | fail)); done)), by omega, rfl⟩
    | exact ⟨y0 + 1, (by (refine And.intro (And.intro rfl (And.intro rfl (And.intro rfl rfl))) ?_; (repeat' (first | exact trivial | exact rfl | exact fun _ _ _ _ => rfl | refine And.intro ?_ ?_ | omega | fail)); done)), ⟨by omega, (by
        have q2 := tr_step b fl ft (m := nt) (k := y0) (by omega)
        rw [if_neg (by omega), if_neg (fun e => (by have q := J.2 (selB_iff.1 e); rw [hb] at q; cases q)), if_neg (by assumption)] at q2
        rw [← q2]
        exact I2)⟩, by omega⟩
    | exact fin0 (by kernel_rfl) (by kernel_rfl) (by rw [bck_bad (by assumption)] at h; exact h)
    | exact fin0 (by kernel_rfl) (by kernel_rfl) (by
        rw [bck_go (by assumption)] at h
        first
          | (rw [← I2, show nt - y0 = 0 by omega] at h; exact h)
          | (have q2 := tr_step b fl ft (m := nt) (k := y0) (by omega)
             rw [← I2, q2] at h
             first
               | (rw [if_pos (by omega)] at h; exact h)
               | (rw [if_neg (by omega), if_pos (show selB y0 ft ft y0 = true from selB_iff.2 (J.1 hb))] at h; exact h)
               | (rw [if_neg (by omega), if_neg (fun e => (by have q := J.2 (selB_iff.1 e); rw [hb] at q; cases q)), if_pos (by assumption)] at h; exact h)))
    | (exfalso; simp at hq; omega)
    | (have g := G (by assumption); omega)
theorem con49_ok : BodyOk (mk X49) 4 Try.f49 con49 := by
  intro vs bs K hh hro
  clear hro
  unfold con49 at hh
  split at hh
  · rename_i u vl vt
    obtain ⟨a, b, c, d, e, rfl, hI, hh0⟩ := five_inv hh
    rcases parse_inv hh0 with ⟨rfl, hh1⟩ | ⟨el, nl, cl, fl, btl, rfl, hnl, rfl, hh1⟩ <;> clear hh0
    · rcases parse_inv hh1 with ⟨rfl, hh2⟩ | ⟨et, nt, ct, ft, btt, rfl, hnt, rfl, hh2⟩ <;> clear hh1
      · obtain ⟨rfl, hct, hc⟩ := hh2
        exact ⟨_, _, cast (con49_nnE a b c d e   K) (con49_nnP a b c d e   K hI  hct hc)⟩
      · obtain ⟨rfl, hct, hc⟩ := hh2
        exact ⟨_, _, cast (con49_nrE a b c d e et nt ct ft  K) (con49_nrP a b c d e et nt ct ft  K hI hnt hct hc)⟩
    · rcases parse_inv hh1 with ⟨rfl, hh2⟩ | ⟨et, nt, ct, ft, btt, rfl, hnt, rfl, hh2⟩ <;> clear hh1
      · obtain ⟨rfl, hct, hc⟩ := hh2
        exact ⟨_, _, cast (con49_rnE a b c d e el nl cl fl  K) (con49_rnP a b c d e el nl cl fl  K hI hnl hct hc)⟩
      · obtain ⟨rfl, hct, hc⟩ := hh2
        exact ⟨_, _, cast (con49_rrE a b c d e el nl cl fl et nt ct ft  K) (con49_rrP a b c d e el nl cl fl et nt ct ft  K hI hnl hnt hct hc)⟩
  · exact hh.elim
theorem con49_told : Told 49 (specOf con49) := told (X := X49) X49_told (by kernel_rfl) (by kernel_rfl) (by kernel_rfl) con49_ok
end Go.Proofs.Ytkflmglpniebfaa.Fr
namespace Go.Proofs.Ytkflmglpniebfaa.Fr
set_option maxRecDepth 100000
set_option maxHeartbeats 4000000
open Go.Rx
open Go.RowKit (Below)
set_option linter.unusedVariables false
theorem bck_ck {a b c d e : Int} {n m : Nat} {f g : RF} (h : (bck a b c d e n f m g).2 = 0) : (ckF a b c d e n f).2 = 0 := by
  unfold bck at h
  split at h
  · assumption
  · exact absurd h (by assumption)
/-- The error of a train, a car to be skipped, a size. -/
def askT (a b c d e : Int) (n : Nat) (f : RF) (m : Nat) (g : RF) (s y : Int) : Int := if (bck a b c d e n f m g).2 = 0 then (if y < 1 ∨ a < y ∨ s < -1 ∨ b ≤ s then 7 else if 0 ≤ s ∧ f s.toNat 0 = 0 then 9 else 0) else (bck a b c d e n f m g).2
@[reducible] def X85 : List (Nat × Rx.Spec) := [(50, specOf con50)]
theorem X85_told : ∀ p ∈ X85, Told p.1 p.2 := by
  intro p hp
  simp only [List.mem_cons, List.not_mem_nil, or_false] at hp
  rcases hp with rfl
  · exact con50_told
def con85 : Con := fun vs bs K => match vs with
  | [u, vl, vt, .int .i64 s, .int .i64 y] => five u fun a b c d e => parse [.i64, .i64] 0 vl bs fun nl fl j0 bs0 => parse [.i64] j0 vt bs0 fun nt ft j1 bs1 => bs1 = [] ∧ (True) ∧ (K (.int .i64 (askT a b c d e nl fl nt ft s y)) [])
  | _ => False

def con85_nnA (a b c d e : Int) (s : Int) (y : Int) : Ann := fun _ _ _ => none
def con85_nrA (a b c d e : Int) (et nt ct : Nat) (ft : RF) (s : Int) (y : Int) : Ann := fun _ _ _ => none
def con85_rnA (a b c d e : Int) (el nl cl : Nat) (fl : RF) (s : Int) (y : Int) : Ann := fun _ _ _ => none
def con85_rrA (a b c d e : Int) (el nl cl : Nat) (fl : RF) (et nt ct : Nat) (ft : RF) (s : Int) (y : Int) : Ann := fun _ _ _ => none
def con85_nnV (a b c d e : Int) (s : Int) (y : Int) (K : Value → List Blk → Prop) : Prop := let q0 := (Prod.snd (bck a b c d e (0 : Nat) zF (0 : Nat) zF)); let q1 := (T0 ∧ (∃ y0 : Value, (∃ y1 : List Blk, ((Go.Rx.Found 0 (vi (7 : Int)) ({ h := [((0 : Nat), Blk.cells [vi a, vi b, vi c, vi d, vi e] (23 : Nat))], next := (1 : Nat) }) (y0) (y1)) ∧ (K y0 y1))))); let q2 := (∃ y0 : Value, (∃ y1 : List Blk, ((Go.Rx.Found 0 (vi q0) ({ h := [((0 : Nat), Blk.cells [vi a, vi b, vi c, vi d, vi e] (23 : Nat))], next := (1 : Nat) }) (y0) (y1)) ∧ (K y0 y1)))); let q3 := (T0 ∧ (if (@Eq Int q0 ((0 : Int))) then (T0 ∧ (if ((0 : Int) ≤ s) then (False) else q2)) else q2)); (t5 ((InC a b c d e) ∧ (eB ∧ ((True) ∧ (T0 ∧ (if (@Eq Int q0 ((0 : Int))) then (T0 ∧ (if (y < (1 : Int)) then q1 else (t2 (if (a < y) then q1 else (T0 ∧ (if (s < (-1 : Int)) then q1 else (t2 (if (b ≤ s) then q1 else q3)))))))) else q3))))))
theorem con85_nnE (a b c d e : Int) (s : Int) (y : Int) (K : Value → List Blk → Prop) : con85_nnV a b c d e s y K = bodyX (mk X85) (callN (mk X85) 4) (con85_nnA a b c d e s y) Try.f85 [five' a b c d e, .slice none 0 0, .slice none 0 0, .int .i64 s, .int .i64 y] (stOf []) (Fd 0 K) := by kernel_rfl
set_option tactic.hygienic false in
theorem con85_nnP (a b c d e : Int) (s : Int) (y : Int) (K : Value → List Blk → Prop)  (hI : InC a b c d e) (h : K (.int .i64 (askT a b c d e 0 zF 0 zF s y)) []) : con85_nnV a b c d e s y K := by
  unfold con85_nnV
  conv => zeta
  unfold askT at h
  have G : (bck a b c d e 0 zF 0 zF).2 = 0 → good a b c d e ∧ ((0 : Nat) : Int) = b ∧ ∀ i, i < 0 → fok a zF i := fun q => ckF_zero (bck_ck q)
  repeat' (first | (with_reducible first | exact rfl | exact trivial | refine And.intro ?_ ?_ | refine br_intro (fun hq => ?_) fun hq => ?_ | refine if_both (fun hz => ?_) fun hz => ?_) | (intro) | fail)

  all_goals first
    | omega
    | assumption
    | contradiction
    | (have g := G (by assumption); omega)
    | (refine fin0 (by kernel_rfl) (by kernel_rfl) ?_
       repeat' (split at h)
       all_goals first | exact h | omega | (rw [show (bck _ _ _ _ _ _ _ _ _).2 = 0 by assumption]; exact h) | (exfalso; have g := G (by assumption); omega))
def con85_nrV (a b c d e : Int) (et nt ct : Nat) (ft : RF) (s : Int) (y : Int) (K : Value → List Blk → Prop) : Prop := let q0 := (Prod.snd (bck a b c d e (0 : Nat) zF nt ft)); let q1 := (T0 ∧ (∃ y0 : Value, (∃ y1 : List Blk, ((Go.Rx.Found 1 (vi (7 : Int)) ({ h := [((1 : Nat), Blk.cells [vi a, vi b, vi c, vi d, vi e] (23 : Nat)), ((0 : Nat), Blk.row true [IntKind.i64] et nt ct ft)], next := (2 : Nat) }) (y0) (y1)) ∧ (K y0 y1))))); let q2 := (∃ y0 : Value, (∃ y1 : List Blk, ((Go.Rx.Found 1 (vi q0) ({ h := [((1 : Nat), Blk.cells [vi a, vi b, vi c, vi d, vi e] (23 : Nat)), ((0 : Nat), Blk.row true [IntKind.i64] et nt ct ft)], next := (2 : Nat) }) (y0) (y1)) ∧ (K y0 y1)))); let q3 := (T0 ∧ (if (@Eq Int q0 ((0 : Int))) then (T0 ∧ (if ((0 : Int) ≤ s) then (False) else q2)) else q2)); (t4 (((0 : Nat) + nt ≤ nt) ∧ ((InC a b c d e) ∧ ((@Eq Nat ((0 : Nat)) ((0 : Nat))) ∧ ((nt ≤ (100000 : Nat)) ∧ (((@Eq (List IntKind) ([IntKind.i64]) ([IntKind.i64])) ∧ ((@Eq Nat (nt) (nt)) ∧ (@Eq Nat (ct) (ct)))) ∧ (eB ∧ ((True) ∧ (T0 ∧ (if (@Eq Int q0 ((0 : Int))) then (T0 ∧ (if (y < (1 : Int)) then q1 else (t2 (if (a < y) then q1 else (T0 ∧ (if (s < (-1 : Int)) then q1 else (t2 (if (b ≤ s) then q1 else q3)))))))) else q3))))))))))
theorem con85_nrE (a b c d e : Int) (et nt ct : Nat) (ft : RF) (s : Int) (y : Int) (K : Value → List Blk → Prop) : con85_nrV a b c d e et nt ct ft s y K = bodyX (mk X85) (callN (mk X85) 4) (con85_nrA a b c d e et nt ct ft s y) Try.f85 [five' a b c d e, .slice none 0 0, rsl 0 0 nt ct, .int .i64 s, .int .i64 y] (stOf [.row true [.i64] et nt ct ft]) (Fd 1 K) := by kernel_rfl
set_option tactic.hygienic false in
theorem con85_nrP (a b c d e : Int) (et nt ct : Nat) (ft : RF) (s : Int) (y : Int) (K : Value → List Blk → Prop)  (hI : InC a b c d e) (hnt : nt ≤ 100000) (h : K (.int .i64 (askT a b c d e 0 zF nt ft s y)) []) : con85_nrV a b c d e et nt ct ft s y K := by
  unfold con85_nrV
  conv => zeta
  unfold askT at h
  have G : (bck a b c d e 0 zF nt ft).2 = 0 → good a b c d e ∧ ((0 : Nat) : Int) = b ∧ ∀ i, i < 0 → fok a zF i := fun q => ckF_zero (bck_ck q)
  repeat' (first | (with_reducible first | exact rfl | exact trivial | refine And.intro ?_ ?_ | refine br_intro (fun hq => ?_) fun hq => ?_ | refine if_both (fun hz => ?_) fun hz => ?_) | (intro) | fail)

  all_goals first
    | omega
    | assumption
    | contradiction
    | (have g := G (by assumption); omega)
    | (refine fin0 (by kernel_rfl) (by kernel_rfl) ?_
       repeat' (split at h)
       all_goals first | exact h | omega | (rw [show (bck _ _ _ _ _ _ _ _ _).2 = 0 by assumption]; exact h) | (exfalso; have g := G (by assumption); omega))
def con85_rnV (a b c d e : Int) (el nl cl : Nat) (fl : RF) (s : Int) (y : Int) (K : Value → List Blk → Prop) : Prop := let q0 := (Prod.snd (bck a b c d e nl fl (0 : Nat) zF)); let q1 := (T0 ∧ (∃ y0 : Value, (∃ y1 : List Blk, ((Go.Rx.Found 1 (vi (7 : Int)) ({ h := [((1 : Nat), Blk.cells [vi a, vi b, vi c, vi d, vi e] (23 : Nat)), ((0 : Nat), rT el nl cl fl)], next := (2 : Nat) }) (y0) (y1)) ∧ (K y0 y1))))); let q2 := (∃ y0 : Value, (∃ y1 : List Blk, ((Go.Rx.Found 1 (vi q0) ({ h := [((1 : Nat), Blk.cells [vi a, vi b, vi c, vi d, vi e] (23 : Nat)), ((0 : Nat), rT el nl cl fl)], next := (2 : Nat) }) (y0) (y1)) ∧ (K y0 y1)))); let q3 := (T0 ∧ (if (@Eq Int q0 ((0 : Int))) then (T0 ∧ (if ((0 : Int) ≤ s) then ((TS ∧ (@Eq Nat ((2 : Nat)) ((2 : Nat)))) ∧ ((((0 : Int) ≤ s) ∧ (s < (↑nl : Int))) ∧ (T0 ∧ ((Int.toNat s < nl) ∧ (T0 ∧ (if (@Eq Int (fl (Int.toNat s) (0 : Nat)) ((0 : Int))) then (∃ y0 : Value, (∃ y1 : List Blk, ((Go.Rx.Found 1 (vi (9 : Int)) ({ h := [((1 : Nat), Blk.cells [vi a, vi b, vi c, vi d, vi e] (23 : Nat)), ((0 : Nat), rT el nl cl fl)], next := (2 : Nat) }) (y0) (y1)) ∧ (K y0 y1)))) else q2)))))) else q2)) else q2)); (t3 (((0 : Nat) + nl ≤ nl) ∧ (T0 ∧ ((InC a b c d e) ∧ ((@Eq Nat ((0 : Nat)) ((0 : Nat))) ∧ ((nl ≤ (100000 : Nat)) ∧ ((eK ∧ ((@Eq Nat (nl) (nl)) ∧ (@Eq Nat (cl) (cl)))) ∧ (eB ∧ ((True) ∧ (T0 ∧ (if (@Eq Int q0 ((0 : Int))) then (T0 ∧ (if (y < (1 : Int)) then q1 else (t2 (if (a < y) then q1 else (T0 ∧ (if (s < (-1 : Int)) then q1 else (t2 (if (b ≤ s) then q1 else q3)))))))) else q3)))))))))))
theorem con85_rnE (a b c d e : Int) (el nl cl : Nat) (fl : RF) (s : Int) (y : Int) (K : Value → List Blk → Prop) : con85_rnV a b c d e el nl cl fl s y K = bodyX (mk X85) (callN (mk X85) 4) (con85_rnA a b c d e el nl cl fl s y) Try.f85 [five' a b c d e, rsl 0 0 nl cl, .slice none 0 0, .int .i64 s, .int .i64 y] (stOf [.row true [.i64, .i64] el nl cl fl]) (Fd 1 K) := by kernel_rfl
set_option tactic.hygienic false in
theorem con85_rnP (a b c d e : Int) (el nl cl : Nat) (fl : RF) (s : Int) (y : Int) (K : Value → List Blk → Prop)  (hI : InC a b c d e) (hnl : nl ≤ 100000) (h : K (.int .i64 (askT a b c d e nl fl 0 zF s y)) []) : con85_rnV a b c d e el nl cl fl s y K := by
  unfold con85_rnV
  conv => zeta
  unfold askT at h
  have G : (bck a b c d e nl fl 0 zF).2 = 0 → good a b c d e ∧ ((nl : Nat) : Int) = b ∧ ∀ i, i < nl → fok a fl i := fun q => ckF_zero (bck_ck q)
  repeat' (first | (with_reducible first | exact rfl | exact trivial | refine And.intro ?_ ?_ | refine br_intro (fun hq => ?_) fun hq => ?_ | refine if_both (fun hz => ?_) fun hz => ?_) | (intro) | fail)

  all_goals first
    | omega
    | assumption
    | contradiction
    | (have g := G (by assumption); omega)
    | (refine fin0 (by kernel_rfl) (by kernel_rfl) ?_
       repeat' (split at h)
       all_goals first | exact h | omega | (rw [show (bck _ _ _ _ _ _ _ _ _).2 = 0 by assumption]; exact h) | (exfalso; have g := G (by assumption); omega))
def con85_rrV (a b c d e : Int) (el nl cl : Nat) (fl : RF) (et nt ct : Nat) (ft : RF) (s : Int) (y : Int) (K : Value → List Blk → Prop) : Prop := let q0 := (Prod.snd (bck a b c d e nl fl nt ft)); let q1 := (T0 ∧ (∃ y0 : Value, (∃ y1 : List Blk, ((Go.Rx.Found 2 (vi (7 : Int)) ({ h := [((2 : Nat), Blk.cells [vi a, vi b, vi c, vi d, vi e] (23 : Nat)), ((0 : Nat), rT el nl cl fl), ((1 : Nat), Blk.row true [IntKind.i64] et nt ct ft)], next := (3 : Nat) }) (y0) (y1)) ∧ (K y0 y1))))); let q2 := (∃ y0 : Value, (∃ y1 : List Blk, ((Go.Rx.Found 2 (vi q0) ({ h := [((2 : Nat), Blk.cells [vi a, vi b, vi c, vi d, vi e] (23 : Nat)), ((0 : Nat), rT el nl cl fl), ((1 : Nat), Blk.row true [IntKind.i64] et nt ct ft)], next := (3 : Nat) }) (y0) (y1)) ∧ (K y0 y1)))); let q3 := (T0 ∧ (if (@Eq Int q0 ((0 : Int))) then (T0 ∧ (if ((0 : Int) ≤ s) then ((TS ∧ (@Eq Nat ((2 : Nat)) ((2 : Nat)))) ∧ ((((0 : Int) ≤ s) ∧ (s < (↑nl : Int))) ∧ (T0 ∧ ((Int.toNat s < nl) ∧ (T0 ∧ (if (@Eq Int (fl (Int.toNat s) (0 : Nat)) ((0 : Int))) then (∃ y0 : Value, (∃ y1 : List Blk, ((Go.Rx.Found 2 (vi (9 : Int)) ({ h := [((2 : Nat), Blk.cells [vi a, vi b, vi c, vi d, vi e] (23 : Nat)), ((0 : Nat), rT el nl cl fl), ((1 : Nat), Blk.row true [IntKind.i64] et nt ct ft)], next := (3 : Nat) }) (y0) (y1)) ∧ (K y0 y1)))) else q2)))))) else q2)) else q2)); (t3 (((0 : Nat) + nl ≤ nl) ∧ (((0 : Nat) + nt ≤ nt) ∧ ((InC a b c d e) ∧ ((@Eq Nat ((0 : Nat)) ((0 : Nat))) ∧ ((nl ≤ (100000 : Nat)) ∧ ((eK ∧ ((@Eq Nat (nl) (nl)) ∧ (@Eq Nat (cl) (cl)))) ∧ ((@Eq Nat ((1 : Nat)) ((1 : Nat))) ∧ ((nt ≤ (100000 : Nat)) ∧ (((@Eq (List IntKind) ([IntKind.i64]) ([IntKind.i64])) ∧ ((@Eq Nat (nt) (nt)) ∧ (@Eq Nat (ct) (ct)))) ∧ (eB ∧ ((True) ∧ (T0 ∧ (if (@Eq Int q0 ((0 : Int))) then (T0 ∧ (if (y < (1 : Int)) then q1 else (t2 (if (a < y) then q1 else (T0 ∧ (if (s < (-1 : Int)) then q1 else (t2 (if (b ≤ s) then q1 else q3)))))))) else q3))))))))))))))
theorem con85_rrE (a b c d e : Int) (el nl cl : Nat) (fl : RF) (et nt ct : Nat) (ft : RF) (s : Int) (y : Int) (K : Value → List Blk → Prop) : con85_rrV a b c d e el nl cl fl et nt ct ft s y K = bodyX (mk X85) (callN (mk X85) 4) (con85_rrA a b c d e el nl cl fl et nt ct ft s y) Try.f85 [five' a b c d e, rsl 0 0 nl cl, rsl 1 0 nt ct, .int .i64 s, .int .i64 y] (stOf [.row true [.i64, .i64] el nl cl fl, .row true [.i64] et nt ct ft]) (Fd 2 K) := by kernel_rfl
set_option tactic.hygienic false in
theorem con85_rrP (a b c d e : Int) (el nl cl : Nat) (fl : RF) (et nt ct : Nat) (ft : RF) (s : Int) (y : Int) (K : Value → List Blk → Prop)  (hI : InC a b c d e) (hnl : nl ≤ 100000) (hnt : nt ≤ 100000) (h : K (.int .i64 (askT a b c d e nl fl nt ft s y)) []) : con85_rrV a b c d e el nl cl fl et nt ct ft s y K := by
  unfold con85_rrV
  conv => zeta
  unfold askT at h
  have G : (bck a b c d e nl fl nt ft).2 = 0 → good a b c d e ∧ ((nl : Nat) : Int) = b ∧ ∀ i, i < nl → fok a fl i := fun q => ckF_zero (bck_ck q)
  repeat' (first | (with_reducible first | exact rfl | exact trivial | refine And.intro ?_ ?_ | refine br_intro (fun hq => ?_) fun hq => ?_ | refine if_both (fun hz => ?_) fun hz => ?_) | (intro) | fail)

  all_goals first
    | omega
    | assumption
    | contradiction
    | (have g := G (by assumption); omega)
    | (refine fin0 (by kernel_rfl) (by kernel_rfl) ?_
       repeat' (split at h)
       all_goals first | exact h | omega | (rw [show (bck _ _ _ _ _ _ _ _ _).2 = 0 by assumption]; exact h) | (exfalso; have g := G (by assumption); omega))
theorem con85_ok : BodyOk (mk X85) 4 Try.f85 con85 := by
  intro vs bs K hh hro
  clear hro
  unfold con85 at hh
  split at hh
  · rename_i u vl vt s y
    obtain ⟨a, b, c, d, e, rfl, hI, hh0⟩ := five_inv hh
    rcases parse_inv hh0 with ⟨rfl, hh1⟩ | ⟨el, nl, cl, fl, btl, rfl, hnl, rfl, hh1⟩ <;> clear hh0
    · rcases parse_inv hh1 with ⟨rfl, hh2⟩ | ⟨et, nt, ct, ft, btt, rfl, hnt, rfl, hh2⟩ <;> clear hh1
      · obtain ⟨rfl, -, hc⟩ := hh2
        exact ⟨_, _, cast (con85_nnE a b c d e  s y K) (con85_nnP a b c d e  s y K hI   hc)⟩
      · obtain ⟨rfl, -, hc⟩ := hh2
        exact ⟨_, _, cast (con85_nrE a b c d e et nt ct ft s y K) (con85_nrP a b c d e et nt ct ft s y K hI hnt  hc)⟩
    · rcases parse_inv hh1 with ⟨rfl, hh2⟩ | ⟨et, nt, ct, ft, btt, rfl, hnt, rfl, hh2⟩ <;> clear hh1
      · obtain ⟨rfl, -, hc⟩ := hh2
        exact ⟨_, _, cast (con85_rnE a b c d e el nl cl fl s y K) (con85_rnP a b c d e el nl cl fl s y K hI hnl  hc)⟩
      · obtain ⟨rfl, -, hc⟩ := hh2
        exact ⟨_, _, cast (con85_rrE a b c d e el nl cl fl et nt ct ft s y K) (con85_rrP a b c d e el nl cl fl et nt ct ft s y K hI hnl hnt  hc)⟩
  · exact hh.elim
theorem con85_told : Told 85 (specOf con85) := told (X := X85) X85_told (by kernel_rfl) (by kernel_rfl) (by kernel_rfl) con85_ok
end Go.Proofs.Ytkflmglpniebfaa.Fr
namespace Go.Proofs.Ytkflmglpniebfaa.Fr
set_option maxRecDepth 100000
set_option maxHeartbeats 4000000
open Go.Rx
open Go.RowKit (Below)
set_option linter.unusedVariables false
theorem tr_ok (b : Int) (f g : RF) : ∀ (l k : Nat), (tr b f g l k).2 = 0 → ∀ i, k ≤ i → i < k + l → 0 ≤ g i 0 ∧ g i 0 < b ∧ ¬ selB i g g i = true ∧ ¬ f (g i 0).toNat 0 = 0
  | 0, k, _, i, h1, h2 => by omega
  | l + 1, k, h, i, h1, h2 => by
    unfold tr at h
    split at h
    · cases h
    · split at h
      · cases h
      · split at h
        · cases h
        · rcases Nat.lt_or_ge k i with q | q
          · exact tr_ok b f g l (k + 1) h i (by omega) (by omega)
          · obtain rfl : i = k := by omega
            exact ⟨by omega, by omega, by assumption, by assumption⟩
theorem bck_ok {a b c d e : Int} {n m : Nat} {f g : RF} (h : (bck a b c d e n f m g).2 = 0) : good a b c d e ∧ (n : Int) = b ∧ (∀ i, i < n → fok a f i) ∧ ∀ i, i < m → 0 ≤ g i 0 ∧ g i 0 < b ∧ ¬ selB i g g i = true ∧ ¬ f (g i 0).toNat 0 = 0 := by
  have h0 := bck_ck h
  rw [bck_go h0] at h
  obtain ⟨g1, g2, g3⟩ := ckF_zero h0
  exact ⟨g1, g2, g3, fun i hi => tr_ok b f g m 0 h i (by omega) (by omega)⟩
theorem askT_bck {a b c d e : Int} {n m : Nat} {f g : RF} {s y : Int} (h : askT a b c d e n f m g s y = 0) : (bck a b c d e n f m g).2 = 0 ∧ 1 ≤ y ∧ y ≤ a ∧ -1 ≤ s ∧ s < b ∧ (0 ≤ s → ¬ f s.toNat 0 = 0) := by
  unfold askT at h
  split at h
  · refine ⟨by assumption, ?_⟩
    split at h
    · cases h
    · split at h
      · cases h
      · exact ⟨by omega, by omega, by omega, by omega, by omega⟩
  · exact absurd h (by assumption)
/-- The last car of a train. -/
def lastC (m : Nat) (g : RF) : Int := g (Int.toNat ((m : Int) - 1)) 0
def lastT (a b c d e : Int) (n : Nat) (f : RF) (m : Nat) (g : RF) (s y : Int) : Int × Int := if askT a b c d e n f m g s y = 0 then (if 0 < m ∧ f (lastC m g).toNat 0 = 1 ∧ ¬ lastC m g = s ∧ y ≤ a - f (lastC m g).toNat 1 then (lastC m g, 0) else (0, 5)) else (0, askT a b c d e n f m g s y)
@[reducible] def X54 : List (Nat × Rx.Spec) := [(85, specOf con85)]
theorem X54_told : ∀ p ∈ X54, Told p.1 p.2 := by
  intro p hp
  simp only [List.mem_cons, List.not_mem_nil, or_false] at hp
  rcases hp with rfl
  · exact con85_told
def con54 : Con := fun vs bs K => match vs with
  | [u, vl, vt, .int .i64 s, .int .i64 y] => five u fun a b c d e => parse [.i64, .i64] 0 vl bs fun nl fl j0 bs0 => parse [.i64] j0 vt bs0 fun nt ft j1 bs1 => bs1 = [] ∧ (True) ∧ (K (.tuple ⟨[.int .i64 (lastT a b c d e nl fl nt ft s y).1, .int .i64 (lastT a b c d e nl fl nt ft s y).2]⟩) [])
  | _ => False

def con54_nnA (a b c d e : Int) (s : Int) (y : Int) : Ann := fun _ _ _ => none
def con54_nrA (a b c d e : Int) (et nt ct : Nat) (ft : RF) (s : Int) (y : Int) : Ann := fun _ _ _ => none
def con54_rnA (a b c d e : Int) (el nl cl : Nat) (fl : RF) (s : Int) (y : Int) : Ann := fun _ _ _ => none
def con54_rrA (a b c d e : Int) (el nl cl : Nat) (fl : RF) (et nt ct : Nat) (ft : RF) (s : Int) (y : Int) : Ann := fun _ _ _ => none
def con54_nnV (a b c d e : Int) (s : Int) (y : Int) (K : Value → List Blk → Prop) : Prop := let q0 := (askT a b c d e (0 : Nat) zF (0 : Nat) zF s y); (t7 ((InC a b c d e) ∧ (eB ∧ ((True) ∧ (T0 ∧ (if (@Eq Int q0 ((0 : Int))) then (TS ∧ (T0 ∧ (∃ y0 : Value, (∃ y1 : List Blk, ((Go.Rx.Found 0 (Value.tuple { toList := [vi (0 : Int), vi (5 : Int)] }) ({ h := [((0 : Nat), Blk.cells [vi a, vi b, vi c, vi d, vi e] (23 : Nat))], next := (1 : Nat) }) (y0) (y1)) ∧ (K y0 y1)))))) else (∃ y0 : Value, (∃ y1 : List Blk, ((Go.Rx.Found 0 (Value.tuple { toList := [vi (0 : Int), vi q0] }) ({ h := [((0 : Nat), Blk.cells [vi a, vi b, vi c, vi d, vi e] (23 : Nat))], next := (1 : Nat) }) (y0) (y1)) ∧ (K y0 y1))))))))))
theorem con54_nnE (a b c d e : Int) (s : Int) (y : Int) (K : Value → List Blk → Prop) : con54_nnV a b c d e s y K = bodyX (mk X54) (callN (mk X54) 4) (con54_nnA a b c d e s y) Try.f54 [five' a b c d e, .slice none 0 0, .slice none 0 0, .int .i64 s, .int .i64 y] (stOf []) (Fd 0 K) := by kernel_rfl
set_option tactic.hygienic false in
theorem con54_nnP (a b c d e : Int) (s : Int) (y : Int) (K : Value → List Blk → Prop)  (hI : InC a b c d e) (h : K (.tuple ⟨[.int .i64 (lastT a b c d e 0 zF 0 zF s y).1, .int .i64 (lastT a b c d e 0 zF 0 zF s y).2]⟩) []) : con54_nnV a b c d e s y K := by
  unfold con54_nnV
  conv => zeta
  have G : askT a b c d e 0 zF 0 zF s y = 0 → good a b c d e ∧ ((0 : Nat) : Int) = b ∧ (0 < 0 → 0 ≤ lastC 0 zF ∧ lastC 0 zF < b ∧ fok a zF (lastC 0 zF).toNat) := fun q => (by
    obtain ⟨g1, g2, g3, g4⟩ := bck_ok (askT_bck q).1
    refine ⟨g1, g2, fun hm => ?_⟩
    obtain ⟨k1, k2, k3, k4⟩ := g4 (Int.toNat (((0 : Nat) : Int) - 1)) (by omega)
    exact ⟨k1, k2, g3 _ (by show (lastC 0 zF).toNat < _; have : lastC 0 zF < b := k2; have : 0 ≤ lastC 0 zF := k1; omega)⟩)
  unfold lastT at h
  repeat' (first | (with_reducible first | exact rfl | exact trivial | refine And.intro ?_ ?_ | refine br_intro (fun hq => ?_) fun hq => ?_ | refine if_both (fun hz => ?_) fun hz => ?_) | (intro) | fail)

  all_goals first
    | omega
    | assumption
    | contradiction
    | (have g := G (by assumption); unfold fok lastC at g; omega)
    | (refine fin0 (by kernel_rfl) (by kernel_rfl) ?_
       unfold lastC at h
       repeat' (split at h)
       all_goals first | exact h | omega | (exfalso; have g := G (by assumption); unfold fok lastC at g; omega) | (exfalso; simp_all; done))
def con54_nrV (a b c d e : Int) (et nt ct : Nat) (ft : RF) (s : Int) (y : Int) (K : Value → List Blk → Prop) : Prop := let q0 := (askT a b c d e (0 : Nat) zF nt ft s y); let q1 := TS; (t4 (((0 : Nat) + nt ≤ nt) ∧ (t2 ((InC a b c d e) ∧ ((@Eq Nat ((0 : Nat)) ((0 : Nat))) ∧ ((nt ≤ (100000 : Nat)) ∧ (((@Eq (List IntKind) ([IntKind.i64]) ([IntKind.i64])) ∧ ((@Eq Nat (nt) (nt)) ∧ (@Eq Nat (ct) (ct)))) ∧ (eB ∧ ((True) ∧ (T0 ∧ (if (@Eq Int q0 ((0 : Int))) then (q1 ∧ (T0 ∧ (if ((0 : Int) < (↑nt : Int)) then (q1 ∧ (T0 ∧ ((((-9223372036854775808 : Int) ≤ (↑nt : Int) - (1 : Int)) ∧ ((↑nt : Int) - (1 : Int) ≤ (9223372036854775807 : Int))) ∧ ((q1 ∧ (@Eq Nat ((1 : Nat)) ((1 : Nat)))) ∧ ((((0 : Int) ≤ (↑nt : Int) - (1 : Int)) ∧ ((↑nt : Int) - (1 : Int) < (↑nt : Int))) ∧ ((Int.toNat ((↑nt : Int) - (1 : Int)) < nt) ∧ (t4 (False)))))))) else (∃ y0 : Value, (∃ y1 : List Blk, ((Go.Rx.Found 1 (Value.tuple { toList := [vi (0 : Int), vi (5 : Int)] }) ({ h := [((1 : Nat), Blk.cells [vi a, vi b, vi c, vi d, vi e] (23 : Nat)), ((0 : Nat), Blk.row true [IntKind.i64] et nt ct ft)], next := (2 : Nat) }) (y0) (y1)) ∧ (K y0 y1))))))) else (∃ y0 : Value, (∃ y1 : List Blk, ((Go.Rx.Found 1 (Value.tuple { toList := [vi (0 : Int), vi q0] }) ({ h := [((1 : Nat), Blk.cells [vi a, vi b, vi c, vi d, vi e] (23 : Nat)), ((0 : Nat), Blk.row true [IntKind.i64] et nt ct ft)], next := (2 : Nat) }) (y0) (y1)) ∧ (K y0 y1)))))))))))))))
theorem con54_nrE (a b c d e : Int) (et nt ct : Nat) (ft : RF) (s : Int) (y : Int) (K : Value → List Blk → Prop) : con54_nrV a b c d e et nt ct ft s y K = bodyX (mk X54) (callN (mk X54) 4) (con54_nrA a b c d e et nt ct ft s y) Try.f54 [five' a b c d e, .slice none 0 0, rsl 0 0 nt ct, .int .i64 s, .int .i64 y] (stOf [.row true [.i64] et nt ct ft]) (Fd 1 K) := by kernel_rfl
set_option tactic.hygienic false in
theorem con54_nrP (a b c d e : Int) (et nt ct : Nat) (ft : RF) (s : Int) (y : Int) (K : Value → List Blk → Prop)  (hI : InC a b c d e) (hnt : nt ≤ 100000) (h : K (.tuple ⟨[.int .i64 (lastT a b c d e 0 zF nt ft s y).1, .int .i64 (lastT a b c d e 0 zF nt ft s y).2]⟩) []) : con54_nrV a b c d e et nt ct ft s y K := by
  unfold con54_nrV
  conv => zeta
  have G : askT a b c d e 0 zF nt ft s y = 0 → good a b c d e ∧ ((0 : Nat) : Int) = b ∧ (0 < nt → 0 ≤ lastC nt ft ∧ lastC nt ft < b ∧ fok a zF (lastC nt ft).toNat) := fun q => (by
    obtain ⟨g1, g2, g3, g4⟩ := bck_ok (askT_bck q).1
    refine ⟨g1, g2, fun hm => ?_⟩
    obtain ⟨k1, k2, k3, k4⟩ := g4 (Int.toNat (((nt : Nat) : Int) - 1)) (by omega)
    exact ⟨k1, k2, g3 _ (by show (lastC nt ft).toNat < _; have : lastC nt ft < b := k2; have : 0 ≤ lastC nt ft := k1; omega)⟩)
  unfold lastT at h
  repeat' (first | (with_reducible first | exact rfl | exact trivial | refine And.intro ?_ ?_ | refine br_intro (fun hq => ?_) fun hq => ?_ | refine if_both (fun hz => ?_) fun hz => ?_) | (intro) | fail)

  all_goals first
    | omega
    | assumption
    | contradiction
    | (have g := G (by assumption); unfold fok lastC at g; omega)
    | (refine fin0 (by kernel_rfl) (by kernel_rfl) ?_
       unfold lastC at h
       repeat' (split at h)
       all_goals first | exact h | omega | (exfalso; have g := G (by assumption); unfold fok lastC at g; omega) | (exfalso; simp_all; done))
def con54_rnV (a b c d e : Int) (el nl cl : Nat) (fl : RF) (s : Int) (y : Int) (K : Value → List Blk → Prop) : Prop := let q0 := (askT a b c d e nl fl (0 : Nat) zF s y); (t3 (((0 : Nat) + nl ≤ nl) ∧ (t3 ((InC a b c d e) ∧ ((@Eq Nat ((0 : Nat)) ((0 : Nat))) ∧ ((nl ≤ (100000 : Nat)) ∧ ((eK ∧ ((@Eq Nat (nl) (nl)) ∧ (@Eq Nat (cl) (cl)))) ∧ (eB ∧ ((True) ∧ (T0 ∧ (if (@Eq Int q0 ((0 : Int))) then (TS ∧ (T0 ∧ (∃ y0 : Value, (∃ y1 : List Blk, ((Go.Rx.Found 1 (Value.tuple { toList := [vi (0 : Int), vi (5 : Int)] }) ({ h := [((1 : Nat), Blk.cells [vi a, vi b, vi c, vi d, vi e] (23 : Nat)), ((0 : Nat), rT el nl cl fl)], next := (2 : Nat) }) (y0) (y1)) ∧ (K y0 y1)))))) else (∃ y0 : Value, (∃ y1 : List Blk, ((Go.Rx.Found 1 (Value.tuple { toList := [vi (0 : Int), vi q0] }) ({ h := [((1 : Nat), Blk.cells [vi a, vi b, vi c, vi d, vi e] (23 : Nat)), ((0 : Nat), rT el nl cl fl)], next := (2 : Nat) }) (y0) (y1)) ∧ (K y0 y1)))))))))))))))
theorem con54_rnE (a b c d e : Int) (el nl cl : Nat) (fl : RF) (s : Int) (y : Int) (K : Value → List Blk → Prop) : con54_rnV a b c d e el nl cl fl s y K = bodyX (mk X54) (callN (mk X54) 4) (con54_rnA a b c d e el nl cl fl s y) Try.f54 [five' a b c d e, rsl 0 0 nl cl, .slice none 0 0, .int .i64 s, .int .i64 y] (stOf [.row true [.i64, .i64] el nl cl fl]) (Fd 1 K) := by kernel_rfl
set_option tactic.hygienic false in
theorem con54_rnP (a b c d e : Int) (el nl cl : Nat) (fl : RF) (s : Int) (y : Int) (K : Value → List Blk → Prop)  (hI : InC a b c d e) (hnl : nl ≤ 100000) (h : K (.tuple ⟨[.int .i64 (lastT a b c d e nl fl 0 zF s y).1, .int .i64 (lastT a b c d e nl fl 0 zF s y).2]⟩) []) : con54_rnV a b c d e el nl cl fl s y K := by
  unfold con54_rnV
  conv => zeta
  have G : askT a b c d e nl fl 0 zF s y = 0 → good a b c d e ∧ ((nl : Nat) : Int) = b ∧ (0 < 0 → 0 ≤ lastC 0 zF ∧ lastC 0 zF < b ∧ fok a fl (lastC 0 zF).toNat) := fun q => (by
    obtain ⟨g1, g2, g3, g4⟩ := bck_ok (askT_bck q).1
    refine ⟨g1, g2, fun hm => ?_⟩
    obtain ⟨k1, k2, k3, k4⟩ := g4 (Int.toNat (((0 : Nat) : Int) - 1)) (by omega)
    exact ⟨k1, k2, g3 _ (by show (lastC 0 zF).toNat < _; have : lastC 0 zF < b := k2; have : 0 ≤ lastC 0 zF := k1; omega)⟩)
  unfold lastT at h
  repeat' (first | (with_reducible first | exact rfl | exact trivial | refine And.intro ?_ ?_ | refine br_intro (fun hq => ?_) fun hq => ?_ | refine if_both (fun hz => ?_) fun hz => ?_) | (intro) | fail)

  all_goals first
    | omega
    | assumption
    | contradiction
    | (have g := G (by assumption); unfold fok lastC at g; omega)
    | (refine fin0 (by kernel_rfl) (by kernel_rfl) ?_
       unfold lastC at h
       repeat' (split at h)
       all_goals first | exact h | omega | (exfalso; have g := G (by assumption); unfold fok lastC at g; omega) | (exfalso; simp_all; done))
def con54_rrV (a b c d e : Int) (el nl cl : Nat) (fl : RF) (et nt ct : Nat) (ft : RF) (s : Int) (y : Int) (K : Value → List Blk → Prop) : Prop := let q0 := ((↑nt : Int) - (1 : Int)); let q1 := (9223372036854775807 : Int); let q2 := (-9223372036854775808 : Int); let q3 := (askT a b c d e nl fl nt ft s y); let q4 := (@Eq Nat ((1 : Nat)) ((1 : Nat))); let q5 := (Int.toNat q0); let q6 := TS; let q7 := (ft q5 (0 : Nat)); let q8 := (Int.toNat q7); let q9 := (Int.toNat q7 < nl); let q10 := (q6 ∧ (@Eq Nat ((2 : Nat)) ((2 : Nat)))); let q11 := (((0 : Int) ≤ ft q5 (0 : Nat)) ∧ (ft q5 (0 : Nat) < (↑nl : Int))); let q12 := (∃ y0 : Value, (∃ y1 : List Blk, ((Go.Rx.Found 2 (Value.tuple { toList := [vi (0 : Int), vi (5 : Int)] }) ({ h := [((2 : Nat), Blk.cells [vi a, vi b, vi c, vi d, vi e] (23 : Nat)), ((0 : Nat), rT el nl cl fl), ((1 : Nat), Blk.row true [IntKind.i64] et nt ct ft)], next := (3 : Nat) }) (y0) (y1)) ∧ (K y0 y1)))); let q13 := (T0 ∧ q12); let q14 := (t2 q13); (t3 (((0 : Nat) + nl ≤ nl) ∧ (((0 : Nat) + nt ≤ nt) ∧ (t2 ((InC a b c d e) ∧ ((@Eq Nat ((0 : Nat)) ((0 : Nat))) ∧ ((nl ≤ (100000 : Nat)) ∧ ((eK ∧ ((@Eq Nat (nl) (nl)) ∧ (@Eq Nat (cl) (cl)))) ∧ (q4 ∧ ((nt ≤ (100000 : Nat)) ∧ (((@Eq (List IntKind) ([IntKind.i64]) ([IntKind.i64])) ∧ ((@Eq Nat (nt) (nt)) ∧ (@Eq Nat (ct) (ct)))) ∧ (eB ∧ ((True) ∧ (T0 ∧ (if (@Eq Int q3 ((0 : Int))) then (q6 ∧ (T0 ∧ (if ((0 : Int) < (↑nt : Int)) then (q6 ∧ (T0 ∧ (((q2 ≤ (↑nt : Int) - (1 : Int)) ∧ ((↑nt : Int) - (1 : Int) ≤ q1)) ∧ ((q6 ∧ q4) ∧ ((((0 : Int) ≤ (↑nt : Int) - (1 : Int)) ∧ ((↑nt : Int) - (1 : Int) < (↑nt : Int))) ∧ ((Int.toNat q0 < nt) ∧ (t4 (q10 ∧ (q11 ∧ (t3 (q9 ∧ (t2 (if (@Eq Int (fl q8 (0 : Nat)) ((1 : Int))) then (t5 (if (@Eq Int q7 (s)) then q14 else (t8 (q10 ∧ (q11 ∧ (t3 (q9 ∧ (t2 (((q2 ≤ a - fl q8 (1 : Nat)) ∧ (a - fl q8 (1 : Nat) ≤ q1)) ∧ (t3 (if (y ≤ a - fl q8 (1 : Nat)) then (T0 ∧ (∃ y0 : Value, (∃ y1 : List Blk, ((Go.Rx.Found 2 (Value.tuple { toList := [vi q7, vi (0 : Int)] }) ({ h := [((2 : Nat), Blk.cells [vi a, vi b, vi c, vi d, vi e] (23 : Nat)), ((0 : Nat), rT el nl cl fl), ((1 : Nat), Blk.row true [IntKind.i64] et nt ct ft)], next := (3 : Nat) }) (y0) (y1)) ∧ (K y0 y1))))) else q13))))))))))) else (T0 ∧ q14)))))))))))))) else q12))) else (∃ y0 : Value, (∃ y1 : List Blk, ((Go.Rx.Found 2 (Value.tuple { toList := [vi (0 : Int), vi q3] }) ({ h := [((2 : Nat), Blk.cells [vi a, vi b, vi c, vi d, vi e] (23 : Nat)), ((0 : Nat), rT el nl cl fl), ((1 : Nat), Blk.row true [IntKind.i64] et nt ct ft)], next := (3 : Nat) }) (y0) (y1)) ∧ (K y0 y1)))))))))))))))))))
theorem con54_rrE (a b c d e : Int) (el nl cl : Nat) (fl : RF) (et nt ct : Nat) (ft : RF) (s : Int) (y : Int) (K : Value → List Blk → Prop) : con54_rrV a b c d e el nl cl fl et nt ct ft s y K = bodyX (mk X54) (callN (mk X54) 4) (con54_rrA a b c d e el nl cl fl et nt ct ft s y) Try.f54 [five' a b c d e, rsl 0 0 nl cl, rsl 1 0 nt ct, .int .i64 s, .int .i64 y] (stOf [.row true [.i64, .i64] el nl cl fl, .row true [.i64] et nt ct ft]) (Fd 2 K) := by kernel_rfl
set_option tactic.hygienic false in
theorem con54_rrP (a b c d e : Int) (el nl cl : Nat) (fl : RF) (et nt ct : Nat) (ft : RF) (s : Int) (y : Int) (K : Value → List Blk → Prop)  (hI : InC a b c d e) (hnl : nl ≤ 100000) (hnt : nt ≤ 100000) (h : K (.tuple ⟨[.int .i64 (lastT a b c d e nl fl nt ft s y).1, .int .i64 (lastT a b c d e nl fl nt ft s y).2]⟩) []) : con54_rrV a b c d e el nl cl fl et nt ct ft s y K := by
  unfold con54_rrV
  conv => zeta
  have G : askT a b c d e nl fl nt ft s y = 0 → good a b c d e ∧ ((nl : Nat) : Int) = b ∧ (0 < nt → 0 ≤ lastC nt ft ∧ lastC nt ft < b ∧ fok a fl (lastC nt ft).toNat) := fun q => (by
    obtain ⟨g1, g2, g3, g4⟩ := bck_ok (askT_bck q).1
    refine ⟨g1, g2, fun hm => ?_⟩
    obtain ⟨k1, k2, k3, k4⟩ := g4 (Int.toNat (((nt : Nat) : Int) - 1)) (by omega)
    exact ⟨k1, k2, g3 _ (by show (lastC nt ft).toNat < _; have : lastC nt ft < b := k2; have : 0 ≤ lastC nt ft := k1; omega)⟩)
  unfold lastT at h
  repeat' (first | (with_reducible first | exact rfl | exact trivial | refine And.intro ?_ ?_ | refine br_intro (fun hq => ?_) fun hq => ?_ | refine if_both (fun hz => ?_) fun hz => ?_) | (intro) | fail)

  all_goals first
    | omega
    | assumption
    | contradiction
    | (have g := G (by assumption); unfold fok lastC at g; omega)
    | (refine fin0 (by kernel_rfl) (by kernel_rfl) ?_
       unfold lastC at h
       repeat' (split at h)
       all_goals first | exact h | omega | (exfalso; have g := G (by assumption); unfold fok lastC at g; omega) | (exfalso; simp_all; done))
theorem con54_ok : BodyOk (mk X54) 4 Try.f54 con54 := by
  intro vs bs K hh hro
  clear hro
  unfold con54 at hh
  split at hh
  · rename_i u vl vt s y
    obtain ⟨a, b, c, d, e, rfl, hI, hh0⟩ := five_inv hh
    rcases parse_inv hh0 with ⟨rfl, hh1⟩ | ⟨el, nl, cl, fl, btl, rfl, hnl, rfl, hh1⟩ <;> clear hh0
    · rcases parse_inv hh1 with ⟨rfl, hh2⟩ | ⟨et, nt, ct, ft, btt, rfl, hnt, rfl, hh2⟩ <;> clear hh1
      · obtain ⟨rfl, -, hc⟩ := hh2
        exact ⟨_, _, cast (con54_nnE a b c d e  s y K) (con54_nnP a b c d e  s y K hI   hc)⟩
      · obtain ⟨rfl, -, hc⟩ := hh2
        exact ⟨_, _, cast (con54_nrE a b c d e et nt ct ft s y K) (con54_nrP a b c d e et nt ct ft s y K hI hnt  hc)⟩
    · rcases parse_inv hh1 with ⟨rfl, hh2⟩ | ⟨et, nt, ct, ft, btt, rfl, hnt, rfl, hh2⟩ <;> clear hh1
      · obtain ⟨rfl, -, hc⟩ := hh2
        exact ⟨_, _, cast (con54_rnE a b c d e el nl cl fl s y K) (con54_rnP a b c d e el nl cl fl s y K hI hnl  hc)⟩
      · obtain ⟨rfl, -, hc⟩ := hh2
        exact ⟨_, _, cast (con54_rrE a b c d e el nl cl fl et nt ct ft s y K) (con54_rrP a b c d e el nl cl fl et nt ct ft s y K hI hnl hnt  hc)⟩
  · exact hh.elim
theorem con54_told : Told 54 (specOf con54) := told (X := X54) X54_told (by kernel_rfl) (by kernel_rfl) (by kernel_rfl) con54_ok
end Go.Proofs.Ytkflmglpniebfaa.Fr
namespace Go.Proofs.Ytkflmglpniebfaa.Fr
set_option maxRecDepth 100000
set_option maxHeartbeats 4000000
open Go.Rx
open Go.RowKit (Below)
set_option linter.unusedVariables false
@[reducible] def XZ0 : List (Nat × Rx.Spec) := []
theorem XZ0_told : ∀ p ∈ XZ0, Told p.1 p.2 := fun _ h => by cases h
def con92N : Con := fun vs bs K => match vs with
  | [.slice none 0 0] => bs = [] ∧ (True) ∧ (K (.slice none 0 0) [])
  | _ => False

def con92N_zA  : Ann := fun _ _ _ => none
def con92R : Con := fun vs bs K => match vs with
  | [vl] => parseR [.i64, .i64] 0 vl bs fun nl fl j0 bs0 => bs0 = [] ∧ (True) ∧ (∀ cp, nl ≤ cp → K (rsl j0 0 nl cp) [.row false [.i64, .i64] 54 nl cp fl])
  | _ => False

def con92R_rA (el nl cl : Nat) (fl : RF) : Ann := fun _ _ _ => none
def con93N : Con := fun vs bs K => match vs with
  | [.slice none 0 0] => bs = [] ∧ (True) ∧ (K (.slice none 0 0) [])
  | _ => False

def con93N_zA  : Ann := fun _ _ _ => none
def con93R : Con := fun vs bs K => match vs with
  | [vl] => parseR [.i64] 0 vl bs fun nl fl j0 bs0 => bs0 = [] ∧ (True) ∧ (∀ cp, nl ≤ cp → K (rsl j0 0 nl cp) [.row false [.i64] 3 nl cp fl])
  | _ => False

def con93R_rA (el nl cl : Nat) (fl : RF) : Ann := fun _ _ _ => none
def con93G : Con := fun vs bs K => match vs with
  | [vl] => parseR [.i64] 0 vl bs fun nl fl j0 bs0 => bs0 = [] ∧ ((0 < nl)) ∧ (∀ cp, nl ≤ cp + 1 → K (rsl j0 0 nl (cp + 1)) [.row false [.i64] 3 nl (cp + 1) fl])
  | _ => False

def con93G_rA (el nl cl : Nat) (fl : RF) : Ann := fun _ _ _ => none
def con93E : Con := fun vs bs K => match vs with
  | [vl] => parseR [.i64] 0 vl bs fun nl fl j0 bs0 => bs0 = [] ∧ ((nl = 0)) ∧ (K (rsl j0 0 0 0) [.row false [.i64] 3 0 0 fl])
  | _ => False

def con93E_rA (el nl cl : Nat) (fl : RF) : Ann := fun _ _ _ => none
def con92N_zV  (K : Value → List Blk → Prop) : Prop := (T0 ∧ (TS ∧ (∃ y0 : Value, (∃ y1 : List Blk, ((Go.Rx.Found 0 (vn) ({ h := [], next := (0 : Nat) }) (y0) (y1)) ∧ (K y0 y1))))))
theorem con92N_zE  (K : Value → List Blk → Prop) : con92N_zV  K = bodyX (mk XZ0) (callN (mk XZ0) 4) (con92N_zA ) Try.f92 [.slice none 0 0] (stOf []) (Fd 0 K) := by kernel_rfl
set_option tactic.hygienic false in
theorem con92N_zP  (K : Value → List Blk → Prop)  (h : K (.slice none 0 0) []) : con92N_zV  K := by
  unfold con92N_zV

  repeat' (first | (with_reducible first | exact rfl | exact trivial | refine And.intro ?_ ?_ | refine br_intro (fun hq => ?_) fun hq => ?_ | refine if_both (fun hz => ?_) fun hz => ?_) | (intro) | fail)

  all_goals first
    | omega
    | assumption
    | exact fin0 (by kernel_rfl) (by kernel_rfl) h
    | contradiction
    | (exfalso; simp at hq; done)
theorem con92N_ok : BodyOk (mk XZ0) 4 Try.f92 con92N := by
  intro vs bs K hh hro
  clear hro
  unfold con92N at hh
  split at hh
  · obtain ⟨rfl, -, hc⟩ := hh
    exact ⟨_, _, cast (con92N_zE   K) (con92N_zP   K   hc)⟩
  · exact hh.elim
theorem con92N_told : Told 92 (specOf con92N) := told (X := XZ0) XZ0_told (by kernel_rfl) (by kernel_rfl) (by kernel_rfl) con92N_ok
def con92R_rV (el nl cl : Nat) (fl : RF) (K : Value → List Blk → Prop) : Prop := let q0 := TS; let q1 := ((0 : Nat), rT el nl cl fl); let q2 := ((1 : Nat), rF (54 : Nat) (0 : Nat) (0 : Nat) (litF (List.length [IntKind.i64, IntKind.i64]) [])); (T0 ∧ (q0 ∧ (q0 ∧ (t4 (q0 ∧ (q0 ∧ (t4 (((0 : Nat) + nl ≤ nl) ∧ ((nl ≤ (100000 : Nat)) ∧ (T0 ∧ ((@Eq Nat ((0 : Nat)) ((0 : Nat))) ∧ (Go.Rx.br (decide ((0 : Nat) < nl)) (∀ y0 : Nat, let q3 := (y0 - (1 : Nat) + (1 : Nat)); ((nl ≤ y0) → (∃ y1 : Value, (∃ y2 : List Blk, ((Go.Rx.Found 1 (rsl (2 : Nat) (0 : Nat) nl q3) ({ h := [((2 : Nat), rF (54 : Nat) nl q3 (appF (fun x x_1 ↦ (0 : Int)) (0 : Nat) fl (0 : Nat))), q2, q1], next := (3 : Nat) }) (y1) (y2)) ∧ (K y1 y2)))))) (∃ y0 : Value, (∃ y1 : List Blk, ((Go.Rx.Found 1 (rsl (1 : Nat) (0 : Nat) (0 : Nat) (0 : Nat)) ({ h := [q2, q1], next := (2 : Nat) }) (y0) (y1)) ∧ (K y0 y1))))))))))))))))
theorem con92R_rE (el nl cl : Nat) (fl : RF) (K : Value → List Blk → Prop) : con92R_rV el nl cl fl K = bodyX (mk XZ0) (callN (mk XZ0) 4) (con92R_rA el nl cl fl) Try.f92 [rsl 0 0 nl cl] (stOf [.row true [.i64, .i64] el nl cl fl]) (Fd 1 K) := by kernel_rfl
set_option tactic.hygienic false in
theorem con92R_rP (el nl cl : Nat) (fl : RF) (K : Value → List Blk → Prop)  (hnl : nl ≤ 100000) (h : ∀ cp, nl ≤ cp → K (rsl 1 0 nl cp) [.row false [.i64, .i64] 54 nl cp fl]) : con92R_rV el nl cl fl K := by
  unfold con92R_rV
  conv => zeta

  repeat' (first | (with_reducible first | exact rfl | exact trivial | refine And.intro ?_ ?_ | refine br_intro (fun hq => ?_) fun hq => ?_ | refine if_both (fun hz => ?_) fun hz => ?_) | (intro) | fail)

  all_goals first
    | omega
    | assumption
    | (refine fin1 rfl ?_ (h _ (by omega)); (intro i j hi hj; simp [appF]))
    | (cases y0 with
       | zero => omega
       | succ cp => (refine fin1 rfl ?_ (h _ (by omega)); (intro i j hi hj; simp [appF])))
    | (obtain rfl : nl = 0 := (by simp at hq; omega); refine fin1 rfl (fun i j hi hj => absurd hi (by omega)) (h _ (by omega)))
    | (obtain rfl : nl = 0 := (by simp at hq; omega); refine fin1 rfl (fun i j hi hj => absurd hi (by omega)) h)
    | (exfalso; simp at hq; omega)
theorem con92R_ok : BodyOk (mk XZ0) 4 Try.f92 con92R := by
  intro vs bs K hh hro
  clear hro
  unfold con92R at hh
  split at hh
  · rename_i vl
    obtain ⟨el, nl, cl, fl, btl, rfl, hnl, rfl, hh0⟩ := parseR_inv hh
    obtain ⟨rfl, -, hc⟩ := hh0
    exact ⟨_, _, cast (con92R_rE el nl cl fl  K) (con92R_rP el nl cl fl  K hnl  hc)⟩
  · exact hh.elim
theorem con92R_told : Told 92 (specOf con92R) := told (X := XZ0) XZ0_told (by kernel_rfl) (by kernel_rfl) (by kernel_rfl) con92R_ok
def con93N_zV  (K : Value → List Blk → Prop) : Prop := (T0 ∧ (TS ∧ (∃ y0 : Value, (∃ y1 : List Blk, ((Go.Rx.Found 0 (vn) ({ h := [], next := (0 : Nat) }) (y0) (y1)) ∧ (K y0 y1))))))
theorem con93N_zE  (K : Value → List Blk → Prop) : con93N_zV  K = bodyX (mk XZ0) (callN (mk XZ0) 4) (con93N_zA ) Try.f93 [.slice none 0 0] (stOf []) (Fd 0 K) := by kernel_rfl
set_option tactic.hygienic false in
theorem con93N_zP  (K : Value → List Blk → Prop)  (h : K (.slice none 0 0) []) : con93N_zV  K := by
  unfold con93N_zV

  repeat' (first | (with_reducible first | exact rfl | exact trivial | refine And.intro ?_ ?_ | refine br_intro (fun hq => ?_) fun hq => ?_ | refine if_both (fun hz => ?_) fun hz => ?_) | (intro) | fail)

  all_goals first
    | omega
    | assumption
    | exact fin0 (by kernel_rfl) (by kernel_rfl) h
    | contradiction
    | (exfalso; simp at hq; done)
theorem con93N_ok : BodyOk (mk XZ0) 4 Try.f93 con93N := by
  intro vs bs K hh hro
  clear hro
  unfold con93N at hh
  split at hh
  · obtain ⟨rfl, -, hc⟩ := hh
    exact ⟨_, _, cast (con93N_zE   K) (con93N_zP   K   hc)⟩
  · exact hh.elim
theorem con93N_told : Told 93 (specOf con93N) := told (X := XZ0) XZ0_told (by kernel_rfl) (by kernel_rfl) (by kernel_rfl) con93N_ok
def con93R_rV (el nl cl : Nat) (fl : RF) (K : Value → List Blk → Prop) : Prop := let q0 := TS; let q1 := ((0 : Nat), Blk.row true [IntKind.i64] el nl cl fl); let q2 := ((1 : Nat), Blk.row false [IntKind.i64] (3 : Nat) (0 : Nat) (0 : Nat) (litF (List.length [IntKind.i64]) [])); (T0 ∧ (q0 ∧ (q0 ∧ (t4 (q0 ∧ (q0 ∧ (t4 (((0 : Nat) + nl ≤ nl) ∧ ((nl ≤ (100000 : Nat)) ∧ (T0 ∧ ((@Eq Nat ((0 : Nat)) ((0 : Nat))) ∧ (Go.Rx.br (decide ((0 : Nat) < nl)) (∀ y0 : Nat, let q3 := (y0 - (1 : Nat) + (1 : Nat)); ((nl ≤ y0) → (∃ y1 : Value, (∃ y2 : List Blk, ((Go.Rx.Found 1 (rsl (2 : Nat) (0 : Nat) nl q3) ({ h := [((2 : Nat), Blk.row false [IntKind.i64] (3 : Nat) nl q3 (appF (fun x x_1 ↦ (0 : Int)) (0 : Nat) fl (0 : Nat))), q2, q1], next := (3 : Nat) }) (y1) (y2)) ∧ (K y1 y2)))))) (∃ y0 : Value, (∃ y1 : List Blk, ((Go.Rx.Found 1 (rsl (1 : Nat) (0 : Nat) (0 : Nat) (0 : Nat)) ({ h := [q2, q1], next := (2 : Nat) }) (y0) (y1)) ∧ (K y0 y1))))))))))))))))
theorem con93R_rE (el nl cl : Nat) (fl : RF) (K : Value → List Blk → Prop) : con93R_rV el nl cl fl K = bodyX (mk XZ0) (callN (mk XZ0) 4) (con93R_rA el nl cl fl) Try.f93 [rsl 0 0 nl cl] (stOf [.row true [.i64] el nl cl fl]) (Fd 1 K) := by kernel_rfl
set_option tactic.hygienic false in
theorem con93R_rP (el nl cl : Nat) (fl : RF) (K : Value → List Blk → Prop)  (hnl : nl ≤ 100000) (h : ∀ cp, nl ≤ cp → K (rsl 1 0 nl cp) [.row false [.i64] 3 nl cp fl]) : con93R_rV el nl cl fl K := by
  unfold con93R_rV
  conv => zeta

  repeat' (first | (with_reducible first | exact rfl | exact trivial | refine And.intro ?_ ?_ | refine br_intro (fun hq => ?_) fun hq => ?_ | refine if_both (fun hz => ?_) fun hz => ?_) | (intro) | fail)

  all_goals first
    | omega
    | assumption
    | (refine fin1 rfl ?_ (h _ (by omega)); (intro i j hi hj; simp [appF]))
    | (cases y0 with
       | zero => omega
       | succ cp => (refine fin1 rfl ?_ (h _ (by omega)); (intro i j hi hj; simp [appF])))
    | (obtain rfl : nl = 0 := (by simp at hq; omega); refine fin1 rfl (fun i j hi hj => absurd hi (by omega)) (h _ (by omega)))
    | (obtain rfl : nl = 0 := (by simp at hq; omega); refine fin1 rfl (fun i j hi hj => absurd hi (by omega)) h)
    | (exfalso; simp at hq; omega)
theorem con93R_ok : BodyOk (mk XZ0) 4 Try.f93 con93R := by
  intro vs bs K hh hro
  clear hro
  unfold con93R at hh
  split at hh
  · rename_i vl
    obtain ⟨el, nl, cl, fl, btl, rfl, hnl, rfl, hh0⟩ := parseR_inv hh
    obtain ⟨rfl, -, hc⟩ := hh0
    exact ⟨_, _, cast (con93R_rE el nl cl fl  K) (con93R_rP el nl cl fl  K hnl  hc)⟩
  · exact hh.elim
theorem con93R_told : Told 93 (specOf con93R) := told (X := XZ0) XZ0_told (by kernel_rfl) (by kernel_rfl) (by kernel_rfl) con93R_ok
def con93G_rV (el nl cl : Nat) (fl : RF) (K : Value → List Blk → Prop) : Prop := let q0 := TS; let q1 := ((0 : Nat), Blk.row true [IntKind.i64] el nl cl fl); let q2 := ((1 : Nat), Blk.row false [IntKind.i64] (3 : Nat) (0 : Nat) (0 : Nat) (litF (List.length [IntKind.i64]) [])); (T0 ∧ (q0 ∧ (q0 ∧ (t4 (q0 ∧ (q0 ∧ (t4 (((0 : Nat) + nl ≤ nl) ∧ ((nl ≤ (100000 : Nat)) ∧ (T0 ∧ ((@Eq Nat ((0 : Nat)) ((0 : Nat))) ∧ (Go.Rx.br (decide ((0 : Nat) < nl)) (∀ y0 : Nat, let q3 := (y0 - (1 : Nat) + (1 : Nat)); ((nl ≤ y0) → (∃ y1 : Value, (∃ y2 : List Blk, ((Go.Rx.Found 1 (rsl (2 : Nat) (0 : Nat) nl q3) ({ h := [((2 : Nat), Blk.row false [IntKind.i64] (3 : Nat) nl q3 (appF (fun x x_1 ↦ (0 : Int)) (0 : Nat) fl (0 : Nat))), q2, q1], next := (3 : Nat) }) (y1) (y2)) ∧ (K y1 y2)))))) (∃ y0 : Value, (∃ y1 : List Blk, ((Go.Rx.Found 1 (rsl (1 : Nat) (0 : Nat) (0 : Nat) (0 : Nat)) ({ h := [q2, q1], next := (2 : Nat) }) (y0) (y1)) ∧ (K y0 y1))))))))))))))))
theorem con93G_rE (el nl cl : Nat) (fl : RF) (K : Value → List Blk → Prop) : con93G_rV el nl cl fl K = bodyX (mk XZ0) (callN (mk XZ0) 4) (con93G_rA el nl cl fl) Try.f93 [rsl 0 0 nl cl] (stOf [.row true [.i64] el nl cl fl]) (Fd 1 K) := by kernel_rfl
set_option tactic.hygienic false in
theorem con93G_rP (el nl cl : Nat) (fl : RF) (K : Value → List Blk → Prop)  (hnl : nl ≤ 100000) (h1 : 0 < nl) (h : ∀ cp, nl ≤ cp + 1 → K (rsl 1 0 nl (cp + 1)) [.row false [.i64] 3 nl (cp + 1) fl]) : con93G_rV el nl cl fl K := by
  unfold con93G_rV
  conv => zeta

  repeat' (first | (with_reducible first | exact rfl | exact trivial | refine And.intro ?_ ?_ | refine br_intro (fun hq => ?_) fun hq => ?_ | refine if_both (fun hz => ?_) fun hz => ?_) | (intro) | fail)

  all_goals first
    | omega
    | assumption
    | (refine fin1 rfl ?_ (h _ (by omega)); (intro i j hi hj; simp [appF]))
    | (cases y0 with
       | zero => omega
       | succ cp => (refine fin1 rfl ?_ (h _ (by omega)); (intro i j hi hj; simp [appF])))
    | (obtain rfl : nl = 0 := (by simp at hq; omega); refine fin1 rfl (fun i j hi hj => absurd hi (by omega)) (h _ (by omega)))
    | (obtain rfl : nl = 0 := (by simp at hq; omega); refine fin1 rfl (fun i j hi hj => absurd hi (by omega)) h)
    | (exfalso; simp at hq; omega)
theorem con93G_ok : BodyOk (mk XZ0) 4 Try.f93 con93G := by
  intro vs bs K hh hro
  clear hro
  unfold con93G at hh
  split at hh
  · rename_i vl
    obtain ⟨el, nl, cl, fl, btl, rfl, hnl, rfl, hh0⟩ := parseR_inv hh
    obtain ⟨rfl, h1, hc⟩ := hh0
    exact ⟨_, _, cast (con93G_rE el nl cl fl  K) (con93G_rP el nl cl fl  K hnl h1 hc)⟩
  · exact hh.elim
theorem con93G_told : Told 93 (specOf con93G) := told (X := XZ0) XZ0_told (by kernel_rfl) (by kernel_rfl) (by kernel_rfl) con93G_ok
def con93E_rV (el nl cl : Nat) (fl : RF) (K : Value → List Blk → Prop) : Prop := let q0 := TS; let q1 := ((0 : Nat), Blk.row true [IntKind.i64] el nl cl fl); let q2 := ((1 : Nat), Blk.row false [IntKind.i64] (3 : Nat) (0 : Nat) (0 : Nat) (litF (List.length [IntKind.i64]) [])); (T0 ∧ (q0 ∧ (q0 ∧ (t4 (q0 ∧ (q0 ∧ (t4 (((0 : Nat) + nl ≤ nl) ∧ ((nl ≤ (100000 : Nat)) ∧ (T0 ∧ ((@Eq Nat ((0 : Nat)) ((0 : Nat))) ∧ (Go.Rx.br (decide ((0 : Nat) < nl)) (∀ y0 : Nat, let q3 := (y0 - (1 : Nat) + (1 : Nat)); ((nl ≤ y0) → (∃ y1 : Value, (∃ y2 : List Blk, ((Go.Rx.Found 1 (rsl (2 : Nat) (0 : Nat) nl q3) ({ h := [((2 : Nat), Blk.row false [IntKind.i64] (3 : Nat) nl q3 (appF (fun x x_1 ↦ (0 : Int)) (0 : Nat) fl (0 : Nat))), q2, q1], next := (3 : Nat) }) (y1) (y2)) ∧ (K y1 y2)))))) (∃ y0 : Value, (∃ y1 : List Blk, ((Go.Rx.Found 1 (rsl (1 : Nat) (0 : Nat) (0 : Nat) (0 : Nat)) ({ h := [q2, q1], next := (2 : Nat) }) (y0) (y1)) ∧ (K y0 y1))))))))))))))))
theorem con93E_rE (el nl cl : Nat) (fl : RF) (K : Value → List Blk → Prop) : con93E_rV el nl cl fl K = bodyX (mk XZ0) (callN (mk XZ0) 4) (con93E_rA el nl cl fl) Try.f93 [rsl 0 0 nl cl] (stOf [.row true [.i64] el nl cl fl]) (Fd 1 K) := by kernel_rfl
set_option tactic.hygienic false in
theorem con93E_rP (el nl cl : Nat) (fl : RF) (K : Value → List Blk → Prop)  (hnl : nl ≤ 100000) (h1 : nl = 0) (h : K (rsl 1 0 0 0) [.row false [.i64] 3 0 0 fl]) : con93E_rV el nl cl fl K := by
  unfold con93E_rV
  conv => zeta

  repeat' (first | (with_reducible first | exact rfl | exact trivial | refine And.intro ?_ ?_ | refine br_intro (fun hq => ?_) fun hq => ?_ | refine if_both (fun hz => ?_) fun hz => ?_) | (intro) | fail)

  all_goals first
    | omega
    | assumption
    | (refine fin1 rfl ?_ (h _ (by omega)); (intro i j hi hj; simp [appF]))
    | (cases y0 with
       | zero => omega
       | succ cp => (refine fin1 rfl ?_ (h _ (by omega)); (intro i j hi hj; simp [appF])))
    | (obtain rfl : nl = 0 := (by simp at hq; omega); refine fin1 rfl (fun i j hi hj => absurd hi (by omega)) (h _ (by omega)))
    | (obtain rfl : nl = 0 := (by simp at hq; omega); refine fin1 rfl (fun i j hi hj => absurd hi (by omega)) h)
    | (exfalso; simp at hq; omega)
theorem con93E_ok : BodyOk (mk XZ0) 4 Try.f93 con93E := by
  intro vs bs K hh hro
  clear hro
  unfold con93E at hh
  split at hh
  · rename_i vl
    obtain ⟨el, nl, cl, fl, btl, rfl, hnl, rfl, hh0⟩ := parseR_inv hh
    obtain ⟨rfl, h1, hc⟩ := hh0
    exact ⟨_, _, cast (con93E_rE el nl cl fl  K) (con93E_rP el nl cl fl  K hnl h1 hc)⟩
  · exact hh.elim
theorem con93E_told : Told 93 (specOf con93E) := told (X := XZ0) XZ0_told (by kernel_rfl) (by kernel_rfl) (by kernel_rfl) con93E_ok
end Go.Proofs.Ytkflmglpniebfaa.Fr
namespace Go.Proofs.Ytkflmglpniebfaa.Fr
set_option maxRecDepth 100000
set_option maxHeartbeats 4000000
open Go.Rx
open Go.RowKit (Below)
set_option linter.unusedVariables false
def con92a : Con := fun vs bs K => match vs with
  | [.slice none 0 0] => bs = [] ∧ K (.slice none 0 0) []
  | [v] => parseR [.i64, .i64] 0 v bs fun n f j bs => bs = [] ∧ ∀ cp, n ≤ cp → K (rsl j 0 n cp) [.row false [.i64, .i64] 54 n cp f]
  | _ => False
theorem con92a_told : Told 92 (specOf con92a) := con92N_told.or con92R_told fun vs bs K x => by
  unfold con92a at x
  split at x
  · exact .inl ⟨x.1, trivial, x.2⟩
  · refine .inr ?_
    unfold con92R
    exact parseR_mono (fun n f j bs y => ⟨y.1, trivial, y.2⟩) x
  · exact x.elim
def con93a : Con := fun vs bs K => match vs with
  | [.slice none 0 0] => bs = [] ∧ K (.slice none 0 0) []
  | [v] => parseR [.i64] 0 v bs fun n f j bs => bs = [] ∧ ∀ cp, n ≤ cp → K (rsl j 0 n cp) [.row false [.i64] 3 n cp f]
  | _ => False
theorem con93a_told : Told 93 (specOf con93a) := con93N_told.or con93R_told fun vs bs K x => by
  unfold con93a at x
  split at x
  · exact .inl ⟨x.1, trivial, x.2⟩
  · refine .inr ?_
    unfold con93R
    exact parseR_mono (fun n f j bs y => ⟨y.1, trivial, y.2⟩) x
  · exact x.elim
end Go.Proofs.Ytkflmglpniebfaa.Fr
namespace Go.Proofs.Ytkflmglpniebfaa.Fr
set_option maxRecDepth 100000
set_option maxHeartbeats 4000000
open Go.Rx
open Go.RowKit (Below)
set_option linter.unusedVariables false
def con35 : Con := fun vs bs K => match vs with
  | [u, v, .int .i64 x] => five u fun a b c d e => parse [.i64, .i64] 0 v bs fun n f _ bs => bs = [] ∧ K (.tuple ⟨[.bool (halfF a b c d e n f x).1, .int .i64 (halfF a b c d e n f x).2]⟩) []
  | _ => False

def con35_nA (a : Int) (b : Int) (c : Int) (d : Int) (e : Int) (x : Int) : Ann := fun _ _ _ => none
def con35_rA (el nl cl : Nat) (fl : RF) (a : Int) (b : Int) (c : Int) (d : Int) (e : Int) (x : Int) : Ann := fun _ _ _ => none
def con35_nV (a : Int) (b : Int) (c : Int) (d : Int) (e : Int) (x : Int) (K : Value → List Blk → Prop) : Prop := let q0 := (Prod.snd (ckF a b c d e (0 : Nat) zF)); let q1 := (t4 (False)); let q2 := (T0 ∧ (∃ y0 : Value, (∃ y1 : List Blk, ((Go.Rx.Found 0 (Value.tuple { toList := [Value.bool false, vi (7 : Int)] }) ({ h := [((1 : Nat), Blk.cells [vi a, vi b, vi c, vi d, vi e] (23 : Nat)), ((0 : Nat), Blk.cells [vi a, vi b, vi c, vi d, vi e] (23 : Nat))], next := (2 : Nat) }) (y0) (y1)) ∧ (K y0 y1))))); (t6 ((InC a b c d e) ∧ (eB ∧ (T0 ∧ (if (@Eq Int q0 ((0 : Int))) then (T0 ∧ (if (x < (0 : Int)) then q2 else (t2 (if (b ≤ x) then q2 else (T0 ∧ q1))))) else (T0 ∧ (if (@Eq Int q0 ((0 : Int))) then q1 else (∃ y0 : Value, (∃ y1 : List Blk, ((Go.Rx.Found 0 (Value.tuple { toList := [Value.bool false, vi q0] }) ({ h := [((1 : Nat), Blk.cells [vi a, vi b, vi c, vi d, vi e] (23 : Nat)), ((0 : Nat), Blk.cells [vi a, vi b, vi c, vi d, vi e] (23 : Nat))], next := (2 : Nat) }) (y0) (y1)) ∧ (K y0 y1)))))))))))
theorem con35_nE (a : Int) (b : Int) (c : Int) (d : Int) (e : Int) (x : Int) (K : Value → List Blk → Prop) : con35_nV a b c d e x K = bodyX (mk X3) (callN (mk X3) 4) (con35_nA a b c d e x) Try.f35 [five' a b c d e, .slice none 0 0, .int .i64 x] (stOf []) (Fd 0 K) := by kernel_rfl
set_option tactic.hygienic false in
theorem con35_nP (a : Int) (b : Int) (c : Int) (d : Int) (e : Int) (x : Int) (K : Value → List Blk → Prop)  (hI : InC a b c d e) (h : K (.tuple ⟨[.bool (halfF a b c d e 0 zF x).1, .int .i64 (halfF a b c d e 0 zF x).2]⟩) []) : con35_nV a b c d e x K := by
  unfold con35_nV
  conv => zeta
  have G : (ckF a b c d e 0 zF).2 = 0 → good a b c d e ∧ ((0 : Nat) : Int) = b ∧ ∀ i, i < 0 → fok a zF i := ckF_zero
  unfold halfF askF at h
  repeat' (first | (with_reducible first | exact rfl | exact trivial | refine And.intro ?_ ?_ | refine br_intro (fun hq => ?_) fun hq => ?_ | refine if_both (fun hz => ?_) fun hz => ?_) | (intro) | fail)
  all_goals first
    | omega
    | assumption
    | (have g := G (by assumption)
       have g2 := g.2.2 x.toNat (by omega)
       unfold fok at g2
       have g3 := mul_bd ⟨g.1.1, g.1.2.1⟩ (x := x) (b := b) (by omega) (by omega) (by omega)
       omega)
    | (have g := G (by assumption); omega)
    | (have g := chk_good (by assumption); omega)
    | (refine fin0 (by kernel_rfl) (by kernel_rfl) ?_
       repeat' (split at h)
       all_goals first | exact h | omega | (rw [show (ckF a b c d e 0 zF).2 = 0 by assumption]; exact h))
    | (refine fin0 (by kernel_rfl) (by kernel_rfl) ?_
       have g := G (by assumption)
       repeat' (split at h)
       all_goals first | exact h | omega | (rw [show (ckF a b c d e 0 zF).2 = 0 by assumption]; exact h))
    | (have g := G (by assumption)
       have g4 : chk a b c d e = 0 := if_pos g.1
       omega)
def con35_rV (el nl cl : Nat) (fl : RF) (a : Int) (b : Int) (c : Int) (d : Int) (e : Int) (x : Int) (K : Value → List Blk → Prop) : Prop := let q0 := (Prod.snd (ckF a b c d e nl fl)); let q1 := (((0 : Int) ≤ x) ∧ (x < (↑nl : Int))); let q2 := (TS ∧ (@Eq Nat ((2 : Nat)) ((2 : Nat)))); let q3 := (T0 ∧ (∃ y0 : Value, (∃ y1 : List Blk, ((Go.Rx.Found 1 (Value.tuple { toList := [Value.bool false, vi (7 : Int)] }) ({ h := [((2 : Nat), Blk.cells [vi a, vi b, vi c, vi d, vi e] (23 : Nat)), ((1 : Nat), Blk.cells [vi a, vi b, vi c, vi d, vi e] (23 : Nat)), ((0 : Nat), rT el nl cl fl)], next := (3 : Nat) }) (y0) (y1)) ∧ (K y0 y1))))); let q4 := (t3 (∃ y0 : Value, (∃ y1 : List Blk, ((Go.Rx.Found 1 (Value.tuple { toList := [Value.bool false, vi (0 : Int)] }) ({ h := [((2 : Nat), Blk.cells [vi a, vi b, vi c, vi d, vi e] (23 : Nat)), ((1 : Nat), Blk.cells [vi a, vi b, vi c, vi d, vi e] (23 : Nat)), ((0 : Nat), rT el nl cl fl)], next := (3 : Nat) }) (y0) (y1)) ∧ (K y0 y1))))); let q5 := (t4 (q2 ∧ (q1 ∧ (t3 ((Int.toNat x < nl) ∧ (t2 (if (@Eq Int (fl (Int.toNat x) (0 : Nat)) ((0 : Int))) then (T0 ∧ q4) else (t4 (q2 ∧ (q1 ∧ (t3 ((Int.toNat x < nl) ∧ (t2 ((((-9223372036854775808 : Int) ≤ (2 : Int) * fl (Int.toNat x) (1 : Nat)) ∧ ((2 : Int) * fl (Int.toNat x) (1 : Nat) ≤ (9223372036854775807 : Int))) ∧ (t5 (if (a < (2 : Int) * fl (Int.toNat x) (1 : Nat)) then (t3 (∃ y0 : Value, (∃ y1 : List Blk, ((Go.Rx.Found 1 (Value.tuple { toList := [Value.bool true, vi (0 : Int)] }) ({ h := [((2 : Nat), Blk.cells [vi a, vi b, vi c, vi d, vi e] (23 : Nat)), ((1 : Nat), Blk.cells [vi a, vi b, vi c, vi d, vi e] (23 : Nat)), ((0 : Nat), rT el nl cl fl)], next := (3 : Nat) }) (y0) (y1)) ∧ (K y0 y1))))) else q4)))))))))))))))); (t5 (((0 : Nat) + nl ≤ nl) ∧ ((InC a b c d e) ∧ ((@Eq Nat ((0 : Nat)) ((0 : Nat))) ∧ ((nl ≤ (100000 : Nat)) ∧ ((eK ∧ ((@Eq Nat (nl) (nl)) ∧ (@Eq Nat (cl) (cl)))) ∧ (eB ∧ (T0 ∧ (if (@Eq Int q0 ((0 : Int))) then (T0 ∧ (if (x < (0 : Int)) then q3 else (t2 (if (b ≤ x) then q3 else (T0 ∧ q5))))) else (T0 ∧ (if (@Eq Int q0 ((0 : Int))) then q5 else (∃ y0 : Value, (∃ y1 : List Blk, ((Go.Rx.Found 1 (Value.tuple { toList := [Value.bool false, vi q0] }) ({ h := [((2 : Nat), Blk.cells [vi a, vi b, vi c, vi d, vi e] (23 : Nat)), ((1 : Nat), Blk.cells [vi a, vi b, vi c, vi d, vi e] (23 : Nat)), ((0 : Nat), rT el nl cl fl)], next := (3 : Nat) }) (y0) (y1)) ∧ (K y0 y1)))))))))))))))
theorem con35_rE (el nl cl : Nat) (fl : RF) (a : Int) (b : Int) (c : Int) (d : Int) (e : Int) (x : Int) (K : Value → List Blk → Prop) : con35_rV el nl cl fl a b c d e x K = bodyX (mk X3) (callN (mk X3) 4) (con35_rA el nl cl fl a b c d e x) Try.f35 [five' a b c d e, rsl 0 0 nl cl, .int .i64 x] (stOf [.row true [.i64, .i64] el nl cl fl]) (Fd 1 K) := by kernel_rfl
set_option tactic.hygienic false in
theorem con35_rP (el nl cl : Nat) (fl : RF) (a : Int) (b : Int) (c : Int) (d : Int) (e : Int) (x : Int) (K : Value → List Blk → Prop)  (hI : InC a b c d e) (hnl : nl ≤ 100000) (h : K (.tuple ⟨[.bool (halfF a b c d e nl fl x).1, .int .i64 (halfF a b c d e nl fl x).2]⟩) []) : con35_rV el nl cl fl a b c d e x K := by
  unfold con35_rV
  conv => zeta
  have G : (ckF a b c d e nl fl).2 = 0 → good a b c d e ∧ ((nl : Nat) : Int) = b ∧ ∀ i, i < nl → fok a fl i := ckF_zero
  unfold halfF askF at h
  repeat' (first | (with_reducible first | exact rfl | exact trivial | refine And.intro ?_ ?_ | refine br_intro (fun hq => ?_) fun hq => ?_ | refine if_both (fun hz => ?_) fun hz => ?_) | (intro) | fail)
  all_goals first
    | omega
    | assumption
    | (have g := G (by assumption)
       have g2 := g.2.2 x.toNat (by omega)
       unfold fok at g2
       have g3 := mul_bd ⟨g.1.1, g.1.2.1⟩ (x := x) (b := b) (by omega) (by omega) (by omega)
       omega)
    | (have g := G (by assumption); omega)
    | (have g := chk_good (by assumption); omega)
    | (refine fin0 (by kernel_rfl) (by kernel_rfl) ?_
       repeat' (split at h)
       all_goals first | exact h | omega | (rw [show (ckF a b c d e nl fl).2 = 0 by assumption]; exact h))
    | (refine fin0 (by kernel_rfl) (by kernel_rfl) ?_
       have g := G (by assumption)
       repeat' (split at h)
       all_goals first | exact h | omega | (rw [show (ckF a b c d e nl fl).2 = 0 by assumption]; exact h))
    | (have g := G (by assumption)
       have g4 : chk a b c d e = 0 := if_pos g.1
       omega)
theorem con35_ok : BodyOk (mk X3) 4 Try.f35 con35 := by
  intro vs bs K hh hro
  clear hro
  unfold con35 at hh
  split at hh
  · rename_i u v x
    obtain ⟨a, b, c, d, e, rfl, hI, hh0⟩ := five_inv hh
    rcases parse_inv hh0 with ⟨rfl, hh1⟩ | ⟨el, nl, cl, fl, bs1, rfl, hnl, rfl, hh1⟩ <;> clear hh0
    · obtain ⟨rfl, hc⟩ := hh1
      exact ⟨_, _, cast (con35_nE a b c d e x K) (con35_nP a b c d e x K hI hc)⟩
    · obtain ⟨rfl, hc⟩ := hh1
      exact ⟨_, _, cast (con35_rE el nl cl fl a b c d e x K) (con35_rP el nl cl fl a b c d e x K hI hnl hc)⟩
  · exact hh.elim
theorem con35_told : Told 35 (specOf con35) := told (X := X3) (X3_told) (by kernel_rfl) (by kernel_rfl) (by kernel_rfl) con35_ok
end Go.Proofs.Ytkflmglpniebfaa.Fr
namespace Go.Proofs.Ytkflmglpniebfaa.Fr
set_option maxRecDepth 100000
set_option maxHeartbeats 4000000
open Go.Rx
open Go.RowKit (Below)
set_option linter.unusedVariables false
theorem look_allT : ∀ p ∈ T, Ev.mkTI Try.prog p.1 = some p.2 := by
  intro p hp
  simp only [T, List.mem_cons, List.not_mem_nil, or_false] at hp
  rcases hp with rfl | rfl | rfl | rfl | rfl | rfl | rfl | rfl | rfl | rfl <;> kernel_rfl
theorem look_allF : ∀ p ∈ F, Try.prog.funcs[p.1]? = some p.2 ∧ (p.2.name == "runtime.NumGoroutine") = false := by
  intro p hp
  simp only [F, List.mem_cons, List.not_mem_nil, or_false] at hp
  rcases hp with rfl | rfl | rfl | rfl | rfl | rfl | rfl | rfl | rfl | rfl | rfl | rfl | rfl | rfl | rfl | rfl | rfl | rfl | rfl | rfl | rfl | rfl | rfl | rfl | rfl | rfl | rfl | rfl | rfl | rfl | rfl | rfl | rfl | rfl | rfl | rfl | rfl | rfl | rfl | rfl <;> exact ⟨by kernel_rfl, by kernel_rfl⟩
def TB : List (Nat × Ev.TI) := [(62, ⟨3, 56, true, some [.slice none 0 0, .slice none 0 0, z64], some (.agg ⟨[.slice none 0 0, .slice none 0 0, z64]⟩), .struct, [(0, false, 1), (1, false, 1), (2, false, 1)], 0, 0, false, 1, .other⟩), (96, ⟨6, 64, true, some [z64, z64, z64, z64, z64, .slice none 0 0], some (.agg ⟨[z64, z64, z64, z64, z64, .slice none 0 0]⟩), .struct, [(0, true, 5), (5, false, 1)], 0, 0, false, 1, .other⟩), (98, ⟨1, 24, true, some [.slice none 0 0], some (.agg ⟨[.slice none 0 0]⟩), .struct, [(0, false, 1)], 0, 0, false, 1, .other⟩), (99, ⟨8, 96, true, some [z64, z64, z64, z64, z64, .slice none 0 0, .slice none 0 0, z64], some (.agg ⟨[z64, z64, z64, z64, z64, .slice none 0 0, .slice none 0 0, z64]⟩), .struct, [(0, true, 6), (6, true, 1), (7, false, 1)], 0, 0, false, 1, .other⟩), (100, ⟨8, 96, true, some [z64, z64, z64, z64, z64, .slice none 0 0, .slice none 0 0, z64], some (.agg ⟨[z64, z64, z64, z64, z64, .slice none 0 0, .slice none 0 0, z64]⟩), .struct, [(0, true, 6), (6, true, 1), (7, false, 1)], 0, 0, false, 1, .other⟩), (75, ⟨1, 24, false, some [.slice none 0 0], some (.slice none 0 0), .slice, [], 0, 5, false, 1, .other⟩)]
noncomputable def FB : List (Nat × Func) := [(47, Try.f47), (49, Try.f49), (50, Try.f50), (51, Try.f51), (52, Try.f52), (53, Try.f53), (54, Try.f54), (55, Try.f55), (56, Try.f56), (57, Try.f57), (58, Try.f58), (59, Try.f59), (60, Try.f60), (61, Try.f61), (62, Try.f62), (63, Try.f63), (64, Try.f64), (80, Try.f80), (81, Try.f81), (82, Try.f82), (83, Try.f83), (84, Try.f84), (85, Try.f85), (86, Try.f86), (87, Try.f87), (88, Try.f88), (89, Try.f89), (92, Try.f92), (93, Try.f93), (94, Try.f94), (95, Try.f95), (96, Try.f96), (97, Try.f97), (98, Try.f98)]
noncomputable abbrev mkB (X : List (Nat × Rx.Spec)) : Env := ⟨Try.prog, T ++ TB, F ++ FB, Rx.look X, Q, [4]⟩
theorem mkOkB {X : List (Nat × Rx.Spec)} (h : ∀ p ∈ X, Told p.1 p.2) : EnvOk (mkB X) where
  types := look_all (q := fun ty i => Ev.mkTI Try.prog ty = some i) (by
    intro p hp
    rcases List.mem_append.1 hp with hp | hp
    · exact look_allT p hp
    · simp only [TB, List.mem_cons, List.not_mem_nil, or_false] at hp
      rcases hp with rfl | rfl | rfl | rfl | rfl | rfl <;> kernel_rfl)
  funcs := look_all (q := fun f fn => Try.prog.funcs[f]? = some fn ∧ (fn.name == "runtime.NumGoroutine") = false) (by
    intro p hp
    rcases List.mem_append.1 hp with hp | hp
    · exact look_allF p hp
    · simp only [FB, List.mem_cons, List.not_mem_nil, or_false] at hp
      rcases hp with rfl | rfl | rfl | rfl | rfl | rfl | rfl | rfl | rfl | rfl | rfl | rfl | rfl | rfl | rfl | rfl | rfl | rfl | rfl | rfl | rfl | rfl | rfl | rfl | rfl | rfl | rfl | rfl | rfl | rfl | rfl | rfl | rfl | rfl <;> exact ⟨by kernel_rfl, by kernel_rfl⟩)
  specs := look_all (q := Told) h
  mixed := mixed
  qs := (mkOk (X := X) h).qs
  bo := (mkOk (X := X) h).bo
theorem toldB {X : List (Nat × Rx.Spec)} (hX : ∀ p ∈ X, Told p.1 p.2) {f n : Nat} {fn : Func} (hf : Try.prog.funcs[f]? = some fn) (h1 : fn.body.isSome = true) (h2 : (fn.name == "runtime.NumGoroutine") = false) {c : Con} (hb : BodyOk (mkB X) n fn c) : Told f (specOf c) :=
  ⟨⟨fn, hf, h1, h2⟩, specOf_ok (mkOkB hX) hf hb⟩
/-- The last car of the first k that is not popular. -/
def lastP (f g : RF) : Nat → Int
  | 0 => -1
  | k + 1 => if f (g k 0).toNat 0 = 1 then (k : Int) else lastP f g k
theorem lastP_bd (f g : RF) : ∀ k : Nat, -1 ≤ lastP f g k ∧ lastP f g k < k
  | 0 => by simp [lastP]
  | k + 1 => by
    have := lastP_bd f g k
    simp only [lastP]
    split <;> omega
def sndP (a : Int) (f : RF) (m : Nat) (g : RF) : Prop := (lastP f g m = -1 ∨ lastP f g m = (m : Int) - 1) ∧ ∀ i : Nat, i < m → (i : Int) < lastP f g m → f (g i 0).toNat 0 = 1 → a < 2 * f (g i 0).toNat 1
theorem bck_one {a b c d e : Int} {n m : Nat} {f g : RF} (h : (bck a b c d e n f m g).2 = 0) (i : Nat) (hi : i < m) : 0 ≤ g i 0 ∧ g i 0 < b ∧ (g i 0).toNat < n ∧ (f (g i 0).toNat 0 = 1 ∨ f (g i 0).toNat 0 = 2) ∧ 0 ≤ f (g i 0).toNat 1 ∧ f (g i 0).toNat 1 ≤ a := by
  obtain ⟨h1, h2, h3, h4⟩ := bck_ok h
  obtain ⟨k1, k2, -, k4⟩ := h4 i hi
  have hn : (g i 0).toNat < n := by omega
  have := h3 _ hn
  unfold fok at this
  omega
theorem ask_of {a b c d e : Int} {n : Nat} {f : RF} {x : Int} (h : (ckF a b c d e n f).2 = 0) (h1 : 0 ≤ x) (h2 : x < b) : askF a b c d e n f x = 0 := by
  unfold askF
  rw [if_pos h, if_neg (by omega)]
def con35L : Con := onCFX fun a b c d e n f j x K => (askF a b c d e n f x = 0 ∧ ¬ f x.toNat 0 = 0) ∧ ∀ q : Bool, (q = true ↔ a < 2 * f x.toNat 1) → K (.tuple ⟨[.bool q, .int .i64 0]⟩) []
theorem con35L_told : Told 35 (specOf con35L) := con35_told.mono (onCFX_mono fun a b c d e n f j x K h => (by
  obtain ⟨⟨h1, h2⟩, h3⟩ := h
  unfold halfF
  rw [if_pos h1, if_neg h2]
  split
  · exact h3 true ⟨fun _ => by assumption, fun _ => rfl⟩
  · exact h3 false ⟨fun q => (by cases q), fun q => (by contradiction)⟩))
def spF : Rx.Spec := fun _ _ _ => False
theorem toldF {f : Nat} {fn : Func} (hf : Try.prog.funcs[f]? = some fn) (h1 : fn.body.isSome = true) (h2 : (fn.name == "runtime.NumGoroutine") = false) : Told f spF := ⟨⟨fn, hf, h1, h2⟩, fun _ _ _ h => h.elim⟩
theorem bck_fst {a b c d e : Int} {n m : Nat} {f g : RF} (h : (bck a b c d e n f m g).2 = 0) : (bck a b c d e n f m g).1 = 0 := by
  have h0 := bck_ck h
  rw [bck_go h0] at h ⊢
  have : ∀ (l k : Nat), (tr b f g l k).2 = 0 → (tr b f g l k).1 = 0 := by
    intro l
    induction l with
    | zero => intro k _; rfl
    | succ l ih =>
      intro k hk
      unfold tr at hk ⊢
      repeat' split at hk
      all_goals first | (cases hk; done) | (rw [if_neg (by assumption), if_neg (by assumption), if_neg (by assumption)]; exact ih _ hk)
  exact this _ _ h
def onCFI (O : Int → Int → Int → Int → Int → Nat → RF → Nat → RF → Nat → Prop → KK → Prop) : Con := fun vs bs K => match vs with
  | [u, vl, vt] => five u fun a b c d e => parse [.i64, .i64] 0 vl bs fun nl fl j0 bs0 => parse [.i64] j0 vt bs0 fun nt ft j1 bs1 => bs1 = [] ∧ O a b c d e nl fl nt ft j1 (capOk vt) K
  | _ => False
theorem onCFI_mono {O O' : Int → Int → Int → Int → Int → Nat → RF → Nat → RF → Nat → Prop → KK → Prop} (h : ∀ a b c d e n f m g j p K, O' a b c d e n f m g j p K → O a b c d e n f m g j p K) : ∀ vs bs K, onCFI O' vs bs K → onCFI O vs bs K := by
  intro vs bs K x
  unfold onCFI at x ⊢
  split at x
  · exact five_mono (fun a b c d e => parse_mono fun n f j bs => parse_mono fun m g j bs y => ⟨y.1, h _ _ _ _ _ _ _ _ _ _ _ _ y.2⟩) x
  · exact x.elim
def con49G : Con := onCFI fun a b c d e n f m g j p K => (p ∧ (bck a b c d e n f m g).2 = 0) ∧ K (.tuple ⟨[.int .i64 0, .int .i64 0]⟩) []
theorem con49G_told : Told 49 (specOf con49G) := con49_told.mono (onCFI_mono (O := fun a b c d e n f m g j p K => p ∧ K (.tuple ⟨[.int .i64 (bck a b c d e n f m g).1, .int .i64 (bck a b c d e n f m g).2]⟩) []) fun a b c d e n f m g j p K h => ⟨h.1.1, (by
  rw [bck_fst h.1.2, h.1.2]
  exact h.2)⟩)
@[reducible] def X51 : List (Nat × Rx.Spec) := [(49, specOf con49G), (35, specOf con35L), (92, specOf con92a), (93, specOf con93a)]
theorem X51_told : ∀ p ∈ X51, Told p.1 p.2 := by
  intro p hp
  simp only [List.mem_cons, List.not_mem_nil, or_false] at hp
  rcases hp with rfl | rfl | rfl | rfl
  · exact con49G_told
  · exact con35L_told
  · exact con92a_told
  · exact con93a_told
end Go.Proofs.Ytkflmglpniebfaa.Fr
namespace Go.Proofs.Ytkflmglpniebfaa.Fr
set_option maxRecDepth 100000
set_option maxHeartbeats 4000000
open Go.Rx
open Go.RowKit (Below)
set_option linter.unusedVariables false
def con51G : Con := fun vs bs K => match vs with
  | [u, vl, vt] => five u fun a b c d e => parseR [.i64, .i64] 0 vl bs fun nl fl j0 bs0 => parse [.i64] j0 vt bs0 fun nt ft j1 bs1 => bs1 = [] ∧ ((capOk (vt)) ∧ ((bck a b c d e nl fl nt ft).2 = 0)) ∧ (∀ q : Bool, (q = true ↔ (sndP a fl nt ft)) → K (.tuple ⟨[.bool q, .int .i64 (0)]⟩) [])
  | _ => False

def con51G_rnA (a b c d e : Int) (el nl cl : Nat) (fl : RF) : Ann := fun k tt ss => bif Nat.beq k 6 then some [{ α := Nat × Nat × Nat, T := fun k => ⟨88, [(8, .pointer (some ⟨4, 0, none⟩)), (10, .int .i64 (lastP fl zF k.1)), (29, .slice none 0 0), (30, .int .i64 (0 : Nat)), (31, .int .i64 (k.1 : Int))]⟩, S := fun k => ⟨[(4, .cells [.int .i64 a, .int .i64 b, .int .i64 c, .int .i64 d, .int .i64 e, rsl 3 0 nl k.2.1, .slice none 0 0, .int .i64 (-1)] 100), (3, .row false [.i64, .i64] 54 nl k.2.1 fl)], 5⟩, I := fun k => k.1 ≤ 0 ∧ 0 ≤ k.1, m := fun k => 0 - k.1, ρ0 := [(3, 3), (4, 4)], ρ1 := [[(3, 3), (4, 4)]] }] else bif Nat.beq k 14 then some [{ α := Nat × Nat × Nat, T := fun k => ⟨88, [(8, .pointer (some ⟨4, 0, none⟩)), (10, .int .i64 (lastP fl zF 0)), (61, .slice none 0 0), (62, .int .i64 (0 : Nat)), (63, .int .i64 (k.1 : Int))]⟩, S := fun k => ⟨[(4, .cells [.int .i64 a, .int .i64 b, .int .i64 c, .int .i64 d, .int .i64 e, rsl 3 0 nl k.2.1, .slice none 0 0, .int .i64 (-1)] 100), (3, .row false [.i64, .i64] 54 nl k.2.1 fl)], 5⟩, I := fun k => k.1 ≤ 0 ∧ ∀ i : Nat, i < k.1 → (i : Int) < lastP fl zF 0 → fl (zF i 0).toNat 0 = 1 → a < 2 * fl (zF i 0).toNat 1, m := fun k => 0 - k.1, ρ0 := [(3, 3), (4, 4)], ρ1 := [[(3, 3), (4, 4)]] }] else none
def con51G_rrA (a b c d e : Int) (el nl cl : Nat) (fl : RF) (et nt ct : Nat) (ft : RF) : Ann := fun k tt ss => bif Nat.beq k 6 then some [{ α := Nat × Nat × Nat, T := fun k => ⟨88, [(8, .pointer (some ⟨6, 0, none⟩)), (10, .int .i64 (lastP fl ft k.1)), (29, rsl 5 0 nt k.2.2), (30, .int .i64 (nt : Nat)), (31, .int .i64 (k.1 : Int))]⟩, S := fun k => ⟨[(6, .cells [.int .i64 a, .int .i64 b, .int .i64 c, .int .i64 d, .int .i64 e, rsl 4 0 nl k.2.1, rsl 5 0 nt k.2.2, .int .i64 (-1)] 100), (5, .row false [.i64] 3 nt k.2.2 ft), (4, .row false [.i64, .i64] 54 nl k.2.1 fl)], 7⟩, I := fun k => k.1 ≤ nt ∧ 0 ≤ k.1, m := fun k => nt - k.1, ρ0 := [(4, 4), (5, 5), (6, 6)], ρ1 := [[(4, 4), (5, 5), (6, 6)]] }] else bif Nat.beq k 14 then some [{ α := Nat × Nat × Nat, T := fun k => ⟨88, [(8, .pointer (some ⟨6, 0, none⟩)), (10, .int .i64 (lastP fl ft nt)), (61, rsl 5 0 nt k.2.2), (62, .int .i64 (nt : Nat)), (63, .int .i64 (k.1 : Int))]⟩, S := fun k => ⟨[(6, .cells [.int .i64 a, .int .i64 b, .int .i64 c, .int .i64 d, .int .i64 e, rsl 4 0 nl k.2.1, rsl 5 0 nt k.2.2, .int .i64 (-1)] 100), (5, .row false [.i64] 3 nt k.2.2 ft), (4, .row false [.i64, .i64] 54 nl k.2.1 fl)], 7⟩, I := fun k => k.1 ≤ nt ∧ ∀ i : Nat, i < k.1 → (i : Int) < lastP fl ft nt → fl (ft i 0).toNat 0 = 1 → a < 2 * fl (ft i 0).toNat 1, m := fun k => nt - k.1, ρ0 := [(4, 4), (5, 5), (6, 6)], ρ1 := [[(4, 4), (5, 5), (6, 6)]] }] else none
def con51G_rnV (a b c d e : Int) (el nl cl : Nat) (fl : RF) (K : Value → List Blk → Prop) : Prop := let q0 := ((0 : Nat) + nl ≤ nl); let q1 := (nl ≤ (100000 : Nat)); let q2 := ((3 : Nat), (3 : Nat)); let q3 := ((4 : Nat), (4 : Nat)); let q4 := eB; let q5 := (@Eq Nat ((0 : Nat)) ((0 : Nat))); let q6 := TS; let q7 := (some (rT el nl cl fl)); let q8 := (8, Value.pointer (some { block := (4 : Nat), off := (0 : Nat) })); let q9 := ((8 : Nat), Value.pointer (some { block := (4 : Nat), off := (0 : Nat) })); let q10 := (eK ∧ ((@Eq Nat (nl) (nl)) ∧ (@Eq Nat (cl) (cl)))); let q11 := (some (Blk.cells [vi a, vi b, vi c, vi d, vi e] (23 : Nat))); let q12 := (@Eq (Option Blk) q11 q11); let q13 := (q12 ∧ (q12 ∧ ((@Eq (Option Blk) q7 q7) ∧ (True)))); (t5 (q0 ∧ (T0 ∧ ((InC a b c d e) ∧ (q5 ∧ (q1 ∧ (q10 ∧ (q4 ∧ (((Nat.le (0 : Nat) (0 : Nat)) ∧ (@Eq Int (Prod.snd (bck a b c d e nl fl (0 : Nat) zF)) ((0 : Int)))) ∧ (T0 ∧ (q6 ∧ (t4 (if (b ≤ (-1 : Int)) then (T0 ∧ (∃ y0 : Value, (∃ y1 : List Blk, ((Go.Rx.Found 1 (Value.tuple { toList := [Value.bool false, vi (7 : Int)] }) ({ h := [((2 : Nat), Blk.cells [vi a, vi b, vi c, vi d, vi e] (23 : Nat)), ((1 : Nat), Blk.cells [vi a, vi b, vi c, vi d, vi e] (23 : Nat)), ((0 : Nat), rT el nl cl fl)], next := (3 : Nat) }) (y0) (y1)) ∧ (K y0 y1))))) else (t7 (q0 ∧ (q5 ∧ (q1 ∧ (q10 ∧ (q4 ∧ (∀ y0 : Nat, ((nl ≤ y0) → (q13 ∧ (q13 ∧ (T0 ∧ (q4 ∧ (q13 ∧ (q13 ∧ (q13 ∧ (q13 ∧ (t4 (q6 ∧ ((∃ y1 : Nat × Nat × Nat, let q20 := (Prod.fst (Prod.snd y1)); ((Go.Rx.Sub 1 [q2, q3] ⟨88, [(31, vi (0 : Int)), (30, vi (0 : Int)), (29, vn), (10, vi (-1 : Int)), q8]⟩ ⟨[(4, Blk.cells [vi a, vi b, vi c, vi d, vi e, rsl (3 : Nat) (0 : Nat) nl y0, vn, vi (-1 : Int)] (100 : Nat)), (3, rF (54 : Nat) nl y0 fl)], 5⟩ ({ n := (88 : Nat), m := [q9, ((10 : Nat), vi (lastP fl zF (Prod.fst y1))), ((29 : Nat), vn), ((30 : Nat), vi (0 : Int)), ((31 : Nat), vi (↑(Prod.fst y1) : Int))] }) ({ h := [((4 : Nat), Blk.cells [vi a, vi b, vi c, vi d, vi e, rsl (3 : Nat) (0 : Nat) nl q20, vn, vi (-1 : Int)] (100 : Nat)), ((3 : Nat), rF (54 : Nat) nl q20 fl)], next := (5 : Nat) })) ∧ ((Prod.fst y1 ≤ (0 : Nat)) ∧ ((0 : Nat) ≤ Prod.fst y1)))) ∧ (∀ y1 : Nat × Nat × Nat, let q14 := (Prod.fst (Prod.snd y1)); let q15 := (t2 (q6 ∧ ((∃ y2 : Nat × Nat × Nat, let q19 := (Prod.fst (Prod.snd y2)); ((Go.Rx.Sub 1 [q2, q3] ⟨88, [(63, vi (0 : Int)), (62, vi (0 : Int)), (61, vn), q8, (10, vi (lastP fl zF (Prod.fst y1)))]⟩ ⟨[(4, Blk.cells [vi a, vi b, vi c, vi d, vi e, rsl (3 : Nat) (0 : Nat) nl q14, vn, vi (-1 : Int)] (100 : Nat)), (3, rF (54 : Nat) nl q14 fl)], 5⟩ ({ n := (88 : Nat), m := [q9, ((10 : Nat), vi (lastP fl zF (0 : Nat))), ((61 : Nat), vn), ((62 : Nat), vi (0 : Int)), ((63 : Nat), vi (↑(Prod.fst y2) : Int))] }) ({ h := [((4 : Nat), Blk.cells [vi a, vi b, vi c, vi d, vi e, rsl (3 : Nat) (0 : Nat) nl q19, vn, vi (-1 : Int)] (100 : Nat)), ((3 : Nat), rF (54 : Nat) nl q19 fl)], next := (5 : Nat) })) ∧ ((Prod.fst y2 ≤ (0 : Nat)) ∧ (∀ y3 : Nat, let q18 := (Int.toNat (zF y3 (0 : Nat))); ((y3 < Prod.fst y2) → (((↑y3 : Int) < lastP fl zF (0 : Nat)) → ((@Eq Int (fl q18 (0 : Nat)) ((1 : Int))) → (a < (2 : Int) * fl q18 (1 : Nat))))))))) ∧ (∀ y2 : Nat × Nat × Nat, let q16 := (Prod.fst (Prod.snd y2)); (((Prod.fst y2 ≤ (0 : Nat)) ∧ (∀ y3 : Nat, let q17 := (Int.toNat (zF y3 (0 : Nat))); ((y3 < Prod.fst y2) → (((↑y3 : Int) < lastP fl zF (0 : Nat)) → ((@Eq Int (fl q17 (0 : Nat)) ((1 : Int))) → (a < (2 : Int) * fl q17 (1 : Nat))))))) → (T0 ∧ (∃ y3 : Value, (∃ y4 : List Blk, ((Go.Rx.Found 1 (Value.tuple { toList := [Value.bool true, vi (0 : Int)] }) ({ h := [((4 : Nat), Blk.cells [vi a, vi b, vi c, vi d, vi e, rsl (3 : Nat) (0 : Nat) nl q16, vn, vi (-1 : Int)] (100 : Nat)), ((3 : Nat), rF (54 : Nat) nl q16 fl)], next := (5 : Nat) }) (y3) (y4)) ∧ (K y3 y4)))))))))); (((Prod.fst y1 ≤ (0 : Nat)) ∧ ((0 : Nat) ≤ Prod.fst y1)) → (t2 (if ((0 : Int) ≤ lastP fl zF (Prod.fst y1)) then (t2 (q6 ∧ (T0 ∧ ((((-9223372036854775808 : Int) ≤ (↑(0 : Nat) : Int) - (1 : Int)) ∧ ((↑(0 : Nat) : Int) - (1 : Int) ≤ (9223372036854775807 : Int))) ∧ (T0 ∧ (if (lastP fl zF (Prod.fst y1) < (↑(0 : Nat) : Int) - (1 : Int)) then (∃ y2 : Value, (∃ y3 : List Blk, ((Go.Rx.Found 1 (Value.tuple { toList := [Value.bool false, vi (0 : Int)] }) ({ h := [((4 : Nat), Blk.cells [vi a, vi b, vi c, vi d, vi e, rsl (3 : Nat) (0 : Nat) nl q14, vn, vi (-1 : Int)] (100 : Nat)), ((3 : Nat), rF (54 : Nat) nl q14 fl)], next := (5 : Nat) }) (y2) (y3)) ∧ (K y2 y3)))) else q15)))))) else q15))))))))))))))))))))))))))))))))))))
theorem con51G_rnE (a b c d e : Int) (el nl cl : Nat) (fl : RF) (K : Value → List Blk → Prop) : con51G_rnV a b c d e el nl cl fl K = bodyX (mkB X51) (callN (mkB X51) 5) (con51G_rnA a b c d e el nl cl fl) Try.f51 [five' a b c d e, rsl 0 0 nl cl, .slice none 0 0] (stOf [.row true [.i64, .i64] el nl cl fl]) (Fd 1 K) := by kernel_rfl
set_option tactic.hygienic false in
theorem con51G_rnP (a b c d e : Int) (el nl cl : Nat) (fl : RF) (K : Value → List Blk → Prop)  (hI : InC a b c d e) (hnl : nl ≤ 100000) (hct : capOk (.slice none 0 0)) (h1 : (bck a b c d e nl fl 0 zF).2 = 0) (h : ∀ q : Bool, (q = true ↔ (sndP a fl 0 zF)) → K (.tuple ⟨[.bool q, .int .i64 (0)]⟩) []) : con51G_rnV a b c d e el nl cl fl K := by
  unfold con51G_rnV
  conv => zeta
  obtain ⟨g1, g2, g3, g4⟩ := bck_ok h1
  have gc := bck_ck h1
  have go := bck_one h1
  have LB := lastP_bd fl zF
  repeat' (first | (with_reducible first | exact rfl | exact trivial | refine And.intro ?_ ?_ | refine br_intro (fun hq => ?_) fun hq => ?_ | refine if_both (fun hz => ?_) fun hz => ?_) | (intro) | fail)
  all_goals try (rename Nat × Nat × Nat => k)
  all_goals try (rename _ ≤ _ ∧ (∀ _ : Nat, _) => I; obtain ⟨I1, I2⟩ := I)
  all_goals try (have gk := go k.1 (by omega))
  all_goals first
    | omega
    | assumption
    | contradiction
    | exact ask_of gc gk.1 gk.2.1
    | exact ⟨(0, y0, 0), (by (refine And.intro (And.intro rfl (And.intro rfl (And.intro rfl rfl))) ?_; (repeat' (first | exact trivial | exact rfl | exact fun _ _ _ _ => rfl | refine And.intro ?_ ?_ | omega | fail)); done)), by show 0 ≤ 0; omega, by show 0 ≤ 0; omega⟩
    | exact ⟨(k.1 + 1, k.2), (by (refine And.intro (And.intro rfl (And.intro rfl (And.intro rfl rfl))) ?_; (repeat' (first | exact trivial | exact rfl | exact fun _ _ _ _ => rfl | refine And.intro ?_ ?_ | omega | (simp only [lastP]; first | (rw [if_pos (by omega)]; done) | (rw [if_neg (by omega)]; done)) | fail)); done)), ⟨by show k.1 + 1 ≤ 0; omega, by show 0 ≤ k.1 + 1; omega⟩, by show 0 - (k.1 + 1) < 0 - k.1; omega⟩
    | (have hk : k.1 = 0 := (by omega)
       exact ⟨(0, k.2.1, k.2.2), (by (refine And.intro (And.intro rfl (And.intro rfl (And.intro rfl rfl))) ?_; (repeat' (first | exact trivial | exact rfl | exact fun _ _ _ _ => rfl | refine And.intro ?_ ?_ | omega | (rw [hk]) | fail)); done)), by show 0 ≤ 0; omega, fun i hi => absurd hi (by show ¬ i < 0; omega)⟩)
    | exact ⟨(k.1 + 1, k.2), (by (refine And.intro (And.intro rfl (And.intro rfl (And.intro rfl rfl))) ?_; (repeat' (first | exact trivial | exact rfl | exact fun _ _ _ _ => rfl | refine And.intro ?_ ?_ | omega | fail)); done)), ⟨by show k.1 + 1 ≤ 0; omega, fun i hi => (by
        rcases Nat.lt_or_ge i k.1 with q | q
        · exact I2 i q
        · obtain rfl : i = k.1 := (by have : i < k.1 + 1 := hi; omega)
          intro e1 e2
          first | omega | (simp at hq; simp_all; done) | (simp at hq; simp_all; omega))⟩, by show 0 - (k.1 + 1) < 0 - k.1; omega⟩
    | (have hk : k.1 = 0 := (by omega)
       have e : lastP fl zF k.1 = lastP fl zF 0 := (by rw [hk])
       exact fin0 (by kernel_rfl) (by kernel_rfl) (h false ⟨fun q => (by cases q), fun S => (by have := S.1; omega)⟩))
    | (have hk : k.1 = 0 := (by omega)
       have hj : y1.1 = 0 := (by omega)
       have e : lastP fl zF y1.1 = lastP fl zF 0 := (by rw [hj])
       have e2 := LB 0
       exact fin0 (by kernel_rfl) (by kernel_rfl) (h true ⟨fun _ => ⟨by omega, fun i hi => I2 i (by omega)⟩, fun _ => rfl⟩))
    | (exact fin0 (by kernel_rfl) (by kernel_rfl) (h false ⟨fun q => (by cases q), fun S => (by have := S.2 k.1 (by omega) (by omega) (by omega); simp at hq; first | (simp_all; done) | (simp_all; omega))⟩))
def con51G_rrV (a b c d e : Int) (el nl cl : Nat) (fl : RF) (et nt ct : Nat) (ft : RF) (K : Value → List Blk → Prop) : Prop := let q0 := ((0 : Nat) + nl ≤ nl); let q1 := ((0 : Nat) + nt ≤ nt); let q2 := (nl ≤ (100000 : Nat)); let q3 := (nt ≤ (100000 : Nat)); let q4 := ((4 : Nat), (4 : Nat)); let q5 := ((5 : Nat), (5 : Nat)); let q6 := ((6 : Nat), (6 : Nat)); let q7 := eB; let q8 := (9223372036854775807 : Int); let q9 := (-9223372036854775808 : Int); let q10 := (@Eq Nat ((0 : Nat)) ((0 : Nat))); let q11 := (@Eq Nat ((1 : Nat)) ((1 : Nat))); let q12 := (62, vi (↑nt : Int)); let q13 := (30, vi (↑nt : Int)); let q14 := TS; let q15 := (10, vi (lastP fl ft nt)); let q16 := ((62 : Nat), vi (↑nt : Int)); let q17 := ((30 : Nat), vi (↑nt : Int)); let q18 := (some (Blk.row true [IntKind.i64] et nt ct ft)); let q19 := ((10 : Nat), vi (lastP fl ft nt)); let q20 := (some (rT el nl cl fl)); let q21 := (8, Value.pointer (some { block := (6 : Nat), off := (0 : Nat) })); let q22 := ((8 : Nat), Value.pointer (some { block := (6 : Nat), off := (0 : Nat) })); let q23 := eK; let q24 := (q14 ∧ q11); let q25 := (q14 ∧ (@Eq Nat ((2 : Nat)) ((2 : Nat)))); let q26 := ((@Eq (List IntKind) ([IntKind.i64]) ([IntKind.i64])) ∧ ((@Eq Nat (nt) (nt)) ∧ (@Eq Nat (ct) (ct)))); let q27 := (q23 ∧ ((@Eq Nat (nl) (nl)) ∧ (@Eq Nat (cl) (cl)))); let q28 := (some (Blk.cells [vi a, vi b, vi c, vi d, vi e] (23 : Nat))); let q29 := (@Eq (Option Blk) q28 q28); let q30 := (q29 ∧ (q29 ∧ ((@Eq (Option Blk) q20 q20) ∧ ((@Eq (Option Blk) q18 q18) ∧ (True))))); (t5 (q0 ∧ (q1 ∧ ((InC a b c d e) ∧ (q10 ∧ (q2 ∧ (q27 ∧ (q11 ∧ (q3 ∧ (q26 ∧ (q7 ∧ (((Nat.le nt ct) ∧ (@Eq Int (Prod.snd (bck a b c d e nl fl nt ft)) ((0 : Int)))) ∧ (T0 ∧ (q14 ∧ (t4 (if (b ≤ (-1 : Int)) then (T0 ∧ (∃ y0 : Value, (∃ y1 : List Blk, ((Go.Rx.Found 2 (Value.tuple { toList := [Value.bool false, vi (7 : Int)] }) ({ h := [((3 : Nat), Blk.cells [vi a, vi b, vi c, vi d, vi e] (23 : Nat)), ((2 : Nat), Blk.cells [vi a, vi b, vi c, vi d, vi e] (23 : Nat)), ((0 : Nat), rT el nl cl fl), ((1 : Nat), Blk.row true [IntKind.i64] et nt ct ft)], next := (4 : Nat) }) (y0) (y1)) ∧ (K y0 y1))))) else (t7 (q0 ∧ (q10 ∧ (q2 ∧ (q27 ∧ (q7 ∧ (∀ y0 : Nat, ((nl ≤ y0) → (q30 ∧ (q30 ∧ (q1 ∧ (q10 ∧ (q3 ∧ (q26 ∧ (q7 ∧ (∀ y1 : Nat, ((nt ≤ y1) → (q30 ∧ (q30 ∧ (q30 ∧ (q30 ∧ (t4 (q14 ∧ ((∃ y2 : Nat × Nat × Nat, let q72 := (Prod.fst (Prod.snd y2)); let q73 := (Prod.snd (Prod.snd y2)); ((Go.Rx.Sub 2 [q4, q5, q6] ⟨88, [(31, vi (0 : Int)), q13, (29, rsl (5 : Nat) (0 : Nat) nt y1), (10, vi (-1 : Int)), q21]⟩ ⟨[(6, Blk.cells [vi a, vi b, vi c, vi d, vi e, rsl (4 : Nat) (0 : Nat) nl y0, rsl (5 : Nat) (0 : Nat) nt y1, vi (-1 : Int)] (100 : Nat)), (5, Blk.row false [IntKind.i64] (3 : Nat) nt y1 ft), (4, rF (54 : Nat) nl y0 fl)], 7⟩ ({ n := (88 : Nat), m := [q22, ((10 : Nat), vi (lastP fl ft (Prod.fst y2))), ((29 : Nat), rsl (5 : Nat) (0 : Nat) nt q73), q17, ((31 : Nat), vi (↑(Prod.fst y2) : Int))] }) ({ h := [((6 : Nat), Blk.cells [vi a, vi b, vi c, vi d, vi e, rsl (4 : Nat) (0 : Nat) nl q72, rsl (5 : Nat) (0 : Nat) nt q73, vi (-1 : Int)] (100 : Nat)), ((5 : Nat), Blk.row false [IntKind.i64] (3 : Nat) nt q73 ft), ((4 : Nat), rF (54 : Nat) nl q72 fl)], next := (7 : Nat) })) ∧ ((Prod.fst y2 ≤ nt) ∧ ((0 : Nat) ≤ Prod.fst y2)))) ∧ (∀ y2 : Nat × Nat × Nat, let q31 := (↑(Prod.fst y2) : Int); let q32 := (Prod.fst (Prod.snd y2)); let q33 := (Prod.snd (Prod.snd y2)); let q34 := (ft (Prod.fst y2) (0 : Nat)); let q35 := (10, vi (lastP fl ft (Prod.fst y2))); let q36 := (29, rsl (5 : Nat) (0 : Nat) nt q33); let q37 := (31, vi (q31 + (1 : Int))); let q38 := (5, Blk.row false [IntKind.i64] (3 : Nat) nt q33 ft); let q39 := (4, rF (54 : Nat) nl q32 fl); let q40 := ((q9 ≤ q31 + (1 : Int)) ∧ (q31 + (1 : Int) ≤ q8)); let q41 := (6, Blk.cells [vi a, vi b, vi c, vi d, vi e, rsl (4 : Nat) (0 : Nat) nl q32, rsl (5 : Nat) (0 : Nat) nt q33, vi (-1 : Int)] (100 : Nat)); let q42 := (t2 (q14 ∧ ((∃ y3 : Nat × Nat × Nat, let q66 := (Prod.fst (Prod.snd y3)); let q67 := (Prod.snd (Prod.snd y3)); ((Go.Rx.Sub 2 [q4, q5, q6] ⟨88, [(63, vi (0 : Int)), q12, (61, rsl (5 : Nat) (0 : Nat) nt q33), q21, q35]⟩ ⟨[q41, q38, q39], 7⟩ ({ n := (88 : Nat), m := [q22, q19, ((61 : Nat), rsl (5 : Nat) (0 : Nat) nt q67), q16, ((63 : Nat), vi (↑(Prod.fst y3) : Int))] }) ({ h := [((6 : Nat), Blk.cells [vi a, vi b, vi c, vi d, vi e, rsl (4 : Nat) (0 : Nat) nl q66, rsl (5 : Nat) (0 : Nat) nt q67, vi (-1 : Int)] (100 : Nat)), ((5 : Nat), Blk.row false [IntKind.i64] (3 : Nat) nt q67 ft), ((4 : Nat), rF (54 : Nat) nl q66 fl)], next := (7 : Nat) })) ∧ ((Prod.fst y3 ≤ nt) ∧ (∀ y4 : Nat, let q65 := (Int.toNat (ft y4 (0 : Nat))); ((y4 < Prod.fst y3) → (((↑y4 : Int) < lastP fl ft nt) → ((@Eq Int (fl q65 (0 : Nat)) ((1 : Int))) → (a < (2 : Int) * fl q65 (1 : Nat))))))))) ∧ (∀ y3 : Nat × Nat × Nat, let q43 := (↑(Prod.fst y3) : Int); let q44 := (Prod.fst (Prod.snd y3)); let q45 := (Prod.snd (Prod.snd y3)); let q46 := (ft (Prod.fst y3) (0 : Nat)); let q47 := (Int.toNat q46); let q48 := (61, rsl (5 : Nat) (0 : Nat) nt q45); let q49 := (63, vi (q43 + (1 : Int))); let q50 := (5, Blk.row false [IntKind.i64] (3 : Nat) nt q45 ft); let q51 := (some (Blk.row false [IntKind.i64] (3 : Nat) nt q45 ft)); let q52 := (4, rF (54 : Nat) nl q44 fl); let q53 := (some (rF (54 : Nat) nl q44 fl)); let q54 := ((q9 ≤ q43 + (1 : Int)) ∧ (q43 + (1 : Int) ≤ q8)); let q55 := (6, Blk.cells [vi a, vi b, vi c, vi d, vi e, rsl (4 : Nat) (0 : Nat) nl q44, rsl (5 : Nat) (0 : Nat) nt q45, vi (-1 : Int)] (100 : Nat)); let q56 := (some (Blk.cells [vi a, vi b, vi c, vi d, vi e, rsl (4 : Nat) (0 : Nat) nl q44, rsl (5 : Nat) (0 : Nat) nt q45, vi (-1 : Int)] (100 : Nat))); let q57 := (T0 ∧ (q54 ∧ (∃ y4 : Nat × Nat × Nat, let q59 := (Prod.fst (Prod.snd y4)); let q60 := (Prod.snd (Prod.snd y4)); ((Go.Rx.Sub 2 [q4, q5, q6] ⟨88, [q49, q21, q15, q48, q12]⟩ ⟨[q55, q50, q52], 7⟩ ({ n := (88 : Nat), m := [q22, q19, ((61 : Nat), rsl (5 : Nat) (0 : Nat) nt q60), q16, ((63 : Nat), vi (↑(Prod.fst y4) : Int))] }) ({ h := [((6 : Nat), Blk.cells [vi a, vi b, vi c, vi d, vi e, rsl (4 : Nat) (0 : Nat) nl q59, rsl (5 : Nat) (0 : Nat) nt q60, vi (-1 : Int)] (100 : Nat)), ((5 : Nat), Blk.row false [IntKind.i64] (3 : Nat) nt q60 ft), ((4 : Nat), rF (54 : Nat) nl q59 fl)], next := (7 : Nat) })) ∧ (((Prod.fst y4 ≤ nt) ∧ (∀ y5 : Nat, let q58 := (Int.toNat (ft y5 (0 : Nat))); ((y5 < Prod.fst y4) → (((↑y5 : Int) < lastP fl ft nt) → ((@Eq Int (fl q58 (0 : Nat)) ((1 : Int))) → (a < (2 : Int) * fl q58 (1 : Nat))))))) ∧ (nt - Prod.fst y4 < nt - Prod.fst y3)))))); (((Prod.fst y3 ≤ nt) ∧ (∀ y4 : Nat, let q64 := (Int.toNat (ft y4 (0 : Nat))); ((y4 < Prod.fst y3) → (((↑y4 : Int) < lastP fl ft nt) → ((@Eq Int (fl q64 (0 : Nat)) ((1 : Int))) → (a < (2 : Int) * fl q64 (1 : Nat))))))) → (T0 ∧ (if (q43 < (↑nt : Int)) then (q24 ∧ ((((0 : Int) ≤ q43) ∧ (q43 < (↑nt : Int))) ∧ ((Prod.fst y3 < nt) ∧ (T0 ∧ (if (q43 < lastP fl ft nt) then (t3 (q25 ∧ ((((0 : Int) ≤ ft (Prod.fst y3) (0 : Nat)) ∧ (ft (Prod.fst y3) (0 : Nat) < (↑nl : Int))) ∧ (T0 ∧ ((Int.toNat q46 < nl) ∧ (T0 ∧ (if (@Eq Int (fl q47 (0 : Nat)) ((2 : Int))) then q57 else (t9 (t7 (q0 ∧ (T0 ∧ ((InC a b c d e) ∧ (q10 ∧ (q2 ∧ ((q23 ∧ ((@Eq Nat (nl) (nl)) ∧ (@Eq Nat q44 q44))) ∧ (q7 ∧ (((@Eq Int (askF a b c d e nl fl q46) ((0 : Int))) ∧ (¬fl q47 (0 : Nat) = (0 : Int))) ∧ (∀ y4 : Bool, ((y4 = true ↔ a < (2 : Int) * fl q47 (1 : Nat)) → (((@Eq (Option Blk) q56 q56) ∧ ((@Eq (Option Blk) q51 q51) ∧ ((@Eq (Option Blk) q53 q53) ∧ (True)))) ∧ (T0 ∧ (Go.Rx.br (!y4) (∃ y5 : Value, (∃ y6 : List Blk, ((Go.Rx.Found 2 (Value.tuple { toList := [Value.bool false, vi (0 : Int)] }) ({ h := [((6 : Nat), Blk.cells [vi a, vi b, vi c, vi d, vi e, rsl (4 : Nat) (0 : Nat) nl q44, rsl (5 : Nat) (0 : Nat) nt q45, vi (-1 : Int)] (100 : Nat)), ((5 : Nat), Blk.row false [IntKind.i64] (3 : Nat) nt q45 ft), ((4 : Nat), rF (54 : Nat) nl q44 fl)], next := (7 : Nat) }) (y5) (y6)) ∧ (K y5 y6)))) (T0 ∧ (q54 ∧ (∃ y5 : Nat × Nat × Nat, let q62 := (Prod.fst (Prod.snd y5)); let q63 := (Prod.snd (Prod.snd y5)); ((Go.Rx.Sub 2 [q4, q5, q6] ⟨88, [q49, q21, q15, q48, q12]⟩ ⟨[q55, q50, q52], 7⟩ ({ n := (88 : Nat), m := [q22, q19, ((61 : Nat), rsl (5 : Nat) (0 : Nat) nt q63), q16, ((63 : Nat), vi (↑(Prod.fst y5) : Int))] }) ({ h := [((6 : Nat), Blk.cells [vi a, vi b, vi c, vi d, vi e, rsl (4 : Nat) (0 : Nat) nl q62, rsl (5 : Nat) (0 : Nat) nt q63, vi (-1 : Int)] (100 : Nat)), ((5 : Nat), Blk.row false [IntKind.i64] (3 : Nat) nt q63 ft), ((4 : Nat), rF (54 : Nat) nl q62 fl)], next := (7 : Nat) })) ∧ (((Prod.fst y5 ≤ nt) ∧ (∀ y6 : Nat, let q61 := (Int.toNat (ft y6 (0 : Nat))); ((y6 < Prod.fst y5) → (((↑y6 : Int) < lastP fl ft nt) → ((@Eq Int (fl q61 (0 : Nat)) ((1 : Int))) → (a < (2 : Int) * fl q61 (1 : Nat))))))) ∧ (nt - Prod.fst y5 < nt - Prod.fst y3)))))))))))))))))))))))))))) else q57))))) else (∃ y4 : Value, (∃ y5 : List Blk, ((Go.Rx.Found 2 (Value.tuple { toList := [Value.bool true, vi (0 : Int)] }) ({ h := [((6 : Nat), Blk.cells [vi a, vi b, vi c, vi d, vi e, rsl (4 : Nat) (0 : Nat) nl q44, rsl (5 : Nat) (0 : Nat) nt q45, vi (-1 : Int)] (100 : Nat)), ((5 : Nat), Blk.row false [IntKind.i64] (3 : Nat) nt q45 ft), ((4 : Nat), rF (54 : Nat) nl q44 fl)], next := (7 : Nat) }) (y4) (y5)) ∧ (K y4 y5))))))))))); (((Prod.fst y2 ≤ nt) ∧ ((0 : Nat) ≤ Prod.fst y2)) → (T0 ∧ (if (q31 < (↑nt : Int)) then (q24 ∧ ((((0 : Int) ≤ q31) ∧ (q31 < (↑nt : Int))) ∧ ((Prod.fst y2 < nt) ∧ (t3 (q25 ∧ ((((0 : Int) ≤ ft (Prod.fst y2) (0 : Nat)) ∧ (ft (Prod.fst y2) (0 : Nat) < (↑nl : Int))) ∧ (T0 ∧ ((Int.toNat q34 < nl) ∧ (T0 ∧ (if (@Eq Int (fl (Int.toNat q34) (0 : Nat)) ((2 : Int))) then (T0 ∧ (q40 ∧ (∃ y3 : Nat × Nat × Nat, let q70 := (Prod.fst (Prod.snd y3)); let q71 := (Prod.snd (Prod.snd y3)); ((Go.Rx.Sub 2 [q4, q5, q6] ⟨88, [q37, q21, q35, q36, q13]⟩ ⟨[q41, q38, q39], 7⟩ ({ n := (88 : Nat), m := [q22, ((10 : Nat), vi (lastP fl ft (Prod.fst y3))), ((29 : Nat), rsl (5 : Nat) (0 : Nat) nt q71), q17, ((31 : Nat), vi (↑(Prod.fst y3) : Int))] }) ({ h := [((6 : Nat), Blk.cells [vi a, vi b, vi c, vi d, vi e, rsl (4 : Nat) (0 : Nat) nl q70, rsl (5 : Nat) (0 : Nat) nt q71, vi (-1 : Int)] (100 : Nat)), ((5 : Nat), Blk.row false [IntKind.i64] (3 : Nat) nt q71 ft), ((4 : Nat), rF (54 : Nat) nl q70 fl)], next := (7 : Nat) })) ∧ (((Prod.fst y3 ≤ nt) ∧ ((0 : Nat) ≤ Prod.fst y3)) ∧ (nt - Prod.fst y3 < nt - Prod.fst y2)))))) else (T0 ∧ (q40 ∧ (∃ y3 : Nat × Nat × Nat, let q68 := (Prod.fst (Prod.snd y3)); let q69 := (Prod.snd (Prod.snd y3)); ((Go.Rx.Sub 2 [q4, q5, q6] ⟨88, [q37, (10, vi q31), q21, q36, q13]⟩ ⟨[q41, q38, q39], 7⟩ ({ n := (88 : Nat), m := [q22, ((10 : Nat), vi (lastP fl ft (Prod.fst y3))), ((29 : Nat), rsl (5 : Nat) (0 : Nat) nt q69), q17, ((31 : Nat), vi (↑(Prod.fst y3) : Int))] }) ({ h := [((6 : Nat), Blk.cells [vi a, vi b, vi c, vi d, vi e, rsl (4 : Nat) (0 : Nat) nl q68, rsl (5 : Nat) (0 : Nat) nt q69, vi (-1 : Int)] (100 : Nat)), ((5 : Nat), Blk.row false [IntKind.i64] (3 : Nat) nt q69 ft), ((4 : Nat), rF (54 : Nat) nl q68 fl)], next := (7 : Nat) })) ∧ (((Prod.fst y3 ≤ nt) ∧ ((0 : Nat) ≤ Prod.fst y3)) ∧ (nt - Prod.fst y3 < nt - Prod.fst y2)))))))))))))))) else (T0 ∧ (if ((0 : Int) ≤ lastP fl ft (Prod.fst y2)) then (t2 (q14 ∧ (T0 ∧ (((q9 ≤ (↑nt : Int) - (1 : Int)) ∧ ((↑nt : Int) - (1 : Int) ≤ q8)) ∧ (T0 ∧ (if (lastP fl ft (Prod.fst y2) < (↑nt : Int) - (1 : Int)) then (∃ y3 : Value, (∃ y4 : List Blk, ((Go.Rx.Found 2 (Value.tuple { toList := [Value.bool false, vi (0 : Int)] }) ({ h := [((6 : Nat), Blk.cells [vi a, vi b, vi c, vi d, vi e, rsl (4 : Nat) (0 : Nat) nl q32, rsl (5 : Nat) (0 : Nat) nt q33, vi (-1 : Int)] (100 : Nat)), ((5 : Nat), Blk.row false [IntKind.i64] (3 : Nat) nt q33 ft), ((4 : Nat), rF (54 : Nat) nl q32 fl)], next := (7 : Nat) }) (y3) (y4)) ∧ (K y3 y4)))) else q42)))))) else q42))))))))))))))))))))))))))))))))))))))))))))))
theorem con51G_rrE (a b c d e : Int) (el nl cl : Nat) (fl : RF) (et nt ct : Nat) (ft : RF) (K : Value → List Blk → Prop) : con51G_rrV a b c d e el nl cl fl et nt ct ft K = bodyX (mkB X51) (callN (mkB X51) 5) (con51G_rrA a b c d e el nl cl fl et nt ct ft) Try.f51 [five' a b c d e, rsl 0 0 nl cl, rsl 1 0 nt ct] (stOf [.row true [.i64, .i64] el nl cl fl, .row true [.i64] et nt ct ft]) (Fd 2 K) := by kernel_rfl
set_option tactic.hygienic false in
theorem con51G_rrP (a b c d e : Int) (el nl cl : Nat) (fl : RF) (et nt ct : Nat) (ft : RF) (K : Value → List Blk → Prop)  (hI : InC a b c d e) (hnl : nl ≤ 100000) (hnt : nt ≤ 100000) (hct : capOk (rsl 1 0 nt ct)) (h1 : (bck a b c d e nl fl nt ft).2 = 0) (h : ∀ q : Bool, (q = true ↔ (sndP a fl nt ft)) → K (.tuple ⟨[.bool q, .int .i64 (0)]⟩) []) : con51G_rrV a b c d e el nl cl fl et nt ct ft K := by
  unfold con51G_rrV
  conv => zeta
  obtain ⟨g1, g2, g3, g4⟩ := bck_ok h1
  have gc := bck_ck h1
  have go := bck_one h1
  have LB := lastP_bd fl ft
  repeat' (first | (with_reducible first | exact rfl | exact trivial | refine And.intro ?_ ?_ | refine br_intro (fun hq => ?_) fun hq => ?_ | refine if_both (fun hz => ?_) fun hz => ?_) | (intro) | fail)
  all_goals try (rename Nat × Nat × Nat => k)
  all_goals try (rename _ ≤ _ ∧ (∀ _ : Nat, _) => I; obtain ⟨I1, I2⟩ := I)
  all_goals try (have gk := go k.1 (by omega))
  all_goals first
    | omega
    | assumption
    | contradiction
    | exact ask_of gc gk.1 gk.2.1
    | exact ⟨(0, y0, y1), (by (refine And.intro (And.intro rfl (And.intro rfl (And.intro rfl rfl))) ?_; (repeat' (first | exact trivial | exact rfl | exact fun _ _ _ _ => rfl | refine And.intro ?_ ?_ | omega | fail)); done)), by show 0 ≤ nt; omega, by show 0 ≤ 0; omega⟩
    | exact ⟨(k.1 + 1, k.2), (by (refine And.intro (And.intro rfl (And.intro rfl (And.intro rfl rfl))) ?_; (repeat' (first | exact trivial | exact rfl | exact fun _ _ _ _ => rfl | refine And.intro ?_ ?_ | omega | (simp only [lastP]; first | (rw [if_pos (by omega)]; done) | (rw [if_neg (by omega)]; done)) | fail)); done)), ⟨by show k.1 + 1 ≤ nt; omega, by show 0 ≤ k.1 + 1; omega⟩, by show nt - (k.1 + 1) < nt - k.1; omega⟩
    | (have hk : k.1 = nt := (by omega)
       exact ⟨(0, k.2.1, k.2.2), (by (refine And.intro (And.intro rfl (And.intro rfl (And.intro rfl rfl))) ?_; (repeat' (first | exact trivial | exact rfl | exact fun _ _ _ _ => rfl | refine And.intro ?_ ?_ | omega | (rw [hk]) | fail)); done)), by show 0 ≤ nt; omega, fun i hi => absurd hi (by show ¬ i < 0; omega)⟩)
    | exact ⟨(k.1 + 1, k.2), (by (refine And.intro (And.intro rfl (And.intro rfl (And.intro rfl rfl))) ?_; (repeat' (first | exact trivial | exact rfl | exact fun _ _ _ _ => rfl | refine And.intro ?_ ?_ | omega | fail)); done)), ⟨by show k.1 + 1 ≤ nt; omega, fun i hi => (by
        rcases Nat.lt_or_ge i k.1 with q | q
        · exact I2 i q
        · obtain rfl : i = k.1 := (by have : i < k.1 + 1 := hi; omega)
          intro e1 e2
          first | omega | (simp at hq; simp_all; done) | (simp at hq; simp_all; omega))⟩, by show nt - (k.1 + 1) < nt - k.1; omega⟩
    | (have hk : k.1 = nt := (by omega)
       have e : lastP fl ft k.1 = lastP fl ft nt := (by rw [hk])
       exact fin0 (by kernel_rfl) (by kernel_rfl) (h false ⟨fun q => (by cases q), fun S => (by have := S.1; omega)⟩))
    | (have hk : k.1 = nt := (by omega)
       have hj : y2.1 = nt := (by omega)
       have e : lastP fl ft y2.1 = lastP fl ft nt := (by rw [hj])
       have e2 := LB nt
       exact fin0 (by kernel_rfl) (by kernel_rfl) (h true ⟨fun _ => ⟨by omega, fun i hi => I2 i (by omega)⟩, fun _ => rfl⟩))
    | (exact fin0 (by kernel_rfl) (by kernel_rfl) (h false ⟨fun q => (by cases q), fun S => (by have := S.2 k.1 (by omega) (by omega) (by omega); simp at hq; first | (simp_all; done) | (simp_all; omega))⟩))
theorem con51G_ok : BodyOk (mkB X51) 5 Try.f51 con51G := by
  intro vs bs K hh hro
  clear hro
  unfold con51G at hh
  split at hh
  · rename_i u vl vt
    obtain ⟨a, b, c, d, e, rfl, hI, hh0⟩ := five_inv hh
    obtain ⟨el, nl, cl, fl, btl, rfl, hnl, rfl, hh1⟩ := parseR_inv hh0
    rcases parse_inv hh1 with ⟨rfl, hh2⟩ | ⟨et, nt, ct, ft, btt, rfl, hnt, rfl, hh2⟩ <;> clear hh1
    · obtain ⟨rfl, ⟨hct, h1⟩, hc⟩ := hh2
      exact ⟨_, _, cast (con51G_rnE a b c d e el nl cl fl  K) (con51G_rnP a b c d e el nl cl fl  K hI hnl hct h1 hc)⟩
    · obtain ⟨rfl, ⟨hct, h1⟩, hc⟩ := hh2
      exact ⟨_, _, cast (con51G_rrE a b c d e el nl cl fl et nt ct ft  K) (con51G_rrP a b c d e el nl cl fl et nt ct ft  K hI hnl hnt hct h1 hc)⟩
  · exact hh.elim
theorem con51G_told : Told 51 (specOf con51G) := toldB (X := X51) X51_told (by kernel_rfl) (by kernel_rfl) (by kernel_rfl) con51G_ok
end Go.Proofs.Ytkflmglpniebfaa.Fr
namespace Go.Proofs.Ytkflmglpniebfaa.Fr
set_option maxRecDepth 100000
set_option maxHeartbeats 4000000
open Go.Rx
open Go.RowKit (Below)
set_option linter.unusedVariables false
def con39G : Con := fun vs bs K => match vs with
  | [u, vl, .int .i64 x, .int .i64 y] => five u fun a b c d e => parseR [.i64, .i64] 0 vl bs fun nl fl j0 bs0 => bs0 = [] ∧ ((askF a b c d e nl fl x = 0) ∧ (1 ≤ y) ∧ (¬ fl x.toNat 0 = 0) ∧ (y ≤ a - fl x.toNat 1)) ∧ (∀ cp, nl ≤ cp → K (.tuple ⟨[rsl j0 0 nl cp, .int .i64 (1 + c + x * a + fl x.toNat 1), .int .i64 0]⟩) [.row false [.i64, .i64] 54 nl cp (putF fl x.toNat 1 (fl x.toNat 1 + y))])
  | _ => False

def con39G_rA (a b c d e : Int) (el nl cl : Nat) (fl : RF) (x : Int) (y : Int) : Ann := fun _ _ _ => none
def con39G_rV (a b c d e : Int) (el nl cl : Nat) (fl : RF) (x : Int) (y : Int) (K : Value → List Blk → Prop) : Prop := let q0 := ((0 : Nat) + nl ≤ nl); let q1 := (nl ≤ (100000 : Nat)); let q2 := eB; let q3 := (@Eq Nat ((0 : Nat)) ((0 : Nat))); let q4 := TS; let q5 := (@Eq Int (askF a b c d e nl fl x) ((0 : Int))); let q6 := ((2 : Nat), Blk.cells [vi y] (3 : Nat)); let q7 := ((0 : Nat), rT el nl cl fl); let q8 := (eK ∧ ((@Eq Nat (nl) (nl)) ∧ (@Eq Nat (cl) (cl)))); let q9 := ((1 : Nat), Blk.cells [vi a, vi b, vi c, vi d, vi e] (23 : Nat)); (t3 (q0 ∧ (T0 ∧ ((InC a b c d e) ∧ (q3 ∧ (q1 ∧ (q8 ∧ (q2 ∧ (q5 ∧ (t2 (if (y < (1 : Int)) then (∃ y0 : Value, (∃ y1 : List Blk, ((Go.Rx.Found 1 (Value.tuple { toList := [vn, vi (0 : Int), vi (7 : Int)] }) ({ h := [q6, q9, q7], next := (3 : Nat) }) (y0) (y1)) ∧ (K y0 y1)))) else (t2 (q0 ∧ (T0 ∧ ((InC a b c d e) ∧ (q3 ∧ (q1 ∧ (q8 ∧ (q2 ∧ ((q5 ∧ (¬fl (Int.toNat x) (0 : Nat) = (0 : Int))) ∧ (t2 (if (a - fl (Int.toNat x) (1 : Nat) < y) then (∃ y0 : Value, (∃ y1 : List Blk, ((Go.Rx.Found 1 (Value.tuple { toList := [vn, vi (0 : Int), vi (5 : Int)] }) ({ h := [q6, q9, q7], next := (3 : Nat) }) (y0) (y1)) ∧ (K y0 y1)))) else (T0 ∧ (q4 ∧ (q4 ∧ (t3 ((((0 : Int) ≤ (↑nl : Int)) ∧ (((↑nl : Int) ≤ (↑nl : Int)) ∧ ((↑nl : Int) ≤ (100000 : Int)))) ∧ (q4 ∧ (q4 ∧ (t4 (q0 ∧ (((false = false) ∧ (T0 ∧ q0)) ∧ ((q4 ∧ (@Eq Nat ((2 : Nat)) ((2 : Nat)))) ∧ ((((0 : Int) ≤ x) ∧ (x < (↑nl : Int))) ∧ (t7 ((Int.toNat x < nl) ∧ (t3 ((((-9223372036854775808 : Int) ≤ cpyF (fun x x_1 ↦ (0 : Int)) (0 : Nat) (Nat.min nl nl) fl (0 : Nat) (Int.toNat x) (1 : Nat) + y) ∧ (cpyF (fun x x_1 ↦ (0 : Int)) (0 : Nat) (Nat.min nl nl) fl (0 : Nat) (Int.toNat x) (1 : Nat) + y ≤ (9223372036854775807 : Int))) ∧ (t3 ((false = false) ∧ ((Int.toNat x < nl) ∧ (t2 (∃ y0 : Value, (∃ y1 : List Blk, ((Go.Rx.Found 1 (Value.tuple { toList := [rsl (3 : Nat) (0 : Nat) nl nl, vi ((1 : Int) + c + x * a + fl (Int.toNat x) (1 : Nat)), vi (0 : Int)] }) ({ h := [((3 : Nat), rF (54 : Nat) nl nl (putF (cpyF (fun x x_1 ↦ (0 : Int)) (0 : Nat) (Nat.min nl nl) fl (0 : Nat)) (Int.toNat x) (1 : Nat) (cpyF (fun x x_1 ↦ (0 : Int)) (0 : Nat) (Nat.min nl nl) fl (0 : Nat) (Int.toNat x) (1 : Nat) + y))), q6, q9, q7], next := (4 : Nat) }) (y0) (y1)) ∧ (K y0 y1))))))))))))))))))))))))))))))))))))))))))))))
theorem con39G_rE (a b c d e : Int) (el nl cl : Nat) (fl : RF) (x : Int) (y : Int) (K : Value → List Blk → Prop) : con39G_rV a b c d e el nl cl fl x y K = bodyX (mk X39G) (callN (mk X39G) 4) (con39G_rA a b c d e el nl cl fl x y) Try.f39 [five' a b c d e, rsl 0 0 nl cl, .int .i64 x, .int .i64 y] (stOf [.row true [.i64, .i64] el nl cl fl]) (Fd 1 K) := by kernel_rfl
set_option tactic.hygienic false in
theorem con39G_rP (a b c d e : Int) (el nl cl : Nat) (fl : RF) (x : Int) (y : Int) (K : Value → List Blk → Prop)  (hI : InC a b c d e) (hnl : nl ≤ 100000) (h1 : askF a b c d e nl fl x = 0) (h2 : 1 ≤ y) (h3 : ¬ fl x.toNat 0 = 0) (h4 : y ≤ a - fl x.toNat 1) (h : ∀ cp, nl ≤ cp → K (.tuple ⟨[rsl 1 0 nl cp, .int .i64 (1 + c + x * a + fl x.toNat 1), .int .i64 0]⟩) [.row false [.i64, .i64] 54 nl cp (putF fl x.toNat 1 (fl x.toNat 1 + y))]) : con39G_rV a b c d e el nl cl fl x y K := by
  unfold con39G_rV
  conv => zeta
  obtain ⟨g1, g2, g3, g4, g5, g6, g7, g8⟩ := bumpy h1
  unfold fok at g8
  have gm := mul_bd ⟨g2.1, g2.2.1⟩ (x := x) (b := b) (by omega) (by omega) (by omega)
  repeat' (first | (with_reducible first | exact rfl | exact trivial | refine And.intro ?_ ?_ | refine br_intro (fun hq => ?_) fun hq => ?_ | refine if_both (fun hz => ?_) fun hz => ?_) | (intro) | fail)

  all_goals first
    | omega
    | assumption
    | contradiction
    | exact fin0 (by kernel_rfl) (by kernel_rfl) (by first | exact h | simpa using h)
    | (refine fin1t rfl ?_ (by kernel_rfl) (by kernel_rfl) (h _ (by omega)); (intro i j hi hj; have hj' : j = 0 ∨ j = 1 := (by simp at hj; omega); simp only [putE, putF, cpyF, appF, shiftF, zF, Nat.min_self, Nat.sub_zero, Nat.add_zero, Nat.zero_add, Int.toNat_natCast, Int.toNat_zero]; rcases hj' with rfl | rfl <;> (repeat' split) <;> first | rfl | omega | (simp_all; done) | (simp_all; omega)))
    | (exfalso; simp at hq; omega)
    | (simp only [cpyF, Nat.min_self, Nat.zero_add, Nat.sub_zero, Nat.add_zero]; split <;> omega)
theorem con39G_ok : BodyOk (mk X39G) 4 Try.f39 con39G := by
  intro vs bs K hh hro
  clear hro
  unfold con39G at hh
  split at hh
  · rename_i u vl x y
    obtain ⟨a, b, c, d, e, rfl, hI, hh0⟩ := five_inv hh
    obtain ⟨el, nl, cl, fl, btl, rfl, hnl, rfl, hh1⟩ := parseR_inv hh0
    obtain ⟨rfl, ⟨h1, h2, h3, h4⟩, hc⟩ := hh1
    exact ⟨_, _, cast (con39G_rE a b c d e el nl cl fl x y K) (con39G_rP a b c d e el nl cl fl x y K hI hnl h1 h2 h3 h4 hc)⟩
  · exact hh.elim
theorem con39G_told : Told 39 (specOf con39G) := told (X := X39G) X39G_told (by kernel_rfl) (by kernel_rfl) (by kernel_rfl) con39G_ok
end Go.Proofs.Ytkflmglpniebfaa.Fr
namespace Go.Proofs.Ytkflmglpniebfaa.Fr
set_option maxRecDepth 100000
set_option maxHeartbeats 4000000
open Go.Rx
open Go.RowKit (Below)
set_option linter.unusedVariables false
/-- Words of a car are used. -/
structure Bumped (a b c d e : Int) (n : Nat) (f : RF) (x y : Int) (g : RF) : Prop where
  now1 : g x.toNat 1 = f x.toNat 1 + y
  now0 : g x.toNat 0 = f x.toNat 0
  rest : ∀ j q, ¬ (j = x.toNat ∧ q = 1) → g j q = f j q
  ask : askF a b c d e n g x = 0
theorem pc_same {f g : RF} (h : ∀ j, g j 0 = f j 0) : ∀ n : Nat, pc g n = pc f n
  | 0 => rfl
  | n + 1 => by
    have ih := pc_same h n
    simp only [pc, h, ih]
theorem bumped {a b c d e : Int} {n : Nat} {f : RF} {x y : Int} (h : askF a b c d e n f x = 0) (h1 : 1 ≤ y) (h2 : ¬ f x.toNat 0 = 0) (h3 : y ≤ a - f x.toNat 1) : Bumped a b c d e n f x y (putF f x.toNat 1 (f x.toNat 1 + y)) := by
  obtain ⟨k1, k2, k3, k4, k5, k6, k7, k8⟩ := bumpy h
  have r : ∀ j q, ¬ (j = x.toNat ∧ q = 1) → putF f x.toNat 1 (f x.toNat 1 + y) j q = f j q := fun j q hj => if_neg hj
  have ok : (ckF a b c d e n (putF f x.toNat 1 (f x.toNat 1 + y))).2 = 0 := by
    refine ckF_of k2 k3 (fun j hj => ?_) ?_
    · have gj := k7 j hj
      unfold fok at gj k8 ⊢
      rw [r j 0 (by simp)]
      by_cases hx : j = x.toNat
      · subst hx
        have : putF f x.toNat 1 (f x.toNat 1 + y) x.toNat 1 = f x.toNat 1 + y := if_pos ⟨rfl, rfl⟩
        rw [this]
        omega
      · rw [r j 1 (by simp [hx])]
        exact gj
    · rw [pc_same (fun j => r j 0 (by simp))]
      exact ckF_pc k1
  refine ⟨if_pos ⟨rfl, rfl⟩, r _ _ (by simp), r, ?_⟩
  unfold askF
  rw [if_pos ok, if_neg (by omega)]
def con39Ga : Con := fun vs bs K => match vs with
  | [u, v, .int .i64 x, .int .i64 y] => five u fun a b c d e => parseR [.i64, .i64] 0 v bs fun n f j bs => bs = [] ∧ (askF a b c d e n f x = 0 ∧ 1 ≤ y ∧ ¬ f x.toNat 0 = 0 ∧ y ≤ a - f x.toNat 1) ∧ ∀ g, Bumped a b c d e n f x y g → ∀ cp, n ≤ cp → K (.tuple ⟨[rsl j 0 n cp, .int .i64 (1 + c + x * a + f x.toNat 1), .int .i64 0]⟩) [.row false [.i64, .i64] 54 n cp g]
  | _ => False
theorem con39Ga_told : Told 39 (specOf con39Ga) := con39G_told.mono fun vs bs K x => by
  unfold con39Ga at x
  unfold con39G
  split at x
  · refine five_mono (fun a b c d e => parseR_mono fun n f j bs y => ?_) x
    obtain ⟨y1, y2, y4⟩ := y
    exact ⟨y1, y2, fun cp hcp => y4 _ (bumped y2.1 y2.2.1 y2.2.2.1 y2.2.2.2) cp hcp⟩
  · exact x.elim
end Go.Proofs.Ytkflmglpniebfaa.Fr
namespace Go.Proofs.Ytkflmglpniebfaa.Fr
set_option maxRecDepth 100000
set_option maxHeartbeats 4000000
open Go.Rx
open Go.RowKit (Below)
set_option linter.unusedVariables false
def con40G : Con := fun vs bs K => match vs with
  | [u, vl, .int .i64 x, .int .i64 y] => five u fun a b c d e => parseR [.i64, .i64] 0 vl bs fun nl fl j0 bs0 => bs0 = [] ∧ ((askF a b c d e nl fl x = 0) ∧ (1 ≤ y) ∧ (¬ fl x.toNat 0 = 0) ∧ (y ≤ a - fl x.toNat 1)) ∧ (∀ cp, nl ≤ cp → K (.tuple ⟨[rsl j0 0 nl cp, .int .i64 (1 + c + x * a + fl x.toNat 1), .int .i64 0]⟩) [.row false [.i64, .i64] 54 nl cp (putF fl x.toNat 1 (fl x.toNat 1 + y))])
  | _ => False

def con40G_rA (a b c d e : Int) (el nl cl : Nat) (fl : RF) (x : Int) (y : Int) : Ann := fun _ _ _ => none
def con40G_rV (a b c d e : Int) (el nl cl : Nat) (fl : RF) (x : Int) (y : Int) (K : Value → List Blk → Prop) : Prop := let q0 := ((0 : Nat) + nl ≤ nl); let q1 := (nl ≤ (100000 : Nat)); let q2 := (askF a b c d e nl fl x); let q3 := eB; let q4 := (@Eq Nat ((0 : Nat)) ((0 : Nat))); let q5 := (@Eq Nat ((2 : Nat)) ((2 : Nat))); let q6 := (((0 : Int) ≤ x) ∧ (x < (↑nl : Int))); let q7 := TS; let q8 := (litF (List.length [IntKind.i64, IntKind.i64]) []); let q9 := ((1 : Int) + c + x * a + fl (Int.toNat x) (1 : Nat)); let q10 := (some (rT el nl cl fl)); let q11 := ((0 : Nat), rT el nl cl fl); let q12 := (q4 ∧ q5); let q13 := (q7 ∧ q5); let q14 := (eK ∧ ((@Eq Nat (nl) (nl)) ∧ (@Eq Nat (cl) (cl)))); let q15 := ((2 : Nat), Blk.cells [vi (fl (Int.toNat x) (0 : Nat)), vi (fl (Int.toNat x) (1 : Nat) + y)] (54 : Nat)); let q16 := (some (Blk.cells [vi a, vi b, vi c, vi d, vi e] (23 : Nat))); let q17 := ((1 : Nat), Blk.cells [vi a, vi b, vi c, vi d, vi e] (23 : Nat)); let q18 := ((@Eq (Option Blk) q16 q16) ∧ ((@Eq (Option Blk) q10 q10) ∧ (True))); let q19 := (T0 ∧ (if (@Eq Int q2 ((0 : Int))) then (t2 (q0 ∧ (T0 ∧ ((InC a b c d e) ∧ (q4 ∧ (q1 ∧ (q14 ∧ (q3 ∧ (((@Eq Int q2 ((0 : Int))) ∧ (¬fl (Int.toNat x) (0 : Nat) = (0 : Int))) ∧ (t2 (if (a - fl (Int.toNat x) (1 : Nat) < y) then (T0 ∧ (∃ y0 : Value, (∃ y1 : List Blk, ((Go.Rx.Found 1 (Value.tuple { toList := [vn, vi (0 : Int), vi (5 : Int)] }) ({ h := [q17, q11], next := (2 : Nat) }) (y0) (y1)) ∧ (K y0 y1))))) else (t3 (q0 ∧ (T0 ∧ ((InC a b c d e) ∧ (q4 ∧ (q1 ∧ (q14 ∧ (q3 ∧ ((@Eq Int q2 ((0 : Int))) ∧ (t6 (q13 ∧ (q6 ∧ (t3 ((Int.toNat x < nl) ∧ (t3 (q13 ∧ (q6 ∧ (t3 ((Int.toNat x < nl) ∧ (t3 ((((-9223372036854775808 : Int) ≤ fl (Int.toNat x) (1 : Nat) + y) ∧ (fl (Int.toNat x) (1 : Nat) + y ≤ (9223372036854775807 : Int))) ∧ (T0 ∧ (q18 ∧ (T0 ∧ (q7 ∧ (t4 (q7 ∧ (q7 ∧ (t4 (q0 ∧ (q1 ∧ (T0 ∧ (q4 ∧ (Go.Rx.br (decide ((0 : Nat) < nl)) (∀ y0 : Nat, let q20 := (y0 - (1 : Nat) + (1 : Nat)); ((nl ≤ y0) → (T0 ∧ (q13 ∧ (q6 ∧ ((false = false) ∧ ((Int.toNat x < nl) ∧ (q12 ∧ (q18 ∧ (T0 ∧ (∃ y1 : Value, (∃ y2 : List Blk, ((Go.Rx.Found 1 (Value.tuple { toList := [rsl (4 : Nat) (0 : Nat) nl q20, vi q9, vi (0 : Int)] }) ({ h := [((4 : Nat), rF (54 : Nat) nl q20 (putE (appF (fun x x_1 ↦ (0 : Int)) (0 : Nat) fl (0 : Nat)) (Int.toNat x) [fl (Int.toNat x) (0 : Nat), fl (Int.toNat x) (1 : Nat) + y])), ((3 : Nat), rF (54 : Nat) (0 : Nat) (0 : Nat) q8), q15, q17, q11], next := (5 : Nat) }) (y1) (y2)) ∧ (K y1 y2)))))))))))))) (T0 ∧ (q13 ∧ ((((0 : Int) ≤ x) ∧ (x < (↑(0 : Nat) : Int))) ∧ ((false = false) ∧ ((Int.toNat x < (0 : Nat)) ∧ (q12 ∧ (q18 ∧ (T0 ∧ (∃ y0 : Value, (∃ y1 : List Blk, ((Go.Rx.Found 1 (Value.tuple { toList := [rsl (3 : Nat) (0 : Nat) (0 : Nat) (0 : Nat), vi q9, vi (0 : Int)] }) ({ h := [((3 : Nat), rF (54 : Nat) (0 : Nat) (0 : Nat) (putE q8 (Int.toNat x) [fl (Int.toNat x) (0 : Nat), fl (Int.toNat x) (1 : Nat) + y])), q15, q17, q11], next := (4 : Nat) }) (y0) (y1)) ∧ (K y0 y1))))))))))))))))))))))))))))))))))))))))))))))))))))))))) else (∃ y0 : Value, (∃ y1 : List Blk, ((Go.Rx.Found 1 (Value.tuple { toList := [vn, vi (0 : Int), vi q2] }) ({ h := [q17, q11], next := (2 : Nat) }) (y0) (y1)) ∧ (K y0 y1)))))); (t3 (q0 ∧ (T0 ∧ ((InC a b c d e) ∧ (q4 ∧ (q1 ∧ (q14 ∧ (q3 ∧ ((True) ∧ (T0 ∧ (if (@Eq Int q2 ((0 : Int))) then (T0 ∧ (if (y < (1 : Int)) then (T0 ∧ (∃ y0 : Value, (∃ y1 : List Blk, ((Go.Rx.Found 1 (Value.tuple { toList := [vn, vi (0 : Int), vi (7 : Int)] }) ({ h := [q17, q11], next := (2 : Nat) }) (y0) (y1)) ∧ (K y0 y1))))) else q19)) else q19)))))))))))
theorem con40G_rE (a b c d e : Int) (el nl cl : Nat) (fl : RF) (x : Int) (y : Int) (K : Value → List Blk → Prop) : con40G_rV a b c d e el nl cl fl x y K = bodyX (mk X40G) (callN (mk X40G) 4) (con40G_rA a b c d e el nl cl fl x y) Try.f40 [five' a b c d e, rsl 0 0 nl cl, .int .i64 x, .int .i64 y] (stOf [.row true [.i64, .i64] el nl cl fl]) (Fd 1 K) := by kernel_rfl
set_option tactic.hygienic false in
theorem con40G_rP (a b c d e : Int) (el nl cl : Nat) (fl : RF) (x : Int) (y : Int) (K : Value → List Blk → Prop)  (hI : InC a b c d e) (hnl : nl ≤ 100000) (h1 : askF a b c d e nl fl x = 0) (h2 : 1 ≤ y) (h3 : ¬ fl x.toNat 0 = 0) (h4 : y ≤ a - fl x.toNat 1) (h : ∀ cp, nl ≤ cp → K (.tuple ⟨[rsl 1 0 nl cp, .int .i64 (1 + c + x * a + fl x.toNat 1), .int .i64 0]⟩) [.row false [.i64, .i64] 54 nl cp (putF fl x.toNat 1 (fl x.toNat 1 + y))]) : con40G_rV a b c d e el nl cl fl x y K := by
  unfold con40G_rV
  conv => zeta
  obtain ⟨g1, g2, g3, g4, g5, g6, g7, g8⟩ := bumpy h1
  unfold fok at g8
  have gm := mul_bd ⟨g2.1, g2.2.1⟩ (x := x) (b := b) (by omega) (by omega) (by omega)
  repeat' (first | (with_reducible first | exact rfl | exact trivial | refine And.intro ?_ ?_ | refine br_intro (fun hq => ?_) fun hq => ?_ | refine if_both (fun hz => ?_) fun hz => ?_) | (intro) | fail)

  all_goals first
    | omega
    | assumption
    | contradiction
    | exact fin0 (by kernel_rfl) (by kernel_rfl) (by first | exact h | simpa using h)
    | (refine fin1t rfl ?_ (by kernel_rfl) (by kernel_rfl) (h _ (by omega)); (intro i j hi hj; have hj' : j = 0 ∨ j = 1 := (by simp at hj; omega); simp only [putE, putF, cpyF, appF, shiftF, zF, Nat.min_self, Nat.sub_zero, Nat.add_zero, Nat.zero_add, Int.toNat_natCast, Int.toNat_zero]; rcases hj' with rfl | rfl <;> (repeat' split) <;> first | rfl | omega | (simp_all; done) | (simp_all; omega)))
    | (exfalso; simp at hq; omega)
    | (simp only [cpyF, Nat.min_self, Nat.zero_add, Nat.sub_zero, Nat.add_zero]; split <;> omega)
theorem con40G_ok : BodyOk (mk X40G) 4 Try.f40 con40G := by
  intro vs bs K hh hro
  clear hro
  unfold con40G at hh
  split at hh
  · rename_i u vl x y
    obtain ⟨a, b, c, d, e, rfl, hI, hh0⟩ := five_inv hh
    obtain ⟨el, nl, cl, fl, btl, rfl, hnl, rfl, hh1⟩ := parseR_inv hh0
    obtain ⟨rfl, ⟨h1, h2, h3, h4⟩, hc⟩ := hh1
    exact ⟨_, _, cast (con40G_rE a b c d e el nl cl fl x y K) (con40G_rP a b c d e el nl cl fl x y K hI hnl h1 h2 h3 h4 hc)⟩
  · exact hh.elim
theorem con40G_told : Told 40 (specOf con40G) := told (X := X40G) X40G_told (by kernel_rfl) (by kernel_rfl) (by kernel_rfl) con40G_ok
end Go.Proofs.Ytkflmglpniebfaa.Fr
