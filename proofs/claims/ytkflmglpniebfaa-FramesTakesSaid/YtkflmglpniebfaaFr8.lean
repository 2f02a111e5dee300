/-
  Frames: free, popular. No project text.
-/
import Derived.Test.YtkflmglpniebfaaFr7
namespace Go.Proofs.Ytkflmglpniebfaa.Fr
open Go.Rx
open Go.RowKit (Below)
set_option linter.unusedVariables false
@[reducible] def X8 : List (Nat × Rx.Spec) := [(21, specOf con21), (68, specOf con68), (69, specOf con69)]
theorem X8_told : ∀ p ∈ X8, Told p.1 p.2 := by
  intro p hp
  simp only [List.mem_cons, List.not_mem_nil, or_false] at hp
  rcases hp with rfl | rfl | rfl
  · exact con21_told
  · exact con68_told
  · exact con69_told
theorem selB_one {g f : RF} {x : Int} (h : g 0 0 = x) : selB 1 g f = selE f x := by
  funext i
  simp [selB, selE, h, eq_comm]
def con24 : Con := fun vs bs K => match vs with
  | [u, v] => five u fun a b c d e => parse [.i64, .i64] 0 v bs fun n f j bs => bs = [] ∧ (¬ (ckF a b c d e n f).2 = 0 → K (.tuple ⟨[.slice none 0 0, .int .i64 (ckF a b c d e n f).2]⟩) []) ∧ ((ckF a b c d e n f).2 = 0 → ((sel (selE f 0) n) = [] → K (.tuple ⟨[.slice none 0 0, .int .i64 0]⟩) []) ∧ (¬ (sel (selE f 0) n) = [] → ∀ cp, List.length (sel (selE f 0) n) ≤ cp → K (.tuple ⟨[rsl j 0 (List.length (sel (selE f 0) n)) cp, .int .i64 0]⟩) [.row false [.i64] 3 (List.length (sel (selE f 0) n)) cp (lF (sel (selE f 0) n))]))
  | _ => False

def con24_nA (a : Int) (b : Int) (c : Int) (d : Int) (e : Int) : Ann := fun _ => none
def con24_rA (el nl cl : Nat) (fl : RF) (a : Int) (b : Int) (c : Int) (d : Int) (e : Int) : Ann := fun _ => none
def con26 : Con := fun vs bs K => match vs with
  | [u, v] => five u fun a b c d e => parse [.i64, .i64] 0 v bs fun n f j bs => bs = [] ∧ (¬ (ckF a b c d e n f).2 = 0 → K (.tuple ⟨[.slice none 0 0, .int .i64 (ckF a b c d e n f).2]⟩) []) ∧ ((ckF a b c d e n f).2 = 0 → ((sel (selE f 2) n) = [] → K (.tuple ⟨[.slice none 0 0, .int .i64 0]⟩) []) ∧ (¬ (sel (selE f 2) n) = [] → ∀ cp, List.length (sel (selE f 2) n) ≤ cp → K (.tuple ⟨[rsl j 0 (List.length (sel (selE f 2) n)) cp, .int .i64 0]⟩) [.row false [.i64] 3 (List.length (sel (selE f 2) n)) cp (lF (sel (selE f 2) n))]))
  | _ => False

def con26_nA (a : Int) (b : Int) (c : Int) (d : Int) (e : Int) : Ann := fun _ => none
def con26_rA (el nl cl : Nat) (fl : RF) (a : Int) (b : Int) (c : Int) (d : Int) (e : Int) : Ann := fun _ => none
def con24_nV (a : Int) (b : Int) (c : Int) (d : Int) (e : Int) (K : Value → List Blk → Prop) : Prop := (T0 ∧ (T0 ∧ (T0 ∧ (T0 ∧ ((InC a b c d e) ∧ (eB ∧ (T0 ∧ (if (@Eq Int (Prod.snd (ckF a b c d e 0 zF)) (0)) then (TS ∧ (T0 ∧ (T0 ∧ (T0 ∧ (T0 ∧ (T0 ∧ ((1 ≤ 1) ∧ ((eN 0) ∧ ((1 ≤ 100000) ∧ (((@Eq (List IntKind) ([IntKind.i64]) ([IntKind.i64])) ∧ ((eN 1) ∧ (eN 1))) ∧ (eB ∧ (((sel (selB 1 (litF (List.length [IntKind.i64]) ([0] ++ [])) zF) 0 = []) → (∃ y0 : Value, (∃ y1 : List Blk, ((Go.Rx.Found 0 (vt [vn, vi 0]) ({ h := [(1, Blk.row false [IntKind.i64] 3 1 1 (litF (List.length [IntKind.i64]) ([0] ++ []))), (0, CB a b c d e)], next := 2 }) (y0) (y1)) ∧ (K y0 y1))))) ∧ ((¬sel (selB 1 (litF (List.length [IntKind.i64]) ([0] ++ [])) zF) 0 = []) → (∀ y0 : Nat, ((List.length (sel (selB 1 (litF (List.length [IntKind.i64]) ([0] ++ [])) zF) 0) ≤ y0) → (∃ y1 : Value, (∃ y2 : List Blk, ((Go.Rx.Found 0 (vt [rsl 2 0 0 y0, vi 0]) ({ h := [(2, Blk.row false [IntKind.i64] 3 0 y0 (lF (sel (selB 1 (litF (List.length [IntKind.i64]) ([0] ++ [])) zF) 0))), (1, Blk.row false [IntKind.i64] 3 1 1 (litF (List.length [IntKind.i64]) ([0] ++ []))), (0, CB a b c d e)], next := 3 }) (y1) (y2)) ∧ (K y1 y2))))))))))))))))))) else (∃ y0 : Value, (∃ y1 : List Blk, ((Go.Rx.Found 0 (vt [vn, vi (Prod.snd (ckF a b c d e 0 zF))]) ({ h := [(0, CB a b c d e)], next := 1 }) (y0) (y1)) ∧ (K y0 y1))))))))))))
theorem con24_nE (a : Int) (b : Int) (c : Int) (d : Int) (e : Int) (K : Value → List Blk → Prop) : con24_nV a b c d e K = bodyX (mk X8) (callN (mk X8) 3) (con24_nA a b c d e) Try.f24 [.agg ⟨[.int .i64 a, .int .i64 b, .int .i64 c, .int .i64 d, .int .i64 e]⟩, .slice none 0 0] (stOf []) fun v s' => ∃ v1 news, Rx.Found 0 v s' v1 news ∧ K v1 news := by kernel_rfl
set_option maxHeartbeats 4000000 in
set_option tactic.hygienic false in
theorem con24_nP (a : Int) (b : Int) (c : Int) (d : Int) (e : Int) (K : Value → List Blk → Prop)  (hI : InC a b c d e) (h : (¬ (ckF a b c d e 0 zF).2 = 0 → K (.tuple ⟨[.slice none 0 0, .int .i64 (ckF a b c d e 0 zF).2]⟩) []) ∧ ((ckF a b c d e 0 zF).2 = 0 → ((sel (selE zF 0) 0) = [] → K (.tuple ⟨[.slice none 0 0, .int .i64 0]⟩) []) ∧ (¬ (sel (selE zF 0) 0) = [] → ∀ cp, List.length (sel (selE zF 0) 0) ≤ cp → K (.tuple ⟨[rsl 0 0 (List.length (sel (selE zF 0) 0)) cp, .int .i64 0]⟩) [.row false [.i64] 3 (List.length (sel (selE zF 0) 0)) cp (lF (sel (selE zF 0) 0))]))) : con24_nV a b c d e K := by
  unfold con24_nV
  have E1 : ∀ g : RF, g 0 0 = 0 → sel (selB 1 g zF) 0 = sel (selE zF 0) 0 := fun g h => by rw [selB_one h]
  repeat' (first | (with_reducible exact rfl) | (with_reducible exact trivial) | (with_reducible refine And.intro ?_ ?_) | (intro) | (with_reducible refine br_intro (fun hq => ?_) (fun hq => ?_)) | (with_reducible refine if_both (fun hz => ?_) (fun hz => ?_)) | fail)
  all_goals first
    | omega
    | assumption
    | exact fin0 (by kernel_rfl) (by kernel_rfl) (h.1 (by assumption))
    | exact fin0 (by kernel_rfl) (by kernel_rfl) ((h.2 (by assumption)).1 (by assumption))
    | exact fin0 (by kernel_rfl) (by kernel_rfl) ((h.2 (by assumption)).1 ((E1 _ rfl).symm.trans (by assumption)))
    | (rw [E1 _ rfl] at *
       exact fin1t (by kernel_rfl) (fun _ _ _ _ => rfl) (by kernel_rfl) (by kernel_rfl) ((h.2 (by assumption)).2 (by assumption) _ (by assumption)))
    | exact fin1t (by kernel_rfl) (fun _ _ _ _ => rfl) (by kernel_rfl) (by kernel_rfl) ((h.2 (by assumption)).2 (by assumption) _ (by assumption))
def con24_rV (el nl cl : Nat) (fl : RF) (a : Int) (b : Int) (c : Int) (d : Int) (e : Int) (K : Value → List Blk → Prop) : Prop := (T0 ∧ (T0 ∧ (T0 ∧ ((0 + nl ≤ nl) ∧ ((InC a b c d e) ∧ ((eN 0) ∧ ((nl ≤ 100000) ∧ ((eK ∧ ((eN nl) ∧ (eN cl))) ∧ (eB ∧ (T0 ∧ (if (@Eq Int (Prod.snd (ckF a b c d e nl fl)) (0)) then (TS ∧ (T0 ∧ (T0 ∧ (T0 ∧ (T0 ∧ ((0 + nl ≤ nl) ∧ ((1 ≤ 1) ∧ ((eN 0) ∧ ((nl ≤ 100000) ∧ ((eK ∧ ((eN nl) ∧ (eN cl))) ∧ ((eN 1) ∧ ((1 ≤ 100000) ∧ (((@Eq (List IntKind) ([IntKind.i64]) ([IntKind.i64])) ∧ ((eN 1) ∧ (eN 1))) ∧ (eB ∧ (((sel (selB 1 (litF (List.length [IntKind.i64]) ([0] ++ [])) fl) nl = []) → (∃ y0 : Value, (∃ y1 : List Blk, ((Go.Rx.Found 1 (vt [vn, vi 0]) ({ h := [(2, Blk.row false [IntKind.i64] 3 1 1 (litF (List.length [IntKind.i64]) ([0] ++ []))), (1, CB a b c d e), (0, rT el nl cl fl)], next := 3 }) (y0) (y1)) ∧ (K y0 y1))))) ∧ ((¬sel (selB 1 (litF (List.length [IntKind.i64]) ([0] ++ [])) fl) nl = []) → (∀ y0 : Nat, ((List.length (sel (selB 1 (litF (List.length [IntKind.i64]) ([0] ++ [])) fl) nl) ≤ y0) → (∃ y1 : Value, (∃ y2 : List Blk, ((Go.Rx.Found 1 (vt [rsl 3 0 (List.length (sel (selB 1 (litF (List.length [IntKind.i64]) ([0] ++ [])) fl) nl)) y0, vi 0]) ({ h := [(3, Blk.row false [IntKind.i64] 3 (List.length (sel (selB 1 (litF (List.length [IntKind.i64]) ([0] ++ [])) fl) nl)) y0 (lF (sel (selB 1 (litF (List.length [IntKind.i64]) ([0] ++ [])) fl) nl))), (2, Blk.row false [IntKind.i64] 3 1 1 (litF (List.length [IntKind.i64]) ([0] ++ []))), (1, CB a b c d e), (0, rT el nl cl fl)], next := 4 }) (y1) (y2)) ∧ (K y1 y2)))))))))))))))))))))) else (∃ y0 : Value, (∃ y1 : List Blk, ((Go.Rx.Found 1 (vt [vn, vi (Prod.snd (ckF a b c d e nl fl))]) ({ h := [(1, CB a b c d e), (0, rT el nl cl fl)], next := 2 }) (y0) (y1)) ∧ (K y0 y1)))))))))))))))
theorem con24_rE (el nl cl : Nat) (fl : RF) (a : Int) (b : Int) (c : Int) (d : Int) (e : Int) (K : Value → List Blk → Prop) : con24_rV el nl cl fl a b c d e K = bodyX (mk X8) (callN (mk X8) 3) (con24_rA el nl cl fl a b c d e) Try.f24 [.agg ⟨[.int .i64 a, .int .i64 b, .int .i64 c, .int .i64 d, .int .i64 e]⟩, rsl 0 0 nl cl] (stOf [.row true [.i64, .i64] el nl cl fl]) fun v s' => ∃ v1 news, Rx.Found 1 v s' v1 news ∧ K v1 news := by kernel_rfl
set_option maxHeartbeats 4000000 in
set_option tactic.hygienic false in
theorem con24_rP (el nl cl : Nat) (fl : RF) (a : Int) (b : Int) (c : Int) (d : Int) (e : Int) (K : Value → List Blk → Prop)  (hI : InC a b c d e) (hnl : nl ≤ 100000) (h : (¬ (ckF a b c d e nl fl).2 = 0 → K (.tuple ⟨[.slice none 0 0, .int .i64 (ckF a b c d e nl fl).2]⟩) []) ∧ ((ckF a b c d e nl fl).2 = 0 → ((sel (selE fl 0) nl) = [] → K (.tuple ⟨[.slice none 0 0, .int .i64 0]⟩) []) ∧ (¬ (sel (selE fl 0) nl) = [] → ∀ cp, List.length (sel (selE fl 0) nl) ≤ cp → K (.tuple ⟨[rsl 1 0 (List.length (sel (selE fl 0) nl)) cp, .int .i64 0]⟩) [.row false [.i64] 3 (List.length (sel (selE fl 0) nl)) cp (lF (sel (selE fl 0) nl))]))) : con24_rV el nl cl fl a b c d e K := by
  unfold con24_rV
  have E1 : ∀ g : RF, g 0 0 = 0 → sel (selB 1 g fl) nl = sel (selE fl 0) nl := fun g h => by rw [selB_one h]
  repeat' (first | (with_reducible exact rfl) | (with_reducible exact trivial) | (with_reducible refine And.intro ?_ ?_) | (intro) | (with_reducible refine br_intro (fun hq => ?_) (fun hq => ?_)) | (with_reducible refine if_both (fun hz => ?_) (fun hz => ?_)) | fail)
  all_goals first
    | omega
    | assumption
    | exact fin0 (by kernel_rfl) (by kernel_rfl) (h.1 (by assumption))
    | exact fin0 (by kernel_rfl) (by kernel_rfl) ((h.2 (by assumption)).1 (by assumption))
    | exact fin0 (by kernel_rfl) (by kernel_rfl) ((h.2 (by assumption)).1 ((E1 _ rfl).symm.trans (by assumption)))
    | (rw [E1 _ rfl] at *
       exact fin1t (by kernel_rfl) (fun _ _ _ _ => rfl) (by kernel_rfl) (by kernel_rfl) ((h.2 (by assumption)).2 (by assumption) _ (by assumption)))
    | exact fin1t (by kernel_rfl) (fun _ _ _ _ => rfl) (by kernel_rfl) (by kernel_rfl) ((h.2 (by assumption)).2 (by assumption) _ (by assumption))
theorem con24_ok : BodyOk (mk X8) 3 Try.f24 con24 := by
  intro vs bs K hh hro
  clear hro
  unfold con24 at hh
  split at hh
  · obtain ⟨a, b, c, d, e, rfl, hI, hh0⟩ := five_inv hh
    rcases parse_inv hh0 with ⟨rfl, hh1⟩ | ⟨el, nl, cl, fl, bs1, rfl, hnl, rfl, hh1⟩ <;> clear hh0
    · obtain ⟨rfl, hc⟩ := hh1
      exact ⟨_, cast (con24_nE a b c d e K) (con24_nP a b c d e K hI hc)⟩
    · obtain ⟨rfl, hc⟩ := hh1
      exact ⟨_, cast (con24_rE el nl cl fl a b c d e K) (con24_rP el nl cl fl a b c d e K hI hnl hc)⟩
  · exact hh.elim
theorem con24_told : Told 24 (specOf con24) := told (X := X8) (X8_told) (by kernel_rfl) (by kernel_rfl) (by kernel_rfl) con24_ok
def con26_nV (a : Int) (b : Int) (c : Int) (d : Int) (e : Int) (K : Value → List Blk → Prop) : Prop := (T0 ∧ (T0 ∧ (T0 ∧ (T0 ∧ ((InC a b c d e) ∧ (eB ∧ (T0 ∧ (if (@Eq Int (Prod.snd (ckF a b c d e 0 zF)) (0)) then (TS ∧ (T0 ∧ (T0 ∧ (T0 ∧ (T0 ∧ (T0 ∧ ((1 ≤ 1) ∧ ((eN 0) ∧ ((1 ≤ 100000) ∧ (((@Eq (List IntKind) ([IntKind.i64]) ([IntKind.i64])) ∧ ((eN 1) ∧ (eN 1))) ∧ (eB ∧ (((sel (selB 1 (litF (List.length [IntKind.i64]) ([2] ++ [])) zF) 0 = []) → (∃ y0 : Value, (∃ y1 : List Blk, ((Go.Rx.Found 0 (vt [vn, vi 0]) ({ h := [(1, Blk.row false [IntKind.i64] 3 1 1 (litF (List.length [IntKind.i64]) ([2] ++ []))), (0, CB a b c d e)], next := 2 }) (y0) (y1)) ∧ (K y0 y1))))) ∧ ((¬sel (selB 1 (litF (List.length [IntKind.i64]) ([2] ++ [])) zF) 0 = []) → (∀ y0 : Nat, ((List.length (sel (selB 1 (litF (List.length [IntKind.i64]) ([2] ++ [])) zF) 0) ≤ y0) → (∃ y1 : Value, (∃ y2 : List Blk, ((Go.Rx.Found 0 (vt [rsl 2 0 0 y0, vi 0]) ({ h := [(2, Blk.row false [IntKind.i64] 3 0 y0 (lF (sel (selB 1 (litF (List.length [IntKind.i64]) ([2] ++ [])) zF) 0))), (1, Blk.row false [IntKind.i64] 3 1 1 (litF (List.length [IntKind.i64]) ([2] ++ []))), (0, CB a b c d e)], next := 3 }) (y1) (y2)) ∧ (K y1 y2))))))))))))))))))) else (∃ y0 : Value, (∃ y1 : List Blk, ((Go.Rx.Found 0 (vt [vn, vi (Prod.snd (ckF a b c d e 0 zF))]) ({ h := [(0, CB a b c d e)], next := 1 }) (y0) (y1)) ∧ (K y0 y1))))))))))))
theorem con26_nE (a : Int) (b : Int) (c : Int) (d : Int) (e : Int) (K : Value → List Blk → Prop) : con26_nV a b c d e K = bodyX (mk X8) (callN (mk X8) 3) (con26_nA a b c d e) Try.f26 [.agg ⟨[.int .i64 a, .int .i64 b, .int .i64 c, .int .i64 d, .int .i64 e]⟩, .slice none 0 0] (stOf []) fun v s' => ∃ v1 news, Rx.Found 0 v s' v1 news ∧ K v1 news := by kernel_rfl
set_option maxHeartbeats 4000000 in
set_option tactic.hygienic false in
theorem con26_nP (a : Int) (b : Int) (c : Int) (d : Int) (e : Int) (K : Value → List Blk → Prop)  (hI : InC a b c d e) (h : (¬ (ckF a b c d e 0 zF).2 = 0 → K (.tuple ⟨[.slice none 0 0, .int .i64 (ckF a b c d e 0 zF).2]⟩) []) ∧ ((ckF a b c d e 0 zF).2 = 0 → ((sel (selE zF 2) 0) = [] → K (.tuple ⟨[.slice none 0 0, .int .i64 0]⟩) []) ∧ (¬ (sel (selE zF 2) 0) = [] → ∀ cp, List.length (sel (selE zF 2) 0) ≤ cp → K (.tuple ⟨[rsl 0 0 (List.length (sel (selE zF 2) 0)) cp, .int .i64 0]⟩) [.row false [.i64] 3 (List.length (sel (selE zF 2) 0)) cp (lF (sel (selE zF 2) 0))]))) : con26_nV a b c d e K := by
  unfold con26_nV
  have E1 : ∀ g : RF, g 0 0 = 2 → sel (selB 1 g zF) 0 = sel (selE zF 2) 0 := fun g h => by rw [selB_one h]
  repeat' (first | (with_reducible exact rfl) | (with_reducible exact trivial) | (with_reducible refine And.intro ?_ ?_) | (intro) | (with_reducible refine br_intro (fun hq => ?_) (fun hq => ?_)) | (with_reducible refine if_both (fun hz => ?_) (fun hz => ?_)) | fail)
  all_goals first
    | omega
    | assumption
    | exact fin0 (by kernel_rfl) (by kernel_rfl) (h.1 (by assumption))
    | exact fin0 (by kernel_rfl) (by kernel_rfl) ((h.2 (by assumption)).1 (by assumption))
    | exact fin0 (by kernel_rfl) (by kernel_rfl) ((h.2 (by assumption)).1 ((E1 _ rfl).symm.trans (by assumption)))
    | (rw [E1 _ rfl] at *
       exact fin1t (by kernel_rfl) (fun _ _ _ _ => rfl) (by kernel_rfl) (by kernel_rfl) ((h.2 (by assumption)).2 (by assumption) _ (by assumption)))
    | exact fin1t (by kernel_rfl) (fun _ _ _ _ => rfl) (by kernel_rfl) (by kernel_rfl) ((h.2 (by assumption)).2 (by assumption) _ (by assumption))
def con26_rV (el nl cl : Nat) (fl : RF) (a : Int) (b : Int) (c : Int) (d : Int) (e : Int) (K : Value → List Blk → Prop) : Prop := (T0 ∧ (T0 ∧ (T0 ∧ ((0 + nl ≤ nl) ∧ ((InC a b c d e) ∧ ((eN 0) ∧ ((nl ≤ 100000) ∧ ((eK ∧ ((eN nl) ∧ (eN cl))) ∧ (eB ∧ (T0 ∧ (if (@Eq Int (Prod.snd (ckF a b c d e nl fl)) (0)) then (TS ∧ (T0 ∧ (T0 ∧ (T0 ∧ (T0 ∧ ((0 + nl ≤ nl) ∧ ((1 ≤ 1) ∧ ((eN 0) ∧ ((nl ≤ 100000) ∧ ((eK ∧ ((eN nl) ∧ (eN cl))) ∧ ((eN 1) ∧ ((1 ≤ 100000) ∧ (((@Eq (List IntKind) ([IntKind.i64]) ([IntKind.i64])) ∧ ((eN 1) ∧ (eN 1))) ∧ (eB ∧ (((sel (selB 1 (litF (List.length [IntKind.i64]) ([2] ++ [])) fl) nl = []) → (∃ y0 : Value, (∃ y1 : List Blk, ((Go.Rx.Found 1 (vt [vn, vi 0]) ({ h := [(2, Blk.row false [IntKind.i64] 3 1 1 (litF (List.length [IntKind.i64]) ([2] ++ []))), (1, CB a b c d e), (0, rT el nl cl fl)], next := 3 }) (y0) (y1)) ∧ (K y0 y1))))) ∧ ((¬sel (selB 1 (litF (List.length [IntKind.i64]) ([2] ++ [])) fl) nl = []) → (∀ y0 : Nat, ((List.length (sel (selB 1 (litF (List.length [IntKind.i64]) ([2] ++ [])) fl) nl) ≤ y0) → (∃ y1 : Value, (∃ y2 : List Blk, ((Go.Rx.Found 1 (vt [rsl 3 0 (List.length (sel (selB 1 (litF (List.length [IntKind.i64]) ([2] ++ [])) fl) nl)) y0, vi 0]) ({ h := [(3, Blk.row false [IntKind.i64] 3 (List.length (sel (selB 1 (litF (List.length [IntKind.i64]) ([2] ++ [])) fl) nl)) y0 (lF (sel (selB 1 (litF (List.length [IntKind.i64]) ([2] ++ [])) fl) nl))), (2, Blk.row false [IntKind.i64] 3 1 1 (litF (List.length [IntKind.i64]) ([2] ++ []))), (1, CB a b c d e), (0, rT el nl cl fl)], next := 4 }) (y1) (y2)) ∧ (K y1 y2)))))))))))))))))))))) else (∃ y0 : Value, (∃ y1 : List Blk, ((Go.Rx.Found 1 (vt [vn, vi (Prod.snd (ckF a b c d e nl fl))]) ({ h := [(1, CB a b c d e), (0, rT el nl cl fl)], next := 2 }) (y0) (y1)) ∧ (K y0 y1)))))))))))))))
theorem con26_rE (el nl cl : Nat) (fl : RF) (a : Int) (b : Int) (c : Int) (d : Int) (e : Int) (K : Value → List Blk → Prop) : con26_rV el nl cl fl a b c d e K = bodyX (mk X8) (callN (mk X8) 3) (con26_rA el nl cl fl a b c d e) Try.f26 [.agg ⟨[.int .i64 a, .int .i64 b, .int .i64 c, .int .i64 d, .int .i64 e]⟩, rsl 0 0 nl cl] (stOf [.row true [.i64, .i64] el nl cl fl]) fun v s' => ∃ v1 news, Rx.Found 1 v s' v1 news ∧ K v1 news := by kernel_rfl
set_option maxHeartbeats 4000000 in
set_option tactic.hygienic false in
theorem con26_rP (el nl cl : Nat) (fl : RF) (a : Int) (b : Int) (c : Int) (d : Int) (e : Int) (K : Value → List Blk → Prop)  (hI : InC a b c d e) (hnl : nl ≤ 100000) (h : (¬ (ckF a b c d e nl fl).2 = 0 → K (.tuple ⟨[.slice none 0 0, .int .i64 (ckF a b c d e nl fl).2]⟩) []) ∧ ((ckF a b c d e nl fl).2 = 0 → ((sel (selE fl 2) nl) = [] → K (.tuple ⟨[.slice none 0 0, .int .i64 0]⟩) []) ∧ (¬ (sel (selE fl 2) nl) = [] → ∀ cp, List.length (sel (selE fl 2) nl) ≤ cp → K (.tuple ⟨[rsl 1 0 (List.length (sel (selE fl 2) nl)) cp, .int .i64 0]⟩) [.row false [.i64] 3 (List.length (sel (selE fl 2) nl)) cp (lF (sel (selE fl 2) nl))]))) : con26_rV el nl cl fl a b c d e K := by
  unfold con26_rV
  have E1 : ∀ g : RF, g 0 0 = 2 → sel (selB 1 g fl) nl = sel (selE fl 2) nl := fun g h => by rw [selB_one h]
  repeat' (first | (with_reducible exact rfl) | (with_reducible exact trivial) | (with_reducible refine And.intro ?_ ?_) | (intro) | (with_reducible refine br_intro (fun hq => ?_) (fun hq => ?_)) | (with_reducible refine if_both (fun hz => ?_) (fun hz => ?_)) | fail)
  all_goals first
    | omega
    | assumption
    | exact fin0 (by kernel_rfl) (by kernel_rfl) (h.1 (by assumption))
    | exact fin0 (by kernel_rfl) (by kernel_rfl) ((h.2 (by assumption)).1 (by assumption))
    | exact fin0 (by kernel_rfl) (by kernel_rfl) ((h.2 (by assumption)).1 ((E1 _ rfl).symm.trans (by assumption)))
    | (rw [E1 _ rfl] at *
       exact fin1t (by kernel_rfl) (fun _ _ _ _ => rfl) (by kernel_rfl) (by kernel_rfl) ((h.2 (by assumption)).2 (by assumption) _ (by assumption)))
    | exact fin1t (by kernel_rfl) (fun _ _ _ _ => rfl) (by kernel_rfl) (by kernel_rfl) ((h.2 (by assumption)).2 (by assumption) _ (by assumption))
theorem con26_ok : BodyOk (mk X8) 3 Try.f26 con26 := by
  intro vs bs K hh hro
  clear hro
  unfold con26 at hh
  split at hh
  · obtain ⟨a, b, c, d, e, rfl, hI, hh0⟩ := five_inv hh
    rcases parse_inv hh0 with ⟨rfl, hh1⟩ | ⟨el, nl, cl, fl, bs1, rfl, hnl, rfl, hh1⟩ <;> clear hh0
    · obtain ⟨rfl, hc⟩ := hh1
      exact ⟨_, cast (con26_nE a b c d e K) (con26_nP a b c d e K hI hc)⟩
    · obtain ⟨rfl, hc⟩ := hh1
      exact ⟨_, cast (con26_rE el nl cl fl a b c d e K) (con26_rP el nl cl fl a b c d e K hI hnl hc)⟩
  · exact hh.elim
theorem con26_told : Told 26 (specOf con26) := told (X := X8) (X8_told) (by kernel_rfl) (by kernel_rfl) (by kernel_rfl) con26_ok
end Go.Proofs.Ytkflmglpniebfaa.Fr
