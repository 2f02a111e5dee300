/-
  Frames: contains. No project text.
-/
import Derived.Test.YtkflmglpniebfaaFr0
namespace Go.Proofs.Ytkflmglpniebfaa.Fr
open Go.Rx
open Go.RowKit (Below)
set_option linter.unusedVariables false
def con91 : Con := fun vs bs K => match vs with
  | [u, .int .i64 x] => parse [.i64] 0 u bs fun n f _ bs => bs = [] ∧ ∀ r : Int, -1 ≤ r → r ≤ 100000 → (0 ≤ r ↔ ∃ i, i < n ∧ f i 0 = x) → K (.int .i64 r) []
  | _ => False

def con91_nA (x : Int) : Ann := fun k _ _ => bif Nat.beq k 2 then some [{ α := Nat, T := fun k => ⟨19, [(0, .slice none 0 0), (1, .int .i64 x), (7, .int .i64 (0 : Nat)), (8, .int .i64 (k : Int))]⟩, S := fun _ => ⟨[], 0⟩, I := fun k => k ≤ 0 ∧ ∀ i, i < k → ¬ zF i 0 = x, m := fun k => 0 - k, ρ0 := [], ρ1 := [[]] }] else none
def con91_rA (es ns cs : Nat) (fs : RF) (x : Int) : Ann := fun k _ _ => bif Nat.beq k 2 then some [{ α := Nat, T := fun k => ⟨19, [(0, rsl 0 0 ns cs), (1, .int .i64 x), (7, .int .i64 (ns : Nat)), (8, .int .i64 (k : Int))]⟩, S := fun _ => ⟨[(0, .row true [.i64] es ns cs fs)], 1⟩, I := fun k => k ≤ ns ∧ ∀ i, i < k → ¬ fs i 0 = x, m := fun k => ns - k, ρ0 := [], ρ1 := [[]] }] else none
set_option maxRecDepth 100000 in
def con91_nV (x : Int) (K : Value → List Blk → Prop) : Prop := (T0 ∧ (TS ∧ ((∃ y0 : Nat, ((Go.Rx.Sub 0 [] ⟨19, [(8, vi 0), (7, vi 0), (0, vn), (1, vi x)]⟩ ⟨[], 0⟩ ({ n := 19, m := [(0, vn), (1, vi x), (7, vi 0), (8, vi (↑y0 : Int))] }) ({ h := [], next := 0 })) ∧ ((y0 ≤ 0) ∧ (∀ y1 : Nat, ((y1 < y0) → (¬zF y1 0 = x)))))) ∧ (∀ y0 : Nat, (((y0 ≤ 0) ∧ (∀ y1 : Nat, ((y1 < y0) → (¬zF y1 0 = x)))) → (T0 ∧ (∃ y1 : Value, (∃ y2 : List Blk, ((Go.Rx.Found 0 (vi (-1 : Int)) ({ h := [], next := 0 }) (y1) (y2)) ∧ (K y1 y2))))))))))
set_option maxRecDepth 100000 in
theorem con91_nE (x : Int) (K : Value → List Blk → Prop) : con91_nV x K = bodyX (mk []) (callN (mk []) 3) (con91_nA x) Try.f91 [.slice none 0 0, .int .i64 x] (stOf []) fun v s' => ∃ v1 news, Rx.Found 0 v s' v1 news ∧ K v1 news := by kernel_rfl
set_option maxRecDepth 100000 in
set_option maxHeartbeats 4000000 in
set_option tactic.hygienic false in
theorem con91_nP (x : Int) (K : Value → List Blk → Prop)  (h : ∀ r : Int, -1 ≤ r → r ≤ 100000 → (0 ≤ r ↔ ∃ i, i < 0 ∧ zF i 0 = x) → K (.int .i64 r) []) : con91_nV x K := by
  unfold con91_nV
  repeat' (first | (with_reducible exact rfl) | (with_reducible exact trivial) | (with_reducible refine And.intro ?_ ?_) | (intro) | (with_reducible refine br_intro (fun hq => ?_) (fun hq => ?_)) | (with_reducible refine if_both (fun hz => ?_) (fun hz => ?_)) | fail)
  all_goals first
    | omega
    | assumption
    | exact ⟨0, (by (refine And.intro (And.intro rfl (And.intro rfl (And.intro rfl rfl))) ?_; (repeat' (first | exact trivial | exact rfl | exact fun _ _ _ _ => rfl | refine And.intro ?_ ?_ | omega | fail)); done)), by omega, fun i hi => by omega⟩
    | (refine ⟨y0 + 1, (by (refine And.intro (And.intro rfl (And.intro rfl (And.intro rfl rfl))) ?_; (repeat' (first | exact trivial | exact rfl | exact fun _ _ _ _ => rfl | refine And.intro ?_ ?_ | omega | fail)); done)), ⟨by omega, fun i hi => ?_⟩, by omega⟩
       rcases Nat.lt_or_ge i y0 with q | q
       · exact ‹y0 ≤ 0 ∧ ∀ i : Nat, i < y0 → ¬ zF i 0 = x›.2 i q
       · obtain rfl : i = y0 := by omega
         omega)
    | exact fin0 (by kernel_rfl) (by kernel_rfl) (h _ (by omega) (by omega) ⟨fun _ => ⟨y0, by omega, by omega⟩, fun _ => by omega⟩)
    | exact fin0 (by kernel_rfl) (by kernel_rfl) (h (-1) (by omega) (by omega) ⟨fun e => absurd e (by omega), fun ⟨i, h1, h2⟩ => absurd h2 (‹y0 ≤ 0 ∧ ∀ i : Nat, i < y0 → ¬ zF i 0 = x›.2 i (by omega))⟩)
set_option maxRecDepth 100000 in
def con91_rV (es ns cs : Nat) (fs : RF) (x : Int) (K : Value → List Blk → Prop) : Prop := (T0 ∧ (TS ∧ ((∃ y0 : Nat, ((Go.Rx.Sub 1 [] ⟨19, [(8, vi 0), (7, vi (↑ns : Int)), (0, rsl 0 0 ns cs), (1, vi x)]⟩ ⟨[(0, Blk.row true [IntKind.i64] es ns cs fs)], 1⟩ ({ n := 19, m := [(0, rsl 0 0 ns cs), (1, vi x), (7, vi (↑ns : Int)), (8, vi (↑y0 : Int))] }) ({ h := [(0, Blk.row true [IntKind.i64] es ns cs fs)], next := 1 })) ∧ ((y0 ≤ ns) ∧ (∀ y1 : Nat, ((y1 < y0) → (¬fs y1 0 = x)))))) ∧ (∀ y0 : Nat, (((y0 ≤ ns) ∧ (∀ y1 : Nat, ((y1 < y0) → (¬fs y1 0 = x)))) → (T0 ∧ (if ((↑y0 : Int) < (↑ns : Int)) then ((TS ∧ (eN 1)) ∧ (((0 ≤ (↑y0 : Int)) ∧ ((↑y0 : Int) < (↑ns : Int))) ∧ ((y0 < ns) ∧ (T0 ∧ (if (@Eq Int (x) (fs y0 0)) then (∃ y1 : Value, (∃ y2 : List Blk, ((Go.Rx.Found 1 (vi (↑y0 : Int)) ({ h := [(0, Blk.row true [IntKind.i64] es ns cs fs)], next := 1 }) (y1) (y2)) ∧ (K y1 y2)))) else (T0 ∧ ((((-9223372036854775808 : Int) ≤ (↑y0 : Int) + 1) ∧ ((↑y0 : Int) + (1 : Int) ≤ 9223372036854775807)) ∧ (∃ y1 : Nat, ((Go.Rx.Sub 1 [] ⟨19, [(8, vi ((↑y0 : Int) + 1)), (0, rsl 0 0 ns cs), (1, vi x), (7, vi (↑ns : Int))]⟩ ⟨[(0, Blk.row true [IntKind.i64] es ns cs fs)], 1⟩ ({ n := 19, m := [(0, rsl 0 0 ns cs), (1, vi x), (7, vi (↑ns : Int)), (8, vi (↑y1 : Int))] }) ({ h := [(0, Blk.row true [IntKind.i64] es ns cs fs)], next := 1 })) ∧ (((y1 ≤ ns) ∧ (∀ y2 : Nat, ((y2 < y1) → (¬fs y2 0 = x)))) ∧ (ns - y1 < ns - y0))))))))))) else (∃ y1 : Value, (∃ y2 : List Blk, ((Go.Rx.Found 1 (vi (-1 : Int)) ({ h := [(0, Blk.row true [IntKind.i64] es ns cs fs)], next := 1 }) (y1) (y2)) ∧ (K y1 y2)))))))))))
set_option maxRecDepth 100000 in
theorem con91_rE (es ns cs : Nat) (fs : RF) (x : Int) (K : Value → List Blk → Prop) : con91_rV es ns cs fs x K = bodyX (mk []) (callN (mk []) 3) (con91_rA es ns cs fs x) Try.f91 [rsl 0 0 ns cs, .int .i64 x] (stOf [.row true [.i64] es ns cs fs]) fun v s' => ∃ v1 news, Rx.Found 1 v s' v1 news ∧ K v1 news := by kernel_rfl
set_option maxRecDepth 100000 in
set_option maxHeartbeats 4000000 in
set_option tactic.hygienic false in
theorem con91_rP (es ns cs : Nat) (fs : RF) (x : Int) (K : Value → List Blk → Prop)  (hns : ns ≤ 100000) (h : ∀ r : Int, -1 ≤ r → r ≤ 100000 → (0 ≤ r ↔ ∃ i, i < ns ∧ fs i 0 = x) → K (.int .i64 r) []) : con91_rV es ns cs fs x K := by
  unfold con91_rV
  repeat' (first | (with_reducible exact rfl) | (with_reducible exact trivial) | (with_reducible refine And.intro ?_ ?_) | (intro) | (with_reducible refine br_intro (fun hq => ?_) (fun hq => ?_)) | (with_reducible refine if_both (fun hz => ?_) (fun hz => ?_)) | fail)
  all_goals first
    | omega
    | assumption
    | exact ⟨0, (by (refine And.intro (And.intro rfl (And.intro rfl (And.intro rfl rfl))) ?_; (repeat' (first | exact trivial | exact rfl | exact fun _ _ _ _ => rfl | refine And.intro ?_ ?_ | omega | fail)); done)), by omega, fun i hi => by omega⟩
    | (refine ⟨y0 + 1, (by (refine And.intro (And.intro rfl (And.intro rfl (And.intro rfl rfl))) ?_; (repeat' (first | exact trivial | exact rfl | exact fun _ _ _ _ => rfl | refine And.intro ?_ ?_ | omega | fail)); done)), ⟨by omega, fun i hi => ?_⟩, by omega⟩
       rcases Nat.lt_or_ge i y0 with q | q
       · exact ‹y0 ≤ ns ∧ ∀ i : Nat, i < y0 → ¬ fs i 0 = x›.2 i q
       · obtain rfl : i = y0 := by omega
         omega)
    | exact fin0 (by kernel_rfl) (by kernel_rfl) (h _ (by omega) (by omega) ⟨fun _ => ⟨y0, by omega, by omega⟩, fun _ => by omega⟩)
    | exact fin0 (by kernel_rfl) (by kernel_rfl) (h (-1) (by omega) (by omega) ⟨fun e => absurd e (by omega), fun ⟨i, h1, h2⟩ => absurd h2 (‹y0 ≤ ns ∧ ∀ i : Nat, i < y0 → ¬ fs i 0 = x›.2 i (by omega))⟩)
theorem con91_ok : BodyOk (mk []) 3 Try.f91 con91 := by
  intro vs bs K hh hro
  clear hro
  unfold con91 at hh
  split at hh
  · rename_i u x
    rcases parse_inv hh with ⟨rfl, hh0⟩ | ⟨es, ns, cs, fs, bs0, rfl, hns, rfl, hh0⟩ <;> clear hh
    · obtain ⟨rfl, hc⟩ := hh0
      exact ⟨_, _, cast (con91_nE x K) (con91_nP x K  hc)⟩
    · obtain ⟨rfl, hc⟩ := hh0
      exact ⟨_, _, cast (con91_rE es ns cs fs x K) (con91_rP es ns cs fs x K hns hc)⟩
  · exact hh.elim
theorem con91_told : Told 91 (specOf con91) := told (X := []) (fun _ h => by cases h) (by kernel_rfl) (by kernel_rfl) (by kernel_rfl) con91_ok
end Go.Proofs.Ytkflmglpniebfaa.Fr
