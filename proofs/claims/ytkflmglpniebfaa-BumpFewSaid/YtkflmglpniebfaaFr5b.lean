/-
  Frames: contains. No project text.
-/
import Derived.Test.YtkflmglpniebfaaFr5
namespace Go.Proofs.Ytkflmglpniebfaa.Fr
open Go.Rx
open Go.RowKit (Below)
set_option linter.unusedVariables false
@[reducible] def X5 : List (Nat × Rx.Spec) := [(91, specOf con91)]
theorem X5_told : ∀ p ∈ X5, Told p.1 p.2 := by
  intro p hp
  simp only [List.mem_cons, List.not_mem_nil, or_false] at hp
  subst hp
  exact con91_told
def con79 : Con := fun vs bs K => match vs with
  | [u, .int .i64 x] => parse [.i64] 0 u bs fun n f _ bs => bs = [] ∧ ∀ bb : Bool, (bb = true ↔ ∃ i, i < n ∧ f i 0 = x) → K (.bool bb) []
  | _ => False

def con79_nA (x : Int) : Ann := fun _ _ _ => none
def con79_rA (es ns cs : Nat) (fs : RF) (x : Int) : Ann := fun _ _ _ => none
set_option maxRecDepth 100000 in
def con79_nV (x : Int) (K : Value → List Blk → Prop) : Prop := (T0 ∧ (T0 ∧ (T0 ∧ (eB ∧ (∀ y0 : Int, (((-1 : Int) ≤ y0) → ((y0 ≤ 100000) → ((0 ≤ y0 ↔ ∃ i, i < 0 ∧ zF i 0 = x) → (T0 ∧ (if (0 ≤ y0) then (∃ y1 : Value, (∃ y2 : List Blk, ((Go.Rx.Found 0 (Value.bool true) ({ h := [], next := 0 }) (y1) (y2)) ∧ (K y1 y2)))) else (∃ y1 : Value, (∃ y2 : List Blk, ((Go.Rx.Found 0 (Value.bool false) ({ h := [], next := 0 }) (y1) (y2)) ∧ (K y1 y2))))))))))))))
set_option maxRecDepth 100000 in
theorem con79_nE (x : Int) (K : Value → List Blk → Prop) : con79_nV x K = bodyX (mk X5) (callN (mk X5) 3) (con79_nA x) Try.f79 [.slice none 0 0, .int .i64 x] (stOf []) fun v s' => ∃ v1 news, Rx.Found 0 v s' v1 news ∧ K v1 news := by kernel_rfl
set_option maxRecDepth 100000 in
set_option maxHeartbeats 4000000 in
set_option tactic.hygienic false in
theorem con79_nP (x : Int) (K : Value → List Blk → Prop)  (h : ∀ bb : Bool, (bb = true ↔ ∃ i, i < 0 ∧ zF i 0 = x) → K (.bool bb) []) : con79_nV x K := by
  unfold con79_nV
  repeat' (first | (with_reducible exact rfl) | (with_reducible exact trivial) | (with_reducible refine And.intro ?_ ?_) | (intro) | (with_reducible refine br_intro (fun hq => ?_) (fun hq => ?_)) | (with_reducible refine if_both (fun hz => ?_) (fun hz => ?_)) | fail)
  all_goals first
    | omega
    | assumption
    | exact fin0 (by kernel_rfl) (by kernel_rfl) (h true ⟨fun _ => (show 0 ≤ y0 ↔ ∃ i, i < 0 ∧ zF i 0 = x by assumption).1 (by assumption), fun _ => rfl⟩)
    | exact fin0 (by kernel_rfl) (by kernel_rfl) (h false ⟨fun e => (by cases e), fun e => absurd ((show 0 ≤ y0 ↔ ∃ i, i < 0 ∧ zF i 0 = x by assumption).2 e) (by assumption)⟩)
set_option maxRecDepth 100000 in
def con79_rV (es ns cs : Nat) (fs : RF) (x : Int) (K : Value → List Blk → Prop) : Prop := (T0 ∧ ((0 + ns ≤ ns) ∧ (T0 ∧ ((eN 0) ∧ ((ns ≤ 100000) ∧ (((@Eq (List IntKind) ([IntKind.i64]) ([IntKind.i64])) ∧ ((eN ns) ∧ (eN cs))) ∧ (eB ∧ (∀ y0 : Int, (((-1 : Int) ≤ y0) → ((y0 ≤ 100000) → ((0 ≤ y0 ↔ ∃ i, i < ns ∧ fs i 0 = x) → (T0 ∧ (if (0 ≤ y0) then (∃ y1 : Value, (∃ y2 : List Blk, ((Go.Rx.Found 1 (Value.bool true) ({ h := [(0, Blk.row true [IntKind.i64] es ns cs fs)], next := 1 }) (y1) (y2)) ∧ (K y1 y2)))) else (∃ y1 : Value, (∃ y2 : List Blk, ((Go.Rx.Found 1 (Value.bool false) ({ h := [(0, Blk.row true [IntKind.i64] es ns cs fs)], next := 1 }) (y1) (y2)) ∧ (K y1 y2)))))))))))))))))
set_option maxRecDepth 100000 in
theorem con79_rE (es ns cs : Nat) (fs : RF) (x : Int) (K : Value → List Blk → Prop) : con79_rV es ns cs fs x K = bodyX (mk X5) (callN (mk X5) 3) (con79_rA es ns cs fs x) Try.f79 [rsl 0 0 ns cs, .int .i64 x] (stOf [.row true [.i64] es ns cs fs]) fun v s' => ∃ v1 news, Rx.Found 1 v s' v1 news ∧ K v1 news := by kernel_rfl
set_option maxRecDepth 100000 in
set_option maxHeartbeats 4000000 in
set_option tactic.hygienic false in
theorem con79_rP (es ns cs : Nat) (fs : RF) (x : Int) (K : Value → List Blk → Prop)  (hns : ns ≤ 100000) (h : ∀ bb : Bool, (bb = true ↔ ∃ i, i < ns ∧ fs i 0 = x) → K (.bool bb) []) : con79_rV es ns cs fs x K := by
  unfold con79_rV
  repeat' (first | (with_reducible exact rfl) | (with_reducible exact trivial) | (with_reducible refine And.intro ?_ ?_) | (intro) | (with_reducible refine br_intro (fun hq => ?_) (fun hq => ?_)) | (with_reducible refine if_both (fun hz => ?_) (fun hz => ?_)) | fail)
  all_goals first
    | omega
    | assumption
    | exact fin0 (by kernel_rfl) (by kernel_rfl) (h true ⟨fun _ => (show 0 ≤ y0 ↔ ∃ i, i < ns ∧ fs i 0 = x by assumption).1 (by assumption), fun _ => rfl⟩)
    | exact fin0 (by kernel_rfl) (by kernel_rfl) (h false ⟨fun e => (by cases e), fun e => absurd ((show 0 ≤ y0 ↔ ∃ i, i < ns ∧ fs i 0 = x by assumption).2 e) (by assumption)⟩)
theorem con79_ok : BodyOk (mk X5) 3 Try.f79 con79 := by
  intro vs bs K hh hro
  clear hro
  unfold con79 at hh
  split at hh
  · rename_i u x
    rcases parse_inv hh with ⟨rfl, hh0⟩ | ⟨es, ns, cs, fs, bs0, rfl, hns, rfl, hh0⟩ <;> clear hh
    · obtain ⟨rfl, hc⟩ := hh0
      exact ⟨_, _, cast (con79_nE x K) (con79_nP x K  hc)⟩
    · obtain ⟨rfl, hc⟩ := hh0
      exact ⟨_, _, cast (con79_rE es ns cs fs x K) (con79_rP es ns cs fs x K hns hc)⟩
  · exact hh.elim
theorem con79_told : Told 79 (specOf con79) := told (X := X5) (X5_told) (by kernel_rfl) (by kernel_rfl) (by kernel_rfl) con79_ok
end Go.Proofs.Ytkflmglpniebfaa.Fr
