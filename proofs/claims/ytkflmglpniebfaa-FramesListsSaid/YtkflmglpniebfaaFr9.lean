/-
  Frames: new. No project text.
-/
import Derived.Test.YtkflmglpniebfaaFr8
namespace Go.Proofs.Ytkflmglpniebfaa.Fr
open Go.Rx
open Go.RowKit (Below)
set_option linter.unusedVariables false
@[reducible] def X9 : List (Nat × Rx.Spec) := [(66, sp66), (67, specOf con67)]
theorem X9_told : ∀ p ∈ X9, Told p.1 p.2 := by
  intro p hp
  simp only [List.mem_cons, List.not_mem_nil, or_false] at hp
  rcases hp with rfl | rfl
  · exact told66
  · exact con67_told
def con19 : Con := fun vs bs K => match vs with
  | [u] => five u fun a b c d e => bs = [] ∧ (¬ chk a b c d e = 0 → K (.tuple ⟨[.slice none 0 0, .int .i64 (chk a b c d e)]⟩) []) ∧ (chk a b c d e = 0 → K (.tuple ⟨[rsl 0 0 b.toNat b.toNat, .int .i64 0]⟩) [.row false [.i64, .i64] 54 b.toNat b.toNat zF])
  | _ => False

def con19_zA (a : Int) (b : Int) (c : Int) (d : Int) (e : Int) : Ann := fun _ => none
def con20 : Con := fun vs bs K => match vs with
  | [u] => five u fun a b c d e => bs = [] ∧ (¬ chk a b c d e = 0 → K (.tuple ⟨[.slice none 0 0, .int .i64 (chk a b c d e)]⟩) []) ∧ (chk a b c d e = 0 → K (.tuple ⟨[rsl 0 0 b.toNat b.toNat, .int .i64 0]⟩) [.row false [.i64, .i64] 54 b.toNat b.toNat zF])
  | _ => False

def con20_zA (a : Int) (b : Int) (c : Int) (d : Int) (e : Int) : Ann := fun _ => none
def con19_zV (a : Int) (b : Int) (c : Int) (d : Int) (e : Int) (K : Value → List Blk → Prop) : Prop := ((true = true) ∧ ((true = true) ∧ ((InC a b c d e) ∧ ((true = true) ∧ (if (@Eq Int (chk a b c d e) ((0 : Int))) then ((true = true) ∧ ((@Eq (Ev.TK) (Ev.TK.slice) (Ev.TK.slice)) ∧ ((true = true) ∧ ((true = true) ∧ ((true = true) ∧ ((((0 : Int) ≤ b) ∧ ((b ≤ b) ∧ (b ≤ (100000 : Int)))) ∧ (∃ y0 : Value, (∃ y1 : List Blk, ((Go.Rx.Found 0 (Value.tuple { toList := [rsl (1 : Nat) (0 : Nat) (Int.toNat b) (Int.toNat b), Value.int IntKind.i64 (0 : Int)] }) ({ h := [((1 : Nat), Blk.row false [IntKind.i64, IntKind.i64] (54 : Nat) (Int.toNat b) (Int.toNat b) fun x x_1 ↦ (0 : Int)), ((0 : Nat), Blk.cells [Value.int IntKind.i64 a, Value.int IntKind.i64 b, Value.int IntKind.i64 c, Value.int IntKind.i64 d, Value.int IntKind.i64 e] (23 : Nat))], next := (2 : Nat) }) (y0) (y1)) ∧ (K y0 y1)))))))))) else (∃ y0 : Value, (∃ y1 : List Blk, ((Go.Rx.Found 0 (Value.tuple { toList := [Value.slice none (0 : Nat) (0 : Nat), Value.int IntKind.i64 (chk a b c d e)] }) ({ h := [((0 : Nat), Blk.cells [Value.int IntKind.i64 a, Value.int IntKind.i64 b, Value.int IntKind.i64 c, Value.int IntKind.i64 d, Value.int IntKind.i64 e] (23 : Nat))], next := (1 : Nat) }) (y0) (y1)) ∧ (K y0 y1)))))))))
theorem con19_zE (a : Int) (b : Int) (c : Int) (d : Int) (e : Int) (K : Value → List Blk → Prop) : con19_zV a b c d e K = bodyX (mk X9) (callN (mk X9) 3) (con19_zA a b c d e) Try.f19 [.agg ⟨[.int .i64 a, .int .i64 b, .int .i64 c, .int .i64 d, .int .i64 e]⟩] (stOf []) fun v s' => ∃ v1 news, Rx.Found 0 v s' v1 news ∧ K v1 news := by kernel_rfl
set_option maxHeartbeats 4000000 in
set_option tactic.hygienic false in
theorem con19_zP (a : Int) (b : Int) (c : Int) (d : Int) (e : Int) (K : Value → List Blk → Prop)  (hI : InC a b c d e) (h : (¬ chk a b c d e = 0 → K (.tuple ⟨[.slice none 0 0, .int .i64 (chk a b c d e)]⟩) []) ∧ (chk a b c d e = 0 → K (.tuple ⟨[rsl 0 0 b.toNat b.toNat, .int .i64 0]⟩) [.row false [.i64, .i64] 54 b.toNat b.toNat zF])) : con19_zV a b c d e K := by
  unfold con19_zV
  repeat' (first | (with_reducible exact rfl) | (with_reducible exact trivial) | (with_reducible refine And.intro ?_ ?_) | (intro) | (with_reducible refine br_intro (fun hq => ?_) (fun hq => ?_)) | (with_reducible refine if_both (fun hz => ?_) (fun hz => ?_)) | fail)
  all_goals first
    | omega
    | assumption
    | (have g := chk_good (by assumption); omega)
    | exact fin0 (by kernel_rfl) (by kernel_rfl) (h.1 (by assumption))
    | exact fin1t (by kernel_rfl) (fun _ _ _ _ => rfl) (by kernel_rfl) (by kernel_rfl) (h.2 (by assumption))
theorem con19_ok : BodyOk (mk X9) 3 Try.f19 con19 := by
  intro vs bs K hh hro
  clear hro
  unfold con19 at hh
  split at hh
  · obtain ⟨a, b, c, d, e, rfl, hI, hh0⟩ := five_inv hh
    obtain ⟨rfl, hc⟩ := hh0
    exact ⟨_, cast (con19_zE a b c d e K) (con19_zP a b c d e K hI hc)⟩
  · exact hh.elim
theorem con19_told : Told 19 (specOf con19) := told (X := X9) (X9_told) (by kernel_rfl) (by kernel_rfl) (by kernel_rfl) con19_ok
def con20_zV (a : Int) (b : Int) (c : Int) (d : Int) (e : Int) (K : Value → List Blk → Prop) : Prop := ((true = true) ∧ ((true = true) ∧ ((true = true) ∧ ((InC a b c d e) ∧ ((@Eq (List Blk) ([]) ([])) ∧ ((true = true) ∧ (if (@Eq Int (chk a b c d e) ((0 : Int))) then ((true = true) ∧ ((@Eq (Ev.TK) (Ev.TK.slice) (Ev.TK.slice)) ∧ ((true = true) ∧ ((true = true) ∧ ((true = true) ∧ ((((0 : Int) ≤ b) ∧ ((b ≤ b) ∧ (b ≤ (100000 : Int)))) ∧ (∃ y0 : Value, (∃ y1 : List Blk, ((Go.Rx.Found 0 (Value.tuple { toList := [rsl (1 : Nat) (0 : Nat) (Int.toNat b) (Int.toNat b), Value.int IntKind.i64 (0 : Int)] }) ({ h := [((1 : Nat), Blk.row false [IntKind.i64, IntKind.i64] (54 : Nat) (Int.toNat b) (Int.toNat b) fun x x_1 ↦ (0 : Int)), ((0 : Nat), Blk.cells [Value.int IntKind.i64 a, Value.int IntKind.i64 b, Value.int IntKind.i64 c, Value.int IntKind.i64 d, Value.int IntKind.i64 e] (23 : Nat))], next := (2 : Nat) }) (y0) (y1)) ∧ (K y0 y1)))))))))) else (∃ y0 : Value, (∃ y1 : List Blk, ((Go.Rx.Found 0 (Value.tuple { toList := [Value.slice none (0 : Nat) (0 : Nat), Value.int IntKind.i64 (chk a b c d e)] }) ({ h := [((0 : Nat), Blk.cells [Value.int IntKind.i64 a, Value.int IntKind.i64 b, Value.int IntKind.i64 c, Value.int IntKind.i64 d, Value.int IntKind.i64 e] (23 : Nat))], next := (1 : Nat) }) (y0) (y1)) ∧ (K y0 y1)))))))))))
theorem con20_zE (a : Int) (b : Int) (c : Int) (d : Int) (e : Int) (K : Value → List Blk → Prop) : con20_zV a b c d e K = bodyX (mk X9) (callN (mk X9) 3) (con20_zA a b c d e) Try.f20 [.agg ⟨[.int .i64 a, .int .i64 b, .int .i64 c, .int .i64 d, .int .i64 e]⟩] (stOf []) fun v s' => ∃ v1 news, Rx.Found 0 v s' v1 news ∧ K v1 news := by kernel_rfl
set_option maxHeartbeats 4000000 in
set_option tactic.hygienic false in
theorem con20_zP (a : Int) (b : Int) (c : Int) (d : Int) (e : Int) (K : Value → List Blk → Prop)  (hI : InC a b c d e) (h : (¬ chk a b c d e = 0 → K (.tuple ⟨[.slice none 0 0, .int .i64 (chk a b c d e)]⟩) []) ∧ (chk a b c d e = 0 → K (.tuple ⟨[rsl 0 0 b.toNat b.toNat, .int .i64 0]⟩) [.row false [.i64, .i64] 54 b.toNat b.toNat zF])) : con20_zV a b c d e K := by
  unfold con20_zV
  repeat' (first | (with_reducible exact rfl) | (with_reducible exact trivial) | (with_reducible refine And.intro ?_ ?_) | (intro) | (with_reducible refine br_intro (fun hq => ?_) (fun hq => ?_)) | (with_reducible refine if_both (fun hz => ?_) (fun hz => ?_)) | fail)
  all_goals first
    | omega
    | assumption
    | (have g := chk_good (by assumption); omega)
    | exact fin0 (by kernel_rfl) (by kernel_rfl) (h.1 (by assumption))
    | exact fin1t (by kernel_rfl) (fun _ _ _ _ => rfl) (by kernel_rfl) (by kernel_rfl) (h.2 (by assumption))
theorem con20_ok : BodyOk (mk X9) 3 Try.f20 con20 := by
  intro vs bs K hh hro
  clear hro
  unfold con20 at hh
  split at hh
  · obtain ⟨a, b, c, d, e, rfl, hI, hh0⟩ := five_inv hh
    obtain ⟨rfl, hc⟩ := hh0
    exact ⟨_, cast (con20_zE a b c d e K) (con20_zP a b c d e K hI hc)⟩
  · exact hh.elim
theorem con20_told : Told 20 (specOf con20) := told (X := X9) (X9_told) (by kernel_rfl) (by kernel_rfl) (by kernel_rfl) con20_ok
end Go.Proofs.Ytkflmglpniebfaa.Fr
