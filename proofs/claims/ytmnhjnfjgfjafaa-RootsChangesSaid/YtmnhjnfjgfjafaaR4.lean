/-
  Roots: clear. No project text.
-/
import Derived.Test.YtmnhjnfjgfjafaaR3
namespace Go.Proofs.Ytmnhjnfjgfjafaa.Fr
open Go.Rx
open Go.RowKit (Below)
set_option linter.unusedVariables false
@[reducible] def XC : List (Nat × Rx.Spec) := [(11, specOf con11G)]
theorem XC_told : ∀ p ∈ XC, Told p.1 p.2 := by
  intro p hp
  simp only [List.mem_cons, List.not_mem_nil, or_false] at hp
  rcases hp with rfl
  · exact con11G_told
def con16G : Con := fun vs bs K => match vs with
  | [vr, .int .i64 x] => parseR [.i64] 0 vr bs fun nr fr j0 bs0 => bs0 = [] ∧ (((rck nr fr).2 = 0) ∧ (0 ≤ x ∧ x < (nr : Nat))) ∧ (∀ g, SetR nr fr x (0) g → ∀ cp, nr ≤ cp → K (.tuple ⟨[rsl j0 0 nr cp, .int .i64 0]⟩) [.row false [.i64] 3 nr cp g])
  | _ => False

def con16G_rA (er nr cr : Nat) (fr : RF) (x : Int) : Ann := fun _ => none
def con16G_rV (er nr cr : Nat) (fr : RF) (x : Int) (K : Value → List Blk → Prop) : Prop := (T0 ∧ ((0 + nr ≤ nr) ∧ (T0 ∧ (T0 ∧ ((eN 0) ∧ ((nr ≤ 100000) ∧ (((@Eq (List IntKind) ([IntKind.i64]) ([IntKind.i64])) ∧ ((eN nr) ∧ (eN cr))) ∧ (eB ∧ (((@Eq Int (Prod.snd (rck nr fr)) (0)) ∧ (((0 ≤ x) ∧ (x < (↑nr : Int))) ∧ (((0 : Int) ≤ 0) ∧ ((0 : Int) ≤ 1600)))) ∧ (∀ y0 : Nat → Nat → Int, ((SetR nr fr x 0 y0) → (∀ y1 : Nat, ((nr ≤ y1) → (∃ y2 : Value, (∃ y3 : List Blk, ((Go.Rx.Found 1 (vt [rsl 1 0 nr y1, vi 0]) ({ h := [(1, Blk.row false [IntKind.i64] 3 nr y1 y0), (0, Blk.row true [IntKind.i64] er nr cr fr)], next := 2 }) (y2) (y3)) ∧ (K y2 y3)))))))))))))))))
theorem con16G_rE (er nr cr : Nat) (fr : RF) (x : Int) (K : Value → List Blk → Prop) : con16G_rV er nr cr fr x K = bodyX (mk XC) (callN (mk XC) 4) (con16G_rA er nr cr fr x) Try.f16 [rsl 0 0 nr cr, .int .i64 x] (stOf [.row true [.i64] er nr cr fr]) fun v s' => ∃ v1 news, Rx.Found 1 v s' v1 news ∧ K v1 news := by kernel_rfl
set_option maxRecDepth 100000 in
set_option maxHeartbeats 4000000 in
set_option tactic.hygienic false in
theorem con16G_rP (er nr cr : Nat) (fr : RF) (x : Int) (K : Value → List Blk → Prop)  (hnr : nr ≤ 100000) (h1 : (rck nr fr).2 = 0) (h2 : 0 ≤ x ∧ x < (nr : Nat)) (h : ∀ g, SetR nr fr x (0) g → ∀ cp, nr ≤ cp → K (.tuple ⟨[rsl 1 0 nr cp, .int .i64 0]⟩) [.row false [.i64] 3 nr cp g]) : con16G_rV er nr cr fr x K := by
  unfold con16G_rV
  obtain ⟨g1, g2, g3⟩ := rck_ok h1

  repeat' (first | (with_reducible exact rfl) | (with_reducible exact trivial) | (with_reducible refine And.intro ?_ ?_) | (intro) | (with_reducible refine br_intro (fun hq => ?_) (fun hq => ?_)) | (with_reducible refine if_both (fun hz => ?_) (fun hz => ?_)) | fail)

  all_goals first
    | omega
    | assumption
    | (refine fin1t rfl (fun _ _ _ _ => rfl) (by kernel_rfl) (by kernel_rfl) (h _ ‹_› _ (by assumption)))
theorem con16G_ok : BodyOk (mk XC) 4 Try.f16 con16G := by
  intro vs bs K hh hro
  clear hro
  unfold con16G at hh
  split at hh
  · rename_i vr x
    obtain ⟨er, nr, cr, fr, btr, rfl, hnr, rfl, hh0⟩ := parseR_inv hh
    obtain ⟨rfl, ⟨h1, h2⟩, hc⟩ := hh0
    exact ⟨_, cast (con16G_rE er nr cr fr x K) (con16G_rP er nr cr fr x K hnr h1 h2 hc)⟩
  · exact hh.elim
theorem con16G_told : Told 16 (specOf con16G) := told (X := XC) XC_told (by kernel_rfl) (by kernel_rfl) (by kernel_rfl) con16G_ok
end Go.Proofs.Ytmnhjnfjgfjafaa.Fr
