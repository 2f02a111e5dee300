/-
  Frames: empty. No project text.
-/
import Derived.Test.YtkflmglpniebfaaFr14b
namespace Go.Proofs.Ytkflmglpniebfaa.Fr
open Go.Rx
open Go.RowKit (Below)
set_option linter.unusedVariables false
def con41G : Con := fun vs bs K => match vs with
  | [u, vl, .int .i64 x] => five u fun a b c d e => parseR [.i64, .i64] 0 vl bs fun nl fl j0 bs0 => bs0 = [] ∧ ((askF a b c d e nl fl x = 0) ∧ (¬ fl x.toNat 0 = 0)) ∧ (∀ cp, nl ≤ cp → K (.tuple ⟨[rsl j0 0 nl cp, .int .i64 0]⟩) [.row false [.i64, .i64] 54 nl cp (putE fl x.toNat [0, 0])])
  | _ => False

def con41G_rA (a b c d e : Int) (el nl cl : Nat) (fl : RF) (x : Int) : Ann := fun _ => none
def con41G_rV (a b c d e : Int) (el nl cl : Nat) (fl : RF) (x : Int) (K : Value → List Blk → Prop) : Prop := (T0 ∧ (T0 ∧ (T0 ∧ ((0 + nl ≤ nl) ∧ (T0 ∧ ((InC a b c d e) ∧ ((eN 0) ∧ ((nl ≤ 100000) ∧ ((eK ∧ ((eN nl) ∧ (eN cl))) ∧ (eB ∧ (((@Eq Int (askF a b c d e nl fl x) (0)) ∧ (¬fl (Int.toNat x) 0 = 0)) ∧ (T0 ∧ (T0 ∧ (TS ∧ (TS ∧ (T0 ∧ (T0 ∧ (T0 ∧ (((0 ≤ (↑nl : Int)) ∧ (((↑nl : Int) ≤ (↑nl : Int)) ∧ ((↑nl : Int) ≤ 100000))) ∧ (TS ∧ (TS ∧ (T0 ∧ (T0 ∧ (T0 ∧ (T0 ∧ ((0 + nl ≤ nl) ∧ (((false = false) ∧ (T0 ∧ (0 + nl ≤ nl))) ∧ ((TS ∧ (eN 2)) ∧ (((0 ≤ x) ∧ (x < (↑nl : Int))) ∧ (T0 ∧ ((false = false) ∧ ((Int.toNat x < nl) ∧ (((eN 0) ∧ (eN 2)) ∧ (∃ y0 : Value, (∃ y1 : List Blk, ((Go.Rx.Found 1 (vt [rsl 2 0 nl nl, vi 0]) ({ h := [(2, rF 54 nl nl (putE (cpyF (fun x x_1 ↦ 0) 0 (Nat.min nl nl) fl 0) (Int.toNat x) [Int.ofNat 0, Int.ofNat 0])), (1, CB a b c d e), (0, rT el nl cl fl)], next := 3 }) (y0) (y1)) ∧ (K y0 y1)))))))))))))))))))))))))))))))))))))
theorem con41G_rE (a b c d e : Int) (el nl cl : Nat) (fl : RF) (x : Int) (K : Value → List Blk → Prop) : con41G_rV a b c d e el nl cl fl x K = bodyX (mk X41G) (callN (mk X41G) 4) (con41G_rA a b c d e el nl cl fl x) Try.f41 [.agg ⟨[.int .i64 a, .int .i64 b, .int .i64 c, .int .i64 d, .int .i64 e]⟩, rsl 0 0 nl cl, .int .i64 x] (stOf [.row true [.i64, .i64] el nl cl fl]) fun v s' => ∃ v1 news, Rx.Found 1 v s' v1 news ∧ K v1 news := by kernel_rfl
set_option maxHeartbeats 4000000 in
set_option tactic.hygienic false in
theorem con41G_rP (a b c d e : Int) (el nl cl : Nat) (fl : RF) (x : Int) (K : Value → List Blk → Prop)  (hI : InC a b c d e) (hnl : nl ≤ 100000) (h1 : askF a b c d e nl fl x = 0) (h3 : ¬ fl x.toNat 0 = 0) (h : ∀ cp, nl ≤ cp → K (.tuple ⟨[rsl 1 0 nl cp, .int .i64 0]⟩) [.row false [.i64, .i64] 54 nl cp (putE fl x.toNat [0, 0])]) : con41G_rV a b c d e el nl cl fl x K := by
  unfold con41G_rV
  obtain ⟨g1, g2, g3, g4, g5, g6, g7, g8⟩ := bumpy h1
  unfold fok at g8
  have gm := mul_bd ⟨g2.1, g2.2.1⟩ (x := x) (b := b) (by omega) (by omega) (by omega)
  repeat' (first | (with_reducible exact rfl) | (with_reducible exact trivial) | (with_reducible refine And.intro ?_ ?_) | (intro) | (with_reducible refine br_intro (fun hq => ?_) (fun hq => ?_)) | (with_reducible refine if_both (fun hz => ?_) (fun hz => ?_)) | fail)
  all_goals first
    | omega
    | assumption
    | contradiction
    | exact fin0 (by kernel_rfl) (by kernel_rfl) (by first | exact h | simpa using h)
    | (refine fin1t rfl ?_ (by kernel_rfl) (by kernel_rfl) (h _ (by omega)); (intro i j hi hj; have hj' : j = 0 ∨ j = 1 := (by simp at hj; omega); simp only [putE, putF, cpyF, appF, shiftF, zF, Nat.min_self, Nat.sub_zero, Nat.add_zero, Nat.zero_add, Int.toNat_natCast, Int.toNat_zero]; rcases hj' with rfl | rfl <;> (repeat' split) <;> first | rfl | omega | (simp_all; done) | (simp_all; omega)))
    | (exfalso; simp at hq; omega)
theorem con41G_ok : BodyOk (mk X41G) 4 Try.f41 con41G := by
  intro vs bs K hh hro
  clear hro
  unfold con41G at hh
  split at hh
  · rename_i u vl x
    obtain ⟨a, b, c, d, e, rfl, hI, hh0⟩ := five_inv hh
    obtain ⟨el, nl, cl, fl, btl, rfl, hnl, rfl, hh1⟩ := parseR_inv hh0
    obtain ⟨rfl, ⟨h1, h3⟩, hc⟩ := hh1
    exact ⟨_, cast (con41G_rE a b c d e el nl cl fl x K) (con41G_rP a b c d e el nl cl fl x K hI hnl h1 h3 hc)⟩
  · exact hh.elim
theorem con41G_told : Told 41 (specOf con41G) := told (X := X41G) X41G_told (by kernel_rfl) (by kernel_rfl) (by kernel_rfl) con41G_ok
end Go.Proofs.Ytkflmglpniebfaa.Fr
