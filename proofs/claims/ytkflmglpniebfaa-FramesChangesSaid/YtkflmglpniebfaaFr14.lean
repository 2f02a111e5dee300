/-
  Frames: bump, empty: what they call. No project text.
-/
import Derived.Test.YtkflmglpniebfaaFr13
namespace Go.Proofs.Ytkflmglpniebfaa.Fr
open Go.Rx
open Go.RowKit (Below)
set_option linter.unusedVariables false
def onCFX (O : Int → Int → Int → Int → Int → Nat → RF → Nat → Int → KK → Prop) : Con := fun vs bs K => match vs with
  | [u, v, .int .i64 x] => five u fun a b c d e => parse [.i64, .i64] 0 v bs fun n f j bs => bs = [] ∧ O a b c d e n f j x K
  | _ => False
theorem onCFX_mono {O O' : Int → Int → Int → Int → Int → Nat → RF → Nat → Int → KK → Prop} (h : ∀ a b c d e n f j x K, O' a b c d e n f j x K → O a b c d e n f j x K) : ∀ vs bs K, onCFX O' vs bs K → onCFX O vs bs K := by
  intro vs bs K x
  unfold onCFX at x ⊢
  split at x
  · exact five_mono (fun a b c d e => parse_mono fun n f j bs y => ⟨y.1, h _ _ _ _ _ _ _ _ _ _ y.2⟩) x
  · exact x.elim
theorem topF_bad {a b c d e : Int} {n : Nat} {f : RF} {x : Int} (h : ¬ askF a b c d e n f x = 0) : topF a b c d e n f x = (0, askF a b c d e n f x) := if_neg h
theorem topF_ok {a b c d e : Int} {n : Nat} {f : RF} {x : Int} (h : askF a b c d e n f x = 0) : topF a b c d e n f x = (1 + c + x * a + f x.toNat 1, 0) := if_pos h
theorem roomF_bad {a b c d e : Int} {n : Nat} {f : RF} {x : Int} (h : ¬ askF a b c d e n f x = 0) : roomF a b c d e n f x = (0, askF a b c d e n f x) := if_neg h
theorem roomF_down {a b c d e : Int} {n : Nat} {f : RF} {x : Int} (h : askF a b c d e n f x = 0) (h' : f x.toNat 0 = 0) : roomF a b c d e n f x = (0, 9) := by unfold roomF; rw [if_pos h, if_pos h']
theorem roomF_ok {a b c d e : Int} {n : Nat} {f : RF} {x : Int} (h : askF a b c d e n f x = 0) (h' : ¬ f x.toNat 0 = 0) : roomF a b c d e n f x = (a - f x.toNat 1, 0) := by unfold roomF; rw [if_pos h, if_neg h']
def con33B : Con := onCFX fun a b c d e n f j x K => ¬ askF a b c d e n f x = 0 ∧ K (.tuple ⟨[.int .i64 0, .int .i64 (askF a b c d e n f x)]⟩) []
theorem con33B_told : Told 33 (specOf con33B) := con33_told.mono (onCFX_mono fun a b c d e n f j x K h => (topF_bad h.1).symm ▸ h.2)
def con33G : Con := onCFX fun a b c d e n f j x K => askF a b c d e n f x = 0 ∧ K (.tuple ⟨[.int .i64 (1 + c + x * a + f x.toNat 1), .int .i64 0]⟩) []
theorem con33G_told : Told 33 (specOf con33G) := con33_told.mono (onCFX_mono fun a b c d e n f j x K h => (topF_ok h.1).symm ▸ h.2)
def con34B : Con := onCFX fun a b c d e n f j x K => ¬ askF a b c d e n f x = 0 ∧ K (.tuple ⟨[.int .i64 0, .int .i64 (askF a b c d e n f x)]⟩) []
theorem con34B_told : Told 34 (specOf con34B) := con34_told.mono (onCFX_mono fun a b c d e n f j x K h => (topF_bad h.1).symm ▸ h.2)
def con34G : Con := onCFX fun a b c d e n f j x K => askF a b c d e n f x = 0 ∧ K (.tuple ⟨[.int .i64 (1 + c + x * a + f x.toNat 1), .int .i64 0]⟩) []
theorem con34G_told : Told 34 (specOf con34G) := con34_told.mono (onCFX_mono fun a b c d e n f j x K h => (topF_ok h.1).symm ▸ h.2)
def con31B : Con := onCFX fun a b c d e n f j x K => ¬ askF a b c d e n f x = 0 ∧ K (.tuple ⟨[.int .i64 0, .int .i64 (askF a b c d e n f x)]⟩) []
theorem con31B_told : Told 31 (specOf con31B) := con31_told.mono (onCFX_mono fun a b c d e n f j x K h => (roomF_bad h.1).symm ▸ h.2)
def con31D : Con := onCFX fun a b c d e n f j x K => (askF a b c d e n f x = 0 ∧ f x.toNat 0 = 0) ∧ K (.tuple ⟨[.int .i64 0, .int .i64 9]⟩) []
theorem con31D_told : Told 31 (specOf con31D) := con31_told.mono (onCFX_mono fun a b c d e n f j x K h => (roomF_down h.1.1 h.1.2).symm ▸ h.2)
def con31G : Con := onCFX fun a b c d e n f j x K => (askF a b c d e n f x = 0 ∧ ¬ f x.toNat 0 = 0) ∧ K (.tuple ⟨[.int .i64 (a - f x.toNat 1), .int .i64 0]⟩) []
theorem con31G_told : Told 31 (specOf con31G) := con31_told.mono (onCFX_mono fun a b c d e n f j x K h => (roomF_ok h.1.1 h.1.2).symm ▸ h.2)
def con32B : Con := onCFX fun a b c d e n f j x K => ¬ askF a b c d e n f x = 0 ∧ K (.tuple ⟨[.int .i64 0, .int .i64 (askF a b c d e n f x)]⟩) []
theorem con32B_told : Told 32 (specOf con32B) := con32_told.mono (onCFX_mono fun a b c d e n f j x K h => (roomF_bad h.1).symm ▸ h.2)
def con32D : Con := onCFX fun a b c d e n f j x K => (askF a b c d e n f x = 0 ∧ f x.toNat 0 = 0) ∧ K (.tuple ⟨[.int .i64 0, .int .i64 9]⟩) []
theorem con32D_told : Told 32 (specOf con32D) := con32_told.mono (onCFX_mono fun a b c d e n f j x K h => (roomF_down h.1.1 h.1.2).symm ▸ h.2)
def con32G : Con := onCFX fun a b c d e n f j x K => (askF a b c d e n f x = 0 ∧ ¬ f x.toNat 0 = 0) ∧ K (.tuple ⟨[.int .i64 (a - f x.toNat 1), .int .i64 0]⟩) []
theorem con32G_told : Told 32 (specOf con32G) := con32_told.mono (onCFX_mono fun a b c d e n f j x K h => (roomF_ok h.1.1 h.1.2).symm ▸ h.2)
@[reducible] def X71 : List (Nat × Rx.Spec) := [(22, specOf con22)]
theorem X71_told : ∀ p ∈ X71, Told p.1 p.2 := by
  intro p hp
  simp only [List.mem_cons, List.not_mem_nil, or_false] at hp
  rcases hp with rfl
  · exact con22_told
def con71 : Con := fun vs bs K => match vs with
  | [u, vl, .int .i64 x] => five u fun a b c d e => parse [.i64, .i64] 0 vl bs fun nl fl j0 bs0 => bs0 = [] ∧ (True) ∧ (K (.int .i64 (askF a b c d e nl fl x)) [])
  | _ => False

def con71_nA (a b c d e : Int) (x : Int) : Ann := fun _ => none
def con71_rA (a b c d e : Int) (el nl cl : Nat) (fl : RF) (x : Int) : Ann := fun _ => none
def con71_nV (a b c d e : Int) (x : Int) (K : Value → List Blk → Prop) : Prop := (T0 ∧ (T0 ∧ (T0 ∧ (T0 ∧ ((InC a b c d e) ∧ (eB ∧ (T0 ∧ (if (@Eq Int (Prod.snd (ckF a b c d e 0 zF)) (0)) then (T0 ∧ (if (x < 0) then (∃ y0 : Value, (∃ y1 : List Blk, ((Go.Rx.Found 0 (vi 7) ({ h := [(0, CB a b c d e)], next := 1 }) (y0) (y1)) ∧ (K y0 y1)))) else (TS ∧ (T0 ∧ (if ((↑0 : Int) ≤ x) then (∃ y0 : Value, (∃ y1 : List Blk, ((Go.Rx.Found 0 (vi 7) ({ h := [(0, CB a b c d e)], next := 1 }) (y0) (y1)) ∧ (K y0 y1)))) else (∃ y0 : Value, (∃ y1 : List Blk, ((Go.Rx.Found 0 (vi (Prod.snd (ckF a b c d e 0 zF))) ({ h := [(0, CB a b c d e)], next := 1 }) (y0) (y1)) ∧ (K y0 y1))))))))) else (∃ y0 : Value, (∃ y1 : List Blk, ((Go.Rx.Found 0 (vi (Prod.snd (ckF a b c d e 0 zF))) ({ h := [(0, CB a b c d e)], next := 1 }) (y0) (y1)) ∧ (K y0 y1))))))))))))
theorem con71_nE (a b c d e : Int) (x : Int) (K : Value → List Blk → Prop) : con71_nV a b c d e x K = bodyX (mk X71) (callN (mk X71) 4) (con71_nA a b c d e x) Try.f71 [.agg ⟨[.int .i64 a, .int .i64 b, .int .i64 c, .int .i64 d, .int .i64 e]⟩, .slice none 0 0, .int .i64 x] (stOf []) fun v s' => ∃ v1 news, Rx.Found 0 v s' v1 news ∧ K v1 news := by kernel_rfl
set_option maxHeartbeats 4000000 in
set_option tactic.hygienic false in
theorem con71_nP (a b c d e : Int) (x : Int) (K : Value → List Blk → Prop)  (hI : InC a b c d e) (h : K (.int .i64 (askF a b c d e 0 zF x)) []) : con71_nV a b c d e x K := by
  unfold con71_nV
  unfold askF at h
  have G : (ckF a b c d e 0 zF).2 = 0 → good a b c d e ∧ ((0 : Nat) : Int) = b ∧ ∀ i, i < 0 → fok a zF i := ckF_zero
  repeat' (first | (with_reducible exact rfl) | (with_reducible exact trivial) | (with_reducible refine And.intro ?_ ?_) | (intro) | (with_reducible refine br_intro (fun hq => ?_) (fun hq => ?_)) | (with_reducible refine if_both (fun hz => ?_) (fun hz => ?_)) | fail)
  all_goals first
    | omega
    | assumption
    | (refine fin0 (by kernel_rfl) (by kernel_rfl) ?_
       repeat' (split at h)
       all_goals first | exact h | omega | (have g := G (by assumption); omega) | (rw [show (ckF _ _ _ _ _ _ _).2 = 0 by assumption]; exact h))
def con71_rV (a b c d e : Int) (el nl cl : Nat) (fl : RF) (x : Int) (K : Value → List Blk → Prop) : Prop := (T0 ∧ (T0 ∧ (T0 ∧ ((0 + nl ≤ nl) ∧ ((InC a b c d e) ∧ ((eN 0) ∧ ((nl ≤ 100000) ∧ ((eK ∧ ((eN nl) ∧ (eN cl))) ∧ (eB ∧ (T0 ∧ (if (@Eq Int (Prod.snd (ckF a b c d e nl fl)) (0)) then (T0 ∧ (if (x < 0) then (∃ y0 : Value, (∃ y1 : List Blk, ((Go.Rx.Found 1 (vi 7) ({ h := [(1, CB a b c d e), (0, rT el nl cl fl)], next := 2 }) (y0) (y1)) ∧ (K y0 y1)))) else (TS ∧ (T0 ∧ (if ((↑nl : Int) ≤ x) then (∃ y0 : Value, (∃ y1 : List Blk, ((Go.Rx.Found 1 (vi 7) ({ h := [(1, CB a b c d e), (0, rT el nl cl fl)], next := 2 }) (y0) (y1)) ∧ (K y0 y1)))) else (∃ y0 : Value, (∃ y1 : List Blk, ((Go.Rx.Found 1 (vi (Prod.snd (ckF a b c d e nl fl))) ({ h := [(1, CB a b c d e), (0, rT el nl cl fl)], next := 2 }) (y0) (y1)) ∧ (K y0 y1))))))))) else (∃ y0 : Value, (∃ y1 : List Blk, ((Go.Rx.Found 1 (vi (Prod.snd (ckF a b c d e nl fl))) ({ h := [(1, CB a b c d e), (0, rT el nl cl fl)], next := 2 }) (y0) (y1)) ∧ (K y0 y1)))))))))))))))
theorem con71_rE (a b c d e : Int) (el nl cl : Nat) (fl : RF) (x : Int) (K : Value → List Blk → Prop) : con71_rV a b c d e el nl cl fl x K = bodyX (mk X71) (callN (mk X71) 4) (con71_rA a b c d e el nl cl fl x) Try.f71 [.agg ⟨[.int .i64 a, .int .i64 b, .int .i64 c, .int .i64 d, .int .i64 e]⟩, rsl 0 0 nl cl, .int .i64 x] (stOf [.row true [.i64, .i64] el nl cl fl]) fun v s' => ∃ v1 news, Rx.Found 1 v s' v1 news ∧ K v1 news := by kernel_rfl
set_option maxHeartbeats 4000000 in
set_option tactic.hygienic false in
theorem con71_rP (a b c d e : Int) (el nl cl : Nat) (fl : RF) (x : Int) (K : Value → List Blk → Prop)  (hI : InC a b c d e) (hnl : nl ≤ 100000) (h : K (.int .i64 (askF a b c d e nl fl x)) []) : con71_rV a b c d e el nl cl fl x K := by
  unfold con71_rV
  unfold askF at h
  have G : (ckF a b c d e nl fl).2 = 0 → good a b c d e ∧ ((nl : Nat) : Int) = b ∧ ∀ i, i < nl → fok a fl i := ckF_zero
  repeat' (first | (with_reducible exact rfl) | (with_reducible exact trivial) | (with_reducible refine And.intro ?_ ?_) | (intro) | (with_reducible refine br_intro (fun hq => ?_) (fun hq => ?_)) | (with_reducible refine if_both (fun hz => ?_) (fun hz => ?_)) | fail)
  all_goals first
    | omega
    | assumption
    | (refine fin0 (by kernel_rfl) (by kernel_rfl) ?_
       repeat' (split at h)
       all_goals first | exact h | omega | (have g := G (by assumption); omega) | (rw [show (ckF _ _ _ _ _ _ _).2 = 0 by assumption]; exact h))
theorem con71_ok : BodyOk (mk X71) 4 Try.f71 con71 := by
  intro vs bs K hh hro
  clear hro
  unfold con71 at hh
  split at hh
  · rename_i u vl x
    obtain ⟨a, b, c, d, e, rfl, hI, hh0⟩ := five_inv hh
    rcases parse_inv hh0 with ⟨rfl, hh1⟩ | ⟨el, nl, cl, fl, btl, rfl, hnl, rfl, hh1⟩ <;> clear hh0
    · obtain ⟨rfl, -, hc⟩ := hh1
      exact ⟨_, cast (con71_nE a b c d e  x K) (con71_nP a b c d e  x K hI   hc)⟩
    · obtain ⟨rfl, -, hc⟩ := hh1
      exact ⟨_, cast (con71_rE a b c d e el nl cl fl x K) (con71_rP a b c d e el nl cl fl x K hI hnl  hc)⟩
  · exact hh.elim
theorem con71_told : Told 71 (specOf con71) := told (X := X71) X71_told (by kernel_rfl) (by kernel_rfl) (by kernel_rfl) con71_ok
end Go.Proofs.Ytkflmglpniebfaa.Fr
