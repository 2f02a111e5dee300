/-
  What the config's check returns, for laws that take it as known: a number that is 0 where each size is in its range, else 7. No project text.
-/
import Derived.Test.YtffaikcaenkkhaaDoorCChk
import Derived.Test.YtffaikcaenkkhaaDoorRChk
namespace Go.Proofs.YtffaikcaenkkhaaDoor.Good
open Go.ChangeShapes Go.WideShapes Go.ChangeAt Go.RowKit

abbrev In64 (x : Int) : Prop := -9223372036854775808 ≤ x ∧ x ≤ 9223372036854775807
abbrev InU64 (x : Int) : Prop := 0 ≤ x ∧ x ≤ 18446744073709551615
abbrev good (x0 x1 x2 x3 x4 : Int) : Prop := 8 ≤ x0 ∧ x0 ≤ 64 ∧ 7 ≤ x1 ∧ x1 ≤ 24 ∧ 4 ≤ x2 ∧ x2 ≤ 64 ∧ 1 ≤ x3 ∧ x3 ≤ 8 ∧ 2 ≤ x4 ∧ x4 ≤ 16
def chk (x0 x1 x2 x3 x4 : Int) : Int := if good x0 x1 x2 x3 x4 then 0 else 7
theorem chk_zero {x0 x1 x2 x3 x4 : Int} (h : chk x0 x1 x2 x3 x4 = 0) : good x0 x1 x2 x3 x4 := by
  unfold chk at h
  split at h
  · assumption
  · cases h
theorem chk_good {x0 x1 x2 x3 x4 : Int} (h : good x0 x1 x2 x3 x4) : chk x0 x1 x2 x3 x4 = 0 := if_pos h
theorem next_n {x0 x1 x2 x3 x4 : Int} (h : chk x0 x1 x2 x3 x4 = 0) : (chk x0 ((x1 + 1 + 9223372036854775808) % 18446744073709551616 - 9223372036854775808) x2 x3 x4 = 0 ∧ x1 ≤ 23) ∨ (chk x0 ((x1 + 1 + 9223372036854775808) % 18446744073709551616 - 9223372036854775808) x2 x3 x4 = 7 ∧ x1 = 24) := by
  have g := chk_zero h
  rw [show (x1 + 1 + 9223372036854775808) % 18446744073709551616 - 9223372036854775808 = x1 + 1 by omega]
  clear h
  unfold chk
  split <;> omega
theorem next_s {x0 x1 x2 x3 x4 : Int} (h : chk x0 x1 x2 x3 x4 = 0) : (chk x0 x1 ((x2 + 1 + 9223372036854775808) % 18446744073709551616 - 9223372036854775808) x3 x4 = 0 ∧ x2 ≤ 63) ∨ (chk x0 x1 ((x2 + 1 + 9223372036854775808) % 18446744073709551616 - 9223372036854775808) x3 x4 = 7 ∧ x2 = 64) := by
  have g := chk_zero h
  rw [show (x2 + 1 + 9223372036854775808) % 18446744073709551616 - 9223372036854775808 = x2 + 1 by omega]
  clear h
  unfold chk
  split <;> omega
theorem chk_bd (x0 x1 x2 x3 x4 : Int) : 0 ≤ chk x0 x1 x2 x3 x4 ∧ chk x0 x1 x2 x3 x4 ≤ 7 := by
  unfold chk
  split <;> omega
theorem c_eq (x0 x1 x2 x3 x4 : Int) : cChk.r0 x0 x1 x2 x3 x4 = chk x0 x1 x2 x3 x4 := by
  generalize hp : cChk.r0 x0 x1 x2 x3 x4 = p
  simp only [cChk.r0, cChk.z0, cChk.z1, cChk.z2, cChk.z3, cChk.z4, cChk.z5, cChk.z6, cChk.z7, cChk.z8, cChk.z9, cChk.z10, cChk.z11, cChk.z12, cChk.z13, cChk.z14, cChk.z15, cChk.z16, cChk.z17, cChk.z18, cChk.z19, cChk.z20, cChk.z21, cChk.z22, cChk.z23] at hp
  unfold chk good
  repeat' split at hp
  all_goals (split <;> omega)
theorem r_eq (x0 x1 x2 x3 x4 : Int) : rChk.r0 x0 x1 x2 x3 x4 = chk x0 x1 x2 x3 x4 := by
  generalize hp : rChk.r0 x0 x1 x2 x3 x4 = p
  simp only [rChk.r0, rChk.z0, rChk.z1, rChk.z2, rChk.z3, rChk.z4, rChk.z5, rChk.z6, rChk.z7, rChk.z8, rChk.z9, rChk.z10, rChk.z11, rChk.z12, rChk.z13] at hp
  unfold chk good
  repeat' split at hp
  all_goals (split <;> omega)

section
variable [Inhabited Ev.Val]
theorem arg1 {S : Ev.Sig} {u v : Value} {args' : Array Value} (h : ∀ u', Ev.VR S u u' → u' = v) (hr : Ev.LR S [u] args'.toList) : args' = #[v] := by
  obtain ⟨x, r, he, h1, h2⟩ := hr.cons_inv
  obtain rfl := h2.nil_inv
  obtain ⟨l⟩ := args'
  obtain rfl : l = [x] := he
  rw [h x h1]
theorem agg_inv {S : Ev.Sig} {a b c d e u' : Value} {x0 x1 x2 x3 x4 : Int} (ha : Ev.Is a .i64 x0) (hb : Ev.Is b .i64 x1) (hc : Ev.Is c .i64 x2) (hd : Ev.Is d .i64 x3) (he : Ev.Is e .i64 x4) (h : Ev.VR S (.agg ⟨[a, b, c, d, e]⟩) u') :
    u' = .agg ⟨[.int .i64 x0, .int .i64 x1, .int .i64 x2, .int .i64 x3, .int .i64 x4]⟩ := by
  cases h with
  | agg hl hi =>
    rename_i l
    match l, hl with
    | [p, q, r, s, t], _ => rw [Ev.is_inv (hi 0 _ _ rfl rfl) ha, Ev.is_inv (hi 1 _ _ rfl rfl) hb, Ev.is_inv (hi 2 _ _ rfl rfl) hc, Ev.is_inv (hi 3 _ _ rfl rfl) hd, Ev.is_inv (hi 4 _ _ rfl rfl) he]
theorem cchk {x0 x1 x2 x3 x4 : Int} (h0 : In64 x0) (h1 : In64 x1) (h2 : In64 x2) (h3 : In64 x3) (h4 : In64 x4) {a b c d e : Value} (ha : Ev.Is a .i64 x0) (hb : Ev.Is b .i64 x1) (hc : Ev.Is c .i64 x2) (hd : Ev.Is d .i64 x3) (he : Ev.Is e .i64 x4)
    {u : Value} {k : IntKind} {j : Nat} (_hu : u = Ev.inp .i64 j) (hp : Ev.Is (Ev.inp .i64 j) k (chk x0 x1 x2 x3 x4)) (hk : k = .i64) (S : Ev.Sig) (args' : Array Value) (hr : Ev.LR S [.agg ⟨[a, b, c, d, e]⟩] args'.toList) (w : World) :
    Calls Tryd.prog 13 args' w fun e w' => (∃ v', e = .returned v' ∧ Ev.VR S (Ev.inp .i64 j) v') ∧ Below w.heap.size w w' := by
  subst hk
  rw [arg1 (fun u' h => agg_inv ha hb hc hd he h) hr]
  exact (cChk.walk x0 x1 x2 x3 x4 ⟨h0.1, h0.2, h1.1, h1.2, h2.1, h2.2, h3.1, h3.2, h4.1, h4.2⟩ w).mono fun _ _ ⟨e1, hb⟩ => ⟨⟨_, e1, by rw [c_eq]; exact .sym hp⟩, hb⟩
theorem rchk {x0 x1 x2 x3 x4 : Int} (h0 : In64 x0) (h1 : In64 x1) (h2 : In64 x2) (h3 : In64 x3) (h4 : In64 x4) {a b c d e : Value} (ha : Ev.Is a .i64 x0) (hb : Ev.Is b .i64 x1) (hc : Ev.Is c .i64 x2) (hd : Ev.Is d .i64 x3) (he : Ev.Is e .i64 x4)
    {u : Value} {k : IntKind} {j : Nat} (_hu : u = Ev.inp .i64 j) (hp : Ev.Is (Ev.inp .i64 j) k (chk x0 x1 x2 x3 x4)) (hk : k = .i64) (S : Ev.Sig) (args' : Array Value) (hr : Ev.LR S [.agg ⟨[a, b, c, d, e]⟩] args'.toList) (w : World) :
    Calls Tryd.prog 14 args' w fun e w' => (∃ v', e = .returned v' ∧ Ev.VR S (Ev.inp .i64 j) v') ∧ Below w.heap.size w w' := by
  subst hk
  rw [arg1 (fun u' h => agg_inv ha hb hc hd he h) hr]
  exact (rChk.walk x0 x1 x2 x3 x4 ⟨h0.1, h0.2, h1.1, h1.2, h2.1, h2.2, h3.1, h3.2, h4.1, h4.2⟩ w).mono fun _ _ ⟨e1, hb⟩ => ⟨⟨_, e1, by rw [r_eq]; exact .sym hp⟩, hb⟩
end
end Go.Proofs.YtffaikcaenkkhaaDoor.Good
