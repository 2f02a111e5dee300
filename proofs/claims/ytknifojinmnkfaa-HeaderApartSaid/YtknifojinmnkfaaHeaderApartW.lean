/-
  The law on words apart, over its six numbers: what Pack, Forward and Kind return is known. No project text.
-/
import Derived.Test.YtknifojinmnkfaaHeaderApart
import Derived.Test.YtknifojinmnkfaaHeaderApartF
namespace Go.Proofs.Ytknifojinmnkfaa.headerApart
open Go.ChangeShapes Go.WideShapes Go.ChangeAt Go.RowKit

section
variable [Inhabited Ev.Val]
theorem arg1 {S : Ev.Sig} {u v : Value} {args' : Array Value} (h : ∀ u', Ev.VR S u u' → u' = v) (hr : Ev.LR S [u] args'.toList) : args' = #[v] := by
  obtain ⟨x, r, he, h1, h2⟩ := hr.cons_inv
  obtain rfl := h2.nil_inv
  obtain ⟨l⟩ := args'
  obtain rfl : l = [x] := he
  rw [h x h1]
theorem agg_inv {S : Ev.Sig} {a b u' : Value} {x y : Int} (ha : Ev.Is a .i64 x) (hb : Ev.Is b .i64 y) (h : Ev.VR S (.agg ⟨[a, b]⟩) u') : u' = .agg ⟨[.int .i64 x, .int .i64 y]⟩ := by
  cases h with
  | agg hl hi =>
    rename_i l
    match l, hl with
    | [c, d], _ => rw [Ev.is_inv (hi 0 _ _ rfl rfl) ha, Ev.is_inv (hi 1 _ _ rfl rfl) hb]
theorem inp_vr {S : Ev.Sig} {k : IntKind} {j : Nat} {x : Int} (h : Ev.Is (Ev.inp k j) k x) : Ev.VR S (Ev.inp k j) (.int k x) := .sym h
theorem tup {S : Ev.Sig} {a b a' b' : Value} (ha : Ev.VR S a a') (hb : Ev.VR S b b') : Ev.VR S (.tuple ⟨[a, b]⟩) (.tuple ⟨[a', b']⟩) :=
  have h : Ev.LR S [a, b] [a', b'] := .cons ha (.cons hb .nil)
  .tuple h.1 h.2
theorem pack_c {x0 x1 : Int} (h0 : In64 x0) (h1 : In64 x1) {a b : Value} {p q : Nat} (ha : Ev.Is a .i64 x0) (hb : Ev.Is b .i64 x1)
    (hp : Ev.Is (Ev.inp .u64 p) .u64 (cPack.r0 x0 x1)) (hq : Ev.Is (Ev.inp .i64 q) .i64 (cPack.r1 x0 x1)) (S : Ev.Sig) (args' : Array Value) (hr : Ev.LR S [.agg ⟨[a, b]⟩] args'.toList) (w : World) :
    Calls Try.prog 17 args' w fun e w' => (∃ v', e = .returned v' ∧ Ev.VR S (.tuple ⟨[Ev.inp .u64 p, Ev.inp .i64 q]⟩) v') ∧ Below w.heap.size w w' := by
  rw [arg1 (fun u' h => agg_inv ha hb h) hr]
  exact (cPack.walk x0 x1 ⟨h0.1, h0.2, h1.1, h1.2⟩ w).mono fun _ _ ⟨he, hb⟩ => ⟨⟨_, he, tup (inp_vr hp) (inp_vr hq)⟩, hb⟩
theorem fwd_c {x0 : Int} (h0 : In64 x0) {a : Value} {p q : Nat} (ha : Ev.Is a .i64 x0)
    (hp : Ev.Is (Ev.inp .u64 p) .u64 (cForward.r0 x0)) (hq : Ev.Is (Ev.inp .i64 q) .i64 (cForward.r1 x0)) (S : Ev.Sig) (args' : Array Value) (hr : Ev.LR S [a] args'.toList) (w : World) :
    Calls Try.prog 12 args' w fun e w' => (∃ v', e = .returned v' ∧ Ev.VR S (.tuple ⟨[Ev.inp .u64 p, Ev.inp .i64 q]⟩) v') ∧ Below w.heap.size w w' := by
  rw [arg1 (fun u' h => Ev.is_inv h ha) hr]
  exact (cForward.walk x0 ⟨h0.1, h0.2⟩ w).mono fun _ _ ⟨he, hb⟩ => ⟨⟨_, he, tup (inp_vr hp) (inp_vr hq)⟩, hb⟩
theorem kind_c {y : Int} (h0 : 0 ≤ y ∧ y ≤ 18446744073709551615) {a : Value} {p : Nat} (ha : Ev.Is a .u64 y) (hp : Ev.Is (Ev.inp .i64 p) .i64 (cKind.r0 y)) (S : Ev.Sig) (args' : Array Value) (hr : Ev.LR S [a] args'.toList) (w : World) :
    Calls Try.prog 19 args' w fun e w' => (∃ v', e = .returned v' ∧ Ev.VR S (Ev.inp .i64 p) v') ∧ Below w.heap.size w w' := by
  rw [arg1 (fun u' h => Ev.is_inv h ha) hr]
  exact (cKind.walk y ⟨h0.1, h0.2⟩ w).mono fun _ _ ⟨he, hb⟩ => ⟨⟨_, he, inp_vr hp⟩, hb⟩
theorem or40 {u : Value} {x : Int} (h : Ev.Is u .u64 x) (hr : 0 ≤ x ∧ x < 1099511627776) : Ev.Is (Ev.nodeB .or u (.int .u64 1099511627776) .u64) .u64 (x + 1099511627776) := by
  have e : ((2 : Int) ^ 40) = 1099511627776 := by decide
  have := Ev.is_or_u64 40 (by decide) h hr.1 (by rw [e]; exact hr.2)
  rw [e] at this
  exact this
end

theorem walk6 {x0 x1 x2 x3 x4 x5 : Int} (h0 : In64 x0) (h1 : In64 x1) (h2 : In64 x2) (h3 : In64 x3) (h4 : In64 x4) (h5 : In64 x5) (w : World) :
    Calls Try.prog 5 #[.agg #[.int .i64 x0, .int .i64 x1], .agg #[.int .i64 x2, .int .i64 x3], .agg #[.int .i64 x4, .int .i64 x5]] w fun e w' => e = .returned (.bool true) ∧ Below w.heap.size w w' := by
  have p1 := pack_spec x0 x1 h0.1 h0.2 h1.1 h1.2
  have p2 := pack_spec x2 x3 h2.1 h2.2 h3.1 h3.2
  have f1 := fwd_spec x4 h4.1 h4.2
  have f2 := fwd_spec x5 h5.1 h5.2
  have rp := pack_room h0 h1
  have rf := fwd_room h4
  have b1 : ∀ x : Int, 0 ≤ x % 18446744073709551616 ∧ x % 18446744073709551616 ≤ 18446744073709551615 := fun x => by omega
  have kb : ∀ y, -9223372036854775808 ≤ cKind.r0 y ∧ cKind.r0 y ≤ 9223372036854775807 := fun y => by have := kind_012 y; omega
  refine walk x0 x1 x2 x3 x4 x5 (cPack.r0 x0 x1) (cPack.r1 x0 x1) (cPack.r0 x2 x3) (cPack.r1 x2 x3) (cForward.r0 x4) (cForward.r1 x4) (cForward.r0 x5) (cForward.r1 x5)
    (cKind.r0 ((cPack.r0 x0 x1 + 1) % 18446744073709551616)) (cKind.r0 ((cPack.r0 x0 x1 - 1) % 18446744073709551616)) (cKind.r0 (cPack.r0 x0 x1 + 1099511627776))
    (cKind.r0 ((cForward.r0 x4 + 1) % 18446744073709551616)) (cKind.r0 ((cForward.r0 x4 - 1) % 18446744073709551616)) (cKind.r0 (cForward.r0 x4 + 1099511627776)) (fun I => ?_) ?_ w
  · exact Ev.csOk_bool (Ev.run_closed mixed closed16) (Ev.csOk_cons (pack_c h0 h1 I.i0 I.i1 I.i6 I.i7) (Ev.csOk_cons (pack_c h2 h3 I.i2 I.i3 I.i8 I.i9)
      (Ev.csOk_cons (fwd_c h4 I.i4 I.i10 I.i11) (Ev.csOk_cons (fwd_c h5 I.i5 I.i12 I.i13)
      (Ev.csOk_cons (kind_c (b1 _) (Ev.is_add_u64 I.i6 (.lit _ _)) I.i14) (Ev.csOk_cons (kind_c (b1 _) (Ev.is_sub_u64 I.i6 (.lit _ _)) I.i15) (Ev.csOk_cons (kind_c (by omega) (or40 I.i6 rp) I.i16)
      (Ev.csOk_cons (kind_c (b1 _) (Ev.is_add_u64 I.i10 (.lit _ _)) I.i17) (Ev.csOk_cons (kind_c (b1 _) (Ev.is_sub_u64 I.i10 (.lit _ _)) I.i18) (Ev.csOk_cons (kind_c (by omega) (or40 I.i10 rf) I.i19) (Ev.csOk_nil _)))))))))))
  · exact {
      l0 := h0.1, u0 := h0.2, l1 := h1.1, u1 := h1.2, l2 := h2.1, u2 := h2.2, l3 := h3.1, u3 := h3.2, l4 := h4.1, u4 := h4.2, l5 := h5.1, u5 := h5.2
      l6 := rp.1, u6 := by omega, l7 := pb1 x0 x1 |>.1, u7 := pb1 x0 x1 |>.2, l8 := (pack_room h2 h3).1, u8 := by have := pack_room h2 h3; omega, l9 := pb1 x2 x3 |>.1, u9 := pb1 x2 x3 |>.2
      l10 := rf.1, u10 := by omega, l11 := fb1 x4 |>.1, u11 := fb1 x4 |>.2, l12 := (fwd_room h5).1, u12 := by have := fwd_room h5; omega, l13 := fb1 x5 |>.1, u13 := fb1 x5 |>.2
      l14 := (kb _).1, u14 := (kb _).2, l15 := (kb _).1, u15 := (kb _).2, l16 := (kb _).1, u16 := (kb _).2, l17 := (kb _).1, u17 := (kb _).2, l18 := (kb _).1, u18 := (kb _).2, l19 := (kb _).1, u19 := (kb _).2
      g0 := fun e f h => pack_inj h0 h1 h2 h3 e f h
      g1 := fun e f => by subst e; subst f; exact ⟨rfl, rfl⟩
      g2 := fun e f h => fwd_inj h4 h5 e f h
      g3 := fun e => by subst e; exact ⟨rfl, rfl⟩
      g4 := fun e f => pack_fwd h0 h1 h4 e f
      g5 := fun e => (kind_pack h0 h1 e).1
      g6 := fun e => (kind_pack h0 h1 e).2.1
      g7 := fun e => (kind_pack h0 h1 e).2.2
      g8 := fun e => (kind_fwd h4 e).1
      g9 := fun e => (kind_fwd h4 e).2.1
      g10 := fun e => (kind_fwd h4 e).2.2 }
end Go.Proofs.Ytknifojinmnkfaa.headerApart
