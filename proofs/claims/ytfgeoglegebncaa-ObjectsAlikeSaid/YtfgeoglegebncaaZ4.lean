/-
  A calculus for code over rows of numbers of any length, and its soundness. No project text.
-/
import Derived.Test.YtfgeoglegebncaaRx
import Derived.Great.BuildSlice
import Derived.Still
import Derived.StillTail
import Derived.Scope
import Derived.Below
import Derived.OrdersHeld
import Derived.Deep.Slices
import Derived.Deep.Fields
import Derived.ChangeSame
import Derived.WideShapes
import Derived.Test.YtfgeoglegebncaaSnd2
import Derived.Laws.StructEq
import Derived.Lib.SmallJoins
namespace Go.Rx
open Go.RowKit (Below)
open Go.Ev (TI TK groundT cellsL sizeAt aggAt aggOf TIs add_none mkTI_some run_sizeOf' run_isAgg' run_zero' sizeAt_pos sizeAt_info kind_slice kind_struct kind_array Wrote repL repL_get repL_length run_firstCells_at madeCells_rep zeroCells_rep fillL zipI placeA placeF placeF_ok lsetAll_spec fold_splice run_newVar zeroOf)
section
variable {E : Env} {B : Nat → Prop} {w0 : World} {S : Sig} {s : St} {w : World} {t : Fr} {a : Act}
theorem _root_.Nat.mul_add_mod_of_lt' {a b w : Nat} (h : b < w) : (a * w + b) % w = b := by rw [Nat.mul_comm, Nat.mul_add_mod]; exact Nat.mod_eq_of_lt h
theorem copyX_ok (h : HR B w0 S s w) {ty xT sT e' : TypeId} {ts : Array TypeId} {consts : Array Bool} {ti : TI} {ks : List IntKind} (hel : ElemOk E ti ks) (hts : ts = #[sT, xT]) (hT : E.P.underlying sT = some (.slice ti.elem)) (hu : E.P.underlying xT = some (.slice e')) {d x d' x' : Value} (hd : VR S d d') (hx : VR S x x') {K : KV}
    (hk : copyX s ks d x K) : OX B w0 S K ((builtin .copy ts ty consts ⟨[d', x']⟩).run E.P w) := by
  subst hts
  obtain ⟨inf, dd, hi1, hi2, hisz, hib, z, hz1, hz2⟩ := hel.elem
  obtain ⟨m, g, i', news, lx, cx, bx, hk1, hR, rfl, rfl, hsrc, hfc⟩ := srcX_ok h (P := E.P) hel.pos hx hk hu
  clear hk
  split at hk1
  · rename_i b i l c
    obtain ⟨o, ho, hk2⟩ := kO_some hk1
    clear hk1
    obtain ⟨xx, hS, rfl⟩ := rslInv hd
    cases o with
    | cells cs e => exact hk2.elim
    | row ro ks' e n cap f =>
      obtain ⟨⟨rfl, h1, h2⟩, hk3⟩ := hk2
      obtain rfl := ksEq_eq h1
      obtain ⟨x2, hS', hbr, -⟩ := h.blk _ _ ho
      rw [hS] at hS'
      obtain rfl := Option.some.inj hS'
      have hbr2 := hbr
      obtain ⟨C, fr, hxC, hxw, hnc, hsz, hcap, hc, hfr⟩ := hbr.row_get (.inl rfl)
      have hmin : Nat.min lx l ≤ lx := Nat.min_le_left _ _
      have hminl : Nat.min lx l ≤ l := Nat.min_le_right _ _
      generalize hqd : Nat.min lx l = q at hmin hminl hk3
      have hmul : i * ks.length + l * ks.length ≤ n * ks.length := by rw [← Nat.add_mul]; exact Nat.mul_le_mul_right _ h2
      have hmq := Nat.mul_le_mul_right ks.length hmin
      have hml := Nat.mul_le_mul_right ks.length hminl
      have htl : (news.take (q * ks.length)).length = q * ks.length := by rw [List.length_take, hR.1]; omega
      obtain ⟨w', hrun, hH⟩ := h.writeRow (P := E.P) (vs := news.take (q * ks.length)) (f' := cpyF f i q g i') ho hS (i * ks.length) (fun v hv => hR.2.1 v (List.mem_of_mem_take hv)) (by rw [htl]; omega) (by
          intro a b k ha hb h7 h8
          have hbl : b < ks.length := (List.getElem?_eq_some_iff.1 hb).1
          rw [htl] at h8
          have hia : i ≤ a := by
            rcases Nat.lt_or_ge a i with q1 | q1
            · have := idx_lt hbl q1; omega
            · exact q1
          have hai : a < i + q := by
            rcases Nat.lt_or_ge a (i + q) with q1 | q1
            · exact q1
            · have := Nat.mul_le_mul_right ks.length q1
              rw [Nat.add_mul] at this
              omega
          have hsub : a * ks.length + b - i * ks.length = (a - i) * ks.length + b := by
            have := Nat.mul_le_mul_right ks.length hia
            rw [Nat.sub_mul]; omega
          rw [hsub, List.getElem?_take, if_pos (idx_lt hbl (by omega)), hR.2.2 _ _ _ (by omega) hb]
          unfold cpyF
          rw [if_pos ⟨hia, hai⟩, Nat.add_comm i' (a - i)]) (by
          intro a b k ha hb h7
          have hbl : b < ks.length := (List.getElem?_eq_some_iff.1 hb).1
          rw [htl] at h7
          unfold cpyF
          rw [if_neg]
          rintro ⟨h8, h9⟩
          have e1 := Nat.mul_le_mul_right ks.length h8
          have e2 := idx_lt hbl h9
          rw [Nat.add_mul] at e2
          exact h7 ⟨by omega, by omega⟩)
      have hrun2 := hfc q hmin
      rw [← hisz] at hrun2
      have hrun3 : (storeCells ⟨xx.b, xx.o + i * xx.w, none⟩ (news.take (q * inf.size))).run E.P w = .ok () w' := by rw [hisz, hxw]; exact hrun
      have hgo : (builtin .copy #[sT, xT] ty consts ⟨[.slice (some ⟨xx.b, xx.o + i * xx.w, none⟩) l c, .slice bx lx cx]⟩).run E.P w = .ok (.value (.int .i64 (q : Int))) w' := by
        have hq2 : Nat.min lx l = q := hqd
        simp [builtin, Builtin.copy_, Builtin.lenOf, run_underlying hT, run_sizeOf' hi1, hq2, hrun2, hrun3, goInt]
      rw [hgo]
      exact .val hk3 (Le.refl S) hH (.int _ _)
  · exact hk1.elim

theorem clearX_ok (h : HR B w0 S s w) {ty sT : TypeId} {ts : Array TypeId} {consts : Array Bool} {ti : TI} {ks : List IntKind} (hel : ElemOk E ti ks) (hts : ts = #[sT]) (hT : E.P.underlying sT = some (.slice ti.elem)) {d d' : Value} (hd : VR S d d') {K : KV}
    (hk : clearX s ks d K) : OX B w0 S K ((builtin .clear ts ty consts ⟨[d']⟩).run E.P w) := by
  subst hts
  obtain ⟨inf, dd, hi1, hi2, hisz, hib, z, hz1, hz2⟩ := hel.elem
  have hzs : z.cells.toList.length = ks.length := by rw [hz2]; simp
  unfold clearX at hk
  split at hk
  · rename_i b i l c
    obtain ⟨o, ho, hk2⟩ := kO_some hk
    clear hk
    obtain ⟨xx, hS, rfl⟩ := rslInv hd
    cases o with
    | cells cs e => exact hk2.elim
    | row ro ks' e n cap f =>
      obtain ⟨⟨rfl, h2, h1⟩, hk3⟩ := hk2
      obtain rfl := ksEq_eq h1
      obtain ⟨x2, hS', hbr, -⟩ := h.blk _ _ ho
      rw [hS] at hS'
      obtain rfl := Option.some.inj hS'
      have hbr2 := hbr
      obtain ⟨C, fr, hxC, hxw, hnc, hsz, hcap, hc, hfr⟩ := hbr.row_get (.inl rfl)
      cases l with
      | zero =>
        have e0 : clrF f i 0 = f := by
          funext a b
          unfold clrF
          rw [if_neg (by omega)]
        rw [e0] at hk3
        have hH : HR B w0 S (s.set b (.row false ks e n cap f)) w := h.update ho hS rfl rfl rfl (fun _ _ => rfl) rfl rfl rfl hbr2
        have hgo : (builtin .clear #[sT] ty consts ⟨[.slice (some ⟨xx.b, xx.o + i * xx.w, none⟩) 0 c]⟩).run E.P w = .ok (.value (.tuple #[])) w := by
          simp [builtin, Builtin.clear_, run_underlying hT]
        rw [hgo]
        exact .val hk3 (Le.refl S) hH .undef
      | succ l =>
        have hmul : i * ks.length + (l + 1) * ks.length ≤ n * ks.length := by rw [← Nat.add_mul]; exact Nat.mul_le_mul_right _ h2
        have hzl : (Builtin.zeroCells z.cells (l + 1)).toList = repL z.cells.toList (l + 1) := zeroCells_rep _ _
        have hrl : (repL z.cells.toList (l + 1)).length = (l + 1) * ks.length := by rw [repL_length, hzs]
        have hget : ∀ (q : Nat), q < (l + 1) * ks.length → ∃ k, ks[q % ks.length]? = some k ∧ (repL z.cells.toList (l + 1))[q]? = some (.int k 0) := by
          intro q hq
          have hlt : q % ks.length < ks.length := Nat.mod_lt _ hel.pos
          refine ⟨ks[q % ks.length], List.getElem?_eq_getElem hlt, ?_⟩
          rw [repL_get _ _ _ (by rw [hzs]; exact hq), hzs, hz2, List.getElem?_map, List.getElem?_eq_getElem hlt]
          rfl
        obtain ⟨w', hrun, hH⟩ := h.writeRow (P := E.P) (vs := repL z.cells.toList (l + 1)) (f' := clrF f i (l + 1)) ho hS (i * ks.length) (fun v hv => by
            obtain ⟨q, hq⟩ := List.getElem?_of_mem hv
            obtain ⟨k, -, h3⟩ := hget q (by rw [← hrl]; exact (List.getElem?_eq_some_iff.1 hq).1)
            rw [hq] at h3
            rw [Option.some.inj h3]
            rfl) (by rw [hrl]; omega) (by
            intro a b k ha hb h7 h8
            have hbl : b < ks.length := (List.getElem?_eq_some_iff.1 hb).1
            rw [hrl] at h8
            have hia : i ≤ a := by
              rcases Nat.lt_or_ge a i with q1 | q1
              · have := idx_lt hbl q1; omega
              · exact q1
            have hai : a < i + (l + 1) := by
              rcases Nat.lt_or_ge a (i + (l + 1)) with q1 | q1
              · exact q1
              · have := Nat.mul_le_mul_right ks.length q1
                rw [Nat.add_mul] at this
                omega
            have hsub : a * ks.length + b - i * ks.length = (a - i) * ks.length + b := by
              have := Nat.mul_le_mul_right ks.length hia
              rw [Nat.sub_mul]; omega
            obtain ⟨k', h9, h10⟩ := hget (a * ks.length + b - i * ks.length) (by omega)
            rw [hsub, Nat.mul_add_mod_of_lt' hbl] at h9
            rw [hb] at h9
            obtain rfl := Option.some.inj h9
            rw [h10]
            unfold clrF
            rw [if_pos ⟨hia, hai⟩]) (by
            intro a b k ha hb h7
            have hbl : b < ks.length := (List.getElem?_eq_some_iff.1 hb).1
            rw [hrl] at h7
            unfold clrF
            rw [if_neg]
            rintro ⟨h8, h9⟩
            have e1 := Nat.mul_le_mul_right ks.length h8
            have e2 := idx_lt hbl h9
            rw [Nat.add_mul] at e2
            exact h7 ⟨by omega, by omega⟩)
        rw [← hxw] at hrun
        have hgo : (builtin .clear #[sT] ty consts ⟨[.slice (some ⟨xx.b, xx.o + i * xx.w, none⟩) (l + 1) c]⟩).run E.P w = .ok (.value (.tuple #[])) w' := by
          simp [builtin, Builtin.clear_, run_underlying hT, run_zero' hi1 hz1, hzl, hrun]
        rw [hgo]
        exact .val hk3 (Le.refl S) hH .undef
  · cases hd
    rename_i c
    have hgo : (builtin .clear #[sT] ty consts ⟨[.slice none 0 c]⟩).run E.P w = .ok (.value (.tuple #[])) w := by
      simp [builtin, Builtin.clear_, run_underlying hT]
    rw [hgo]
    exact .val hk (Le.refl S) h .undef
  · exact hk.elim

theorem bnd_ok (hA : AR S t a) {dflt : Int} {o : Option Operand} {k : Int → Prop} (h : bnd dflt t o k) : ∃ z, k z ∧ ((o = none ∧ z = dflt) ∨ ∃ x kd, o = some x ∧ a.eval x = .int kd z) := by
  unfold bnd at h
  split at h
  · exact ⟨_, h, .inl ⟨rfl, rfl⟩⟩
  · rename_i x
    obtain ⟨v, h1, h2⟩ := kO_some h
    split at h2
    · rename_i kd z
      exact ⟨z, h2, .inr ⟨x, kd, rfl, intInv (ev_ok hA h1) rfl⟩⟩
    · exact h2.elim
theorem run_bounds {P : Program} {l h m len cap : Nat} {lo hi mx : Option Operand} (hl : (lo = none ∧ (l : Int) = 0) ∨ ∃ x kd, lo = some x ∧ a.eval x = .int kd (l : Int)) (hh : (hi = none ∧ (h : Int) = len) ∨ ∃ x kd, hi = some x ∧ a.eval x = .int kd (h : Int))
    (hm : (mx = none ∧ (m : Int) = cap) ∨ ∃ x kd, mx = some x ∧ a.eval x = .int kd (m : Int)) (hlh : l ≤ h) (hhm : h ≤ m) (hmc : m ≤ cap) (hx : mx.isSome = true → hi.isSome = true) :
    (Instr.sliceBounds true len cap (lo.map a.eval) (hi.map a.eval) (mx.map a.eval)).run P w = .ok (l, h, m) w := by
  have c : ∀ (n : Nat), (n : Int) = Int.ofNat n := fun _ => rfl
  rw [c] at hl hh hm
  rcases hm with ⟨rfl, hm⟩ | ⟨xm, km, rfl, hem⟩
  · obtain rfl : m = cap := Int.ofNat.inj hm
    rcases hh with ⟨rfl, hh⟩ | ⟨xh, kh, rfl, heh⟩
    · obtain rfl : h = len := Int.ofNat.inj hh
      rcases hl with ⟨rfl, hl⟩ | ⟨xl, kl, rfl, hel⟩
      · obtain rfl : l = 0 := Int.ofNat.inj hl
        simp [Instr.sliceBounds]
      · simp [Instr.sliceBounds, hel, Ev.run_sliceBound w kl l h _ hlh, -Int.ofNat_eq_natCast]
    · rcases hl with ⟨rfl, hl⟩ | ⟨xl, kl, rfl, hel⟩
      · obtain rfl : l = 0 := Int.ofNat.inj hl
        simp [Instr.sliceBounds, heh, Ev.run_sliceBound w kh h m _ (by omega), -Int.ofNat_eq_natCast]
      · simp [Instr.sliceBounds, heh, hel, Ev.run_sliceBound w kh h m _ (by omega), Ev.run_sliceBound w kl l h _ hlh, -Int.ofNat_eq_natCast]
  · rcases hh with ⟨rfl, hh⟩ | ⟨xh, kh, rfl, heh⟩
    · simp at hx
    · rcases hl with ⟨rfl, hl⟩ | ⟨xl, kl, rfl, hel⟩
      · obtain rfl : l = 0 := Int.ofNat.inj hl
        simp [Instr.sliceBounds, hem, heh, Ev.run_sliceBound w km m cap _ (by omega), Ev.run_sliceBound w kh h m _ (by omega), -Int.ofNat_eq_natCast]
      · simp [Instr.sliceBounds, hem, heh, hel, Ev.run_sliceBound w km m cap _ (by omega), Ev.run_sliceBound w kh h m _ (by omega), Ev.run_sliceBound w kl l h _ hlh, -Int.ofNat_eq_natCast]

theorem sliceX_ok (h : HR B w0 S s w) (hA : AR S t a) {ty : TypeId} {ti : TI} {ks : List IntKind} (hel : ElemOk E ti ks) (hT : E.P.underlying ty = some (.slice ti.elem)) {x x' : Value} (hx : VR S x x') {lo hi mx : Option Operand} (hmh : mx.isSome = true → hi.isSome = true) {K : KP}
    (hk : sliceX s ks x t lo hi mx K) : ∃ v v', K v ∧ VR S v v' ∧ ∀ w1 : World, (do pure (.value (← Instr.sliceAt ty x' (lo.map a.eval) (hi.map a.eval) (mx.map a.eval))) : Sem Next).run E.P w1 = .ok (.value v') w1 := by
  obtain ⟨inf, dd, hi1, hi2, hisz, -⟩ := hel.elem
  unfold sliceX at hk
  split at hk
  · rename_i b i l c
    obtain ⟨hw, hk0⟩ := hk
    obtain ⟨xx, hS, rfl⟩ := rslInv hx
    obtain ⟨o, ho, hw⟩ := kO_some hw
    obtain ⟨x2, hS', hbr, -⟩ := h.blk _ _ ho
    rw [hS] at hS'
    obtain rfl := Option.some.inj hS'
    obtain ⟨z1, hk1, b1⟩ := bnd_ok hA hk0
    obtain ⟨z2, hk2, b2⟩ := bnd_ok hA hk1
    obtain ⟨z3, hk3, b3⟩ := bnd_ok hA hk2
    obtain ⟨⟨g1, g2, g3, g4⟩, hk4⟩ := hk3
    obtain ⟨n1, rfl⟩ := Int.eq_ofNat_of_zero_le g1
    obtain ⟨n2, rfl⟩ := Int.eq_ofNat_of_zero_le (show 0 ≤ z2 by omega)
    obtain ⟨n3, rfl⟩ := Int.eq_ofNat_of_zero_le (show 0 ≤ z3 by omega)
    have hbs := fun w1 : World => run_bounds (w := w1) (P := E.P) b1 b2 b3 (by omega) (by omega) (by omega) hmh
    have hxw : xx.w = inf.size := by
      cases o with
      | cells cs e => exact hw.elim
      | row ro ks' e n cap f => rw [hbr.row_w, hisz]; exact hw.symm
    cases hmx : mx.isSome with
    | false =>
      rw [hmx] at hk4
      have hk4 : br (decide ((n1 : Int) < (n3 : Int))) (K (rsl b (addN i ((n1 : Nat) : Int).toNat) ((n2 : Int) - (n1 : Int)).toNat ((n3 : Int) - (n1 : Int)).toNat)) (K (rsl b i 0 0)) := by
        cases lo with
        | some o => exact hk4
        | none =>
          have hz : (n1 : Int) = 0 := by
            rcases b1 with ⟨-, hz⟩ | ⟨_, _, hz, -⟩
            · exact hz
            · cases hz
          obtain rfl : n1 = 0 := by omega
          have hk4 : K (rsl b i ((n2 : Nat) : Int).toNat ((n3 : Nat) : Int).toNat) := hk4
          refine br_intro (fun _ => ?_) fun hn => ?_
          · rw [addN_eq, show ((n2 : Int) - ((0 : Nat) : Int)).toNat = ((n2 : Nat) : Int).toNat by omega, show ((n3 : Int) - ((0 : Nat) : Int)).toNat = ((n3 : Nat) : Int).toNat by omega]
            exact hk4
          · have hn : ¬ ((0 : Nat) : Int) < (n3 : Int) := of_decide_eq_false hn
            obtain rfl : n3 = 0 := by omega
            obtain rfl : n2 = 0 := by omega
            exact hk4
      rcases br_cases hk4 with ⟨hlt, hk5⟩ | ⟨hlt, hk5⟩
      · have hlt : (n1 : Int) < n3 := of_decide_eq_true hlt
        have hne : ¬ n3 = n1 := by omega
        rw [addN_eq, show ((n2 : Int) - (n1 : Int)).toNat = n2 - n1 by omega, show ((n3 : Int) - (n1 : Int)).toNat = n3 - n1 by omega, show ((n1 : Nat) : Int).toNat = n1 from rfl] at hk5
        refine ⟨_, .slice (some ⟨xx.b, xx.o + (i + n1) * xx.w, none⟩) (n2 - n1) (n3 - n1), hk5, .rsl _ _ _ hS, fun w1 => ?_⟩
        have e1 : xx.o + (i + n1) * xx.w = xx.o + i * xx.w + n1 * inf.size := by rw [Nat.add_mul, hxw]; omega
        simp [Instr.sliceAt, Instr.slice, run_underlying hT, hbs w1, run_sizeOf' hi1, hne, add_none, e1]
      · have hlt : ¬ (n1 : Int) < n3 := of_decide_eq_false hlt
        obtain rfl : n3 = n1 := by omega
        obtain rfl : n2 = n3 := by omega
        refine ⟨_, .slice (some ⟨xx.b, xx.o + i * xx.w, none⟩) 0 0, hk5, .rsl _ _ _ hS, fun w1 => ?_⟩
        simp [Instr.sliceAt, Instr.slice, run_underlying hT, hbs w1, run_sizeOf' hi1]
    | true =>
      rw [hmx] at hk4
      obtain ⟨hz, hk4⟩ := (show (n2 : Int) = (n3 : Int) ∧ (bif lo.isNone then br (decide ((n1 : Int) < (n3 : Int))) (K (fsl b (addN i ((n1 : Nat) : Int).toNat) ((n2 : Int) - (n1 : Int)).toNat)) (K (rsl b i 0 0)) else K (csl b i ((n1 : Nat) : Int).toNat ((n2 : Int) - (n1 : Int)).toNat)) from hk4)
      cases hlo : lo.isNone with
      | false =>
        rw [hlo] at hk4
        have hk4 : K (csl b i ((n1 : Nat) : Int).toNat ((n2 : Int) - (n1 : Int)).toNat) := hk4
        obtain rfl : n2 = n3 := by omega
        rw [show ((n2 : Int) - (n1 : Int)).toNat = n2 - n1 by omega, show ((n1 : Nat) : Int).toNat = n1 from rfl] at hk4
        refine ⟨_, .slice (some ⟨xx.b, xx.o + (i + if n2 - n1 = 0 then 0 else n1) * xx.w, none⟩) (n2 - n1) (n2 - n1), hk4, .cut _ _ _ hS, fun w1 => ?_⟩
        by_cases hne : n2 = n1
        · subst hne
          simp [Instr.sliceAt, Instr.slice, run_underlying hT, hbs w1, run_sizeOf' hi1]
        · have h0 : ¬ n2 - n1 = 0 := by omega
          have e1 : xx.o + (i + n1) * xx.w = xx.o + i * xx.w + n1 * inf.size := by rw [Nat.add_mul, hxw]; omega
          rw [if_neg h0]
          simp [Instr.sliceAt, Instr.slice, run_underlying hT, hbs w1, run_sizeOf' hi1, hne, add_none, e1]
      | true =>
      rw [hlo] at hk4
      have hk4 : br (decide ((n1 : Int) < (n3 : Int))) (K (fsl b (addN i ((n1 : Nat) : Int).toNat) ((n2 : Int) - (n1 : Int)).toNat)) (K (rsl b i 0 0)) := hk4
      rcases br_cases hk4 with ⟨hlt, hk5⟩ | ⟨hlt, hk5⟩
      · have hlt : (n1 : Int) < n3 := of_decide_eq_true hlt
        have hne : ¬ n3 = n1 := by omega
        obtain rfl : n2 = n3 := by omega
        rw [addN_eq, show ((n2 : Int) - (n1 : Int)).toNat = n2 - n1 by omega, show ((n1 : Nat) : Int).toNat = n1 from rfl] at hk5
        refine ⟨_, .slice (some ⟨xx.b, xx.o + (i + n1) * xx.w, none⟩) (n2 - n1) (n2 - n1), hk5, .full _ _ hS, fun w1 => ?_⟩
        have e1 : xx.o + (i + n1) * xx.w = xx.o + i * xx.w + n1 * inf.size := by rw [Nat.add_mul, hxw]; omega
        simp [Instr.sliceAt, Instr.slice, run_underlying hT, hbs w1, run_sizeOf' hi1, hne, add_none, e1]
      · have hlt : ¬ (n1 : Int) < n3 := of_decide_eq_false hlt
        obtain rfl : n3 = n1 := by omega
        obtain rfl : n2 = n3 := by omega
        refine ⟨_, .slice (some ⟨xx.b, xx.o + i * xx.w, none⟩) 0 0, hk5, .rsl _ _ _ hS, fun w1 => ?_⟩
        simp [Instr.sliceAt, Instr.slice, run_underlying hT, hbs w1, run_sizeOf' hi1]
  · obtain rfl : x' = .slice none 0 0 := by cases hx; rfl
    obtain ⟨z1, hk1, b1⟩ := bnd_ok hA hk
    obtain ⟨z2, hk2, b2⟩ := bnd_ok hA hk1
    obtain ⟨z3, hk3, b3⟩ := bnd_ok hA hk2
    obtain ⟨⟨rfl, rfl, rfl⟩, hk4⟩ := hk3
    have hbs := fun w1 : World => run_bounds (w := w1) (P := E.P) (l := 0) (h := 0) (m := 0) (len := 0) (cap := 0) b1 b2 b3 (by omega) (by omega) (by omega) hmh
    refine ⟨_, .slice none 0 0, hk4, .slN 0 0, fun w1 => ?_⟩
    simp [Instr.sliceAt, Instr.slice, run_underlying hT, hbs w1, run_sizeOf' hi1]
  · exact hk.elim
end
end Go.Rx

namespace Go.Rx
open Go.RowKit (Below)
open Go.Ev (TI TK groundT cellsL sizeAt aggAt aggOf TIs add_none mkTI_some run_sizeOf' run_isAgg' run_zero' sizeAt_pos sizeAt_info kind_slice kind_struct kind_array Wrote repL repL_get repL_length madeCells_rep zeroCells_rep fillL fill1 zipI placeA placeF placeF_ok lsetAll lsetAll_spec fold_splice run_newVar zeroOf places run_buildSlice0)
section
variable {E : Env} {B : Nat → Prop} {w0 : World} {S : Sig} {s : St} {w : World} {t : Fr} {a : Act}
theorem zeroOf_some' {n : Nat} {z : Value} {l : List Value} (h : zeroOf n z = some l) (S : Sig) : LR S l z.cells.toList ∧ l.length = n := by
  unfold Ev.zeroOf at h
  cases hg : Ev.groundA z && Nat.beq (cellsL z).length n with
  | false => rw [hg] at h; cases h
  | true =>
    rw [hg] at h
    obtain rfl : cellsL z = l := Option.some.inj h
    simp only [Bool.and_eq_true] at hg
    exact ⟨(groundA_refl hg.1).cells, Nat.eq_of_beq_eq_true hg.2⟩

theorem fill_ok {pl pl' : Nat → Option (Nat × Nat)} (hpl : ∀ i q, pl i = some q → pl' i = some q) : ∀ {ps ps' : List (Nat × Value)} {cells : List Value} {cells' : Array Value} {r : List Value},
    ps.length = ps'.length → (∀ (j : Nat) p p', ps[j]? = some p → ps'[j]? = some p' → p.1 = p'.1 ∧ VR S p.2 p'.2) → LR S cells cells'.toList → fillL pl ps (some cells) = some r →
    ∃ r', Instr.fill pl' cells' ps' = some r' ∧ LR S r r'.toList
  | [], ps', cells, cells', r, hlen, _, hc, hf => by
    obtain rfl : cells = r := Option.some.inj hf
    have : ps' = [] := by cases ps' with | nil => rfl | cons x xs => simp at hlen
    subst this
    exact ⟨cells', rfl, hc⟩
  | (i, v) :: rest, [], cells, cells', r, hlen, _, hc, hf => by simp at hlen
  | (i, v) :: rest, (i', v') :: rest', cells, cells', r, hlen, hrel, hc, hf => by
    obtain ⟨e1, hv⟩ := hrel 0 (i, v) (i', v') rfl rfl
    have e1' : i = i' := e1
    subst e1'
    have hf' : fillL pl rest (fill1 v cells (pl i)) = some r := hf
    have hnone : fill1 v cells (pl i) ≠ none := fun e => by
      rw [e] at hf'
      cases rest with
      | nil => cases hf'
      | cons q qs => cases hf'
    cases hp : pl i with
    | none => rw [hp] at hnone; exact absurd rfl hnone
    | some q =>
      obtain ⟨off, size⟩ := q
      rw [hp] at hf' hnone
      cases hb : Nat.beq (cellsL v).length size with
      | false =>
        have : fill1 v cells (some (off, size)) = none := by show (Bool.rec none (lsetAll cells off (cellsL v)) (Nat.beq (cellsL v).length size) : Option (List Value)) = _; rw [hb]
        exact absurd this hnone
      | true =>
        have : fill1 v cells (some (off, size)) = lsetAll cells off (cellsL v) := by show (Bool.rec none (lsetAll cells off (cellsL v)) (Nat.beq (cellsL v).length size) : Option (List Value)) = _; rw [hb]
        rw [this] at hf' hnone
        cases hls : lsetAll cells off (cellsL v) with
        | none => exact absurd hls hnone
        | some c2 =>
          rw [hls] at hf'
          obtain ⟨h1, h2⟩ := lsetAll_spec _ _ _ _ hls
          have hlv := hv.cells
          have hsz : (cellsL v).length = size := Nat.eq_of_beq_eq_true hb
          have hvs : v'.cells.size = size := by rw [← hsz, hlv.1]; simp
          have hcs : cells.length = cells'.size := by rw [hc.1]; simp
          let c2' : Array Value := v'.cells.zipIdx.foldl (fun cs (x : Value × Nat) => cs.setIfInBounds (off + x.2) x.1) cells'
          have hc2' : c2'.toList = cells'.toList.take off ++ v'.cells.toList ++ cells'.toList.drop (off + v'.cells.toList.length) := by
            have := fold_splice v'.cells.toList 0 off cells' (by simp; omega)
            rw [Nat.add_zero] at this
            rw [← this]
            simp only [c2']
            rw [← Array.foldl_toList, Array.toList_zipIdx]
          have hl2 : LR S c2 c2'.toList := by
            rw [h2, hc2']
            have := ((hc.take off).append hlv).append (hc.drop (off + (cellsL v).length))
            rwa [show (cellsL v).length = v'.cells.toList.length from hlv.1] at this ⊢
          obtain ⟨r', hr', hlr⟩ := fill_ok hpl (ps := rest) (ps' := rest') (by simpa using hlen) (fun j p p' e e' => hrel (j + 1) p p' (by simpa using e) (by simpa using e')) hl2 hf'
          refine ⟨r', ?_, hlr⟩
          unfold Instr.fill
          simp only [hpl i _ hp]
          rw [if_neg (by simp [hvs]; omega)]
          exact hr'

theorem zipI_ok (hA : AR S t a) : ∀ (l : List (Nat × Operand)) (vs : List Value), evs (l.map (·.2)) t = some vs →
    (zipI l vs).length = (l.map fun (i, x) => (i, a.eval x)).length ∧ ∀ (j : Nat) p p', (zipI l vs)[j]? = some p → (l.map fun (i, x) => (i, a.eval x))[j]? = some p' → p.1 = p'.1 ∧ VR S p.2 p'.2
  | [], vs, h => ⟨by simp [zipI], fun j p p' e => by simp [zipI] at e⟩
  | (i, o) :: l, vs, h => by
    have h' : evs (o :: l.map (·.2)) t = some vs := h
    simp only [evs] at h'
    cases hv : ev o t with
    | none => rw [hv] at h'; cases h'
    | some v =>
      rw [hv] at h'
      cases hr : evs (l.map (·.2)) t with
      | none => simp only [hr] at h'; cases h'
      | some r =>
        simp only [hr] at h'
        obtain rfl : v :: r = vs := Option.some.inj h'
        obtain ⟨h1, h2⟩ := zipI_ok hA l r hr
        refine ⟨by simp [zipI, h1], fun j p p' e e' => ?_⟩
        cases j with
        | zero =>
          simp [zipI] at e e'
          subst e; subst e'
          exact ⟨rfl, ev_ok hA hv⟩
        | succ j => simp [zipI] at e e'; exact h2 j p p' e (by simpa using e')

theorem build_ok (hA : AR S t a) {ty : TypeId} {ti : TI} {inf : TypeInfo} {d : TypeDesc} (T : TIs E.P ty ti inf d) {parts : Array (Nat × Operand)} {vs r : List Value} {pl : Nat → Option (Nat × Nat)} (hv : evs (parts.toList.map (·.2)) t = some vs)
    (hp : places ti ti.kind = some pl) (hf : fillL pl (zipI parts.toList vs) ti.zero = some r) : ∃ r' : Array Value, E.P.built ty ((parts.map fun (i, x) => (i, a.eval x)).toList) = some r' ∧ LR S r r'.toList := by
  cases hz : ti.zero with
  | none =>
    rw [hz] at hf
    cases hzi : zipI parts.toList vs with
    | nil => rw [hzi] at hf; cases hf
    | cons q qs => rw [hzi] at hf; cases hf
  | some l =>
    rw [hz] at hf
    rw [T.zero] at hz
    obtain ⟨z, hz1, hz2⟩ := Option.bind_eq_some_iff.1 hz
    obtain ⟨z1, z2⟩ := zipI_ok hA parts.toList vs hv
    have hparts : (parts.map fun (i, x) => (i, a.eval x)).toList = parts.toList.map fun (i, x) => (i, a.eval x) := by simp
    rw [hparts]
    unfold Ev.places at hp
    split at hp
    · rename_i hk
      rw [T.kind] at hk
      obtain ⟨fs, rfl, hall⟩ := kind_struct hk
      obtain rfl := Option.some.inj hp
      obtain ⟨pls, h3, h4⟩ := placeF_ok hall
      rw [T.fields] at hf
      obtain ⟨r', hr', hlr⟩ := fill_ok (pl' := fun i => pls.toArray[i]?) (fun i q hq => by simpa using h4 i q hq) z1 z2 (zeroOf_some' hz2 S).1 hf
      exact ⟨r', by simp only [Program.built, T.info, T.under, hz1, h3]; exact hr', hlr⟩
    · rename_i hk
      rw [T.kind] at hk
      obtain ⟨n, e, einf, ed, rfl, he1, he2⟩ := kind_array hk
      obtain rfl := Option.some.inj hp
      have hes : ti.esize = einf.size := by rw [T.esize]; exact sizeAt_info he1 he2
      obtain ⟨r', hr', hlr⟩ := fill_ok (pl' := fun i => some (i * einf.size, einf.size)) (fun i q hq => by rw [← hq]; show _ = some (Nat.mul _ _, _); rw [hes]; rfl) z1 z2 (zeroOf_some' hz2 S).1 hf
      exact ⟨r', by simp only [Program.built, T.info, T.under, hz1, he1]; exact hr', hlr⟩
    · cases hp

theorem intsMany_get {ks : List IntKind} : ∀ {n : Nat} {l : List Value} {zs : List Int}, intsMany ks n l = some zs → l.length = n * ks.length ∧ zs.length = n * ks.length ∧
    ∀ (i j : Nat) k, i < n → ks[j]? = some k → l[i * ks.length + j]? = some (.int k (litF ks.length zs i j))
  | 0, [], zs, h => by
    obtain rfl : [] = zs := Option.some.inj h
    exact ⟨by simp, by simp, fun i j k hi => by omega⟩
  | 0, _ :: _, zs, h => by cases h
  | n + 1, l, zs, h => by
    simp only [intsMany] at h
    cases ha : intsOf ks (l.take ks.length) with
    | none => rw [ha] at h; cases h
    | some p =>
      simp only [ha] at h
      cases hr : intsMany ks n (l.drop ks.length) with
      | none => rw [hr] at h; cases h
      | some r =>
        rw [hr] at h
        obtain rfl : p ++ r = zs := Option.some.inj h
        obtain ⟨h1, h2, h3⟩ := intsMany_get hr
        obtain ⟨h4, h5⟩ := intsOf_ints ha
        have h6 := ints_length (ks := ks) h5
        have hlen : ks.length ≤ l.length := by
          have := congrArg List.length h4
          rw [h6, List.length_take] at this
          omega
        rw [List.length_drop] at h1
        have hmul : (n + 1) * ks.length = n * ks.length + ks.length := by rw [Nat.add_mul, Nat.one_mul]
        refine ⟨by omega, by rw [List.length_append, h5, h2, hmul]; omega, fun i j k hi hk => ?_⟩
        have hj : j < ks.length := (List.getElem?_eq_some_iff.1 hk).1
        cases i with
        | zero =>
          have e1 : l[j]? = (l.take ks.length)[j]? := by rw [List.getElem?_take, if_pos hj]
          simp only [Nat.zero_mul, Nat.zero_add, litF]
          rw [e1, h4, ints_get h5 hk, List.getElem?_append_left (by omega)]
        | succ i =>
          have e2 : (i + 1) * ks.length + j = ks.length + (i * ks.length + j) := by rw [Nat.add_mul, Nat.one_mul]; omega
          have := h3 i j k (by omega) hk
          rw [List.getElem?_drop] at this
          rw [e2, this]
          simp only [litF]
          rw [e2, List.getElem?_append_right (by omega), h5]
          congr 4
          omega

theorem cellsX_ok (hE : EnvOk E) (hA : AR S t a) (h : HR B w0 S s w) {o : Oper} {ty : TypeId} {ti : TI} {inf : TypeInfo} {d : TypeDesc} (T : TIs E.P ty ti inf d) {len : Nat} {parts : Array (Nat × Operand)} (ho : o.op = .buildSlice ty len parts) {K : KV}
    (hk : cellsX E ti len (evs (parts.toList.map (·.2)) t) parts s K) : OX B w0 S K ((execOp a.eval o).run E.P w) := by
  obtain ⟨hks, ⟨h1, h2⟩, hk⟩ := hk
  have h1 : 1 ≤ len := Nat.le_of_ble_eq_true h1
  have h2 : len ≤ 1000 := Nat.le_of_ble_eq_true h2
  obtain ⟨te, hte, hk⟩ := kO_some hk
  obtain ⟨z, hz, ⟨h3, h3b, h4⟩, hk⟩ := kO_some hk
  obtain ⟨vs, hv, hk⟩ := kO_some hk
  obtain ⟨r, hr, hk⟩ := kO_some hk
  obtain ⟨einf, ed, T'⟩ := mkTI_some (hE.types _ _ hte)
  have h3 : 1 ≤ te.size := Nat.le_of_ble_eq_true h3
  have h3b : te.size ≤ 100 := Nat.le_of_ble_eq_true h3b
  have h4 : te.bytes ≤ 1000000 := Nat.le_of_ble_eq_true h4
  rw [T'.zero] at hz
  obtain ⟨z0, hz1, hz2⟩ := Option.bind_eq_some_iff.1 hz
  obtain ⟨hz3, hz4⟩ := zeroOf_some' hz2 S
  have hsz : einf.size = te.size := T'.size.symm
  have hib : einf.bytes ≤ 1000000 := by rw [← T'.bytes]; exact h4
  rw [T.kind] at hks
  obtain ⟨e, einf2, ed2, rfl, he1, he2⟩ := kind_slice hks
  have hel : ti.elem = e := T.elem
  subst hel
  have hzc : z0.cells.size = einf.size := by
    have := hz3.1
    rw [hz4] at this
    simpa using this.symm
  obtain ⟨z1, z2⟩ := zipI_ok hA parts.toList vs hv
  have hmade : LR S (repL z len) ((Array.range (len * einf.size)).map (z0.cells[· % z0.cells.size]!)).toList := by
    have := madeCells_rep z0.cells len
    rw [hzc] at this
    unfold madeCells at this
    rw [this]
    have rep : ∀ c, LR S (repL z c) (repL z0.cells.toList c) := by
      intro c
      induction c with
      | zero => exact .nil
      | succ c ih =>
        have e1 : repL z (c + 1) = z ++ repL z c := Ev.appL_eq _ _
        have e2 : repL z0.cells.toList (c + 1) = z0.cells.toList ++ repL z0.cells.toList c := Ev.appL_eq _ _
        rw [e1, e2]
        exact hz3.append ih
    exact rep len
  obtain ⟨r', hr', hlr⟩ := fill_ok (pl' := fun i => some (i * einf.size, einf.size)) (fun i q hq => by rw [← hq, hsz]; rfl) z1 z2 hmade hr
  have hparts : (parts.map fun (i, x) => (i, a.eval x)).toList = parts.toList.map fun (i, x) => (i, a.eval x) := by simp
  obtain ⟨S', hle, hn, hH⟩ := h.newCells (e := ti.elem) hlr
  have hrun : (execOp a.eval o).run E.P w = .ok (.value (.slice (some ⟨w.heap.size, 0, none⟩) len len)) (w.alloc (.cells ⟨r'.toList⟩ ti.elem)) := by
    simp only [execOp, ho]
    rw [Sem.run_bind, run_buildSlice w ty ti.elem len _ r' einf z0 T.under T'.info hz1 (by rw [hsz]; have := Nat.mul_le_mul h2 h3b; omega) (by rw [hsz]; have := Nat.mul_pos h1 h3; omega) (by rw [hparts]; exact hr')]
    rfl
  rw [hrun]
  refine .val hk hle hH ?_
  have := VR.sl (S := S') 0 len len hn
  simpa using this

theorem pureX_ok (hE : EnvOk E) (h : HR B w0 S s w) (hA : AR S t a) (o : Oper) {K : KP} (hk : pureX E o.op t s K) : PX S K ((execOp a.eval o).run E.P w) w := by
  unfold pureX at hk
  split at hk
  · rename_i x ho
    obtain ⟨v, h1, h2⟩ := kO_some hk
    exact ⟨v, _, h2, ev_ok hA h1, by simp [execOp, ho]⟩
  · rename_i x ho
    obtain ⟨v, h1, h2⟩ := kO_some hk
    exact ⟨v, _, h2, ev_ok hA h1, by simp [execOp, ho]⟩
  · rename_i c x y ho
    obtain ⟨v, h1, h2⟩ := kO_some hk
    have hv := ev_ok hA h1
    split at h2
    · rename_i q
      have hc := boolInv hv
      rcases br_cases h2 with ⟨rfl, h3⟩ | ⟨rfl, h3⟩
      · obtain ⟨u, h4, h5⟩ := kO_some h3
        exact ⟨u, _, h5, ev_ok hA h4, by simp [execOp, ho, hc, asBool]⟩
      · obtain ⟨u, h4, h5⟩ := kO_some h3
        exact ⟨u, _, h5, ev_ok hA h4, by simp [execOp, ho, hc, asBool]⟩
    · exact h2.elim
  · rename_i ty x ho
    obtain ⟨ti, inf, d, T, h1⟩ := tI_some hE hk
    obtain ⟨v, h2, h3⟩ := kO_some h1
    have hv := ev_ok hA h2
    split at h3
    · rename_i p
      obtain ⟨u, u', q, h7, h4, h5, h6⟩ := loadP_ok h T h3 hv
      exact ⟨u, u', h4, h5, by simp [execOp, ho, Instr.loadAt, h7, Instr.sureAddr, h6]⟩
    · exact h3.elim
  · rename_i x ho
    obtain ⟨v, h1, h2⟩ := kO_some hk
    have hv := ev_ok hA h1
    split at h2
    · rename_i p
      refine ⟨_, a.eval x, h2, hv, ?_⟩
      obtain ⟨b, i, j⟩ := p
      generalize hev : a.eval x = u at hv
      cases hv <;> simp [execOp, ho, hev]
    · rename_i f p q
      refine ⟨_, a.eval x, h2, hv, ?_⟩
      generalize hev : a.eval x = u at hv
      cases hv
      simp [execOp, ho, hev]
    · exact h2.elim
  · rename_i ty x f ho
    obtain ⟨ti, inf, d, T, h1⟩ := tI_some hE hk
    obtain ⟨v, h2, h3⟩ := kO_some h1
    have := faX_ok h T h3 (ev_ok hA h2)
    simpa only [execOp, ho] using this
  · rename_i ty x f ho
    obtain ⟨ti, inf, d, T, h1⟩ := tI_some hE hk
    obtain ⟨v, h2, h3⟩ := kO_some h1
    have hv := ev_ok hA h2
    split at h3
    · rename_i cs
      unfold fieldP at h3
      rw [T.fields] at h3
      obtain ⟨⟨o', g, n⟩, hf, h4⟩ := kO_some h3
      obtain ⟨fs, fd, rfl, hfd, rfl, hg, hn⟩ := Ev.fieldsOf_get hf
      obtain ⟨cs', hev, hl⟩ := aggInv hv
      obtain ⟨u, u', h5, h6, h7⟩ := partV_ok (w := w) hl h4 hn hg
      refine ⟨u, u', h5, h6, ?_⟩
      simp only at h7
      simp [execOp, ho, Instr.field, run_underlying T.under, hfd, hev, asAgg, h7]
    · exact h3.elim
  · rename_i x i ho
    obtain ⟨v, h1, h2⟩ := kO_some hk
    have hv := ev_ok hA h1
    split at h2
    · rename_i vs
      obtain ⟨vs', hev, hl⟩ := tupInv hv
      obtain ⟨u, h3, h4⟩ := kO_some h2
      obtain ⟨u', h5, h6⟩ := hl.get h3
      exact ⟨u, u', h4, h6, by simp [execOp, ho, Instr.extract, hev, h5]⟩
    · exact h2.elim
  · rename_i f x y ho
    obtain ⟨l, h1, h2⟩ := kO_some hk
    obtain ⟨m, h3, h4⟩ := kO_some h2
    have h5 := evs_ok hA h1
    have h6 := evs_ok hA h3
    have e1 : x.map a.eval = ⟨x.toList.map a.eval⟩ := by apply Array.ext'; simp
    have e2 : y.map a.eval = ⟨y.toList.map a.eval⟩ := by apply Array.ext'; simp
    refine ⟨_, .func (.func f) ⟨x.toList.map a.eval⟩ ⟨y.toList.map a.eval⟩, h4, .func f h5.1 h5.2 h6.1 h6.2, ?_⟩
    simp only [execOp, ho, e1, e2]
    rfl
  · rename_i ty x ix ho
    obtain ⟨ti, inf, d, T, h1⟩ := tI_some hE hk
    obtain ⟨v, h2, h3⟩ := kO_some h1
    obtain ⟨i, h4, h5⟩ := kO_some h3
    have hi := ev_ok hA h4
    split at h5
    · rename_i k z
      have := iaX_ok h T h5 (ev_ok hA h2) k
      simpa only [execOp, ho, intInv hi rfl] using this
    · exact h5.elim
  · rename_i op ty x y ty2 ho
    obtain ⟨u, h1, h2⟩ := kO_some hk
    obtain ⟨v, h3, h4⟩ := kO_some h2
    obtain ⟨r, h5, h6, h7⟩ := binX_ok hE h4 (ev_ok hA h1) (ev_ok hA h3) x y w
    refine ⟨r, r, h5, h6, ?_⟩
    simp only [execOp, ho]
    rw [Sem.run_bind, h7]
    rfl
  · rename_i ty x ho
    obtain ⟨v, h1, h2⟩ := kO_some hk
    have hv := ev_ok hA h1
    split at h2
    · rename_i b
      exact ⟨_, _, h2, .bool _, by simp [execOp, ho, boolInv hv, Op.unary]⟩
    · exact h2.elim
  · rename_i src dst x ho
    obtain ⟨ts, infs, ds, Ts, h1⟩ := tI_some hE hk
    obtain ⟨td, infd, dd, Td, h2⟩ := tI_some hE h1
    obtain ⟨v, h3, h4⟩ := kO_some h2
    have hv := ev_ok hA h3
    split at h4
    · rename_i k z k1 j hk1 hk2
      have hd := Td.kind
      rw [hk2] at hd
      obtain rfl := Ev.kind_int hd.symm
      have hrun : (convert src dst (a.eval x)).run E.P w = .ok (.int j (j.wrap z)) w := by
        rw [intInv hv rfl]
        simp only [convert, Sem.run_bind, run_underlying Ts.under, run_underlying Td.under, Result.andThen_ok]
        cases ds <;> simp [Conv.intToInt]
      cases hkk : kindEq k j with
      | true =>
        rw [hkk] at h4
        obtain ⟨h5, h6⟩ := h4
        rw [wrap_id h6] at hrun
        exact ⟨_, _, h5, .int _ _, by simp [execOp, ho, hrun]⟩
      | false =>
        rw [hkk] at h4
        cases hsg : signed j with
        | true =>
          rw [hsg] at h4
          cases hku : kindEq k .u64 with
          | true =>
            rw [hku] at h4
            obtain ⟨h5, h6⟩ := h4
            rw [wrap_id h5] at hrun
            exact ⟨_, _, h6, .int _ _, by simp [execOp, ho, hrun]⟩
          | false =>
            rw [hku] at h4
            exact ⟨_, _, h4, .int _ _, by simp [execOp, ho, hrun]⟩
        | false =>
          rw [hsg] at h4
          rw [wrap_md hsg] at hrun
          exact ⟨_, _, h4, .int _ _, by simp [execOp, ho, hrun]⟩
    · exact h4.elim
  · rename_i b args ts ho
    obtain ⟨vs, h1, h2⟩ := kO_some hk
    have hl := evs_ok hA h1
    have hargs : args.map a.eval = ⟨args.toList.map a.eval⟩ := by apply Array.ext'; simp
    have := callP_ok (w := w) (ty := o.type) (consts := args.map fun | .const _ => true | _ => false) hE hl h2
    simp only [execOp, ho, resolve, Sem.run_bind, Sem.run_pure, Result.andThen_ok, invoke, hargs]
    exact this
  · rename_i ty parts ho
    obtain ⟨ti, inf, d, T, h1⟩ := tI_some hE hk
    obtain ⟨vs, h2, h3⟩ := kO_some h1
    obtain ⟨pl, h4, h5⟩ := kO_some h3
    obtain ⟨r, h6, h7⟩ := kO_some h5
    obtain ⟨r', hb, hlr⟩ := build_ok hA T h2 h4 h6
    refine ⟨_, .agg r', h7, .agg (a' := r'.toList) hlr.1 hlr.2, ?_⟩
    simp only [execOp, ho]
    rw [Sem.run_bind, run_build w ty _ r' hb]
    rfl
  · rename_i ty x lo hi mx ho
    obtain ⟨ti, inf, d, T, h1⟩ := tI_some hE hk
    obtain ⟨ks, hel, ⟨h2, h3⟩, rfl, hes⟩ := elemX_some hE T h1
    obtain ⟨v, h4, h5⟩ := kO_some h3
    obtain ⟨u, u', h6, h7, h8⟩ := sliceX_ok h hA hel T.under (ev_ok hA h4) (fun hm => by cases mx <;> simp_all) h5
    exact ⟨u, u', h6, h7, by simpa only [execOp, ho] using h8 w⟩
  · exact hk.elim

theorem effX_ok (hE : EnvOk E) (h : HR B w0 S s w) (hA : AR S t a) (o : Oper) {C : CallK} {K : KV} (hk : effX E C o.op t s K) :
    OX B w0 S K ((execOp a.eval o).run E.P w) ∨ ∃ f args ts, o.op = .call ⟨.value f, args, ts⟩ := by
  unfold effX at hk
  split at hk
  · rename_i e ho
    left
    obtain ⟨ti, inf, d, T, h1⟩ := tI_some hE hk
    obtain ⟨l, h2, h3⟩ := kO_some h1
    rw [T.zero] at h2
    obtain ⟨z, hz1, hz2⟩ := Option.bind_eq_some_iff.1 h2
    obtain ⟨S', hle, hn, hH⟩ := h.newCells (e := e) (zeroOf_some' hz2 S).1
    have hrun : (execOp a.eval o).run E.P w = .ok (.value (.pointer (some ⟨w.heap.size, 0, none⟩))) { w with heap := w.heap.push (.cells ⟨z.cells.toList⟩ e) } := by
      simp [execOp, ho, Instr.alloc, Ev.run_zero' T.info hz1, run_newVar]
    rw [hrun]
    refine .val h3 hle hH ?_
    have := VR.ptr (S := S') 0 hn
    simpa using this
  · rename_i e x ho
    left
    obtain ⟨v, h1, h2⟩ := kO_some hk
    obtain ⟨S', hle, hn, hH⟩ := h.newCells (e := e) (ev_ok hA h1).cells
    have hrun : (execOp a.eval o).run E.P w = .ok (.value (.pointer (some ⟨w.heap.size, 0, none⟩))) { w with heap := w.heap.push (.cells ⟨(a.eval x).cells.toList⟩ e) } := by
      simp [execOp, ho, Instr.box, run_newVar]
    rw [hrun]
    refine .val h2 hle hH ?_
    have := VR.ptr (S := S') 0 hn
    simpa using this
  · rename_i ty p x ho
    left
    obtain ⟨ti, inf, d, T, h1⟩ := tI_some hE hk
    obtain ⟨pv, h2, h3⟩ := kO_some h1
    obtain ⟨v, h4, h5⟩ := kO_some h3
    have hp := ev_ok hA h2
    split at h5
    · obtain ⟨s', w', h6, h7, h8⟩ := storeX_ok h T h5 hp (ev_ok hA h4)
      have hrun : (execOp a.eval o).run E.P w = .ok .skip w' := by simpa only [execOp, ho] using h8
      rw [hrun]
      exact .skip h6 (Le.refl S) h7
    · exact h5.elim
  · rename_i ty parts ho
    left
    obtain ⟨ti, inf, d, T, h1⟩ := tI_some hE hk
    obtain ⟨vs, h2, h3⟩ := kO_some h1
    obtain ⟨pl, h4, h5⟩ := kO_some h3
    obtain ⟨r, h6, h7⟩ := kO_some h5
    obtain ⟨r', hb, hlr⟩ := build_ok hA T h2 h4 h6
    have hrun : (execOp a.eval o).run E.P w = .ok (.value (.agg r')) w := by
      simp only [execOp, ho]
      rw [Sem.run_bind, run_build w ty _ r' hb]
      rfl
    rw [hrun]
    exact .val h7 (Le.refl S) h (.agg (a' := r'.toList) hlr.1 hlr.2)
  · rename_i ty len parts ho
    left
    obtain ⟨ti, inf, d, T, h1⟩ := tI_some hE hk
    cases hcb : cellB E ti with
    | true =>
      rw [hcb] at h1
      exact cellsX_ok hE hA h T ho h1
    | false =>
    rw [hcb] at h1
    obtain ⟨ks, hel, ⟨h2, h3⟩, rfl, hes⟩ := elemX_some hE T h1
    obtain ⟨vs, hv, h4⟩ := kO_some h3
    obtain ⟨te, hte, h5⟩ := kO_some h4
    obtain ⟨z, hz, h6⟩ := kO_some h5
    obtain ⟨r, hr, h7⟩ := kO_some h6
    obtain ⟨zs, hzs, h8⟩ := kO_some h7
    obtain rfl := hel.zero _ _ hte hz
    obtain ⟨einf, ed, he1, he2, hisz, hib, z0, hz1, hz2⟩ := hel.elem
    have h2 : len * ks.length ≤ 100000 := Nat.le_of_ble_eq_true h2
    obtain ⟨z1, z2⟩ := zipI_ok hA parts.toList vs hv
    obtain ⟨q1, q2, q3⟩ := intsMany_get hzs
    have hzc : z0.cells.size = einf.size := by rw [hisz]; have := congrArg List.length hz2; simpa using this
    have hgoal : ∀ (C : List Value), LR S r C → (execOp a.eval o).run E.P w = .ok (.value (.slice (some ⟨w.heap.size, 0, none⟩) len len)) (w.alloc (.cells ⟨C⟩ ti.elem)) → OX B w0 S K ((execOp a.eval o).run E.P w) := by
      intro C hC hrun
      obtain ⟨S', hle, hn, hH⟩ := h.newRow (ks := ks) (e := ti.elem) (n := len) (cap := len) (f := litF ks.length zs) (C := ⟨C⟩) (w' := w.alloc (.cells ⟨C⟩ ti.elem)) rfl rfl rfl rfl (Nat.le_refl _) (by show _ ≤ C.length; rw [← hC.1, q1]; exact Nat.le_refl _) (fun i j k hi hk => by
        obtain ⟨v', h9, h10⟩ := hC.get (q3 i j k hi hk)
        rw [intInv h10 rfl] at h9
        simpa using h9)
      rw [hrun]
      refine .val h8 hle hH ?_
      have := VR.rsl (S := S') 0 len len hn
      simpa [rsl] using this
    rcases Nat.eq_zero_or_pos len with rfl | hpos
    · have hre : r = [] := by
        have : r.length = 0 := by rw [q1]; simp
        exact List.length_eq_zero_iff.1 this
      have hpe : zipI parts.toList vs = [] := by
        cases hzp : zipI parts.toList vs with
        | nil => rfl
        | cons q qs =>
          exfalso
          rw [hzp] at hr
          obtain ⟨i, v⟩ := q
          have hr' : fillL (placeA ks.length) qs (fill1 v [] (some (Nat.mul i ks.length, ks.length))) = some r := hr
          have hn : fill1 v [] (some (Nat.mul i ks.length, ks.length)) = none := by
            show (Bool.rec none (lsetAll [] (Nat.mul i ks.length) (cellsL v)) (Nat.beq (cellsL v).length ks.length) : Option (List Value)) = _
            cases hb : Nat.beq (cellsL v).length ks.length with
            | false => rfl
            | true =>
              have hcl : (cellsL v).length = ks.length := Nat.eq_of_beq_eq_true hb
              show lsetAll [] (Nat.mul i ks.length) (cellsL v) = none
              cases hls : lsetAll [] (Nat.mul i ks.length) (cellsL v) with
              | none => rfl
              | some c =>
                have h9 := (lsetAll_spec _ _ _ _ hls).1
                have h10 := hel.pos
                rw [hcl] at h9
                exfalso
                have h11 : ks.length ≤ 0 := Nat.le_trans (Nat.le_add_left _ _) h9
                omega
          rw [hn] at hr'
          cases qs with
          | nil => cases hr'
          | cons q2 qs2 => cases hr'
      rw [hpe] at z1
      have hpp : parts = #[] := by
        have h0 : parts.toList = [] := by simpa using z1.symm
        cases parts with
        | mk l => simp at h0; rw [h0]
      subst hpp
      refine hgoal [] (by rw [hre]; exact .nil) ?_
      simp only [execOp, ho]
      rw [Sem.run_bind, run_buildSlice0 w ty ti.elem 0 einf T.under he1 (by simp)]
      rfl
    · have hmade : LR S (repL (ks.map fun k => Value.int k 0) len) ((Array.range (len * einf.size)).map (z0.cells[· % z0.cells.size]!)).toList := by
        have := madeCells_rep z0.cells len
        rw [hzc] at this
        unfold madeCells at this
        rw [this, hz2]
        have hz3 : LR S (ks.map fun k => Value.int k 0) (ks.map fun k => Value.int k 0) := by
          rw [← hz2]
          refine ⟨rfl, fun i v v' e1 e2 => ?_⟩
          rw [e1] at e2
          obtain rfl := Option.some.inj e2
          rw [hz2, List.getElem?_map] at e1
          cases hki : ks[i]? with
          | none => rw [hki] at e1; cases e1
          | some k => rw [hki] at e1; obtain rfl := Option.some.inj e1; exact .int _ _
        have rep : ∀ c, LR S (repL (ks.map fun k => Value.int k 0) c) (repL (ks.map fun k => Value.int k 0) c) := by
          intro c
          induction c with
          | zero => exact .nil
          | succ c ih =>
            have e : repL (ks.map fun k => Value.int k 0) (c + 1) = (ks.map fun k => Value.int k 0) ++ repL (ks.map fun k => Value.int k 0) c := Ev.appL_eq _ _
            rw [e]
            exact hz3.append ih
        exact rep len
      obtain ⟨r', hr', hlr⟩ := fill_ok (pl' := fun i => some (i * einf.size, einf.size)) (fun i q hq => by rw [← hq, hisz]; rfl) z1 z2 hmade hr
      have hparts : (parts.map fun (i, x) => (i, a.eval x)).toList = parts.toList.map fun (i, x) => (i, a.eval x) := by simp
      have hp2 : 1 ≤ len * einf.size := by rw [hisz]; exact Nat.mul_pos hpos hel.pos
      refine hgoal r'.toList hlr ?_
      simp only [execOp, ho]
      rw [Sem.run_bind, run_buildSlice w ty ti.elem len _ r' einf z0 T.under he1 hz1 (by rw [hisz]; omega) (by omega) (by rw [hparts]; exact hr')]
      rfl
  · rename_i ty l c ho
    left
    obtain ⟨ti, inf, d, T, h1⟩ := tI_some hE hk
    obtain ⟨ks, hel, h2, rfl, hes⟩ := elemX_some hE T h1
    obtain ⟨u, h3, h4⟩ := kO_some h2
    obtain ⟨v, h5, h6⟩ := kO_some h4
    have hu := ev_ok hA h3
    have hv := ev_ok hA h5
    split at h6
    · rename_i k1 z1 k2 z2
      obtain ⟨⟨g1, g2, g3⟩, h7⟩ := h6
      obtain ⟨n1, rfl⟩ := Int.eq_ofNat_of_zero_le g1
      obtain ⟨n2, rfl⟩ := Int.eq_ofNat_of_zero_le (show 0 ≤ z2 by omega)
      obtain ⟨einf, ed, he1, he2, hisz, hib, z0, hz1, hz2⟩ := hel.elem
      have hzc : z0.cells.size = einf.size := by rw [hisz]; have := congrArg List.length hz2; simpa using this
      have hby : (einf.bytes : Int) * (n2 : Int) ≤ 281474976710656 := by
        have : einf.bytes * n2 ≤ 1000000 * 100000 := Nat.mul_le_mul hib (by omega)
        have := Int.ofNat_le.2 this
        simp at this
        omega
      have hrun : (execOp a.eval o).run E.P w = .ok (.value (.slice (some ⟨w.heap.size, 0, none⟩) n1 n2)) (w.alloc (.cells (madeCells z0.cells (n2 * einf.size)) ti.elem)) := by
        simp only [execOp, ho]
        rw [intInv hu rfl, intInv hv rfl, Sem.run_bind, run_make w ty ti.elem einf z0 T.under he1 hz1 k1 k2 n1 n2 (by omega) (by omega) hby (by omega)]
        rfl
      have hrep : (madeCells z0.cells (n2 * einf.size)).toList = repL z0.cells.toList n2 := by
        have := madeCells_rep z0.cells n2
        rw [hzc] at this
        exact this
      rw [show ((n1 : Nat) : Int).toNat = n1 from rfl, show ((n2 : Nat) : Int).toNat = n2 from rfl] at h7
      have hszl : z0.cells.toList.length = ks.length := by rw [hz2]; simp
      obtain ⟨S', hle, hn, hH⟩ := h.newRow (ks := ks) (e := ti.elem) (n := n1) (cap := n2) (f := fun _ _ => 0) (C := madeCells z0.cells (n2 * einf.size)) (w' := w.alloc (.cells (madeCells z0.cells (n2 * einf.size)) ti.elem)) rfl rfl rfl rfl (by omega)
        (by have := congrArg List.length hrep; rw [repL_length, hszl] at this; simp at this ⊢; omega) (fun i j k hi hk => by
        have hj : j < ks.length := (List.getElem?_eq_some_iff.1 hk).1
        rw [← Array.getElem?_toList, hrep, repL_get _ _ _ (by rw [hszl]; exact idx_lt hj (by omega)), hszl, Nat.mul_add_mod_of_lt' hj, hz2, List.getElem?_map, hk]
        rfl)
      rw [hrun]
      refine .val h7 hle hH ?_
      have := VR.rsl (S := S') 0 n1 n2 hn
      simpa [rsl] using this
    · exact h6.elim
  · rename_i ty x lo hi mx ho
    left
    obtain ⟨ti, inf, d, T, h1⟩ := tI_some hE hk
    obtain ⟨ks, hel, ⟨h2, h3⟩, rfl, hes⟩ := elemX_some hE T h1
    obtain ⟨v, h4, h5⟩ := kO_some h3
    obtain ⟨u, u', h6, h7, h8⟩ := sliceX_ok h hA hel T.under (ev_ok hA h4) (fun hm => by cases mx <;> simp_all) h5
    have hrun : (execOp a.eval o).run E.P w = .ok (.value u') w := by simpa only [execOp, ho] using h8 w
    rw [hrun]
    exact .val h6 (Le.refl S) h h7
  · rename_i b args ts ho
    left
    obtain ⟨vs, h1, h2⟩ := kO_some hk
    have hl := evs_ok hA h1
    have hargs : args.map a.eval = ⟨args.toList.map a.eval⟩ := by apply Array.ext'; simp
    simp only [execOp, ho, resolve, Sem.run_bind, Sem.run_pure, Result.andThen_ok, invoke, hargs]
    unfold builtinX at h2
    split at h2
    · rename_i sT xT sl x hts
      have hts' : ts = #[sT, xT] := by apply Array.ext'; rw [hts]
      obtain ⟨tx, infx, dx, Tx, hkx, h3⟩ := tI_some hE h2
      obtain ⟨ti, inf, d, T, h4⟩ := tI_some hE h3
      obtain ⟨ks, hel, h5, rfl, hes⟩ := elemX_some hE T h4
      rw [Tx.kind] at hkx
      obtain ⟨e', -, -, rfl, -, -⟩ := kind_slice hkx
      obtain ⟨sl', r1, hr1, hsl, hl1⟩ := hl.cons_inv
      obtain ⟨x', r2, rfl, hx, hl2⟩ := hl1.cons_inv
      obtain rfl := hl2.nil_inv
      rw [hr1]
      subst hts'
      exact appX_ok h hel T.under Tx.under hsl hx h5
    · rename_i sT xT dd x hts
      have hts' : ts = #[sT, xT] := by apply Array.ext'; rw [hts]
      obtain ⟨tx, infx, dx, Tx, hkx, h3⟩ := tI_some hE h2
      obtain ⟨ti, inf, d, T, h4⟩ := tI_some hE h3
      obtain ⟨ks, hel, h5, rfl, hes⟩ := elemX_some hE T h4
      rw [Tx.kind] at hkx
      obtain ⟨e', -, -, rfl, -, -⟩ := kind_slice hkx
      obtain ⟨d', r1, hr1, hsl, hl1⟩ := hl.cons_inv
      obtain ⟨x', r2, rfl, hx, hl2⟩ := hl1.cons_inv
      obtain rfl := hl2.nil_inv
      rw [hr1]
      exact copyX_ok h hel hts' T.under Tx.under hsl hx h5
    · rename_i sT dd hts
      have hts' : ts = #[sT] := by apply Array.ext'; rw [hts]
      obtain ⟨ti, inf, d, T, h4⟩ := tI_some hE h2
      obtain ⟨ks, hel, h5, rfl, hes⟩ := elemX_some hE T h4
      obtain ⟨d', r1, hr1, hsl, hl1⟩ := hl.cons_inv
      obtain rfl := hl1.nil_inv
      rw [hr1]
      exact clearX_ok h hel hts' T.under hsl h5
    · exact h2.elim
  · rename_i f args ts ho
    right
    exact ⟨f, args, ts, ho⟩
  · exact hk.elim
end
end Go.Rx

namespace Go.Rx
open Go.RowKit (Below)
open Go.Ev (TI TK)
section
variable {E : Env} {B : Nat → Prop} {w0 : World} {S : Sig} {s : St} {w : World} {t : Fr} {a : Act}
def CallOk (E : Env) (C : CallK) : Prop := ∀ (f : Nat) (args : List Value) (s : St) (K : KV), C f args s K → ∀ (B : Nat → Prop) (w0 : World) (S : Sig) (args' : Array Value) (w : World), LR S args args'.toList → HR B w0 S s w →
  (∃ fn, E.P.funcs[f]? = some fn ∧ fn.body.isSome = true ∧ (fn.name == "runtime.NumGoroutine") = false) ∧
  Calls E.P f args' w fun e w' => ∃ v s' S' v', e = .returned v' ∧ K v s' ∧ Le S S' ∧ VR S' v v' ∧ HR B w0 S' s' w'

def ExR : Ex → Exit → Prop
  | .normal, x => x = .normal
  | .exit id, x => x = .exit id
  | .ret, x => x = .ret
theorem ev_bool {S : Sig} {t : Fr} {a : Act} (hA : AR S t a) {d : Nat} {b : Bool} (h : look t.m d = some (.bool b)) : a.tmps[d]? = some (.bool b) := by
  have := boolInv (hA.slots d _ h)
  rw [Array.getD_eq_getD_getElem?] at this
  cases he : a.tmps[d]? with
  | none => rw [he] at this; cases this
  | some v => rw [he] at this; simp at this; rw [this]
theorem guardX_ok (hA : AR S t a) {ops : Array Oper} {o : Oper} {p q : Prop} (h : guardX ops t o.guard p q) : (Region.wanted o (yielded ops a.tmps) = true ∧ p) ∨ (Region.wanted o (yielded ops a.tmps) = false ∧ q) := by
  unfold guardX at h
  unfold Region.wanted
  split at h
  · rename_i hg
    rw [hg]
    exact .inl ⟨rfl, h⟩
  · rename_i j want hg
    rw [hg]
    obtain ⟨o', h1, h2⟩ := kO_some h
    obtain ⟨d, h3, h4⟩ := kO_some h2
    obtain ⟨v, h5, h6⟩ := kO_some h4
    split at h6
    · rename_i b
      have hb := ev_bool hA h5
      have hy : yielded ops a.tmps j = some b := by
        unfold yielded
        have h1' : ops[j]? = some o' := by simpa using h1
        simp [h1', h3, hb]
      simp only [hy]
      rcases br_cases h6 with ⟨rfl, h7⟩ | ⟨rfl, h7⟩
      · cases want
        · exact .inr ⟨rfl, h7⟩
        · exact .inl ⟨rfl, h7⟩
      · cases want
        · exact .inl ⟨rfl, h7⟩
        · exact .inr ⟨rfl, h7⟩
    · rename_i l
      obtain ⟨l⟩ := l
      obtain ⟨l', hl', -⟩ := tupInv (hA.slots d _ h5)
      refine .inr ⟨?_, h6⟩
      have h1' : ops[j]? = some o' := by simpa using h1
      have hy : yielded ops a.tmps j = none := by
        unfold yielded
        simp only [h1', Option.bind_some, h3]
        rw [Array.getD_eq_getD_getElem?] at hl'
        cases hq : a.tmps[d]? with
        | none => rfl
        | some q =>
          rw [hq] at hl'
          obtain rfl : q = _ := hl'
          rfl
      simp only [hy]
      cases want <;> rfl
    · exact h6.elim

theorem oper_ok (hE : EnvOk E) {C : CallK} (hC : CallOk E C) (hA : AR S t a) (h : HR B w0 S s w) (o : Oper) {K : KV} (hk : opX E C o.op t s K) {next : Act → World → Prop} {Q : Exit → Act → World → Prop}
    (hn : ∀ v s' S' a' w', K v s' → Le S S' → AR S' (t.put o.dst v) a' → HR B w0 S' s' w' → next a' w') : o.wp E.P a w next Q := by
  unfold opX at hk
  unfold Oper.wp
  cases hp : pureB o.op with
  | true =>
    rw [hp] at hk
    obtain ⟨v, v', h1, h2, h3⟩ := pureX_ok hE h hA o hk
    rw [h3]
    exact hn v s S _ w h1 (Le.refl S) (hA.put o.dst h2) h
  | false =>
    rw [hp] at hk
    have hk' : effX E C o.op t s K := hk
    rcases effX_ok hE h hA o hk' with ⟨v, s', S', w', h1, h2, h3, h4⟩ | ⟨f, args, ts, ho⟩
    · rcases h4 with ⟨v', h5, h6⟩ | ⟨h5, rfl⟩
      · rw [h5]
        exact hn v s' S' _ w' h1 h2 ((hA.mono h2).put o.dst h6) h3
      · rw [h5]
        exact hn _ s' S' _ w' h1 h2 ((hA.mono h2).put o.dst .undef) h3
    · rw [ho] at hk'
      have hk2 : kO (evs args.toList t) fun vs => kO (ev f t) fun f => calleeX C f vs s K := hk'
      obtain ⟨vs, h1, h2⟩ := kO_some hk2
      obtain ⟨fv, h3, h4⟩ := kO_some h2
      have hl := evs_ok hA h1
      have hf := ev_ok hA h3
      have hargs : args.map a.eval = ⟨args.toList.map a.eval⟩ := by apply Array.ext'; simp
      unfold calleeX at h4
      split at h4
      · rename_i g first cap
        obtain ⟨x', y', hev, l1, l2⟩ : ∃ x' y' : List Value, a.eval f = .func (.func g) ⟨x'⟩ ⟨y'⟩ ∧ LR S first x' ∧ LR S cap y' := by
          generalize a.eval f = u at hf
          cases hf with
          | func f ha ha' hb hb' => exact ⟨_, _, rfl, ⟨ha, ha'⟩, ⟨hb, hb'⟩⟩
        obtain ⟨⟨fn, hP, hbody, hname⟩, hcall⟩ := hC g _ s K h4 B w0 S ⟨x' ++ (args.toList.map a.eval ++ y')⟩ w (l1.append (hl.append l2)) h
        have hbn : fn.body.isNone = false := by
          cases hb : fn.body with
          | none => rw [hb] at hbody; cases hbody
          | some c => rfl
        clear hk hk' hk2 h2 h4
        have hrun : (execOp a.eval o).run E.P w = .ok (.enter g ⟨x' ++ (args.toList.map a.eval ++ y')⟩) w := by
          simp only [execOp, ho]
          simp only [resolve, hev, Deferred.ofValue, Sem.run_bind, Sem.run_pure, Result.andThen_ok, hargs]
          simp only [invoke, callFunc, Sem.run_bind, run_program, Result.andThen_ok, hP, hname, hbn]
          simp [List.append_assoc]
        rw [hrun, Oper.upon_enter]
        refine hcall.mono fun e w' hp => ?_
        obtain ⟨v, s', S', v', rfl, h5, h6, h7, h8⟩ := hp
        exact hn v s' S' _ w' h5 h6 ((hA.mono h6).put o.dst h7) h8
      · exact h4.elim

theorem opsX_ok (hE : EnvOk E) {C : CallK} (hC : CallOk E C) (ops : Array Oper) {Q : Fr → St → Prop} {Q' : Exit → Act → World → Prop} : ∀ (l : List Oper) {t : Fr} {s : St} {S : Sig} {a : Act} {w : World}, opsX E C ops l t s Q → AR S t a → HR B w0 S s w →
    (∀ t' s' S' a' w', Q t' s' → Le S S' → AR S' t' a' → HR B w0 S' s' w' → Q' .normal a' w') → wpList E.P ops Q' l a w
  | [], t, s, S, a, w, hk, hA, h, hq => hq t s S a w hk (Le.refl S) hA h
  | o :: l, t, s, S, a, w, hk, hA, h, hq => by
    unfold wpList
    rcases guardX_ok hA (o := o) hk with ⟨hw, h1⟩ | ⟨hw, h1⟩
    · rw [if_pos hw]
      refine .inl (oper_ok hE hC hA h o h1 fun v s' S' a' w' h2 h3 h4 h5 => ?_)
      exact opsX_ok hE hC ops l h2 h4 h5 fun t2 s2 S2 a2 w2 h6 h7 h8 h9 => hq t2 s2 S2 a2 w2 h6 (h3.trans h7) h8 h9
    · rw [if_neg (by rw [hw]; simp)]
      exact opsX_ok hE hC ops l h1 (hA.put o.dst .undef) h hq

theorem pureOps_ok (hE : EnvOk E) (ops : Array Oper) {Q : Fr → Prop} {Q' : Act → Prop} : ∀ (l : List Oper) {t : Fr} {a : Act}, pureOps E ops l t s Q → AR S t a → HR B w0 S s w →
    (∀ t' a', Q t' → AR S t' a' → Q' a') → wpStill E.P ops w Q' l a
  | [], t, a, hk, hA, h, hq => hq t a hk hA
  | o :: l, t, a, hk, hA, h, hq => by
    unfold wpStill
    rcases guardX_ok hA (o := o) hk with ⟨hw, h1, h2⟩ | ⟨hw, h1⟩
    · rw [if_pos hw]
      obtain ⟨v, v', h3, h4, h5⟩ := pureX_ok hE h hA o h2
      unfold Oper.still
      rw [h5]
      exact ⟨rfl, pureOps_ok hE ops l h3 (hA.put o.dst h4) h hq⟩
    · rw [if_neg (by rw [hw]; simp)]
      exact pureOps_ok hE ops l h1 (hA.put o.dst .undef) h hq

end
def OneShot (F : KP → Prop) : Prop := ∀ K, F K → ∃ v, K v ∧ F fun u => u = v
theorem os_ret (v : Value) : OneShot fun K => K v := fun _ h => ⟨v, h, rfl⟩
theorem os_kO {α : Type} {o : Option α} {F : α → KP → Prop} (h : ∀ x, OneShot (F x)) : OneShot fun K => kO o fun x => F x K := fun K hk => by
  cases o with
  | none => exact hk.elim
  | some x => exact h x K hk
theorem os_step {α : Type} {o : Option α} {p : α → Prop} {K : KP} {G : α → Value → Prop} (hk : kO o p) (h : ∀ x, p x → ∃ v, K v ∧ G x v) : ∃ v, K v ∧ kO o fun x => G x v := by
  cases o with
  | none => exact hk.elim
  | some x => exact h x hk
theorem os_and {p : Prop} {F : KP → Prop} (h : OneShot F) : OneShot fun K => p ∧ F K := fun K ⟨hp, h'⟩ => by
  obtain ⟨v, a, b⟩ := h K h'
  exact ⟨v, a, hp, b⟩
theorem os_and' {p : Prop} {F : KP → Prop} (h : OneShot F) : OneShot fun K => F K ∧ p := fun K ⟨h', hp⟩ => by
  obtain ⟨v, a, b⟩ := h K h'
  exact ⟨v, a, b, hp⟩
theorem os_false : OneShot fun _ => False := fun _ h => False.elim h
theorem os_br {b : Bool} {F G : KP → Prop} (h : OneShot F) (h' : OneShot G) : OneShot fun K => br b (F K) (G K) := fun K hk => by
  cases b with
  | true => exact h K hk
  | false => exact h' K hk
theorem os_bif {b : Bool} {F G : KP → Prop} (h : OneShot F) (h' : OneShot G) : OneShot fun K => bif b then F K else G K := fun K hk => by
  cases b with
  | true => exact h K hk
  | false => exact h' K hk
theorem os_dec {p : Prop} [Decidable p] : OneShot fun K => dec p K := fun K hk => by
  refine ⟨_, dec_elim hk, ?_⟩
  unfold dec
  split <;> simp [*]
theorem os_decN {p : Prop} [Decidable p] : OneShot fun K => decN p K := fun K hk => by
  refine ⟨_, decN_elim hk, ?_⟩
  unfold decN
  split <;> simp [*]
theorem os_arith {k : IntKind} {z : Int} : OneShot fun K => arith k z K := os_bif (os_and (os_ret _)) (os_ret _)
theorem os_binI {op : BinOp} {k : IntKind} {a b : Int} : OneShot fun K => binI op k a b K := by
  cases op <;> first | exact os_arith | exact os_and (os_ret _) | exact os_dec | exact os_decN | exact os_false
theorem os_shI {op : BinOp} {k : IntKind} {a b : Int} : OneShot fun K => shI op k a b K := by
  cases op <;> first | exact os_and os_arith | exact os_and (os_ret _) | exact os_false
theorem os_eqX {op : BinOp} {p : Bool} : OneShot fun K => eqX op p K := by
  cases op <;> first | exact os_ret _ | exact os_false
theorem os_eqD {op : BinOp} {p : Prop} [Decidable p] : OneShot fun K => eqD op p K := by
  cases op <;> first | exact os_dec | exact os_decN | exact os_false
theorem os_binX {E : Env} {op : BinOp} {ty : TypeId} {u v : Value} : OneShot fun K => binX E op ty u v K := by
  intro K hk
  unfold binX at hk ⊢
  split at hk
  · exact os_bif os_shI (os_and os_binI) K hk
  · exact os_and os_eqX K hk
  · exact os_kO (fun ks => os_kO fun l => os_kO fun m => os_eqD) K hk
  · exact os_kO (fun ti => os_and os_eqX) K hk
  · exact hk.elim
theorem os_partV {cs : List Value} {o : Nat} {g : Bool} {n : Nat} : OneShot fun K => partV cs o g n K := os_and (os_bif (os_and (os_ret _)) (os_kO fun v => os_ret v))
theorem os_loadP {s : St} {ti : TI} {a : Addr} : OneShot fun K => loadP s ti a K := by
  intro K hk
  unfold loadP at hk ⊢
  refine os_step hk fun o hk => ?_
  cases o with
  | cells cs e =>
    dsimp only at hk ⊢
    cases ha : a.spot with
    | none =>
      rw [ha] at hk
      exact os_bif (os_and (os_ret _)) (os_kO fun v => os_ret v) K hk
    | some j => rw [ha] at hk; exact hk.elim
  | row ro ks e n c f =>
    dsimp only at hk ⊢
    cases ha : a.spot with
    | none => rw [ha] at hk; exact hk.elim
    | some j =>
      rw [ha] at hk
      exact os_and (os_bif (os_and (os_ret _)) (os_kO fun k => os_ret _)) K hk
theorem os_faX {s : St} {ti : TI} {x : Value} {f : Nat} : OneShot fun K => faX s ti x f K := by
  intro K hk
  unfold faX fieldP at hk ⊢
  refine os_step hk fun q hk => ?_
  obtain ⟨hk1, hk⟩ := hk
  split at hk
  · exact ⟨_, hk, hk1, rfl⟩
  · obtain ⟨v, k1, k2⟩ := os_kO (fun _ => os_ret _) K hk
    exact ⟨v, k1, hk1, k2⟩
  · exact hk.elim
theorem os_iaX {s : St} {ti : TI} {x : Value} {z : Int} : OneShot fun K => iaX s ti x z K := by
  intro K hk
  unfold iaX at hk ⊢
  split at hk
  · exact os_and (os_and (os_ret _)) K hk
  · exact os_and (os_and (os_ret _)) K hk
  · exact os_and (os_and (os_ret _)) K hk
  · exact os_and (os_and (os_ret _)) K hk
  · exact os_and (os_and (os_ret _)) K hk
  · exact hk.elim
theorem os_callP {E : Env} {b : Builtin} {ts : List TypeId} {vs : List Value} : OneShot fun K => callP E b ts vs K := by
  intro K hk
  unfold callP at hk ⊢
  split at hk
  · exact os_kO (fun ti => os_and (os_kO fun v => os_ret v)) K hk
  · exact os_kO (fun ti => os_and (os_kO fun v => os_ret v)) K hk
  · exact os_and (os_ret _) K hk
  · exact os_and (os_ret _) K hk
  · exact hk.elim
theorem os_bnd {d : Int} {t : Fr} {o : Option Operand} {F : Int → KP → Prop} (h : ∀ z, OneShot (F z)) : OneShot fun K => bnd d t o fun z => F z K := by
  intro K hk
  cases o with
  | none => exact h d K hk
  | some x =>
    unfold bnd at hk ⊢
    refine os_step hk fun v hk => ?_
    split at hk
    · exact h _ K hk
    · exact hk.elim
theorem os_sliceX {s : St} {ks : List IntKind} {x : Value} {t : Fr} {lo hi mx : Option Operand} : OneShot fun K => sliceX s ks x t lo hi mx K := by
  intro K hk
  unfold sliceX at hk ⊢
  split at hk
  · exact os_and (os_bnd fun z1 => os_bnd fun z2 => os_bnd fun z3 => os_and (os_bif (os_and (os_bif (os_br (os_ret _) (os_ret _)) (os_ret _))) (os_bif (os_ret _) (os_br (os_ret _) (os_ret _))))) K hk
  · exact os_bnd (fun z1 => os_bnd fun z2 => os_bnd fun z3 => os_and (os_ret _)) K hk
  · exact hk.elim
theorem pureX_det {E : Env} {o : Op} {t : Fr} {s : St} : OneShot fun K => pureX E o t s K := by
  intro K hk
  unfold pureX at hk ⊢
  split at hk
  · exact os_kO (fun v => os_ret v) K hk
  · exact os_kO (fun v => os_ret v) K hk
  · refine os_step hk fun v hk => ?_
    split at hk
    · exact os_br (os_kO fun v => os_ret v) (os_kO fun v => os_ret v) K hk
    · exact hk.elim
  · refine os_step hk fun ti hk => os_step hk fun v hk => ?_
    split at hk
    · exact os_loadP K hk
    · exact hk.elim
  · refine os_step hk fun v hk => ?_
    split at hk
    · exact os_ret _ K hk
    · exact os_ret _ K hk
    · exact hk.elim
  · exact os_kO (fun ti => os_kO fun v => os_faX) K hk
  · refine os_step hk fun ti hk => os_step hk fun v hk => ?_
    split at hk
    · exact os_kO (fun q => os_partV) K hk
    · exact hk.elim
  · refine os_step hk fun v hk => ?_
    split at hk
    · exact os_kO (fun v => os_ret v) K hk
    · exact hk.elim
  · exact os_kO (fun a => os_kO fun b => os_ret _) K hk
  · refine os_step hk fun ti hk => os_step hk fun v hk => os_step hk fun i hk => ?_
    split at hk
    · exact os_iaX K hk
    · exact hk.elim
  · exact os_kO (fun u => os_kO fun v => os_binX) K hk
  · refine os_step hk fun v hk => ?_
    split at hk
    · exact os_ret _ K hk
    · exact hk.elim
  · refine os_step hk fun ts hk => os_step hk fun td hk => os_step hk fun v hk => ?_
    split at hk
    · exact os_bif (os_and' (os_ret _)) (os_bif (os_bif (os_and (os_ret _)) (os_ret _)) (os_ret _)) K hk
    · exact hk.elim
  · exact os_kO (fun vs => os_callP) K hk
  · exact os_kO (fun ti => os_kO fun vs => os_kO fun pl => os_kO fun r => os_ret _) K hk
  · exact os_kO (fun ti => os_and (os_kO fun te => os_kO fun z => os_kO fun ks => os_and (os_and (os_and (os_and (os_kO fun v => os_sliceX)))))) K hk
  · exact hk.elim
theorem LR_fun {S : Sig} {a x y : List Value} (hx : a.length = x.length) (hy : a.length = y.length) (h : ∀ (i : Nat) v v', a[i]? = some v → x[i]? = some v' → ∀ w, VR S v w → v' = w) (h' : ∀ (i : Nat) v v', a[i]? = some v → y[i]? = some v' → VR S v v') : x = y := by
  apply List.ext_getElem (by omega)
  intro i h1 h2
  have ha : i < a.length := by omega
  exact h i a[i] x[i] (List.getElem?_eq_getElem ha) (List.getElem?_eq_getElem h1) _ (h' i a[i] y[i] (List.getElem?_eq_getElem ha) (List.getElem?_eq_getElem h2))
theorem VR_fun {S : Sig} {v x : Value} (h : VR S v x) : ∀ {y : Value}, VR S v y → x = y := by
  induction h with
  | bool b => intro y h'; cases h'; rfl
  | int k n => intro y h'; cases h'; rfl
  | str s => intro y h'; cases h'; rfl
  | ptrN => intro y h'; cases h'; rfl
  | ptr off h => intro y h'; cases h' with | ptr _ h2 => rw [h] at h2; obtain rfl := Option.some.inj h2; rfl
  | rpt i j h => intro y h'; cases h' with | rpt _ _ h2 => rw [h] at h2; obtain rfl := Option.some.inj h2; rfl
  | slN l c => intro y h'; cases h'; rfl
  | sl off l c h => intro y h'; cases h' with | sl _ _ _ h2 => rw [h] at h2; obtain rfl := Option.some.inj h2; rfl
  | rsl i l c h => intro y h'; cases h' with | rsl _ _ _ h2 => rw [h] at h2; obtain rfl := Option.some.inj h2; rfl
  | full i l h => intro y h'; cases h' with | full _ _ h2 => rw [h] at h2; obtain rfl := Option.some.inj h2; rfl
  | cut i z l h => intro y h'; cases h' with | cut _ _ _ h2 => rw [h] at h2; obtain rfl := Option.some.inj h2; rfl
  | mapN => intro y h'; cases h'; rfl
  | func f ha _ hb _ iha ihb =>
    intro y h'
    cases h' with
    | func _ ha2 ha2' hb2 hb2' =>
      rw [LR_fun ha ha2 (fun i v v' e e' w hw => iha i v v' e e' hw) ha2', LR_fun hb hb2 (fun i v v' e e' w hw => ihb i v v' e e' hw) hb2']
  | nilFunc => intro y h'; cases h'; rfl
  | nilIface => intro y h'; cases h'; rfl
  | iface t _ ih => intro y h'; cases h' with | iface _ h2 => rw [ih h2]
  | agg ha _ ih =>
    intro y h'
    cases h' with
    | agg ha2 ha2' => rw [LR_fun ha ha2 (fun i v v' e e' w hw => ih i v v' e e' hw) ha2']
  | tuple ha _ ih =>
    intro y h'
    cases h' with
    | tuple ha2 ha2' => rw [LR_fun ha ha2 (fun i v v' e e' w hw => ih i v v' e e' hw) ha2']
section
variable {E : Env} {B : Nat → Prop} {w0 : World} {S S00 : Sig} {s : St} {w : World} {t : Fr} {a : Act}
theorem pureX_next {o : Op} {h : List (Nat × Blk)} {n n' : Nat} {K : KP} (hk : pureX E o t ⟨h, n⟩ K) : pureX E o t ⟨h, n'⟩ K := by
  unfold pureX loadP faX iaX rowW at hk ⊢
  exact hk
def Held (S00 : Sig) (h0 : List (Nat × Blk)) (w : World) : Prop := ∃ (B : Nat → Prop) (w0 : World) (S1 : Sig) (n : Nat), Le S00 S1 ∧ HR B w0 S1 ⟨h0, n⟩ w
theorem HR.held (h : HR B w0 S s w) (hle : Le S00 S) {h0 : List (Nat × Blk)} (hs : ∀ b o, look h0 b = some o → look s.h b = some o) : Held S00 h0 w :=
  ⟨B, w0, S, s.next, hle, fun b o e => h.blk b o (hs b o e), fun b b' o o' x x' e1 e2 => h.inj b b' o o' x x' (hs _ _ e1) (hs _ _ e2), h.fresh, h.bound, h.below, h.root⟩
theorem again_look : ∀ {h0 : List (Nat × Blk)} {s : St}, again h0 s → ∀ b o, look h0 b = some o → look s.h b = some o
  | [], _, _, b, o, e => by cases e
  | (j, x) :: l, s, hg, b, o, e => by
    rw [look_cons] at e
    by_cases hi : b = j
    · rw [if_pos hi] at e
      obtain rfl := Option.some.inj e
      subst hi
      exact hg.1
    · rw [if_neg hi] at e
      exact again_look hg.2 b o e
section
variable {P : Program} {ops : Array Oper} {QQ : Exit → Act → World → Prop} {SS : World → Prop}
def Closed (ops : Array Oper) (listed : Array Bool) : Prop := ∀ (j : Nat) (o : Oper), ops[j]? = some o → listed.getD j false = true → ∀ e ∈ o.after, Region.binds .any e = true → listed.getD e.on false = true
theorem Closed.set {listed : Array Bool} (h : Closed ops listed) {j : Nat} (hj : j ∈ Region.ready .any ops listed) : Closed ops (listed.setIfInBounds j true) := by
  intro i o ho hi e he hb
  obtain ⟨-, oj, hoj, hall⟩ := mem_ready.1 hj
  by_cases hij : j = i
  · subst hij
    rw [ho] at hoj
    obtain rfl := Option.some.inj hoj
    exact getD_set_true (hall e he hb)
  · rw [getD_set_ne false hij] at hi
    exact getD_set_true (h i o ho hi e he hb)
theorem closed_none : Closed ops (Array.replicate ops.size false) := fun j o ho hj => by
  simp [Array.getD] at hj
inductive Rch (ops : Array Oper) (k : Nat) : Nat → Prop
  | here : Rch ops k k
  | step {j : Nat} {o : Oper} {e : Edge} (h : Rch ops k j) (ho : ops[j]? = some o) (he : e ∈ o.after) (hb : Region.binds .any e = true) : Rch ops k e.on
theorem Rch.listed {k : Nat} {listed : Array Bool} (hc : Closed ops listed) (hk : k ∈ Region.ready .any ops listed) {i : Nat} (h : Rch ops k i) : i = k ∨ listed.getD i false = true := by
  induction h with
  | here => exact .inl rfl
  | @step j o e h ho he hb ih =>
    right
    rcases ih with rfl | ih
    · obtain ⟨-, oj, hoj, hall⟩ := mem_ready.1 hk
      rw [ho] at hoj
      obtain rfl := Option.some.inj hoj
      exact hall e he hb
    · exact hc j o ho ih e he hb
theorem ancGo_ok {k : Nat} : ∀ (n : Nat) (m : List Nat), (∀ x ∈ m, Rch ops k x) → ∀ x ∈ ancGo ops n m, Rch ops k x
  | 0, m, h => h
  | n + 1, m, h => by
    unfold ancGo
    refine ancGo_ok n _ fun x hx => ?_
    cases hb : m.any (Nat.beq n) with
    | false => rw [hb] at hx; exact h x hx
    | true =>
      rw [hb] at hx
      obtain ⟨y, hy, hyb⟩ := List.any_eq_true.1 hb
      obtain rfl : n = y := Nat.eq_of_beq_eq_true hyb
      cases ho : ops.toList[n]? with
      | none => rw [ho] at hx; exact h x hx
      | some o =>
        rw [ho] at hx
        rcases List.mem_append.1 (show x ∈ (o.after.toList.filter (Region.binds .any)).map (·.on) ++ m from hx) with hx | hx
        · obtain ⟨e, he, rfl⟩ := List.mem_map.1 hx
          obtain ⟨h1, h2⟩ := List.mem_filter.1 he
          exact .step (h n hy) (by simpa using ho) (by simpa using h1) h2
        · exact h x hx
theorem lastB_reach (hb : lastB ops = true) {i : Nat} (hi : i < ops.size - 1) : Rch ops (ops.size - 1) i := by
  unfold lastB at hb
  rw [Bool.and_eq_true, List.all_eq_true] at hb
  obtain ⟨y, hy, hyb⟩ := List.any_eq_true.1 (hb.2 i (List.mem_range.2 hi))
  obtain rfl : i = y := Nat.eq_of_beq_eq_true hyb
  exact ancGo_ok (k := ops.size - 1) ops.size [ops.size - 1] (fun x hx => by simp at hx; subst hx; exact .here) i hy
theorem lastK_ok {listed : Array Bool} (hc : Closed ops listed) {i : Nat} (hi : i ≠ lastK ops) (hil : i < ops.size) (hu : listed.getD i true = false) : lastK ops ∉ Region.ready .any ops listed := by
  intro hk
  unfold lastK at hi hk
  cases hb : lastB ops with
  | false =>
    rw [hb] at hk
    obtain ⟨-, oj, hoj, -⟩ := mem_ready.1 (show ops.size ∈ Region.ready .any ops listed from hk)
    simp at hoj
  | true =>
    rw [hb] at hk hi
    have hk : ops.size - 1 ∈ Region.ready .any ops listed := hk
    have hi : i ≠ ops.size - 1 := hi
    rcases (lastB_reach hb (i := i) (by omega)).listed hc hk with h2 | h2
    · exact hi h2
    · have : i < listed.size := by
        rcases Nat.lt_or_ge i listed.size with h' | h'
        · exact h'
        · simp [Array.getD, Nat.not_lt.2 h'] at h2
      simp [Array.getD, this] at hu h2
      rw [hu] at h2
      cases h2
theorem lastK_done {listed : Array Bool} (hc : Closed ops listed) (hsz : listed.size = ops.size) (hd : listed.getD (lastK ops) false = true) {i : Nat} (hil : i < ops.size) : listed.getD i false = true := by
  have key : ∀ {k i : Nat}, listed.getD k false = true → Rch ops k i → listed.getD i false = true := fun {k i} hk h => by
    induction h with
    | here => exact hk
    | @step j o e h ho he hb ih => exact hc j o ho ih e he hb
  unfold lastK at hd
  cases hb : lastB ops with
  | false =>
    rw [hb] at hd
    have hd : listed.getD ops.size false = true := hd
    simp [Array.getD, hsz] at hd
  | true =>
    rw [hb] at hd
    have hd : listed.getD (ops.size - 1) false = true := hd
    by_cases hi : i = ops.size - 1
    · rw [hi]; exact hd
    · exact key hd (lastB_reach hb (by omega))
def wpAnyT (P : Program) (ops : Array Oper) (QQ : Exit → Act → World → Prop) (SS : World → Prop) (k : Nat) : Nat → Array Bool → Act → World → Prop
  | 0, listed, a, w => Region.ready .any ops listed = [] ∧ QQ .normal a w
  | n + 1, listed, a, w => (Region.ready .any ops listed = [] → QQ .normal a w) ∧
    ∀ i ∈ Region.ready .any ops listed, wpOp P ops QQ i (fun a' w' => (i ≠ k → SS w') ∧ wpAnyT P ops QQ SS k n (listed.setIfInBounds i true) a' w') a w
theorem wpAny_of_T {k : Nat} : ∀ (n : Nat) (listed : Array Bool) (a : Act) (w : World), wpAnyT P ops QQ SS k n listed a w → wpAny P .any ops QQ n listed a w
  | 0, _, _, _, h => h
  | n + 1, _, _, _, h => ⟨h.1, fun i hi => wpOp_mono (fun a' w' h' => wpAny_of_T n _ a' w' h'.2) (h.2 i hi)⟩
theorem wpAnyT_done {k : Nat} {listed : Array Bool} {a : Act} {w : World} (hr : Region.ready .any ops listed = []) (h : QQ .normal a w) : ∀ n, wpAnyT P ops QQ SS k n listed a w
  | 0 => ⟨hr, h⟩
  | _ + 1 => ⟨fun _ => h, by rw [hr]; simp⟩
theorem wpAnyT_all {k : Nat} {rs : List Nat} {n : Nat} {listed : Array Bool} {a : Act} {w : World} (hr : Region.ready .any ops listed = rs) (hne : rs ≠ [])
    (h : ∀ i ∈ rs, wpOp P ops QQ i (fun a' w' => (i ≠ k → SS w') ∧ wpAnyT P ops QQ SS k n (listed.setIfInBounds i true) a' w') a w) : wpAnyT P ops QQ SS k (n + 1) listed a w :=
  ⟨fun h0 => absurd (hr ▸ h0) hne, hr ▸ h⟩
theorem wpAnyT_first {k i : Nat} {oi : Oper} {v : Value} (hi : ops[i]? = some oi) (hsel : ∀ (j : Nat) (o : Oper) cs b, ops[j]? = some o → o.op ≠ .select cs b)
    (hQ : ∀ c a w, QQ (.panic c) (a.put oi.dst v) w → QQ (.panic c) a w) (hk : ∀ listed : Array Bool, Closed ops listed → listed.getD i true = false → k ∉ Region.ready .any ops listed) :
    ∀ (n : Nat) (listed : Array Bool) (a : Act) (w : World), Closed ops listed →
      (∀ j oj, ops[j]? = some oj → j ≠ i → listed.getD j true = false → (∀ e ∈ oj.after, Region.binds .any e = true → e.on ≠ i) → oi.apart ops oj = true) →
      i ∈ Region.ready .any ops listed → YieldsIf P ops SS oi v a → SS w →
      wpAnyT P ops QQ SS k n (listed.setIfInBounds i true) (a.put oi.dst v) w → wpAnyT P ops QQ SS k (n + 1) listed a w := by
  intro n
  induction n with
  | zero =>
    intro listed a w _ _ hr hy hS H
    refine ⟨fun h => (by rw [h] at hr; cases hr), fun j hj => ?_⟩
    by_cases hji : j = i
    · subst hji
      exact hy.wpOp hi hS ⟨fun _ => hS, H⟩
    · have h0 := ready_mono hj hji
      rw [H.1] at h0
      cases h0
  | succ n ih =>
    intro listed a w hc hfree hr hy hS H
    refine ⟨fun h => (by rw [h] at hr; cases hr), fun j hj => ?_⟩
    by_cases hji : j = i
    · subst hji
      exact hy.wpOp hi hS ⟨fun _ => hS, H⟩
    · have hjk : j ≠ k := fun e => hk listed hc (mem_ready.1 hr).1 (e ▸ hj)
      obtain ⟨hjun, oj, hoj, hall⟩ := mem_ready.1 hj
      have hnot : ∀ e ∈ oj.after, Region.binds .any e = true → e.on ≠ i := fun e he hb heq => by
        have h1 := hall e he hb
        have h0 := (mem_ready.1 hr).1
        rw [heq] at h1
        rcases Nat.lt_or_ge i listed.size with h' | h'
        · simp [h'] at h0 h1; rw [h0] at h1; cases h1
        · simp [Array.getElem?_eq_none h'] at h1
      have h2 := wpOp_putIf hoj (hfree j oj hoj hji hjun hnot) (fun cs b => hsel i oi cs b hi) (fun cs b => hsel j oj cs b hoj) hQ hy (H.2 j (ready_mono hj hji))
      refine wpOp_mono (fun a' w' h3 => ⟨fun _ => h3.2.1 hjk, ih (listed.setIfInBounds j true) a' w' (hc.set hj) (fun q oq hq hqi hun hno => ?_) (ready_mono hr (Ne.symm hji)) h3.1 (h3.2.1 hjk) ?_⟩) h2
      · refine hfree q oq hq hqi ?_ hno
        by_cases hjq : j = q
        · subst hjq; exact hjun
        · rwa [getD_set_ne true hjq] at hun
      · rw [Array.setIfInBounds_comm _ _ hji]
        exact h3.2.2
theorem wpAnyT_take {i : Nat} {oi : Oper} {v : Value} {n : Nat} {listed : Array Bool} {a : Act} {w : World} (hi : ops[i]? = some oi) (hik : i ≠ lastK ops) (hc : Closed ops listed)
    (hs : Region.noSelect ops = true) (hf : Region.free .any ops listed i = true) (hr : (Region.ready .any ops listed).contains i = true)
    (hQ : ∀ c a w, QQ (.panic c) (a.put oi.dst v) w → QQ (.panic c) a w) (hy : YieldsIf P ops SS oi v a) (hS : SS w)
    (h : wpAnyT P ops QQ SS (lastK ops) n (listed.setIfInBounds i true) (a.put oi.dst v) w) : wpAnyT P ops QQ SS (lastK ops) (n + 1) listed a w :=
  wpAnyT_first hi (Region.noSelect_spec hs) hQ (fun listed' hc' hu => lastK_ok hc' hik (Array.getElem?_eq_some_iff.1 hi).1 hu) n listed a w hc (Region.free_spec hi hf) (by simpa using hr) hy hS h
end
theorem head_ok (hE : EnvOk E) {ops : Array Oper} (hs : Region.noSelect ops = true) {Q : Fr → Prop} {Q' : Exit → Act → World → Prop} (hQ : ∀ c a w, ¬ Q' (.panic c) a w) (h : HR B w0 S s w) {fuel : Nat}
    :
    ∀ (hd : List (Nat × Oper)) (listed : Array Bool) (t : Fr) (a : Act), (∀ p ∈ hd, ops[p.1]? = some p.2) → floatGo ops hd listed = true → pureOps E ops (hd.map (·.2)) t s Q → AR S t a → (∀ p ∈ hd, p.1 ≠ lastK ops) → Closed ops listed →
    (∀ t a, Q t → AR S t a → Closed ops (listGo hd listed) → wpAnyT E.P ops Q' (Held S s.h) (lastK ops) fuel (listGo hd listed) a w) → wpAnyT E.P ops Q' (Held S s.h) (lastK ops) (hd.length + fuel) listed a w
  | [], listed, t, a, _, hb, hk, hA, _, hcl, hK => by
    simp only [List.length_nil, Nat.zero_add]
    exact hK t a hk hA hcl
  | p :: hd, listed, t, a, hm, hb, hk, hA, hnk, hcl, hK => by
    have hb' : ((Region.ready .any ops listed).contains p.1 && (Region.free .any ops listed p.1 && floatGo ops hd (listed.setIfInBounds p.1 true))) = true := hb
    rw [Bool.and_eq_true, Bool.and_eq_true] at hb'
    have hi := hm p (List.mem_cons_self ..)
    have hk' : guardX ops t p.2.guard (pureB p.2.op = true ∧ pureX E p.2.op t s fun v => pureOps E ops (hd.map (·.2)) (t.put p.2.dst v) s Q) (pureOps E ops (hd.map (·.2)) (t.put p.2.dst (.tuple #[])) s Q) := hk
    rw [List.length_cons, Nat.add_right_comm]
    have go : ∀ v v', YieldsIf E.P ops (Held S s.h) p.2 v' a → VR S v v' → pureOps E ops (hd.map (·.2)) (t.put p.2.dst v) s Q → wpAnyT E.P ops Q' (Held S s.h) (lastK ops) (hd.length + fuel + 1) listed a w := fun v v' hy hv hq =>
      wpAnyT_take hi (hnk p (List.mem_cons_self ..)) hcl hs hb'.2.1 hb'.1 (fun c a w hq => absurd hq (hQ _ _ _)) hy (h.held (Le.refl S) fun b o e => e) (head_ok hE hs hQ h hd _ _ _ (fun q hq => hm q (List.mem_cons_of_mem _ hq)) hb'.2.2 hq (hA.put p.2.dst hv) (fun q hq => hnk q (List.mem_cons_of_mem _ hq)) (hcl.set (by simpa using hb'.1)) hK)
    rcases guardX_ok hA (o := p.2) hk' with ⟨hw, h1, h2⟩ | ⟨hw, h1⟩
    · obtain ⟨v, k1, k2⟩ := pureX_det _ h2
      obtain ⟨_, v', rfl, k3, k4⟩ := pureX_ok hE h hA p.2 k2
      refine go _ v' (.inl ⟨hw, fun w1 hw1 => ?_⟩) k3 k1
      obtain ⟨B1, w01, S1, n1, hle, hH1⟩ := hw1
      obtain ⟨_, u', rfl, k5, k6⟩ := pureX_ok hE hH1 (hA.mono hle) p.2 (pureX_next (n' := n1) k2)
      rw [k6, VR_fun (k3.mono hle) k5]
    · exact go _ _ (.inr ⟨hw, rfl⟩) .undef h1
theorem calm_ok (hE : EnvOk E) {C : CallK} (h : HR B w0 S s w) (hA : AR S t a) (o : Oper) (hc : calmB o.op = true) {K : KV} (hk : opX E C o.op t s K) : ∃ v v', K v s ∧ VR S v v' ∧ ∀ w : World, (execOp a.eval o).run E.P w = .ok (.value v') w := by
  unfold calmB at hc
  split at hc
  · rename_i x ho
    rw [ho] at hk
    obtain ⟨v, h1, h2⟩ := kO_some (show kO (ev x t) (fun v => K v s) from hk)
    exact ⟨v, _, h2, ev_ok hA h1, fun w => by simp [execOp, ho]⟩
  · rename_i x ho
    rw [ho] at hk
    obtain ⟨v, h1, h2⟩ := kO_some (show kO (ev x t) (fun v => K v s) from hk)
    exact ⟨v, _, h2, ev_ok hA h1, fun w => by simp [execOp, ho]⟩
  · rename_i x i ho
    rw [ho] at hk
    obtain ⟨v, h1, h2⟩ := kO_some (show kO (ev x t) (fun v => match v with
      | .tuple ⟨vs⟩ => kO (vs[i]?) (fun v => K v s)
      | _ => False) from hk)
    have hv := ev_ok hA h1
    split at h2
    · rename_i vs
      obtain ⟨u, h3, h4⟩ := kO_some h2
      generalize he : a.eval x = y at hv
      cases hv with
      | tuple hl hl' =>
        rename_i vs'
        have hi : i < vs'.length := by
          rw [← hl]
          exact (List.getElem?_eq_some_iff.1 h3).1
        refine ⟨u, vs'[i], h4, hl' i u _ h3 (List.getElem?_eq_getElem hi), fun w => ?_⟩
        simp [execOp, ho, he, Instr.extract, List.getElem?_eq_getElem hi]
    · exact h2.elim
  · rename_i ty parts ho
    rw [ho] at hk
    have hk : tI E ty fun ti => kO (evs (parts.toList.map (·.2)) t) fun vs => kO (Ev.places ti ti.kind) fun pl => kO (Ev.fillL pl (Ev.zipI parts.toList vs) ti.zero) fun r => K (.agg ⟨r⟩) s := hk
    obtain ⟨ti, inf, d, T, h1⟩ := tI_some hE hk
    obtain ⟨vs, h2, h3⟩ := kO_some h1
    obtain ⟨pl, h4, h5⟩ := kO_some h3
    obtain ⟨r, h6, h7⟩ := kO_some h5
    obtain ⟨r', hb, hlr⟩ := build_ok hA T h2 h4 h6
    refine ⟨_, .agg r', h7, .agg (a' := r'.toList) hlr.1 hlr.2, fun w => ?_⟩
    simp only [execOp, ho]
    rw [Sem.run_bind, run_build w ty _ r' hb]
    rfl
  · rename_i ty x lo hi mx ho
    rw [ho] at hk
    have hk : tI E ty fun ti => elemX E ti fun ks => (mx.isNone || hi.isSome) = true ∧ kO (ev x t) fun v => sliceX s ks v t lo hi mx fun v => K v s := hk
    obtain ⟨ti, inf, d, T, h1⟩ := tI_some hE hk
    obtain ⟨ks, hel, ⟨h2, h3⟩, rfl, hes⟩ := elemX_some hE T h1
    obtain ⟨v, h4, h5⟩ := kO_some h3
    obtain ⟨u, u', h6, h7, h8⟩ := sliceX_ok h hA hel T.under (ev_ok hA h4) (fun hm => by cases mx <;> simp_all) h5
    exact ⟨u, u', h6, h7, fun w => by simpa only [execOp, ho] using h8 w⟩
  · cases hc
theorem calmOf_spec {ops : Array Oper} {listed : Array Bool} {p : Nat × Oper} : ∀ {r : List Nat}, calmOf ops listed r = some p → p.1 ∈ r ∧ ops[p.1]? = some p.2 ∧ calmB p.2.op = true ∧ Region.free .any ops listed p.1 = true ∧ p.1 ≠ lastK ops
  | [], h => by cases h
  | i :: r, h => by
    unfold calmOf at h
    split at h
    · rename_i o ho
      cases hb : !Nat.beq i (lastK ops) && (calmB o.op && Region.free .any ops listed i) with
      | true =>
        rw [hb] at h
        obtain rfl : (i, o) = p := Option.some.inj h
        rw [Bool.and_eq_true, Bool.and_eq_true] at hb
        exact ⟨List.mem_cons_self .., by simpa using ho, hb.2.1, hb.2.2, fun e => (by have h1 := hb.1; rw [show i = lastK ops from e, Nat.beq_refl] at h1; cases h1)⟩
      | false =>
        rw [hb] at h
        obtain ⟨h1, h2⟩ := calmOf_spec (show calmOf ops listed r = some p from h)
        exact ⟨List.mem_cons_of_mem _ h1, h2⟩
    · obtain ⟨h1, h2⟩ := calmOf_spec h
      exact ⟨List.mem_cons_of_mem _ h1, h2⟩
theorem eachX_get {ops : Array Oper} {f : Nat → Oper → Prop} : ∀ {l : List Nat}, eachX ops f l → ∀ j ∈ l, ∃ o, ops[j]? = some o ∧ f j o
  | [], _, j, hj => by cases hj
  | [i], h, j, hj => by
    obtain rfl : j = i := by simpa using hj
    obtain ⟨o, h1, h2⟩ := kO_some h
    exact ⟨o, by simpa using h1, h2⟩
  | i :: k :: l, h, j, hj => by
    rcases List.mem_cons.1 hj with rfl | hj
    · obtain ⟨o, h1, h2⟩ := kO_some h.1
      exact ⟨o, by simpa using h1, h2⟩
    · exact eachX_get h.2 j hj
theorem tree_ok (hE : EnvOk E) {C : CallK} (hC : CallOk E C) {ops : Array Oper} (hs : Region.noSelect ops = true) {h0 : List (Nat × Blk)} {Q : Fr → St → Prop} {Q' : Exit → Act → World → Prop} (hQ : ∀ c a w, ¬ Q' (.panic c) a w) :
    ∀ (f : Nat) (listed : Array Bool) (t : Fr) (s : St) (S : Sig) (a : Act) (w : World), treeX E C ops h0 f listed t s Q → AR S t a → HR B w0 S s w → Le S00 S →
    (listed.getD (lastK ops) false = false → ∀ b o, look h0 b = some o → look s.h b = some o) → listed.size = ops.size →
    (∀ t' s' S' a' w', Q t' s' → Le S S' → AR S' t' a' → HR B w0 S' s' w' → Q' .normal a' w') → Closed ops listed → wpAnyT E.P ops Q' (Held S00 h0) (lastK ops) f listed a w
  | 0, listed, t, s, S, a, w, hk, hA, h, _, _, _, hq, _ => wpAnyT_done (List.isEmpty_iff.1 hk.1) (hq t s S a w hk.2 (Le.refl S) hA h) 0
  | f + 1, listed, t, s, S, a, w, hk, hA, h, hle, hh, hsz, hq, hcl => by
    unfold treeX at hk
    split at hk
    · rename_i hr
      exact wpAnyT_done hr (hq t s S a w hk (Le.refl S) hA h) (f + 1)
    · rename_i i l hr
      have open1 : ∀ j ∈ Region.ready .any ops listed, listed.getD (lastK ops) false = false := fun j hj => by
        cases hx : listed.getD (lastK ops) false with
        | false => rfl
        | true =>
          obtain ⟨h1, o, ho, -⟩ := mem_ready.1 hj
          have h2 := lastK_done hcl hsz hx (Array.getElem?_eq_some_iff.1 ho).1
          have h3 : j < listed.size := by rw [hsz]; exact (Array.getElem?_eq_some_iff.1 ho).1
          simp [Array.getD, h3] at h1 h2
          rw [h1] at h2
          cases h2
      split at hk
      · rename_i p hp
        obtain ⟨hm, hi, hc1, hc3, hpk⟩ := calmOf_spec hp
        have hc2 : (Region.ready .any ops listed).contains p.1 = true := by rw [hr]; simpa using hm
        have go : ∀ v v', YieldsIf E.P ops (Held S00 h0) p.2 v' a → VR S v v' → treeX E C ops h0 f (listed.setIfInBounds p.1 true) (t.put p.2.dst v) s Q → wpAnyT E.P ops Q' (Held S00 h0) (lastK ops) (f + 1) listed a w := fun v v' hy hv hq2 =>
          wpAnyT_take hi hpk hcl hs hc3 hc2 (fun c a w hq => absurd hq (hQ _ _ _)) hy (h.held hle (hh (open1 p.1 (by rw [hr]; exact hm)))) (tree_ok hE hC hs hQ f _ _ s S _ w hq2 (hA.put p.2.dst hv) h hle (fun _ => hh (open1 p.1 (by rw [hr]; exact hm))) (by simpa using hsz) hq (hcl.set (by rw [hr]; exact hm)))
        rcases guardX_ok hA (o := p.2) hk with ⟨hw, h1⟩ | ⟨hw, h1⟩
        · cases hp : pureB p.2.op with
          | true =>
            rw [hp] at h1
            have h1' : opX E C p.2.op t s fun v s' => treeX E C ops h0 f (listed.setIfInBounds p.1 true) (t.put p.2.dst v) s' Q := by
              unfold opX
              rw [hp]
              exact h1
            obtain ⟨v, v', k1, k2, k3⟩ := calm_ok hE h hA p.2 hc1 h1'
            exact go v v' (.inl ⟨hw, fun w1 _ => k3 w1⟩) k2 k1
          | false =>
            rw [hp] at h1
            have h1' : opX E C p.2.op t s fun v s' => (bif Nat.beq p.1 (lastK ops) then True else again h0 s') ∧ treeX E C ops h0 f (listed.setIfInBounds p.1 true) (t.put p.2.dst v) s' Q := by
              unfold opX
              rw [hp]
              exact h1
            obtain ⟨v, v', k1, k2, k3⟩ := calm_ok hE h hA p.2 hc1 h1'
            exact go v v' (.inl ⟨hw, fun w1 _ => k3 w1⟩) k2 k1.2
        · exact go _ _ (.inr ⟨hw, rfl⟩) .undef h1
      · refine wpAnyT_all hr (by simp) fun j hj => ?_
        obtain ⟨o, hi, hk'⟩ := eachX_get hk j hj
        have go : ∀ v s' S' a' w', treeX E C ops h0 f (listed.setIfInBounds j true) (t.put o.dst v) s' Q → Le S S' → AR S' (t.put o.dst v) a' → HR B w0 S' s' w' → ((bif Nat.beq j (lastK ops) then True else again h0 s') ∨ s' = s) →
            (j ≠ lastK ops → Held S00 h0 w') ∧ wpAnyT E.P ops Q' (Held S00 h0) (lastK ops) f (listed.setIfInBounds j true) a' w' := fun v s' S' a' w' k1 k2 k3 k4 k5 =>
          have hjr : j ∈ Region.ready .any ops listed := by rw [hr]; exact hj
          have nb : j ≠ lastK ops → ∀ b o, look h0 b = some o → look s'.h b = some o := fun hne => by
            rcases k5 with k5 | rfl
            · cases hb : Nat.beq j (lastK ops) with
              | true => exact absurd (Nat.eq_of_beq_eq_true hb) hne
              | false => rw [hb] at k5; exact again_look k5
            · exact hh (open1 j hjr)
          ⟨fun hne => k4.held (hle.trans k2) (nb hne), tree_ok hE hC hs hQ f _ _ s' S' a' w' k1 k3 k4 (hle.trans k2) (fun hx => nb fun e => by
            have hjl : j < listed.size := by
              obtain ⟨-, o, ho, -⟩ := mem_ready.1 hjr
              rw [hsz]; exact (Array.getElem?_eq_some_iff.1 ho).1
            rw [← e] at hx
            simp [Array.getD, hjl] at hx) (by simpa using hsz) (fun t2 s2 S2 a2 w2 z1 z2 z3 z4 => hq t2 s2 S2 a2 w2 z1 (k2.trans z2) z3 z4) (hcl.set hjr)⟩
        unfold wpOp
        simp only [hi]
        rcases guardX_ok hA (o := o) hk' with ⟨hw, h1⟩ | ⟨hw, h1⟩
        · rw [if_pos hw]
          refine .inl ?_
          cases hp : pureB o.op with
          | true =>
            rw [hp] at h1
            have h1' : pureX E o.op t s fun v => treeX E C ops h0 f (listed.setIfInBounds j true) (t.put o.dst v) s Q := h1
            obtain ⟨v, v', k1, k2, k3⟩ := pureX_ok hE h hA o h1'
            unfold Oper.wp
            rw [k3]
            exact go v s S _ w k1 (Le.refl S) (hA.put o.dst k2) h (.inr rfl)
          | false =>
            rw [hp] at h1
            have h1' : opX E C o.op t s fun v s' => (bif Nat.beq j (lastK ops) then True else again h0 s') ∧ treeX E C ops h0 f (listed.setIfInBounds j true) (t.put o.dst v) s' Q := by
              unfold opX
              rw [hp]
              exact h1
            exact oper_ok hE hC hA h o h1' fun v s' S' a' w' ⟨k0, k1⟩ k2 k3 k4 => go v s' S' a' w' k1 k2 k3 k4 (.inl k0)
        · rw [if_neg (by rw [hw]; simp)]
          exact go _ s S _ w h1 (Le.refl S) (hA.put o.dst .undef) h (.inr rfl)
theorem idxO_mem : ∀ (l : List Oper) (k : Nat), ∀ p ∈ idxO l k, k ≤ p.1 ∧ l[p.1 - k]? = some p.2
  | [], k, p, hp => by cases hp
  | o :: l, k, p, hp => by
    rcases List.mem_cons.1 hp with rfl | hp
    · exact ⟨Nat.le_refl _, by simp⟩
    · obtain ⟨h1, h2⟩ := idxO_mem l (k + 1) p hp
      refine ⟨by omega, ?_⟩
      rw [show p.1 - k = (p.1 - (k + 1)) + 1 by omega]
      simpa using h2
theorem parts_mem {q : Nat × Oper → Prop} : ∀ (l hd tl : List (Nat × Oper)), (∀ p ∈ l, q p) → (∀ p ∈ hd, q p) → (∀ p ∈ tl, q p) → (∀ p ∈ (parts l hd tl).1, q p) ∧ ∀ p ∈ (parts l hd tl).2, q p
  | [], hd, tl, _, h2, h3 => ⟨h2, h3⟩
  | x :: l, hd, tl, h1, h2, h3 => by
    unfold parts
    have hx := h1 x (List.mem_cons_self ..)
    have hl : ∀ p ∈ l, q p := fun p hp => h1 p (List.mem_cons_of_mem _ hp)
    cases pureB x.2.op && waits hd x.2 with
    | true => exact parts_mem l _ _ hl (fun p hp => by rcases List.mem_append.1 hp with hp | hp; exact h2 p hp; simp at hp; subst hp; exact hx) h3
    | false => exact parts_mem l _ _ hl h2 (fun p hp => by rcases List.mem_append.1 hp with hp | hp; exact h3 p hp; simp at hp; subst hp; exact hx)
theorem dropL_ok : ∀ (l : List Nat) {s : St}, HR B w0 S s w → HR B w0 S (dropL l s) w ∧ ∀ b o, look (dropL l s).h b = some o → look s.h b = some o
  | [], s, h => ⟨h, fun b o e => e⟩
  | x :: l, s, h => by
    obtain ⟨h1, h2⟩ := dropL_ok l (h.forget x)
    refine ⟨h1, fun b o e => ?_⟩
    have e' : look (del s.h x) b = some o := h2 b o e
    rw [look_del] at e'
    by_cases hb : b = x
    · rw [if_pos hb] at e'; cases e'
    · rw [if_neg hb] at e'; exact e'
theorem kept_ok {ops : Array Oper} {t : Fr} (h : HR B w0 S s w) : HR B w0 S (keptS ops t s) w ∧ ∀ b o, look (keptS ops t s).h b = some o → look s.h b = some o := dropL_ok _ h
theorem floatX_ok (hE : EnvOk E) {C : CallK} (hC : CallOk E C) {ops : Array Oper} {id : Nat} {Q : Fr → St → Prop} {Q' : Exit → Act → World → Prop} (hk : floatX E C ops t s Q) (hA : AR S t a) (h : HR B w0 S s w)
    (hq : ∀ t' s' S' a' w', Q t' s' → Le S S' → AR S' t' a' → HR B w0 S' s' w' → Q' .normal a' w') : (Code.region id ops true).wp E.P Q' a w := by
  have hmem := parts_mem (q := fun p => ops[p.1]? = some p.2) (idxO ops.toList 0) [] [] (fun p hp => by simpa using (idxO_mem ops.toList 0 p hp).2) (fun p hp => by cases hp) (fun p hp => by cases hp)
  unfold floatX at hk
  generalize parts (idxO ops.toList 0) [] [] = q at hk hmem
  obtain ⟨h1, h2⟩ := hk
  unfold floatB floatB0 at h1
  rw [Bool.and_eq_true, Bool.and_eq_true, Bool.and_eq_true] at h1
  obtain ⟨hnk, h1⟩ := h1
  have hn : q.1.length + q.2.length = ops.size := Nat.eq_of_beq_eq_true h1.2.1
  have hd := h.drew (w.drawn + 1)
  refine Code.wp_mono (Q := fun x a w => x = .normal ∧ Q' .normal a w) (fun x a w hx => by obtain ⟨rfl, hx⟩ := hx; exact hx) ?_
  refine wp_region_any hE.mixed (wpAny_of_T (SS := Held S (keptS ops t s).h) (k := lastK ops) _ _ _ _ ?_)
  rw [← hn]
  obtain ⟨hd2, hh2⟩ := kept_ok (ops := ops) (t := t) hd
  have hls : ∀ (l : List (Nat × Oper)) (x : Array Bool), (listGo l x).size = x.size := by
    intro l
    induction l with
    | nil => intro x; rfl
    | cons p l ih => intro x; exact (ih _).trans (by simp)
  exact head_ok hE h1.1 (fun c a w hc => by cases hc.1) hd2 q.1 _ t a hmem.1 (by rw [hn]; exact h1.2.2) h2 hA (fun p hp e => (by
    have := List.all_eq_true.1 hnk p hp
    rw [e, Nat.beq_refl] at this
    cases this)) (by rw [hn]; exact closed_none) fun t' a' k1 k2 hcl => (by
    rw [hn] at hcl ⊢
    exact tree_ok hE hC h1.1 (fun c a w hc => by cases hc.1) q.2.length _ t' s S a' _ k1 k2 hd (Le.refl S) (fun _ => hh2) ((hls _ _).trans (by simp)) (fun t2 s2 S2 a2 w2 z1 z2 z3 z4 => ⟨rfl, hq t2 s2 S2 a2 w2 z1 z2 z3 z4⟩) hcl)
end
section
variable {E : Env} {B : Nat → Prop} {w0 : World} {S : Sig} {s : St} {w : World} {t : Fr} {a : Act}
theorem drawX_ok (hE : EnvOk E) {C : CallK} (hC : CallOk E C) {ops : Array Oper} {id : Nat} {Q : Fr → St → Prop} {Q' : Exit → Act → World → Prop} (hk : drawX E C ops t s Q) (hA : AR S t a) (h : HR B w0 S s w)
    (hq : ∀ t' s' S' a' w', Q t' s' → Le S S' → AR S' t' a' → HR B w0 S' s' w' → Q' .normal a' w') : (Code.region id ops true).wp E.P Q' a w := by
  unfold drawX at hk
  generalize pickN ops ops.size = n at hk
  unfold drawY at hk
  cases hdb : drawB ops n with
  | false => rw [hdb] at hk; exact floatX_ok hE hC hk hA h hq
  | true =>
  rw [hdb] at hk
  have hk : drawAt E C ops t s Q n := hk
  obtain ⟨h1, h2⟩ := hk
  have hd := h.drew (w.drawn + 1)
  obtain ⟨l⟩ := ops
  unfold drawB at h1
  cases hn : Nat.beq n (⟨l⟩ : Array Oper).size with
  | true =>
    rw [hn] at h1
    obtain rfl : n = l.length := Nat.eq_of_beq_eq_true hn
    have h2' : pureOps E ⟨l⟩ l t s fun t' => opsX E C ⟨l⟩ (l.drop l.length) t' s Q := by simpa using h2
    refine wp_region_still_lit (l := l) hE.mixed h1 ?_
    refine pureOps_ok hE _ l h2' hA hd fun t' a' h3 h4 => ?_
    rw [List.drop_length] at h3
    exact hq t' s S a' _ h3 (Le.refl S) h4 hd
  | false =>
    rw [hn] at h1
    refine wp_region_still_tail (l := l) n hE.mixed h1 ?_
    refine pureOps_ok hE _ (l.take n) h2 hA hd fun t' a' h3 h4 => ?_
    exact opsX_ok hE hC _ (l.drop n) h3 h4 hd hq
end
end Go.Rx

namespace Go.Rx
open Go.RowKit (Below)
open Go.Ev (TI TK)
section
variable {E : Env} {B : Nat → Prop} {w0 : World} {S : Sig} {s : St} {w : World} {t : Fr} {a : Act}
def reS (base : Nat) (ρ : List (Nat × Nat)) (S : Sig) : Sig := fun b => (nm base ρ b).bind S
theorem ren_ok {base : Nat} {ρ : List (Nat × Nat)} {p q : Option Addr} (h : ren base ρ p q) : (p = none ∧ q = none) ∨ ∃ b b' i j, p = some ⟨b, i, j⟩ ∧ q = some ⟨b', i, j⟩ ∧ nm base ρ b = some b' := by
  unfold ren at h
  split at h
  · exact .inl ⟨rfl, rfl⟩
  · obtain ⟨h1, rfl, rfl⟩ := h
    exact .inr ⟨_, _, _, _, rfl, rfl, h1⟩
  · exact h.elim
theorem reS_some {base : Nat} {ρ : List (Nat × Nat)} {S : Sig} {b b' : Nat} {x : Loc} (h : nm base ρ b = some b') (hS : S b' = some x) : reS base ρ S b = some x := by
  unfold reS
  rw [h]
  exact hS
mutual
theorem rv_ok {base : Nat} {ρ : List (Nat × Nat)} {S : Sig} : ∀ {u v v' : Value}, rv base ρ u v → VR S v v' → VR (reS base ρ S) u v'
  | .bool x, v, v', h, hv => by
    cases v <;> first | (simp only [rv] at h; done) | skip
    simp only [rv] at h
    subst h
    cases hv
    exact .bool _
  | .int k x, v, v', h, hv => by
    cases v <;> first | (simp only [rv] at h; done) | skip
    simp only [rv] at h
    obtain ⟨rfl, rfl⟩ := h
    cases hv
    exact .int _ _
  | .string x, v, v', h, hv => by
    cases v <;> first | (simp only [rv] at h; done) | skip
    simp only [rv] at h
    subst h
    cases hv
    exact .str _
  | .pointer p, v, v', h, hv => by
    cases v <;> first | (simp only [rv] at h; done) | skip
    simp only [rv] at h
    rcases ren_ok h with ⟨rfl, rfl⟩ | ⟨b, b', i, j, rfl, rfl, hn⟩
    · cases hv
      exact .ptrN
    · cases hv with
      | ptr _ hS => exact .ptr _ (reS_some hn hS)
      | rpt _ _ hS => exact .rpt _ _ (reS_some hn hS)
  | .slice p l c, v, v', h, hv => by
    cases v <;> first | (simp only [rv] at h; done) | skip
    simp only [rv] at h
    obtain ⟨h, rfl, rfl⟩ := h
    rcases ren_ok h with ⟨rfl, rfl⟩ | ⟨b, b', i, j, rfl, rfl, hn⟩
    · cases hv
      exact .slN _ _
    · cases hv with
      | sl _ _ _ hS => exact .sl _ _ _ (reS_some hn hS)
      | rsl _ _ _ hS => exact .rsl _ _ _ (reS_some hn hS)
      | full _ _ hS => exact .full _ _ (reS_some hn hS)
      | cut _ _ _ hS => exact .cut _ _ _ (reS_some hn hS)
  | .nilFunc, v, v', h, hv => by
    cases v <;> first | (simp only [rv] at h; done) | skip
    cases hv
    exact .nilFunc
  | .nilIface, v, v', h, hv => by
    cases v <;> first | (simp only [rv] at h; done) | skip
    cases hv
    exact .nilIface
  | .func f ⟨x⟩ ⟨y⟩, v, v', h, hv => by
    cases f <;> cases v <;> first | (simp only [rv] at h; done) | skip
    rename_i f g x' y'
    cases g <;> first | (simp only [rv] at h; done) | skip
    obtain ⟨x'⟩ := x'
    obtain ⟨y'⟩ := y'
    simp only [rv] at h
    obtain ⟨rfl, h1, h2⟩ := h
    cases hv with
    | func f ha ha' hb hb' =>
      have k1 := rl_ok h1 ⟨ha, ha'⟩
      have k2 := rl_ok h2 ⟨hb, hb'⟩
      exact .func _ k1.1 k1.2 k2.1 k2.2
  | .agg ⟨x⟩, v, v', h, hv => by
    cases v <;> first | (simp only [rv] at h; done) | skip
    rename_i y
    obtain ⟨y⟩ := y
    simp only [rv] at h
    cases hv with
    | agg ha ha' =>
      have k1 := rl_ok h ⟨ha, ha'⟩
      exact .agg k1.1 k1.2
  | .tuple ⟨x⟩, v, v', h, hv => by
    cases v <;> first | (simp only [rv] at h; done) | skip
    rename_i y
    obtain ⟨y⟩ := y
    simp only [rv] at h
    cases hv with
    | tuple ha ha' =>
      have k1 := rl_ok h ⟨ha, ha'⟩
      exact .tuple k1.1 k1.2
  | .float _ _, v, v', h, hv => by cases v <;> (simp only [rv] at h)
  | .complex _ _ _, v, v', h, hv => by cases v <;> (simp only [rv] at h)
  | .map _, v, v', h, hv => by cases v <;> (simp only [rv] at h)
  | .chan _, v, v', h, hv => by cases v <;> (simp only [rv] at h)
  | .iface _ _, v, v', h, hv => by cases v <;> (simp only [rv] at h)
theorem rl_ok {base : Nat} {ρ : List (Nat × Nat)} {S : Sig} : ∀ {u v v' : List Value}, rl base ρ u v → LR S v v' → LR (reS base ρ S) u v'
  | [], [], v', h, hv => by rw [hv.nil_inv]; exact .nil
  | [], _ :: _, v', h, hv => by simp only [rl] at h
  | _ :: _, [], v', h, hv => by simp only [rl] at h
  | u :: us, v :: vs, v', h, hv => by
    simp only [rl] at h
    obtain ⟨x', r, rfl, h1, h2⟩ := hv.cons_inv
    exact .cons (rv_ok h.1 h1) (rl_ok h.2 h2)
end
theorem rb_ok {base : Nat} {ρ : List (Nat × Nat)} {S : Sig} {o o' : Blk} (h : rb base ρ o o') {x : Loc} {ob : Option Obj} (hb : BR S o' x ob) : BR (reS base ρ S) o x ob ∧ o.ro = o'.ro := by
  cases o with
  | cells a e =>
    cases o' with
    | row => exact h.elim
    | cells b e' =>
      obtain ⟨rfl, h⟩ := h
      obtain ⟨C, fr, h1, h2, h3, h4⟩ := hb
      have hl := rl_ok h h2
      have hlen : a.length = b.length := by
        have h9 : (List.take b.length (List.drop x.o C.toList)).length = b.length := by simp; omega
        rw [hl.1, h9]
      refine ⟨⟨C, fr, h1, ?_, by omega, h4⟩, rfl⟩
      rw [hlen]
      exact hl
  | row ro ks e n c f =>
    cases o' with
    | cells => exact h.elim
    | row ro' ks' e' n' c' f' =>
      obtain ⟨rfl, rfl, rfl, rfl, rfl, h⟩ := h
      obtain ⟨h2, hb⟩ := hb
      refine ⟨⟨h2, ?_⟩, rfl⟩
      rcases hb with hb | ⟨C, fr, h1, h3, h4, h5, h6, h7⟩
      · exact .inl hb
      refine .inr ⟨C, fr, h1, h3, h4, h5, fun i j k hi hk => ?_, h7⟩
      rw [h i j hi (List.getElem?_eq_some_iff.1 hk).1]
      exact h6 i j k hi hk
theorem look_mem {α : Type} : ∀ {l : List (Nat × α)} {i : Nat} {v : α}, look l i = some v → (i, v) ∈ l
  | [], i, v, h => by cases h
  | (j, x) :: l, i, v, h => by
    rw [look_cons] at h
    by_cases hi : i = j
    · rw [if_pos hi] at h
      obtain rfl := Option.some.inj h
      subst hi
      exact .head _
    · rw [if_neg hi] at h
      exact .tail _ (look_mem h)
theorem rSlots_ok {base : Nat} {ρ : List (Nat × Nat)} {m : List (Nat × Value)} : ∀ {l : List (Nat × Value)}, rSlots base ρ m l → ∀ i u, (i, u) ∈ l → ∃ v, look m i = some v ∧ rv base ρ u v
  | [], _, i, u, h => by cases h
  | (j, x) :: l, h, i, u, hm => by
    obtain ⟨h1, h2⟩ := h
    rcases List.mem_cons.1 hm with he | hm
    · obtain ⟨rfl, rfl⟩ := Prod.mk.inj he
      exact kO_some h1
    · exact rSlots_ok h2 i u hm
theorem rBlks_ok {base : Nat} {ρ : List (Nat × Nat)} {h : List (Nat × Blk)} : ∀ {l : List (Nat × Blk)}, rBlks base ρ h l → ∀ b o, (b, o) ∈ l → ∃ b' o', nm base ρ b = some b' ∧ look h b' = some o' ∧ rb base ρ o o'
  | [], _, i, u, h => by cases h
  | (j, x) :: l, h, i, u, hm => by
    obtain ⟨h1, h2⟩ := h
    rcases List.mem_cons.1 hm with he | hm
    · obtain ⟨rfl, rfl⟩ := Prod.mk.inj he
      obtain ⟨b', h3, h4⟩ := kO_some h1
      obtain ⟨o', h5, h6⟩ := kO_some h4
      exact ⟨b', o', h3, h5, h6⟩
    · exact rBlks_ok h2 i u hm
theorem injB_ok : ∀ {l : List (Nat × Nat)}, injB l = true → ∀ a a' b, look l a = some b → look l a' = some b → a = a'
  | [], _, a, a', b, h, _ => by cases h
  | (p, q) :: r, hi, a, a', b, h1, h2 => by
    simp only [injB, Bool.and_eq_true] at hi
    have hall : ∀ x, (x ∈ r) → x.2 ≠ q := fun x hx e => by
      have := List.all_eq_true.1 hi.1 x hx
      simp only [Bool.and_eq_true, Bool.not_eq_true'] at this
      rw [e, Nat.beq_refl] at this
      exact absurd this.2 (by simp)
    rw [look_cons] at h1 h2
    by_cases e1 : a = p
    · by_cases e2 : a' = p
      · rw [e1, e2]
      · rw [if_pos e1] at h1
        rw [if_neg e2] at h2
        obtain rfl := Option.some.inj h1
        exact absurd rfl (hall _ (look_mem h2))
    · rw [if_neg e1] at h1
      by_cases e2 : a' = p
      · rw [if_pos e2] at h2
        obtain rfl := Option.some.inj h2
        exact absurd rfl (hall _ (look_mem h1))
      · rw [if_neg e2] at h2
        exact injB_ok hi.2 a a' b h1 h2

def LeB (base : Nat) (S S' : Sig) : Prop := ∀ b x, b < base → S b = some x → S' b = some x
theorem LeB.refl (base : Nat) (S : Sig) : LeB base S S := fun _ _ _ h => h
theorem LeB.trans {base : Nat} {S S' S'' : Sig} (h : LeB base S S') (h' : LeB base S' S'') : LeB base S S'' := fun b x hb e => h' b x hb (h b x hb e)
theorem Le.leB {base : Nat} {S S' : Sig} (h : Le S S') : LeB base S S' := fun b x _ e => h b x e

theorem sub_ok {base : Nat} {ρ : List (Nat × Nat)} {t0 : Fr} {s0 : St} (hs : Sub base ρ t s t0 s0) (hA : AR S t a) (h : HR B w0 S s w) : ∃ S0, LeB base S S0 ∧ AR S0 t0 a ∧ HR B w0 S0 s0 w ∧ base ≤ s0.next := by
  obtain ⟨⟨h1, h2, h3, h4⟩, h5, h6⟩ := hs
  have h2 : base ≤ s0.next := Nat.le_of_ble_eq_true h2
  have hkey : ∀ b b', look ρ b = some b' → base ≤ b ∧ b < s0.next ∧ base ≤ b' := fun b b' e => by
    have := List.all_eq_true.1 h4 _ (look_mem e)
    simp only [Bool.and_eq_true] at this
    exact ⟨Nat.le_of_ble_eq_true this.1.1, Nat.le_of_ble_eq_true this.1.2, Nat.le_of_ble_eq_true this.2⟩
  have hlow : ∀ b, b < base → nm base ρ b = some b := fun b hb => by unfold nm; rw [Nat.ble_eq_true_of_le hb]; rfl
  have hhigh : ∀ b, ¬ b < base → nm base ρ b = look ρ b := fun b hb => by
    unfold nm
    cases hq : Nat.ble (b + 1) base with
    | true => exact absurd (Nat.le_of_ble_eq_true hq) hb
    | false => rfl
  have hinj : ∀ b1 b2 b', nm base ρ b1 = some b' → nm base ρ b2 = some b' → b1 = b2 := fun b1 b2 b' e1 e2 => by
    by_cases k1 : b1 < base
    · rw [hlow _ k1] at e1
      obtain rfl := Option.some.inj e1
      by_cases k2 : b2 < base
      · rw [hlow _ k2] at e2
        exact (Option.some.inj e2).symm
      · rw [hhigh _ k2] at e2
        have := (hkey _ _ e2).2.2
        omega
    · rw [hhigh _ k1] at e1
      by_cases k2 : b2 < base
      · rw [hlow _ k2] at e2
        obtain rfl := Option.some.inj e2
        have := (hkey _ _ e1).2.2
        omega
      · rw [hhigh _ k2] at e2
        exact injB_ok h3 _ _ _ e1 e2
  refine ⟨reS base ρ S, fun b x hb e => reS_some (hlow b hb) e, ⟨by rw [hA.size, h1], hA.defers, fun i u e => ?_⟩, ⟨?_, ?_, ?_, ?_, h.below, h.root⟩, h2⟩
  · obtain ⟨v, e1, e2⟩ := rSlots_ok h5 i u (look_mem e)
    exact rv_ok e2 (hA.slots i v e1)
  · intro b o e
    obtain ⟨b', o', e1, e2, e3⟩ := rBlks_ok h6 b o (look_mem e)
    obtain ⟨x, k1, k2, k3⟩ := h.blk b' o' e2
    obtain ⟨q1, q2⟩ := rb_ok e3 k2
    exact ⟨x, reS_some e1 k1, q1, by rw [q2]; exact k3⟩
  · intro b1 b2 o1 o2 x1 x2 e1 e2 e3 e4 hr hxx
    obtain ⟨b1', o1', f1, f2, f3⟩ := rBlks_ok h6 b1 o1 (look_mem e1)
    obtain ⟨b2', o2', g1, g2, g3⟩ := rBlks_ok h6 b2 o2 (look_mem e2)
    unfold reS at e3 e4
    rw [f1] at e3
    rw [g1] at e4
    have hro : o1.ro = o1'.ro := by
      obtain ⟨x, k1, k2, -⟩ := h.blk b1' o1' f2
      exact (rb_ok f3 k2).2
    have := h.inj b1' b2' o1' o2' x1 x2 f2 g2 e3 e4 (by rw [← hro]; exact hr) hxx
    subst this
    exact hinj _ _ _ f1 g1
  · intro b hb
    unfold reS
    rw [hhigh b (by omega)]
    cases hq : look ρ b with
    | none => rfl
    | some b' => have := (hkey _ _ hq).2.1; omega
  · intro b x e
    unfold reS at e
    obtain ⟨b', -, e2⟩ := Option.bind_eq_some_iff.1 e
    exact h.bound b' x e2
end
end Go.Rx

namespace Go.Rx
open Go.RowKit (Below)
open Go.Ev (TI TK)
def LoopRun (P : Program) (c : Code) (Q : Exit → Act → World → Prop) (a : Act) (w : World) : Prop :=
  ∀ (b : Frame) (k : List Item) (cs : List Frame), ∃ e a' w', Q e a' w' ∧ Arrives P (lone (b.at a (.code c :: .inLoop c :: k)) cs w) b k cs e a' w'
theorem loopRun_step {P : Program} {c : Code} {Q : Exit → Act → World → Prop} {a : Act} {w : World} (h : c.wp P (Exit.then (LoopRun P c Q) Q) a w) : LoopRun P c Q a w := by
  intro b k cs
  obtain ⟨e, a₁, w₁, hq, harr⟩ := h b (.inLoop c :: k) cs
  cases e with
  | normal =>
    obtain ⟨e₂, a₂, w₂, hq₂, harr₂⟩ := hq b k cs
    exact ⟨e₂, a₂, w₂, hq₂, .of_steps (Steps.trans harr (.one step_inLoop)) harr₂⟩
  | exit id => exact ⟨_, a₁, w₁, hq, .pass (x := .inLoop c) rfl (fun _ _ => .inl (by simp)) harr⟩
  | goto l => exact ⟨_, a₁, w₁, hq, .pass (x := .inLoop c) rfl (fun _ _ => .inl (by simp)) harr⟩
  | ret => exact ⟨_, a₁, w₁, hq, .pass (x := .inLoop c) rfl (fun _ _ => .inl (by simp)) harr⟩
  | panic ch => exact ⟨_, a₁, w₁, hq, .pass (x := .inLoop c) rfl (fun _ _ => .inl (by simp)) harr⟩
  | outgrown => exact ⟨_, a₁, w₁, hq, .pass (x := .inLoop c) rfl (fun _ _ => .inl (by simp)) harr⟩
theorem wp_of_loopRun {P : Program} {c : Code} {Q : Exit → Act → World → Prop} {a : Act} {w : World} (h : LoopRun P c Q a w) : (Code.loop c).wp P Q a w := by
  intro b k cs
  obtain ⟨e, a', w', hq, harr⟩ := h b k cs
  exact ⟨e, a', w', hq, .of_steps (.one step_loop) harr⟩

section
variable {E : Env} {B : Nat → Prop} {w0 : World}
def PostB (base : Nat) (B : Nat → Prop) (w0 : World) (S : Sig) (Q : QX) : Exit → Act → World → Prop :=
  fun x a w => ∃ e t s S', ExR e x ∧ Q e t s ∧ LeB base S S' ∧ AR S' t a ∧ HR B w0 S' s w
theorem postB_le {base : Nat} {S S' : Sig} (hle : LeB base S S') {Q : QX} {x : Exit} {a : Act} {w : World} (h : PostB base B w0 S' Q x a w) : PostB base B w0 S Q x a w := by
  obtain ⟨e, t, s, S2, h1, h2, h3, h4⟩ := h
  exact ⟨e, t, s, S2, h1, h2, hle.trans h3, h4⟩
def CodeOk (E : Env) (C : CallK) (A : Ann) (base : Nat) (c : Code) : Prop := ∀ (B : Nat → Prop) (w0 : World) (t : Fr) (s : St) (Q : QX), codeX E C A base c t s Q → ∀ (S : Sig) (a : Act) (w : World), AR S t a → HR B w0 S s w → c.wp E.P (PostB base B w0 S Q) a w

theorem loop_ok {C : CallK} {A : Ann} {base : Nat} {c : Code} (hc : CodeOk E C A base c) {Q : QX} {t : Fr} {s : St} (h : LoopW base (codeX E C A base c) Q t s) : ∀ (B : Nat → Prop) (w0 : World) (S : Sig) (a : Act) (w : World), AR S t a → HR B w0 S s w → LoopRun E.P c (PostB base B w0 S Q) a w := by
  induction h with
  | mk R h hn hq ih =>
    intro B w0 S a w hA hH
    refine loopRun_step (Code.wp_mono (fun x a1 w1 hp => ?_) (hc B w0 _ _ R h S a w hA hH))
    obtain ⟨e, t1, s1, S1, h1, h2, h3, h4, h5⟩ := hp
    cases e with
    | normal =>
      obtain rfl : x = .normal := h1
      have := ih t1 s1 h2 B w0 S1 a1 w1 h4 h5
      intro b k cs
      obtain ⟨e', a', w', hq', harr⟩ := this b k cs
      exact ⟨e', a', w', postB_le h3 hq', harr⟩
    | exit id =>
      obtain rfl : x = .exit id := h1
      exact ⟨.exit id, t1, s1, S1, rfl, hq _ _ _ (by simp) h2, h3, h4, h5⟩
    | ret =>
      obtain rfl : x = .ret := h1
      exact ⟨.ret, t1, s1, S1, rfl, hq _ _ _ (by simp) h2, h3, h4, h5⟩
  | sub ρ hs h0 ih =>
    intro B w0 S a w hA hH
    obtain ⟨S0, h1, h2, h3, -⟩ := sub_ok hs hA hH
    have := ih B w0 S0 a w h2 h3
    intro b k cs
    obtain ⟨e', a', w', hq', harr⟩ := this b k cs
    exact ⟨e', a', w', postB_le h1 hq', harr⟩

theorem then_of {base : Nat} {S : Sig} {Q : QX} {next : Act → World → Prop} {Q' : Exit → Act → World → Prop} {x : Exit} {a1 : Act} {w1 : World} (hp : PostB base B w0 S Q x a1 w1)
    (h1 : ∀ t s S', Q .normal t s → LeB base S S' → AR S' t a1 → HR B w0 S' s w1 → next a1 w1)
    (h2 : ∀ e t s S', e ≠ .normal → ExR e x → Q e t s → LeB base S S' → AR S' t a1 → HR B w0 S' s w1 → Q' x a1 w1) : Exit.then next Q' x a1 w1 := by
  obtain ⟨e, t, s, S', k1, k2, k3, k4, k5⟩ := hp
  cases e with
  | normal =>
    obtain rfl : x = .normal := k1
    exact h1 t s S' k2 k3 k4 k5
  | exit id =>
    obtain rfl : x = .exit id := k1
    exact h2 (.exit id) t s S' (by simp) rfl k2 k3 k4 k5
  | ret =>
    obtain rfl : x = .ret := k1
    exact h2 .ret t s S' (by simp) rfl k2 k3 k4 k5

theorem atE_get {base : Nat} : ∀ {Ls : List LS} {t : Fr} {s : St}, atE base Ls t s → ∃ L ∈ Ls, ∃ a, Sub base L.ρ0 t s (L.T a) (L.S a) ∧ L.I a
  | [], _, _, h => h.elim
  | [L], _, _, h => ⟨L, by simp, h⟩
  | L :: L' :: r, _, _, h => by
    rcases h with h | h
    · exact ⟨L, by simp, h⟩
    · obtain ⟨L2, h1, h2⟩ := atE_get h
      exact ⟨L2, List.mem_cons_of_mem _ h1, h2⟩
theorem atR_get {base m : Nat} {L : LS} : ∀ {ρs : List (List (Nat × Nat))} {t : Fr} {s : St}, atR base m L ρs t s → ∃ ρ a, Sub base ρ t s (L.T a) (L.S a) ∧ L.I a ∧ L.m a < m
  | [], _, _, h => h.elim
  | [ρ], _, _, h => ⟨ρ, h⟩
  | ρ :: ρ' :: r, _, _, h => by
    rcases h with h | h
    · exact ⟨ρ, h⟩
    · exact atR_get h
theorem atN_get {base m : Nat} : ∀ {Ls : List LS} {t : Fr} {s : St}, atN base m Ls t s → ∃ L ∈ Ls, ∃ ρ a, Sub base ρ t s (L.T a) (L.S a) ∧ L.I a ∧ L.m a < m
  | [], _, _, h => h.elim
  | [L], _, _, h => ⟨L, by simp, atR_get h⟩
  | L :: L' :: r, _, _, h => by
    rcases h with h | h
    · exact ⟨L, by simp, atR_get h⟩
    · obtain ⟨L2, h1, h2⟩ := atN_get h
      exact ⟨L2, List.mem_cons_of_mem _ h1, h2⟩
theorem rndX_get {base : Nat} {B : Fr → St → QX → Prop} {Q : QX} {all : List LS} : ∀ {Ls : List LS}, rndX base B Q all Ls → ∀ L ∈ Ls, ∀ a, L.I a → B (L.T a) (L.S a) fun e t' s' => match e with
    | .normal => atN base (L.m a) all t' s'
    | e => Q e t' s'
  | [], _, L, hL => by simp at hL
  | [L], h, L', hL => by
    obtain rfl : L' = L := by simpa using hL
    exact h
  | L :: L2 :: r, h, L', hL => by
    rcases List.mem_cons.1 hL with rfl | hL
    · exact h.1
    · exact rndX_get h.2 L' hL
theorem loopV_W {base : Nat} {B : Fr → St → QX → Prop} {Q : QX} {Ls : List LS} {t : Fr} {s : St} (h : loopV base B Q Ls t s) : LoopW base B Q t s := by
  obtain ⟨he, hr⟩ := h
  obtain ⟨L, hL, a, hs, hI⟩ := atE_get he
  have key : ∀ (N : Nat) (L : LS), L ∈ Ls → ∀ (a : L.α), L.m a ≤ N → L.I a → LoopW base B Q (L.T a) (L.S a) := by
    intro N
    induction N with
    | zero =>
      intro L hL a hm hI
      refine LoopW.mk _ (rndX_get hr L hL a hI) (fun t' s' hn => ?_) fun e t' s' hne h => ?_
      · obtain ⟨L2, -, ρ, a', -, -, h3⟩ := atN_get hn
        omega
      · cases e with
        | normal => exact absurd rfl hne
        | exit id => exact h
        | ret => exact h
    | succ N ih =>
      intro L hL a hm hI
      refine LoopW.mk _ (rndX_get hr L hL a hI) (fun t' s' hn => ?_) fun e t' s' hne h => ?_
      · obtain ⟨L2, hL2, ρ, a', h1, h2, h3⟩ := atN_get hn
        exact LoopW.sub ρ h1 (ih L2 hL2 a' (by omega) h2)
      · cases e with
        | normal => exact absurd rfl hne
        | exit id => exact h
        | ret => exact h
  exact LoopW.sub L.ρ0 hs (key _ L hL a (Nat.le_refl _) hI)

theorem codeX_ok (hE : EnvOk E) {C : CallK} (hC : CallOk E C) (A : Ann) (base : Nat) : ∀ c : Code, CodeOk E C A base c
  | .skip => fun B w0 t s Q h S a w hA hH => wp_skip ⟨.normal, t, s, S, rfl, h, LeB.refl _ _, hA, hH⟩
  | .label l => fun B w0 t s Q h S a w hA hH => wp_label ⟨.normal, t, s, S, rfl, h, LeB.refl _ _, hA, hH⟩
  | .region id ops false => fun B w0 t s Q h S a w hA hH => wp_region_list (opsX_ok hE hC ops ops.toList h hA hH fun t' s' S' a' w' h1 h2 h3 h4 => ⟨.normal, t', s', S', rfl, h1, h2.leB, h3, h4⟩)
  | .region id ops true => fun B w0 t s Q h S a w hA hH => drawX_ok hE hC h hA hH fun t' s' S' a' w' h1 h2 h3 h4 => ⟨.normal, t', s', S', rfl, h1, h2.leB, h3, h4⟩
  | .seq x y => fun B w0 t s Q h S a w hA hH => by
    refine wp_seq (Code.wp_mono (fun e a1 w1 hp => ?_) (codeX_ok hE hC A base x B w0 t s _ h S a w hA hH))
    refine then_of hp (fun t1 s1 S1 h1 h2 h3 h4 => ?_) (fun e1 t1 s1 S1 hne he h1 h2 h3 h4 => ?_)
    · exact Code.wp_mono (fun e2 a2 w2 hp2 => postB_le h2 hp2) (codeX_ok hE hC A base y B w0 t1 s1 Q h1 S1 a1 w1 h3 h4)
    · refine ⟨e1, t1, s1, S1, he, ?_, h2, h3, h4⟩
      cases e1 with
      | normal => exact absurd rfl hne
      | exit id => exact h1
      | ret => exact h1
  | .cond c x y => fun B w0 t s Q h S a w hA hH => by
    obtain ⟨v, h1, h2⟩ := kO_some h
    have hv := ev_ok hA h1
    split at h2
    · rename_i q
      have hc := boolInv hv
      rcases br_cases h2 with ⟨rfl, h3⟩ | ⟨rfl, h3⟩
      · exact wp_cond_true hc (codeX_ok hE hC A base x B w0 t s Q h3 S a w hA hH)
      · exact wp_cond_false hc (codeX_ok hE hC A base y B w0 t s Q h3 S a w hA hH)
    · exact h2.elim
  | .block id x => fun B w0 t s Q h S a w hA hH => by
    refine wp_block (Code.wp_mono (fun e a1 w1 hp => ?_) (codeX_ok hE hC A base x B w0 t s _ h S a w hA hH))
    obtain ⟨e1, t1, s1, S1, k1, k2, k3, k4, k5⟩ := hp
    cases e1 with
    | normal =>
      obtain rfl : e = .normal := k1
      exact ⟨.normal, t1, s1, S1, rfl, k2, k3, k4, k5⟩
    | ret =>
      obtain rfl : e = .ret := k1
      exact ⟨.ret, t1, s1, S1, rfl, k2, k3, k4, k5⟩
    | exit i =>
      obtain rfl : e = .exit i := k1
      show Exit.inBlock id _ (Exit.exit i) a1 w1
      unfold Exit.inBlock
      cases hq : Nat.beq i id with
      | true =>
        have k2' : (bif Nat.beq i id then Q .normal t1 s1 else Q (.exit i) t1 s1) := k2
        rw [hq] at k2'
        have hid : i = id := Nat.eq_of_beq_eq_true hq
        simp only [hid, if_true]
        exact ⟨.normal, t1, s1, S1, rfl, k2', k3, k4, k5⟩
      | false =>
        have k2' : (bif Nat.beq i id then Q .normal t1 s1 else Q (.exit i) t1 s1) := k2
        rw [hq] at k2'
        have hid : ¬ i = id := fun e => by rw [e, Nat.beq_refl] at hq; cases hq
        simp only [hid, if_false]
        exact ⟨.exit i, t1, s1, S1, rfl, k2', k3, k4, k5⟩
  | .loop x => fun B w0 t s Q h S a w hA hH => by
    have h' : (match A (keyC x) t s with
      | none => LoopW base (codeX E C A base x) Q t s
      | some L => loopO base (codeX E C A base x) Q L t s) := h
    have h2 : LoopW base (codeX E C A base x) Q t s := by
      split at h'
      · exact h'
      · rename_i L _
        cases L with
        | nil => exact unrX_W h'
        | cons L r => exact loopV_W h'
    exact wp_of_loopRun (loop_ok (codeX_ok hE hC A base x) h2 B w0 S a w hA hH)
  | .exit id => fun B w0 t s Q h S a w hA hH => wp_exit ⟨.exit id, t, s, S, rfl, h, LeB.refl _ _, hA, hH⟩
  | .scope x => fun B w0 t s Q h S a w hA hH => by
    refine wp_scope_straight (Code.wp_mono (fun e a1 w1 hp => ?_) (codeX_ok hE hC A base x B w0 t s Q h S a w hA hH))
    cases e with
    | goto l => obtain ⟨e1, t1, s1, S1, k1, -⟩ := hp; cases e1 <;> cases k1
    | _ => exact hp
  | .ret => fun B w0 t s Q h S a w hA hH => wp_ret ⟨.ret, t, s, S, rfl, h, LeB.refl _ _, hA, hH⟩
  | .rangeFunc .. => fun B w0 t s Q h => h.elim
  | .goto _ => fun B w0 t s Q h => h.elim
  | .refuse _ => fun B w0 t s Q h => h.elim
end
end Go.Rx

namespace Go.Rx
open Go.RowKit (Below)
open Go.Ev (TI TK)
section
variable {E : Env} {B : Nat → Prop} {w0 : World} {S : Sig} {s : St} {w : World} {t : Fr} {a : Act}
theorem resX_ok (hE : EnvOk E) (h : HR B w0 S s w) (hA : AR S t a) : ∀ {l : List ResultVar} {k : List Value → Prop}, resX E t s l k →
    ∃ vs vs', k vs ∧ vs.length = l.length ∧ (l.mapM (Ev.resSem a.tmps)).run E.P w = .ok vs' w ∧ LR S vs vs'
  | [], k, hk => ⟨[], [], hk, rfl, rfl, .nil⟩
  | r :: l, k, hk => by
    have key : ∃ v v', (resX E t s l fun vs => k (v :: vs)) ∧ (Ev.resSem a.tmps r).run E.P w = .ok v' w ∧ VR S v v' := by
      have hk' : resX1 E t s r fun v => resX E t s l fun vs => k (v :: vs) := hk
      unfold resX1 at hk'
      split at hk'
      · rename_i i
        obtain ⟨v, h1, h2⟩ := kO_some hk'
        exact ⟨v, _, h2, rfl, hA.slots i v h1⟩
      · rename_i i ty
        obtain ⟨v, h1, h2⟩ := kO_some hk'
        split at h2
        · rename_i p
          obtain ⟨ti, inf, d, T, h3⟩ := tI_some hE h2
          obtain ⟨u, u', q, h4, h5, h6, h7⟩ := loadP_ok h T h3 (hA.slots i _ h1)
          exact ⟨u, u', h5, by simp [Ev.resSem, asAddr, h4, h7], h6⟩
        · exact h2.elim
    obtain ⟨v, v', h1, h2, h3⟩ := key
    obtain ⟨vs, vs', h4, h5, h6, h7⟩ := resX_ok hE h hA h1
    exact ⟨v :: vs, v' :: vs', h4, by simp [h5], by simp [List.mapM_cons, h2, h6], .cons h3 h7⟩

theorem tupV_ok {vs vs' : List Value} (h : LR S vs vs') : VR S (tupV vs) (Ev.tupOf vs') := by
  match vs, vs', h with
  | [], [], _ => exact .undef
  | [v], [v'], h => exact h.head
  | [], _ :: _, h => have := h.1; simp at this
  | [v], [], h => have := h.1; simp at this
  | [v], _ :: _ :: _, h => have := h.1; simp at this
  | _ :: _ :: _, [], h => have := h.1; simp at this
  | _ :: _ :: _, [_], h => have := h.1; simp at this
  | v :: u :: r, v' :: u' :: r', h => exact .tuple h.1 h.2

theorem argM_look : ∀ (vs : List Value) (i j : Nat), look (argM i vs) j = if i ≤ j ∧ j < i + vs.length then vs[j - i]? else none
  | [], i, j => by simp only [argM, look]; rw [if_neg (by simp only [List.length_nil]; omega)]
  | v :: vs, i, j => by
    simp only [argM]
    rw [look_cons, argM_look vs (i + 1) j]
    by_cases e : j = i
    · subst e
      rw [if_pos rfl, if_pos (by simp)]
      simp
    · rw [if_neg e]
      by_cases h1 : i + 1 ≤ j ∧ j < i + 1 + vs.length
      · rw [if_pos h1, if_pos (by simp; omega), show j - i = (j - (i + 1)) + 1 by omega]
        simp
      · rw [if_neg h1, if_neg (by simp; omega)]
theorem AR.enter {args : List Value} {args' : Array Value} (hl : LR S args args'.toList) {n : Nat} (hn : args.length ≤ n) : AR S ⟨n, argM 0 args⟩ { tmps := args' ++ Array.replicate (n - args'.size) undef, defers := [] } := by
  have hsz : args.length = args'.size := by rw [hl.1]; simp
  refine ⟨by simp; omega, rfl, fun i v e => ?_⟩
  have e' : look (argM 0 args) i = some v := e
  rw [argM_look] at e'
  by_cases h1 : i < args.length
  · rw [if_pos (by omega), Nat.sub_zero] at e'
    obtain ⟨v', h3, h4⟩ := hl.get e'
    show VR S v ((args' ++ Array.replicate (n - args'.size) undef).getD i undef)
    rw [Array.getD_eq_getD_getElem?, Array.getElem?_append_left (by omega)]
    have h5 : args'[i]? = some v' := by simpa using h3
    rw [h5]
    exact h4
  · rw [if_neg (by omega)] at e'
    cases e'

theorem bodyX_ok (hE : EnvOk E) {C : CallK} (hC : CallOk E C) {A : Ann} {f : Nat} {fn : Func} (hf : E.P.funcs[f]? = some fn) {args : List Value} {args' : Array Value} {K : KV} (hk : bodyX E C A fn args s K) (hl : LR S args args'.toList) (h : HR B w0 S s w) :
    Calls E.P f args' w fun e w' => ∃ v s' S' v', e = .returned v' ∧ K v s' ∧ Le S S' ∧ VR S' v v' ∧ HR B w0 S' s' w' := by
  obtain ⟨c, h1, h2, h3⟩ := kO_some hk
  refine calls_of_wp hf h1 (Code.wp_mono (fun x a1 w1 hp => ?_) (codeX_ok hE hC A s.next c B w0 ⟨fn.ntmps, argM 0 args⟩ s _ h3 S _ w (AR.enter hl (Nat.le_of_ble_eq_true h2)) h))
  obtain ⟨e, t1, s1, S1, k1, k2, k3, k4, k5⟩ := hp
  have hle : Le S S1 := fun b x hb => k3 b x (by
    rcases Nat.lt_or_ge b s.next with q | q
    · exact q
    · rw [h.fresh b q] at hb; cases hb) hb
  have main : (resX E t1 s1 fn.results.toList fun vs => K (tupV vs) s1) → a1.defers = [] ∧ ∃ v, (results fn a1.tmps).run E.P w1 = .ok v w1 ∧ ∃ v' s' S' v'', (Ending.returned v) = .returned v'' ∧ K v' s' ∧ Le S S' ∧ VR S' v' v'' ∧ HR B w0 S' s' w1 := by
    intro hr
    obtain ⟨vs, vs', r1, r2, r3, r4⟩ := resX_ok hE k5 k4 hr
    exact ⟨k4.defers, _, Ev.results_run r3, _, s1, S1, _, rfl, r1, hle, tupV_ok r4, k5⟩
  cases e with
  | normal =>
    obtain rfl : x = .normal := k1
    exact main k2
  | ret =>
    obtain rfl : x = .ret := k1
    exact main k2
  | exit id => exact k2.elim

theorem callI_ok (hE : EnvOk E) (I : AnnI) : ∀ n, CallOk E (callI E I n)
  | 0 => fun f args s K h => h.elim
  | n + 1 => fun f args s K h B w0 S args' w hl hH => by
    have h' : (match E.X f with
      | some sp => sp args s K
      | none => kO (look E.F f) fun fn => bodyX E (callI E I n) (I f args s) fn args s K) := h
    cases hx : E.X f with
    | some sp =>
      rw [hx] at h'
      obtain ⟨h1, h2⟩ := hE.specs f sp hx
      exact ⟨h1, h2 args s K h' B w0 S args' w hl hH⟩
    | none =>
      rw [hx] at h'
      obtain ⟨fn, h1, h2⟩ := kO_some h'
      obtain ⟨h3, h4⟩ := hE.funcs f fn h1
      refine ⟨⟨fn, h3, ?_, h4⟩, bodyX_ok hE (callI_ok hE I n) h3 h2 hl hH⟩
      obtain ⟨c, h5, -⟩ := kO_some h2
      rw [h5]
      rfl
end
end Go.Rx

namespace Go.Rx
open Go.RowKit (Below)
open Go.Ev (TI TK groundT)

def shiftF (f : Nat → Nat → Int) : Nat → Nat → Nat → Int
  | 0 => f
  | i + 1 => fun a => f (i + 1 + a)
theorem shiftF_eq (f : Nat → Nat → Int) (i a j : Nat) : shiftF f i a j = f (i + a) j := by cases i <;> simp [shiftF]
def locC (s : St) (k : Nat) (v : Value) (c : Nat → Value → List Blk → Prop) : Prop :=
  match v with
  | .slice (some ⟨b, i, some 0⟩) l cp => kO (look s.h b) fun o => match o with
      | .row _ ks e n _ f => i + l ≤ n ∧ c (k + 1) (rsl k 0 l cp) [.row true ks e l cp (shiftF f i)]
      | .cells .. => False
  | .slice (some ⟨b, i, some 1⟩) l cp => kO (look s.h b) fun o => match o with
      | .row _ ks e n _ f => (i + l ≤ n ∧ cp = l) ∧ c (k + 1) (rsl k 0 l l) [.row true ks e l l (shiftF f i)]
      | .cells .. => False
  | .slice (some ⟨b, i, some (z + 2)⟩) l cp => kO (look s.h b) fun o => match o with
      | .row _ ks e n _ f => (addN i z + l ≤ n ∧ cp = l) ∧ c (k + 1) (rsl k 0 l l) [.row true ks e l l (shiftF f (addN i z))]
      | .cells .. => False
  | v => groundT v = true ∧ c k v []
def locL (s : St) : Nat → List Value → (Nat → List Value → List Blk → Prop) → Prop
  | k, [], c => c k [] []
  | k, v :: vs, c => locC s k v fun k1 v1 b1 => locL s k1 vs fun k2 l2 b2 => c k2 (v1 :: l2) (b1 ++ b2)
def locA (s : St) : Nat → List Value → (List Value → List Blk → Prop) → Prop
  | _, [], c => c [] []
  | k, v :: vs, c => match v with
    | .agg ⟨l⟩ => locL s k l fun k1 l1 b1 => locA s k1 vs fun as bs => c (.agg ⟨l1⟩ :: as) (b1 ++ bs)
    | v => locC s k v fun k1 v1 b1 => locA s k1 vs fun as bs => c (v1 :: as) (b1 ++ bs)
theorem locC_mono {s : St} {k : Nat} {v : Value} {c c' : Nat → Value → List Blk → Prop} (h : ∀ k v b, c' k v b → c k v b) (hc : locC s k v c') : locC s k v c := by
  unfold locC at hc ⊢
  split at hc
  · obtain ⟨o, ho, hc⟩ := kO_some hc
    show kO (look s.h _) _
    rw [ho]
    cases o with
    | cells cs e => exact hc.elim
    | row ro ks e n q f => exact ⟨hc.1, h _ _ _ hc.2⟩
  · obtain ⟨o, ho, hc⟩ := kO_some hc
    show kO (look s.h _) _
    rw [ho]
    cases o with
    | cells cs e => exact hc.elim
    | row ro ks e n q f => exact ⟨hc.1, h _ _ _ hc.2⟩
  · obtain ⟨o, ho, hc⟩ := kO_some hc
    show kO (look s.h _) _
    rw [ho]
    cases o with
    | cells cs e => exact hc.elim
    | row ro ks e n q f => exact ⟨hc.1, h _ _ _ hc.2⟩
  · exact ⟨hc.1, h _ _ _ hc.2⟩
theorem locL_mono {s : St} : ∀ {vs : List Value} {k : Nat} {c c' : Nat → List Value → List Blk → Prop}, (∀ k v b, c' k v b → c k v b) → locL s k vs c' → locL s k vs c
  | [], _, _, _, h, hc => h _ _ _ hc
  | _ :: _, _, _, _, h, hc => locC_mono (fun _ _ _ hx => locL_mono (fun _ _ _ hy => h _ _ _ hy) hx) hc
theorem locA_mono {s : St} {c c' : List Value → List Blk → Prop} (h : ∀ us bs, c' us bs → c us bs) : ∀ (args : List Value) (k : Nat), locA s k args c' → locA s k args c := by
  intro args
  induction args generalizing c c' with
  | nil => exact fun k hc => h _ _ hc
  | cons v vs ih =>
    intro k hc
    unfold locA at hc ⊢
    split at hc
    · exact locL_mono (fun _ _ _ hx => ih (fun us bs => h _ _) _ hx) hc
    · exact locC_mono (fun _ _ _ hx => ih (fun us bs => h _ _) _ hx) hc
def allocs : List Blk → St → St
  | [], s => s
  | o :: l, s => allocs l (s.alloc o)
def upC (m nx : Nat) : Value → Value
  | .slice (some ⟨j, i, sp⟩) l c => .slice (some ⟨nx + (j - m), i, sp⟩) l c
  | v => v
def upS (m nx : Nat) : Value → Value
  | .agg ⟨l⟩ => .agg ⟨l.map (upC m nx)⟩
  | v => upC m nx v
def upV (m nx : Nat) : Value → Value
  | .tuple ⟨l⟩ => .tuple ⟨l.map (upS m nx)⟩
  | v => upS m nx v
abbrev Con := List Value → List Blk → (Value → List Blk → Prop) → Prop
def specOf (c : Con) : Spec := fun args s K => locA s 0 args fun as bs => c as bs fun v news => K (upV bs.length s.next v) (allocs news s)
def stOf (bs : List Blk) : St := ⟨(List.range bs.length).zip bs, bs.length⟩
def okC : Value → Bool
  | .slice (some ⟨_, _, _⟩) _ _ => true
  | v => Ev.groundA v
def okS : Value → Bool
  | .agg ⟨l⟩ => l.all okC
  | v => okC v
def okV : Value → Bool
  | .tuple ⟨l⟩ => l.all okS
  | v => okS v
def newB (ρ : List (Nat × Nat)) (h : List (Nat × Blk)) : Nat → List Blk → Prop
  | _, [] => True
  | k, o :: l => (kO (look ρ k) fun b => kO (look h b) fun o' => o'.ro = false ∧ rb 0 [] o o') ∧ newB ρ h (k + 1) l
def Found (m : Nat) (v : Value) (s : St) (v1 : Value) (news : List Blk) : Prop :=
  ∃ ρ : List (Nat × Nat), (injB ρ = true ∧ ρ.length = news.length ∧ (ρ.all fun x => Nat.ble m x.1 && Nat.ble (x.1 + 1) (m + news.length)) = true ∧ okV v1 = true) ∧ rv 0 ρ v1 v ∧ newB ρ s.h m news
def BodyOk (E : Env) (n : Nat) (fn : Func) (c : Con) : Prop := ∀ as bs K, c as bs K → (∀ o ∈ bs, o.ro = true) → ∃ (A : Ann) (I : AnnI), bodyX E (callI E I n) A fn as (stOf bs) fun v s' => ∃ v1 news, Found bs.length v s' v1 news ∧ K v1 news

section
variable {E : Env} {B : Nat → Prop} {w0 : World} {S : Sig} {s : St} {w : World}
def Facts (w : World) (bs : List Blk) (locs : List Loc) : Prop := ∀ (j : Nat) (o : Blk) (x : Loc), bs[j]? = some o → locs[j]? = some x → o.ro = true ∧ (∀ S2, BR S2 o x w.heap[x.b]?) ∧ x.b < w.heap.size
theorem Facts.nil : Facts w [] [] := fun j o x e => by simp at e
theorem Facts.app {b1 b2 : List Blk} {l1 l2 : List Loc} (hl : l1.length = b1.length) (h1 : Facts w b1 l1) (h2 : Facts w b2 l2) : Facts w (b1 ++ b2) (l1 ++ l2) := fun j o x e1 e2 => by
  rw [List.getElem?_append] at e1 e2
  by_cases hj : j < b1.length
  · rw [if_pos hj] at e1
    rw [if_pos (by omega)] at e2
    exact h1 j o x e1 e2
  · rw [if_neg hj] at e1
    rw [if_neg (by omega), hl] at e2
    exact h2 _ o x e1 e2
theorem row_loc (h : HR B w0 S s w) {b i l cp : Nat} {ro : Bool} {ks : List IntKind} {e : TypeId} {n cap : Nat} {f : Nat → Nat → Int} {x : Loc} (ho : look s.h b = some (.row ro ks e n cap f)) (hS : S b = some x) (h1 : i + l ≤ n) :
    Facts w [.row true ks e l cp (shiftF f i)] [⟨x.b, x.o + i * x.w, x.w⟩] := by
  obtain ⟨x', hS', hbr, -⟩ := h.blk _ _ ho
  rw [hS] at hS'
  obtain rfl := Option.some.inj hS'
  have g2 := hbr.row_w
  intro j o y e1 e2
  cases j with
  | succ j => simp at e1
  | zero =>
    simp at e1 e2
    subst e1
    subst e2
    refine ⟨rfl, fun S2 => ?_, show x.b < w.heap.size from h.bound b x hS⟩
    rcases Nat.eq_zero_or_pos l with hl0 | hl0
    · exact ⟨g2, .inl ⟨rfl, hl0⟩⟩
    obtain ⟨C, fr, g1, g2, g3, g4, g5, g6, g7⟩ := hbr.row_get (.inr (by omega))
    refine BR.row_mk g1 g2 (fun e => (by cases e)) ?_ (fun e => (by cases e)) (fun a j k ha hk => ?_) (fun e => (by cases e))
    · have := Nat.mul_le_mul_right ks.length h1
      rw [Nat.add_mul] at this
      show x.o + i * x.w + l * ks.length ≤ C.size
      rw [g2]
      omega
    · rw [shiftF_eq]
      have := g6 (i + a) j k (by omega) hk
      show C[x.o + i * x.w + a * ks.length + j]? = _
      rw [g2, ← this]
      congr 1
      rw [Nat.add_mul]
      omega
theorem locC_ok (h : HR B w0 S s w) {k0 : Nat} {v v' : Value} {c : Nat → Value → List Blk → Prop} (hc : locC s k0 v c) (hv : VR S v v') :
    ∃ (v1 : Value) (bs : List Blk) (locs : List Loc), c (k0 + locs.length) v1 bs ∧ locs.length = bs.length ∧ Facts w bs locs ∧ ∀ S1 : Sig, (∀ (j : Nat) x, locs[j]? = some x → S1 (k0 + j) = some x) → VR S1 v1 v' := by
  unfold locC at hc
  split at hc
  · rename_i b i l cp
    obtain ⟨o, ho, hc1⟩ := kO_some hc
    clear hc
    obtain ⟨x, hS, rfl⟩ := rslInv hv
    cases o with
    | cells cs e => exact hc1.elim
    | row ro ks e n cap f =>
      obtain ⟨h1, h2⟩ := hc1
      refine ⟨_, _, [⟨x.b, x.o + i * x.w, x.w⟩], h2, rfl, row_loc h ho hS h1, fun S1 hS1 => ?_⟩
      have := VR.rsl (S := S1) 0 l cp (hS1 0 _ rfl)
      simpa [rsl] using this
  · rename_i b i l cp
    obtain ⟨o, ho, hc1⟩ := kO_some hc
    clear hc
    cases o with
    | cells cs e => exact hc1.elim
    | row ro ks e n cap f =>
      obtain ⟨⟨h1, rfl⟩, h2⟩ := hc1
      obtain ⟨x, hS, rfl⟩ := fullInv hv
      refine ⟨_, _, [⟨x.b, x.o + i * x.w, x.w⟩], h2, rfl, row_loc h ho hS h1, fun S1 hS1 => ?_⟩
      have := VR.rsl (S := S1) 0 cp cp (hS1 0 _ rfl)
      simpa [rsl] using this
  · rename_i b i z l cp
    obtain ⟨o, ho, hc1⟩ := kO_some hc
    clear hc
    cases o with
    | cells cs e => exact hc1.elim
    | row ro ks e n cap f =>
      obtain ⟨⟨h1, rfl⟩, h2⟩ := hc1
      obtain ⟨x, hS, -, rfl⟩ := cutInv hv
      rw [addN_eq] at h1 h2
      by_cases hl : cp = 0
      · subst hl
        refine ⟨_, _, [⟨x.b, x.o + (i + 0) * x.w, x.w⟩], h2, rfl, fun j o y e1 e2 => ?_, fun S1 hS1 => ?_⟩
        · cases j with
          | succ j => simp at e1
          | zero =>
            simp at e1 e2
            subst e1
            subst e2
            obtain ⟨x', hS', hbr, -⟩ := h.blk _ _ ho
            rw [hS] at hS'
            obtain rfl := Option.some.inj hS'
            exact ⟨rfl, fun S2 => ⟨hbr.row_w, .inl ⟨rfl, rfl⟩⟩, h.bound b x hS⟩
        · have := VR.rsl (S := S1) 0 0 0 (hS1 0 _ rfl)
          simpa [rsl] using this
      · refine ⟨_, _, [⟨x.b, x.o + (i + z) * x.w, x.w⟩], h2, rfl, row_loc h ho hS h1, fun S1 hS1 => ?_⟩
        have := VR.rsl (S := S1) 0 cp cp (hS1 0 _ rfl)
        rw [if_neg hl]
        simpa [rsl] using this
  · obtain ⟨h1, h2⟩ := hc
    refine ⟨_, [], [], h2, rfl, .nil, fun S1 _ => ?_⟩
    have hg : v' = v := ground_eq hv h1
    subst hg
    exact groundT_refl h1
theorem locL_ok (h : HR B w0 S s w) : ∀ {args : List Value} {k0 : Nat} {args' : List Value} {c : Nat → List Value → List Blk → Prop}, locL s k0 args c → LR S args args' →
    ∃ (as : List Value) (bs : List Blk) (locs : List Loc), c (k0 + locs.length) as bs ∧ locs.length = bs.length ∧ Facts w bs locs ∧ ∀ S1 : Sig, (∀ (j : Nat) x, locs[j]? = some x → S1 (k0 + j) = some x) → LR S1 as args'
  | [], k0, args', c, hc, hl => by
    rw [hl.nil_inv]
    exact ⟨[], [], [], hc, rfl, .nil, fun _ _ => .nil⟩
  | v :: vs, k0, args', c, hc, hl => by
    obtain ⟨v', r, rfl, hv, hr⟩ := hl.cons_inv
    obtain ⟨v1, b1, l1, c1, q1, f1, r1⟩ := locC_ok h hc hv
    obtain ⟨a2, b2, l2, c2, q2, f2, r2⟩ := locL_ok h c1 hr
    refine ⟨_, _, l1 ++ l2, by rw [List.length_append, ← Nat.add_assoc]; exact c2, by simp [q1, q2], f1.app q1 f2, fun S1 hS1 => .cons (r1 S1 fun j x e => hS1 j x ?_) (r2 S1 fun j x e => ?_)⟩
    · rw [List.getElem?_append_left (List.getElem?_eq_some_iff.1 e).1]; exact e
    · rw [Nat.add_assoc]
      refine hS1 _ x ?_
      rw [List.getElem?_append_right (by omega), Nat.add_sub_cancel_left]; exact e
theorem locA_ok (h : HR B w0 S s w) : ∀ {args : List Value} {k0 : Nat} {args' : List Value} {c : List Value → List Blk → Prop}, locA s k0 args c → LR S args args' →
    ∃ (as : List Value) (bs : List Blk) (locs : List Loc), c as bs ∧ locs.length = bs.length ∧ Facts w bs locs ∧ ∀ S1 : Sig, (∀ (j : Nat) x, locs[j]? = some x → S1 (k0 + j) = some x) → LR S1 as args'
  | [], k0, args', c, hc, hl => by
    rw [hl.nil_inv]
    exact ⟨[], [], [], hc, rfl, .nil, fun _ _ => .nil⟩
  | v :: vs, k0, args', c, hc, hl => by
    obtain ⟨v', r, rfl, hv, hr⟩ := hl.cons_inv
    have key : ∃ (v1 : Value) (b1 : List Blk) (l1 : List Loc), (locA s (k0 + l1.length) vs fun as bs => c (v1 :: as) (b1 ++ bs)) ∧ l1.length = b1.length ∧ Facts w b1 l1 ∧ ∀ S1 : Sig, (∀ (j : Nat) x, l1[j]? = some x → S1 (k0 + j) = some x) → VR S1 v1 v' := by
      unfold locA at hc
      split at hc
      · rename_i l
        obtain ⟨l', rfl, hl'⟩ := aggInv hv
        obtain ⟨a1, b1, l1, c1, q1, f1, r1⟩ := locL_ok h hc hl'
        exact ⟨_, b1, l1, c1, q1, f1, fun S1 hS1 => .agg (r1 S1 hS1).1 (r1 S1 hS1).2⟩
      · exact locC_ok h hc hv
    obtain ⟨v1, b1, l1, c1, q1, f1, r1⟩ := key
    obtain ⟨a2, b2, l2, c2, q2, f2, r2⟩ := locA_ok h c1 hr
    refine ⟨_, _, l1 ++ l2, c2, by simp [q1, q2], f1.app q1 f2, fun S1 hS1 => .cons (r1 S1 fun j x e => hS1 j x ?_) (r2 S1 fun j x e => ?_)⟩
    · rw [List.getElem?_append_left (List.getElem?_eq_some_iff.1 e).1]; exact e
    · rw [Nat.add_assoc]
      refine hS1 _ x ?_
      rw [List.getElem?_append_right (by omega), Nat.add_sub_cancel_left]; exact e

theorem look_zip : ∀ (bs : List Blk) (k b : Nat), look ((List.range' k bs.length).zip bs) b = if k ≤ b then bs[b - k]? else none
  | [], k, b => by simp [look]
  | o :: bs, k, b => by
    simp only [List.length_cons, List.range'_succ, List.zip_cons_cons]
    rw [look_cons, look_zip bs (k + 1) b]
    by_cases e : b = k
    · subst e; simp
    · rw [if_neg e]
      by_cases h : k + 1 ≤ b
      · rw [if_pos h, if_pos (by omega), show b - k = (b - (k + 1)) + 1 by omega]
        simp
      · rw [if_neg h, if_neg (by omega)]
theorem look_stOf (bs : List Blk) (b : Nat) : look (stOf bs).h b = bs[b]? := by
  have := look_zip bs 0 b
  simpa [stOf, List.range_eq_range'] using this
theorem look_allocs : ∀ (l : List Blk) (s : St), (∀ b, s.next ≤ b → look s.h b = none) → (allocs l s).next = s.next + l.length ∧ ∀ b, look (allocs l s).h b = if s.next ≤ b then l[b - s.next]? else look s.h b
  | [], s, hs => ⟨rfl, fun b => by
    show look s.h b = _
    by_cases h : s.next ≤ b
    · rw [if_pos h, hs b h]; simp
    · rw [if_neg h]⟩
  | o :: l, s, hs => by
    have ih := look_allocs l (s.alloc o) fun b hb => by
      have hb' : s.next + 1 ≤ b := hb
      show look ((s.next, o) :: s.h) b = none
      rw [look_cons, if_neg (by omega)]
      exact hs b (by omega)
    refine ⟨by show (allocs l (s.alloc o)).next = _; rw [ih.1]; show s.next + 1 + l.length = _; simp; omega, fun b => ?_⟩
    show look (allocs l (s.alloc o)).h b = _
    rw [ih.2]
    show (if s.next + 1 ≤ b then l[b - (s.next + 1)]? else look ((s.next, o) :: s.h) b) = _
    rw [look_cons]
    by_cases h1 : s.next + 1 ≤ b
    · rw [if_pos h1, if_pos (by omega), show b - s.next = (b - (s.next + 1)) + 1 by omega]
      simp
    · rw [if_neg h1]
      by_cases h2 : b = s.next
      · subst h2; simp
      · rw [if_neg h2, if_neg (by omega)]
theorem newB_get {ρ : List (Nat × Nat)} {h : List (Nat × Blk)} : ∀ {l : List Blk} {k : Nat}, newB ρ h k l → ∀ (j : Nat) o, l[j]? = some o → ∃ b o', look ρ (k + j) = some b ∧ look h b = some o' ∧ o'.ro = false ∧ rb 0 [] o o'
  | [], _, _, j, o, e => by simp at e
  | o0 :: l, k, hn, j, o, e => by
    obtain ⟨h1, h2⟩ := hn
    cases j with
    | zero =>
      simp at e
      subst e
      obtain ⟨b, h3, h4⟩ := kO_some h1
      obtain ⟨o', h5, h6, h7⟩ := kO_some h4
      exact ⟨b, o', h3, h5, h6, h7⟩
    | succ j =>
      have := newB_get h2 j o (by simpa using e)
      rw [show k + (j + 1) = k + 1 + j by omega]
      exact this

theorem specOf_ok (hE : EnvOk E) {f n : Nat} {fn : Func} (hf : E.P.funcs[f]? = some fn) {c : Con} (hb : BodyOk E n fn c) : SpecOk E.P f (specOf c) := by
  intro args s K hk B w0 S args' w hl h
  obtain ⟨as, bs, locs, h1, h2, h3, h4⟩ := locA_ok h hk hl
  let S0 : Sig := fun b => locs[b]?
  have hH0 : HR (fun k => k < w.heap.size) w S0 (stOf bs) w := by
    refine ⟨fun b o e => ?_, fun b b' o o' x x' e1 e2 e3 e4 e5 => ?_, fun b hb => ?_, fun b x e => ?_, ⟨rfl, rfl, rfl, Nat.le_refl _, fun _ _ => rfl⟩, fun x hx => hx⟩
    · rw [look_stOf] at e
      have hlt : b < locs.length := by rw [h2]; exact (List.getElem?_eq_some_iff.1 e).1
      obtain ⟨q1, q2, q3⟩ := h3 b o locs[b] e (List.getElem?_eq_getElem hlt)
      exact ⟨locs[b], List.getElem?_eq_getElem hlt, q2 _, fun _ => q3, fun hro => by rw [q1] at hro; cases hro⟩
    · rw [look_stOf] at e1
      have hlt : b < locs.length := by rw [h2]; exact (List.getElem?_eq_some_iff.1 e1).1
      have := (h3 b o locs[b] e1 (List.getElem?_eq_getElem hlt)).1
      rw [this] at e5; cases e5
    · show locs[b]? = none
      have hb' : bs.length ≤ b := hb
      rw [List.getElem?_eq_none (by omega)]
    · have e' : locs[b]? = some x := e
      have hlt : b < bs.length := by rw [← h2]; exact (List.getElem?_eq_some_iff.1 e').1
      exact (h3 b bs[b] x (List.getElem?_eq_getElem hlt) e').2.2
  have hl0 : LR S0 as args'.toList := h4 S0 fun j x e => by rw [Nat.zero_add]; exact e
  have hro : ∀ o ∈ bs, o.ro = true := fun o ho => by
    obtain ⟨j, hj⟩ := List.getElem?_of_mem ho
    have hlt : j < locs.length := by rw [h2]; exact (List.getElem?_eq_some_iff.1 hj).1
    exact (h3 j o locs[j] hj (List.getElem?_eq_getElem hlt)).1
  obtain ⟨A, I, hbA⟩ := hb as bs _ h1 hro
  refine (bodyX_ok hE (callI_ok hE I n) hf hbA hl0 hH0).mono fun e w' hp => ?_
  obtain ⟨v, s', S', v', rfl, ⟨v1, news, ⟨ρ, ⟨r1, r2, r3, r4⟩, r5, r6⟩, hK⟩, hle, hv, hH⟩ := hp
  have hkeys : ∀ j b, look ρ j = some b → bs.length ≤ j ∧ j < bs.length + news.length := fun j b e => by
    have := List.all_eq_true.1 r3 _ (look_mem e)
    simp only [Bool.and_eq_true] at this
    exact ⟨Nat.le_of_ble_eq_true this.1, Nat.le_of_ble_eq_true this.2⟩
  let S'' : Sig := fun b => if b < s.next then S b else (look ρ (bs.length + (b - s.next))).bind S'
  have hlow : ∀ b, b < s.next → S'' b = S b := fun b hb => by simp [S'', hb]
  have hhigh : ∀ b, ¬ b < s.next → S'' b = (look ρ (bs.length + (b - s.next))).bind S' := fun b hb => by simp [S'', hb]
  have hle2 : Le S S'' := fun b x e => by
    by_cases hb : b < s.next
    · rw [hlow b hb]; exact e
    · rw [h.fresh b (by omega)] at e; cases e
  have hnone : ∀ b, s.next ≤ b → look s.h b = none := fun b hb => by
    cases hq : look s.h b with
    | none => rfl
    | some o =>
      obtain ⟨x, hx, -⟩ := h.blk b o hq
      rw [h.fresh b hb] at hx; cases hx
  obtain ⟨hnx, hlk⟩ := look_allocs news s hnone
  have hnew : ∀ b o, ¬ b < s.next → look (allocs news s).h b = some o → ∃ b' o' x, look ρ (bs.length + (b - s.next)) = some b' ∧ look s'.h b' = some o' ∧ o'.ro = false ∧ rb 0 [] o o' ∧ S' b' = some x ∧ S'' b = some x ∧ BR S' o' x w'.heap[x.b]? ∧ w.heap.size ≤ x.b := fun b o hb e => by
    rw [hlk, if_pos (by omega)] at e
    obtain ⟨b', o', g1, g2, g3, g4⟩ := newB_get r6 _ o e
    obtain ⟨x, g5, g6, -, g7⟩ := hH.blk b' o' g2
    exact ⟨b', o', x, g1, g2, g3, g4, g5, by rw [hhigh b hb, g1]; exact g5, g6, by have := g7 g3; omega⟩
  have hsz : w.heap.size ≤ w'.heap.size := hH.below.size
  refine ⟨upV bs.length s.next v1, allocs news s, S'', v', rfl, hK, hle2, ?_, ⟨?_, ?_, ?_, ?_, ?_, h.root⟩⟩
  · have hv1 := rv_ok r5 hv
    have hgr0 : ∀ u u', VR (reS 0 ρ S') u u' → okC u = true → VR S'' (upC bs.length s.next u) u' := by
      intro u u' hu ho
      cases u with
      | slice p l c =>
        cases p with
        | none => cases hu; exact .slN _ _
        | some p =>
          obtain ⟨j, i, sp⟩ := p
          have hx : ∀ x, reS 0 ρ S' j = some x → S'' (s.next + (j - bs.length)) = some x := fun x hx => by
            unfold reS at hx
            obtain ⟨b', e1, e2⟩ := Option.bind_eq_some_iff.1 hx
            have e1' : look ρ j = some b' := e1
            have := hkeys j b' e1'
            rw [hhigh _ (by omega), show bs.length + (s.next + (j - bs.length) - s.next) = j by omega, e1']
            exact e2
          cases hu with
          | sl _ _ _ hS => exact .sl _ _ _ (hx _ hS)
          | rsl _ _ _ hS => exact .rsl _ _ _ (hx _ hS)
          | full _ _ hS => exact .full _ _ (hx _ hS)
          | cut _ _ _ hS => exact .cut _ _ _ (hx _ hS)
      | _ =>
        have hg : u' = _ := groundA_eq hu ho
        subst hg
        exact groundA_refl ho
    have hgr : ∀ u u', VR (reS 0 ρ S') u u' → okS u = true → VR S'' (upS bs.length s.next u) u' := by
      intro u u' hu ho
      cases u with
      | agg l =>
        obtain ⟨l⟩ := l
        obtain ⟨l', rfl, hl'⟩ := aggInv hu
        refine .agg (by rw [List.length_map]; exact hl'.1) fun i u u' e1 e2 => ?_
        rw [List.getElem?_map] at e1
        cases hq : l[i]? with
        | none => rw [hq] at e1; cases e1
        | some q =>
          rw [hq] at e1
          obtain rfl := Option.some.inj e1
          have hall : l.all okC = true := ho
          exact hgr0 q u' (hl'.2 i q u' hq e2) (List.all_eq_true.1 hall q (List.mem_of_getElem? hq))
      | _ => exact hgr0 _ _ hu ho
    cases v1 with
    | tuple l =>
      obtain ⟨l⟩ := l
      obtain ⟨l', rfl, hl'⟩ := tupInv hv1
      refine .tuple (by rw [List.length_map]; exact hl'.1) fun i u u' e1 e2 => ?_
      rw [List.getElem?_map] at e1
      cases hq : l[i]? with
      | none => rw [hq] at e1; cases e1
      | some q =>
        rw [hq] at e1
        obtain rfl := Option.some.inj e1
        have hall : l.all okS = true := r4
        exact hgr q u' (hl'.2 i q u' hq e2) (List.all_eq_true.1 hall q (List.mem_of_getElem? hq))
    | _ => exact hgr _ _ hv1 r4
  · intro b o e
    by_cases hb : b < s.next
    · rw [hlk, if_neg (by omega)] at e
      obtain ⟨x, g1, g2, g3⟩ := h.blk b o e
      refine ⟨x, by rw [hlow b hb]; exact g1, ?_, g3⟩
      rw [hH.below.block x.b (h.bound _ _ g1)]
      exact g2.mono hle2
    · obtain ⟨b', o', x, g1, g2, g3, g4, g5, g6, g7, g8⟩ := hnew b o hb e
      obtain ⟨q1, q2⟩ := rb_ok (S := S') g4 g7
      refine ⟨x, g6, q1.mono fun b2 x2 e2 => ?_, fun e2 => (by rw [q2, g3] at e2; cases e2), fun _ hB => ?_⟩
      · unfold reS at e2
        have : nm 0 [] b2 = none := rfl
        rw [this] at e2
        cases e2
      · have := h.root _ hB
        have := h.below.size
        omega
  · intro b1 b2 o1 o2 x1 x2 e1 e2 e3 e4 hr hxx
    by_cases k1 : b1 < s.next
    · rw [hlk, if_neg (by omega)] at e1
      rw [hlow b1 k1] at e3
      have q1 := h.bound _ _ e3
      by_cases k2 : b2 < s.next
      · rw [hlk, if_neg (by omega)] at e2
        rw [hlow b2 k2] at e4
        exact h.inj b1 b2 o1 o2 x1 x2 e1 e2 e3 e4 hr hxx
      · obtain ⟨b', o', x, g1, g2, g3, g4, g5, g6, g7, g8⟩ := hnew b2 o2 k2 e2
        rw [e4] at g6
        obtain rfl := Option.some.inj g6
        omega
    · obtain ⟨b', o', x, g1, g2, g3, g4, g5, g6, g7, g8⟩ := hnew b1 o1 k1 e1
      rw [e3] at g6
      obtain rfl := Option.some.inj g6
      by_cases k2 : b2 < s.next
      · rw [hlow b2 k2] at e4
        have q1 := h.bound _ _ e4
        omega
      · obtain ⟨b'', o'', x'', f1, f2, f3, f4, f5, f6, f7, f8⟩ := hnew b2 o2 k2 e2
        rw [e4] at f6
        obtain rfl := Option.some.inj f6
        have := hH.inj b' b'' o' o'' x1 x2 g2 f2 g5 f5 g3 hxx
        subst this
        have := injB_ok r1 _ _ _ g1 f1
        omega
  · intro b hb
    rw [hnx] at hb
    rw [hhigh b (by omega)]
    cases hq : look ρ (bs.length + (b - s.next)) with
    | none => rfl
    | some b' => have := (hkeys _ _ hq).2; omega
  · intro b x e
    by_cases hb : b < s.next
    · rw [hlow b hb] at e
      have := h.bound _ _ e
      omega
    · rw [hhigh b hb] at e
      obtain ⟨b', -, e2⟩ := Option.bind_eq_some_iff.1 e
      exact hH.bound _ _ e2
  · refine ⟨hH.below.os.trans h.below.os, hH.below.tape.trans h.below.tape, hH.below.output.trans h.below.output, Nat.le_trans h.below.size hsz, fun k hk => ?_⟩
    rw [hH.below.block k (by have := h.root k hk; have := h.below.size; omega)]
    exact h.below.block k hk
end
end Go.Rx

namespace Go.Rx
open Go.RowKit (Below)
open Go.Ev (TI TK groundT)
section
variable {E : Env} {w : World}
theorem law_ok (hE : EnvOk E) {A : Ann} {I : AnnI} {f n : Nat} {fn : Func} (hf : E.P.funcs[f]? = some fn) {as : List Value} {bs : List Blk} {args' : Array Value} (locs : List Loc) (hlen : locs.length = bs.length)
    (hfacts : ∀ (j : Nat) (o : Blk) (x : Loc), bs[j]? = some o → locs[j]? = some x → o.ro = true ∧ BR (fun _ => none) o x w.heap[x.b]? ∧ x.b < w.heap.size) (hl : LR (fun b => locs[b]?) as args'.toList)
    (hb : bodyX E (callI E I n) A fn as (stOf bs) fun v _ => v = .bool true) : Calls E.P f args' w fun e w' => e = .returned (.bool true) ∧ Below w.heap.size w w' := by
  have hH0 : HR (fun k => k < w.heap.size) w (fun b => locs[b]?) (stOf bs) w := by
    refine ⟨fun b o e => ?_, fun b b' o o' x x' e1 e2 e3 e4 e5 => ?_, fun b hb => ?_, fun b x e => ?_, ⟨rfl, rfl, rfl, Nat.le_refl _, fun _ _ => rfl⟩, fun x hx => hx⟩
    · rw [look_stOf] at e
      have hlt : b < locs.length := by rw [hlen]; exact (List.getElem?_eq_some_iff.1 e).1
      obtain ⟨q1, q2, q3⟩ := hfacts b o locs[b] e (List.getElem?_eq_getElem hlt)
      have q4 : BR (fun b => locs[b]?) o locs[b] w.heap[locs[b].b]? := q2.mono (fun b x e => by simp at e)
      exact ⟨locs[b], List.getElem?_eq_getElem hlt, q4, fun _ => q3, fun hro => by rw [q1] at hro; cases hro⟩
    · rw [look_stOf] at e1
      have hlt : b < locs.length := by rw [hlen]; exact (List.getElem?_eq_some_iff.1 e1).1
      have := (hfacts b o locs[b] e1 (List.getElem?_eq_getElem hlt)).1
      rw [this] at e5; cases e5
    · show locs[b]? = none
      have hb' : bs.length ≤ b := hb
      rw [List.getElem?_eq_none (by omega)]
    · have e' : locs[b]? = some x := e
      have hlt : b < bs.length := by rw [← hlen]; exact (List.getElem?_eq_some_iff.1 e').1
      exact (hfacts b bs[b] x (List.getElem?_eq_getElem hlt) e').2.2
  refine (bodyX_ok hE (callI_ok hE I n) hf hb hl hH0).mono fun e w' hp => ?_
  obtain ⟨v, s', S', v', rfl, rfl, -, hv, hH⟩ := hp
  rw [boolInv hv]
  exact ⟨rfl, hH.below.os, hH.below.tape, hH.below.output, hH.below.size, fun k hk => hH.below.block k hk⟩

theorem look_all {α : Type} {q : Nat → α → Prop} : ∀ {l : List (Nat × α)}, (∀ p ∈ l, q p.1 p.2) → ∀ i v, look l i = some v → q i v := fun h i v e => h (i, v) (look_mem e)
theorem specTrue_ok {P : Program} {f : Nat} (h : ∀ w, Calls P f #[] w fun e w' => e = .returned (.bool true) ∧ Below w.heap.size w w') : SpecOk P f (fun args s K => args = [] ∧ K (.bool true) s) := by
  rintro args s K ⟨rfl, hK⟩ B w0 S args' w hl hH
  obtain rfl : args' = #[] := by
    have := hl.nil_inv
    apply Array.ext'
    rw [this]
  refine (h w).mono fun e w' hp => ?_
  obtain ⟨rfl, hB⟩ := hp
  refine ⟨_, s, S, _, rfl, hK, Le.refl S, .bool true, ⟨fun b o e => ?_, hH.inj, hH.fresh, fun b x e => Nat.lt_of_lt_of_le (hH.bound b x e) hB.size, ⟨hB.os.trans hH.below.os, hB.tape.trans hH.below.tape, hB.output.trans hH.below.output, Nat.le_trans hH.below.size hB.size, fun k hk => ?_⟩, hH.root⟩⟩
  · obtain ⟨x, h1, h2, h3⟩ := hH.blk b o e
    refine ⟨x, h1, ?_, h3⟩
    rw [hB.block x.b (hH.bound _ _ h1)]
    exact h2
  · rw [hB.block k (by have := hH.root k hk; have := hH.below.size; omega)]
    exact hH.below.block k hk
end
end Go.Rx

namespace Go.Rx
end Go.Rx
namespace Go.Rx
theorem br_d {p : Prop} [Decidable p] {x y : Prop} (h : p → x) (h' : ¬ p → y) : br (decide p) x y := br_intro (fun e => h (of_decide_eq_true e)) fun e => h' (of_decide_eq_false e)
end Go.Rx
namespace Go.Rx
mutual
def plain : Value → Bool
  | .bool _ | .int .. | .string _ | .pointer none | .slice none _ _ | .nilFunc | .nilIface => true
  | .agg ⟨l⟩ | .tuple ⟨l⟩ => plainL l
  | _ => false
def plainL : List Value → Bool
  | [] => true
  | v :: l => plain v && plainL l
end
mutual
theorem rv_plain (ρ : List (Nat × Nat)) : ∀ v : Value, plain v = true → rv 0 ρ v v
  | .bool b, _ => rfl
  | .int .., _ => ⟨rfl, rfl⟩
  | .string _, _ => rfl
  | .pointer none, _ => trivial
  | .slice none _ _, _ => ⟨trivial, rfl, rfl⟩
  | .nilFunc, _ => trivial
  | .nilIface, _ => trivial
  | .agg ⟨l⟩, h => rl_plain ρ l h
  | .tuple ⟨l⟩, h => rl_plain ρ l h
  | .pointer (some _), h => by cases h
  | .slice (some _) _ _, h => by cases h
  | .func .., h => by cases h
  | .float .., h => by cases h
  | .iface .., h => by cases h
  | .map .., h => by cases h
  | .chan .., h => by cases h
theorem rl_plain (ρ : List (Nat × Nat)) : ∀ l : List Value, plainL l = true → rl 0 ρ l l
  | [], _ => trivial
  | v :: l, h => by
    have h' : (plain v && plainL l) = true := h
    rw [Bool.and_eq_true] at h'
    exact ⟨rv_plain ρ v h'.1, rl_plain ρ l h'.2⟩
end
theorem fin0 {m : Nat} {v : Value} {s : St} {K : Value → List Blk → Prop} (h1 : okV v = true) (h2 : plain v = true) (h : K v []) : ∃ v1 news, Found m v s v1 news ∧ K v1 news :=
  ⟨v, [], ⟨[], ⟨rfl, rfl, rfl, h1⟩, rv_plain [] v h2, trivial⟩, h⟩
end Go.Rx

namespace Go.Rx
open Go.RowKit (Below)
abbrev RF := Nat → Nat → Int
def zF : RF := fun _ _ => 0
theorem addN_zero (b : Nat) : addN 0 b = b := rfl
theorem fin1t {m b n c : Nat} {ks : List IntKind} {e : TypeId} {f f' : RF} {rest : List Value} {s : St} {K : Value → List Blk → Prop} (hl : look s.h b = some (.row false ks e n c f')) (hf : ∀ i j, i < n → j < ks.length → f i j = f' i j)
    (h1 : rest.all okS = true) (h2 : plainL rest = true) (h : K (.tuple ⟨rsl m 0 n c :: rest⟩) [.row false ks e n c f]) : ∃ v1 news, Found m (.tuple ⟨rsl b 0 n c :: rest⟩) s v1 news ∧ K v1 news := by
  refine ⟨_, _, ⟨[(m, b)], ⟨rfl, rfl, ?_, ?_⟩, ?_, ?_⟩, h⟩
  · simp
  · show (okS (rsl m 0 n c) && rest.all okS) = true
    rw [h1]; rfl
  · refine ⟨⟨⟨?_, rfl, rfl⟩, rfl, rfl⟩, rl_plain _ _ h2⟩
    show (bif Nat.beq m m then some b else none) = some b
    rw [Nat.beq_refl]; rfl
  · refine ⟨?_, trivial⟩
    have : look [(m, b)] m = some b := by
      show (bif Nat.beq m m then some b else none) = some b
      rw [Nat.beq_refl]; rfl
    rw [this]
    show kO (look s.h b) _
    rw [hl]
    exact ⟨rfl, rfl, rfl, rfl, rfl, rfl, hf⟩
def In64 (x : Int) : Prop := -9223372036854775808 ≤ x ∧ x ≤ 9223372036854775807
end Go.Rx

namespace Go.Rx
open Go.ChangeShapes Go.WideShapes Go.Deep
end Go.Rx
namespace Go.Ev



end Go.Ev
namespace Go.Ev
open Go.ChangeShapes Go.WideShapes Go.Joins Go.RowKit
theorem open_fields {H : Type} {enc : TypeId × Value → H} {P : Program} {w : World} {base : Nat} {spare : Nat → Bool} {held : Bool} {r : Reach} {b0 : Nat} {t : TypeId} {fs : Array Field} {v : Value} {d : DataW H} {p : List MemPlace}
    (hs : P.underlying t = some (.struct fs)) (hone : Deep.oneCellFields P fs = true) (hC : P.cellsOf t = fs.size) (hv : Value.okWide P w r b0 t v) (h : DataW.Trod enc P w base spare held t v d p) :
    ∃ (vs : List Value) (_ : List (DataW H × List MemPlace)) (n : Nat), v = .agg ⟨vs⟩ ∧ vs.length = fs.size ∧ ∀ (j : Nat) (f : Field), fs[j]? = some f → ∃ u y, vs[j]? = some u ∧ DataW.trod enc P w base spare held n f.type [u] = some y := by
  obtain ⟨⟨vs⟩, rfl, hsz⟩ := okWide_struct hs hv
  obtain ⟨fuel, hf⟩ := h
  obtain ⟨ys, n, -, -, -, hlen, hg⟩ := DataW.trod_struct hs hf
  have hl : vs.length = fs.size := by simpa using hsz.trans hC
  refine ⟨vs, ys, n, rfl, hl, fun j f hj => ?_⟩
  obtain ⟨h0, h1⟩ := Deep.hone_of hone j f hj
  have hjl : j < vs.length := by rw [hl]; exact (Array.getElem?_eq_some_iff.1 hj).1
  have hjy : j < ys.length := by rw [hlen]; exact (Array.getElem?_eq_some_iff.1 hj).1
  have h2 := hg j f hj
  rw [h0, h1, List.getElem?_eq_getElem hjy] at h2
  refine ⟨vs[j], ys[j], List.getElem?_eq_getElem hjl, ?_⟩
  have h3 : (List.drop j vs).take 1 = [vs[j]] := by rw [List.drop_eq_getElem_cons hjl]; rfl
  rw [← h3]
  simpa [Value.cells] using h2
end Go.Ev
