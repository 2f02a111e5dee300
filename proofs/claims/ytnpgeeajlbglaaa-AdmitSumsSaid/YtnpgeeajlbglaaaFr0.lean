/-
  The program's tables, as the calculus takes them; what the config's check returns. No project text.
-/
import Derived.Test.YtnpgeeajlbglaaaRx2
import Derived.Test.YtnpgeeajlbglaaaCchk
import Derived.Test.YtnpgeeajlbglaaaChecked
namespace Go.Proofs.Ytnpgeeajlbglaaa.Fr
open Go.Rx
open Go.RowKit (Below)
set_option linter.unusedVariables false
abbrev T0 : Prop := true = true
abbrev TS : Prop := @Eq Ev.TK Ev.TK.slice Ev.TK.slice
abbrev vi (z : Int) : Value := .int .i64 z
abbrev vn : Value := .slice none 0 0
abbrev eN (n : Nat) : Prop := n = n
abbrev k2 : List IntKind := [.i64, .i64]
abbrev eK : Prop := k2 = k2
abbrev eB : Prop := @Eq (List Blk) [] []
abbrev rF (e n c : Nat) (f : Nat → Nat → Int) : Blk := .row false [.i64, .i64] e n c f
abbrev rT (e n c : Nat) (f : Nat → Nat → Int) : Blk := .row true [.i64, .i64] e n c f
abbrev CB (a b c d e : Int) : Blk := .cells [vi a, vi b, vi c, vi d, vi e] 23
abbrev pt (b o : Nat) : Value := .pointer (some ⟨b, o, none⟩)
abbrev vt (l : List Value) : Value := .tuple ⟨l⟩
abbrev z64 : Value := .int .i64 (Int.ofNat 0)
def T : List (Nat × Ev.TI) := [
  (3, ⟨1, 8, false, some [z64], some z64, .int .i64, [], 0, 0, false, 1, .other⟩),
  (4, ⟨1, 1, false, some [.bool false], some (.bool false), .other, [], 0, 0, false, 1, .other⟩),
  (23, ⟨2, 16, true, some [z64, z64], some (.agg ⟨[z64, z64]⟩), .struct, [(0, false, 1), (1, false, 1)], 0, 0, false, 1, .other⟩),
  (24, ⟨1, 24, false, some [.slice none 0 0], some (.slice none 0 0), .slice, [], 0, 23, true, 2, .other⟩),
  (25, ⟨1, 8, false, some [z64], some z64, .int .i64, [], 0, 0, false, 1, .other⟩),
  (32, ⟨1, 24, false, some [.slice none 0 0], some (.slice none 0 0), .slice, [], 0, 3, false, 1, .other⟩),
  (33, ⟨2, 16, true, some [z64, z64], some (.agg ⟨[z64, z64]⟩), .array, [], 2, 3, false, 1, .other⟩),
  (41, ⟨1, 24, false, some [.slice none 0 0], some (.slice none 0 0), .slice, [], 0, 46, true, 2, .other⟩),
  (46, ⟨2, 16, true, some [z64, z64], some (.agg ⟨[z64, z64]⟩), .struct, [(0, false, 1), (1, false, 1)], 0, 0, false, 1, .other⟩),
  (48, ⟨3, 24, true, some [z64, z64, z64], some (.agg ⟨[z64, z64, z64]⟩), .array, [], 3, 3, false, 1, .other⟩),
  (54, ⟨5, 40, true, some [z64, z64, z64, z64, z64], some (.agg ⟨[z64, z64, z64, z64, z64]⟩), .struct, [(0, false, 1), (1, false, 1), (2, false, 1), (3, false, 1), (4, false, 1)], 0, 0, false, 1, .other⟩),
  (56, ⟨2, 16, true, some [z64, z64], some (.agg ⟨[z64, z64]⟩), .struct, [(0, false, 1), (1, false, 1)], 0, 0, false, 1, .other⟩),
  (64, ⟨1, 8, false, some [.int .u64 (Int.ofNat 0)], some (.int .u64 (Int.ofNat 0)), .int .u64, [], 0, 0, false, 1, .other⟩),
  (85, ⟨7, 56, true, some [z64, z64, z64, z64, z64, z64, z64], some (.agg ⟨[z64, z64, z64, z64, z64, z64, z64]⟩), .struct, [(0, true, 5), (5, false, 1), (6, false, 1)], 0, 0, false, 1, .other⟩),
  (87, ⟨1, 8, false, some [.nilFunc], some .nilFunc, .func, [], 0, 0, false, 1, .other⟩),
  (103, ⟨1, 24, false, some [.slice none 0 0], some (.slice none 0 0), .slice, [], 0, 87, false, 1, .other⟩)]
noncomputable def F : List (Nat × Func) := [(3, Try.f3), (4, Try.f4), (5, Try.f5), (6, Try.f6), (7, Try.f7), (8, Try.f8), (9, Try.f9), (10, Try.f10), (11, Try.f11), (12, Try.f12), (13, Try.f13), (14, Try.f14), (15, Try.f15), (16, Try.f16), (17, Try.f17), (18, Try.f18), (19, Try.f19), (20, Try.f20), (21, Try.f21), (22, Try.f22), (23, Try.f23), (24, Try.f24), (25, Try.f25), (26, Try.f26), (27, Try.f27), (28, Try.f28), (29, Try.f29), (30, Try.f30), (31, Try.f31), (32, Try.f32), (33, Try.f33), (34, Try.f34), (35, Try.f35), (36, Try.f36), (37, Try.f37), (38, Try.f38), (39, Try.f39), (40, Try.f40), (41, Try.f41), (42, Try.f42), (43, Try.f43), (44, Try.f44), (45, Try.f45), (46, Try.f46), (47, Try.f47), (48, Try.f48), (49, Try.f49), (50, Try.f50), (51, Try.f51), (52, Try.f52), (53, Try.f53), (54, Try.f54), (55, Try.f55), (56, Try.f56), (57, Try.f57), (58, Try.f58), (59, Try.f59), (60, Try.f60), (61, Try.f61), (62, Try.f62), (63, Try.f63), (64, Try.f64), (65, Try.f65), (66, Try.f66), (67, Try.f67), (68, Try.f68), (69, Try.f69), (70, Try.f70), (71, Try.f71), (72, Try.f72), (73, Try.f73), (74, Try.f74), (75, Try.f75), (76, Try.f76), (77, Try.f77), (78, Try.f78), (79, Try.f79), (80, Try.f80), (81, Try.f81), (82, Try.f82), (83, Try.f83), (84, Try.f84), (85, Try.f85), (86, Try.f86), (87, Try.f87), (88, Try.f88), (89, Try.f89), (90, Try.f90), (91, Try.f91), (92, Try.f92), (93, Try.f93), (94, Try.f94), (95, Try.f95), (96, Try.f96), (97, Try.f97), (98, Try.f98), (99, Try.f99), (100, Try.f100), (101, Try.f101), (102, Try.f102), (103, Try.f103), (104, Try.f104), (105, Try.f105), (106, Try.f106), (107, Try.f107), (108, Try.f108), (109, Try.f109), (110, Try.f110), (111, Try.f111), (112, Try.f112), (113, Try.f113), (114, Try.f114), (115, Try.f115), (116, Try.f116), (117, Try.f117), (118, Try.f118)]
def Q : List (Nat × List IntKind) := [(54, [.i64, .i64, .i64, .i64, .i64]), (23, [.i64, .i64])]
noncomputable abbrev mk (X : List (Nat × Rx.Spec)) : Env := ⟨Try.prog, T, F, Rx.look X, Q, [4]⟩
theorem qs23 : Ev.QOk Try.prog 23 [.i64, .i64] := by
  intro l m hl hm op x y w ho
  obtain ⟨aa0, aa1, rfl⟩ : ∃ aa0 aa1, l = [aa0, aa1] := by
    match l, hl with
    | [aa0, aa1], _ => exact ⟨aa0, aa1, rfl⟩
  obtain ⟨cc0, cc1, rfl⟩ : ∃ cc0 cc1, m = [cc0, cc1] := by
    match m, hm with
    | [cc0, cc1], _ => exact ⟨cc0, cc1, rfl⟩
  have u3 := Try.underlying3
  have a3 := Try.isAgg3
  have z3 := Try.sizeOf3
  have hS : Try.prog.underlying 23 = some (.struct (Try.prog.fieldsOf 23)) := by kernel_rfl
  have hp : Try.prog.stoodInHeld 23 = false := by kernel_rfl
  have hg : Try.prog.eqGuardType Try.prog.depth 23 = false := by kernel_rfl
  simp only [Ev.ints]
  rw [Sem.run_bind, run_eqGuard_agg w op 23 x y _ _ hg]
  rcases ho with rfl | rfl
  · simp only [Result.andThen_ok]
    rw [run_eql_struct, show (10000 : Nat) = 9999 + 1 from rfl, run_equalIn_agg w 9999 23 _ _ hS hp]
    simp only [Program.fieldsOf, Try.underlying23]
    go_simp
    by_cases h0 : aa0 = cc0 <;> by_cases h1 : aa1 = cc1 <;> simp [h0, h1]
  · simp only [Result.andThen_ok]
    rw [run_neq_struct, show (10000 : Nat) = 9999 + 1 from rfl, run_equalIn_agg w 9999 23 _ _ hS hp]
    simp only [Program.fieldsOf, Try.underlying23]
    go_simp
    by_cases h0 : aa0 = cc0 <;> by_cases h1 : aa1 = cc1 <;> simp [h0, h1]
theorem mixed : Try.prog.follows .mixedOrders = true := by kernel_rfl
/-- A function's contract may be used. -/
def Told (f : Nat) (sp : Rx.Spec) : Prop := (∃ fn, Try.prog.funcs[f]? = some fn ∧ fn.body.isSome = true ∧ (fn.name == "runtime.NumGoroutine") = false) ∧ SpecOk Try.prog f sp
set_option maxHeartbeats 4000000 in
theorem mkOk {X : List (Nat × Rx.Spec)} (h : ∀ p ∈ X, Told p.1 p.2) : EnvOk (mk X) where
  types := look_all (q := fun ty i => Ev.mkTI Try.prog ty = some i) (by
    intro p hp
    simp only [T, List.mem_cons, List.not_mem_nil, or_false] at hp
    rcases hp with rfl | rfl | rfl | rfl | rfl | rfl | rfl | rfl | rfl | rfl | rfl | rfl | rfl | rfl | rfl | rfl <;> kernel_rfl)
  funcs := look_all (q := fun f fn => Try.prog.funcs[f]? = some fn ∧ (fn.name == "runtime.NumGoroutine") = false) (by
    intro p hp
    simp only [F, List.mem_cons, List.not_mem_nil, or_false] at hp
    rcases hp with rfl | rfl | rfl | rfl | rfl | rfl | rfl | rfl | rfl | rfl | rfl | rfl | rfl | rfl | rfl | rfl | rfl | rfl | rfl | rfl | rfl | rfl | rfl | rfl | rfl | rfl | rfl | rfl | rfl | rfl | rfl | rfl | rfl | rfl | rfl | rfl | rfl | rfl | rfl | rfl | rfl | rfl | rfl | rfl | rfl | rfl | rfl | rfl | rfl | rfl | rfl | rfl | rfl | rfl | rfl | rfl | rfl | rfl | rfl | rfl | rfl | rfl | rfl | rfl | rfl | rfl | rfl | rfl | rfl | rfl | rfl | rfl | rfl | rfl | rfl | rfl | rfl | rfl | rfl | rfl | rfl | rfl | rfl | rfl | rfl | rfl | rfl | rfl | rfl | rfl | rfl | rfl | rfl | rfl | rfl | rfl | rfl | rfl | rfl | rfl | rfl | rfl | rfl | rfl | rfl | rfl | rfl | rfl | rfl | rfl | rfl | rfl | rfl | rfl | rfl | rfl <;> exact ⟨by kernel_rfl, by kernel_rfl⟩)
  specs := look_all (q := Told) h
  mixed := mixed
  qs := look_all (q := fun ty ks => Ev.QOk Try.prog ty ks) (by
    intro p hp
    simp only [Q, List.mem_cons, List.not_mem_nil, or_false] at hp
    rcases hp with rfl | rfl
    · exact cchk.qs54
    · exact qs23)
  bo := by
    intro ty hty
    simp only [List.mem_cons, List.not_mem_nil, or_false] at hty
    subst hty
    kernel_rfl
/-- From a function's body to its contract. -/
theorem told {X : List (Nat × Rx.Spec)} (hX : ∀ p ∈ X, Told p.1 p.2) {f n : Nat} {fn : Func} (hf : Try.prog.funcs[f]? = some fn) (h1 : fn.body.isSome = true) (h2 : (fn.name == "runtime.NumGoroutine") = false) {c : Con} (hb : BodyOk (mk X) n fn c) : Told f (specOf c) :=
  ⟨⟨fn, hf, h1, h2⟩, specOf_ok (mkOk hX) hf hb⟩
def sp28 : Rx.Spec := fun args s K => args = [] ∧ K (.bool true) s
set_option maxRecDepth 1000000 in
theorem closed28 : Ev.run ⟨Try.prog, Ev.mkTT Try.prog, Ev.mkFT Try.prog, [], [], [], none⟩ 1000000 28 [] = some true := by kernel_rfl
theorem told28 : Told 28 sp28 := ⟨⟨Try.f28, by kernel_rfl, by kernel_rfl, by kernel_rfl⟩, specTrue_ok (Ev.run_closed mixed closed28)⟩
/-! ### The config -/
abbrev good (a b c d e : Int) : Prop := 8 ≤ a ∧ a ≤ 64 ∧ 7 ≤ b ∧ b ≤ 24 ∧ 4 ≤ c ∧ c ≤ 64 ∧ 1 ≤ d ∧ d ≤ 8 ∧ 2 ≤ e ∧ e ≤ 16
def chk (a b c d e : Int) : Int := if good a b c d e then 0 else 7
theorem chk_eq (x0 x1 x2 x3 x4 : Int) : cchk.r0 x0 x1 x2 x3 x4 = chk x0 x1 x2 x3 x4 := by
  generalize hp : cchk.r0 x0 x1 x2 x3 x4 = p
  simp only [cchk.r0, cchk.z0, cchk.z1, cchk.z2, cchk.z3, cchk.z4, cchk.z5, cchk.z6, cchk.z7, cchk.z8, cchk.z9, cchk.z10, cchk.z11, cchk.z12, cchk.z13, cchk.z14, cchk.z15, cchk.z16, cchk.z17, cchk.z18, cchk.z19, cchk.z20, cchk.z21, cchk.z22, cchk.z23] at hp
  unfold chk good
  repeat' split at hp
  all_goals (split <;> omega)
def sp78 : Rx.Spec := fun args s K => match args with
  | [v] => five v fun a b c d e => K (.int .i64 (chk a b c d e)) s
  | _ => False
theorem told78 : Told 78 sp78 := by
  refine ⟨⟨Try.f78, by kernel_rfl, by kernel_rfl, by kernel_rfl⟩, ?_⟩
  intro args s K h
  unfold sp78 at h
  split at h
  · obtain ⟨a, b, c, d, e, rfl, hI, h⟩ := five_inv h
    refine @specInts_ok Try.prog 78 [five' a b c d e] (.int .i64 (chk a b c d e)) (fun S args' hl => ?_) (fun S => groundT_refl rfl) (fun w => ?_) s K h
    · obtain ⟨v', r, rfl, hv, hr⟩ := hl.cons_inv
      obtain rfl := hr.nil_inv
      rw [ground_eq hv rfl]
    · rw [← chk_eq]
      exact cchk.walk a b c d e ⟨hI.a.1, hI.a.2, hI.b.1, hI.b.2, hI.c.1, hI.c.2, hI.d.1, hI.d.2, hI.e.1, hI.e.2⟩ w
  · exact h.elim
end Go.Proofs.Ytnpgeeajlbglaaa.Fr
