/-
  What 'Admit' and 'After' return, as contracts, for the law on their order. CONDITIONS: numbers are of their kinds. No project text.
-/
import Derived.Test.YtffaikcaenkkhabOrder
namespace Go.Proofs.Ytffaikcaenkkhab.Order
open Go.ChangeShapes Go.WideShapes Go.ChangeAt Go.RowKit Go.Proofs.Ytffaikcaenkkhab.Good

section
variable {x0 x1 x2 x3 x4 o l n : Int}
theorem two (io : In64 o) (il : In64 l) (i : In64 n) (h : E x0 x1 x2 x3 x4 o l n = 0) : good x0 x1 x2 x3 x4 ∧ Spec x0 x1 x2 o l n (K x0 x1 x2 x3 x4 o l n) (E x0 x1 x2 x3 x4 o l n) (A x0 x1 x2 x3 x4 o l n) := by
  by_cases g : good x0 x1 x2 x3 x4
  · exact ⟨g, good_spec io il i g⟩
  · have := (bad_spec (o := o) (l := l) (n := n) g).2
    omega
theorem err (io : In64 o) (il : In64 l) (i : In64 n) (h : E x0 x1 x2 x3 x4 o l n ≠ 0) : K x0 x1 x2 x3 x4 o l n = 0 := by
  by_cases g : good x0 x1 x2 x3 x4
  · have := good_spec io il i g
    unfold Spec at this
    omega
  · exact (bad_spec g).1
theorem bd8 (h0 : In64 x0) (h1 : In64 x1) (h2 : In64 x2) (h3 : In64 x3) (h4 : In64 x4) (io : In64 o) (il : In64 l) (i : In64 n) : cAdm.Bd x0 x1 x2 x3 x4 o l n (chk x0 x1 x2 x3 x4) := by
  have := chk_bd x0 x1 x2 x3 x4
  exact ⟨h0.1, h0.2, h1.1, h1.2, h2.1, h2.2, h3.1, h3.2, h4.1, h4.2, io.1, io.2, il.1, il.2, i.1, i.2, by omega, by omega⟩
theorem bd8' (h0 : In64 x0) (h1 : In64 x1) (h2 : In64 x2) (h3 : In64 x3) (h4 : In64 x4) (io : In64 o) (il : In64 l) (i : In64 n) : cAft.Bd x0 x1 x2 x3 x4 o l n (chk x0 x1 x2 x3 x4) := by
  have := chk_bd x0 x1 x2 x3 x4
  exact ⟨h0.1, h0.2, h1.1, h1.2, h2.1, h2.2, h3.1, h3.2, h4.1, h4.2, io.1, io.2, il.1, il.2, i.1, i.2, by omega, by omega⟩
theorem adm21 (h0 : In64 x0) (h1 : In64 x1) (h2 : In64 x2) (h3 : In64 x3) (h4 : In64 x4) (io : In64 o) (il : In64 l) (i : In64 n) (w : World) :
    Calls Try.prog 21 #[Most.cfg x0 x1 x2 x3 x4, .int .i64 o, .int .i64 l, .int .i64 n] w fun e w' => e = .returned (.tuple #[.int .i64 (K x0 x1 x2 x3 x4 o l n), .int .i64 (E x0 x1 x2 x3 x4 o l n)]) ∧ Below w.heap.size w w' :=
  cAdm.walk x0 x1 x2 x3 x4 o l n (chk x0 x1 x2 x3 x4) (fun I => Ev.csOk_cons (Good.cchk h0 h1 h2 h3 h4 I.i0 I.i1 I.i2 I.i3 I.i4 rfl I.i8 rfl) (Ev.csOk_nil _)) (bd8 h0 h1 h2 h3 h4 io il i) w
theorem aft22 (h0 : In64 x0) (h1 : In64 x1) (h2 : In64 x2) (h3 : In64 x3) (h4 : In64 x4) (io : In64 o) (il : In64 l) (i : In64 n) (w : World) :
    Calls Try.prog 22 #[Most.cfg x0 x1 x2 x3 x4, .int .i64 o, .int .i64 l, .int .i64 n] w fun e w' => e = .returned (.int .i64 (A x0 x1 x2 x3 x4 o l n)) ∧ Below w.heap.size w w' :=
  cAft.walk x0 x1 x2 x3 x4 o l n (chk x0 x1 x2 x3 x4) (fun I => Ev.csOk_cons (Good.cchk h0 h1 h2 h3 h4 I.i0 I.i1 I.i2 I.i3 I.i4 rfl I.i8 rfl) (Ev.csOk_nil _)) (bd8' h0 h1 h2 h3 h4 io il i) w
end
set_option maxRecDepth 1000000 in
theorem closed16 : Ev.run ⟨Try.prog, Ev.mkTT Try.prog, Ev.mkFT Try.prog, [], [], [], none⟩ 1000000 16 [] = some true := by kernel_rfl
theorem awake16 (w : World) : Calls Try.prog 16 #[] w fun e w' => e = .returned (.bool true) ∧ Below w.heap.size w w' := Ev.run_closed (by kernel_rfl) closed16 w
section
variable {x0 x1 x2 x3 x4 o l : Int}
/-- The two boxes of the law. -/
abbrev W2 (w : World) (x0 x1 x2 x3 x4 o l : Int) : World := (w.alloc (.cells #[.int .i64 x0, .int .i64 x1, .int .i64 x2, .int .i64 x3, .int .i64 x4] 23)).alloc (.cells #[.int .i64 o, .int .i64 l] 25)
theorem cells {w wr : World} (h : Below (w.heap.size + 2) (W2 w x0 x1 x2 x3 x4 o l) wr) :
    wr.cell? ⟨w.heap.size, 0, none⟩ = some (.int .i64 x0) ∧ wr.cell? ⟨w.heap.size, 1, none⟩ = some (.int .i64 x1) ∧ wr.cell? ⟨w.heap.size, 2, none⟩ = some (.int .i64 x2) ∧ wr.cell? ⟨w.heap.size, 3, none⟩ = some (.int .i64 x3) ∧ wr.cell? ⟨w.heap.size, 4, none⟩ = some (.int .i64 x4) ∧
      wr.cell? ⟨w.heap.size + 1, 0, none⟩ = some (.int .i64 o) ∧ wr.cell? ⟨w.heap.size + 1, 1, none⟩ = some (.int .i64 l) := by
  refine ⟨?_, ?_, ?_, ?_, ?_, ?_, ?_⟩
  all_goals (rw [h.cell (by simp)]; simp [W2])
end
end Go.Proofs.Ytffaikcaenkkhab.Order
