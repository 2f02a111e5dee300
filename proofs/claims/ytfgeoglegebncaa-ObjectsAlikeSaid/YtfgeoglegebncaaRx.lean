/-
  A calculus for code over rows of numbers of any length, and its soundness. No project text.
-/
import Derived.Test.YtfgeoglegebncaaSnd2
import Derived.StillTail
import Derived.IntWalk
/-
  A calculus for the model's programs over described memory: rows of numbers whose length and whose contents are any; what a piece of code does becomes a proposition about numbers. Definitions. No project text.
-/
namespace Go.Rx
open Go.Ev (TI TK groundT cellsL)

def look {α : Type} : List (Nat × α) → Nat → Option α
  | [], _ => none
  | (j, v) :: l, i => bif Nat.beq j i then some v else look l i
def upd {α : Type} : List (Nat × α) → Nat → α → List (Nat × α)
  | [], _, _ => []
  | (j, v) :: l, i, x => bif Nat.beq j i then (j, x) :: l else (j, v) :: upd l i x
def del {α : Type} : List (Nat × α) → Nat → List (Nat × α)
  | [], _ => []
  | (j, v) :: l, i => bif Nat.beq j i then del l i else (j, v) :: del l i

inductive Blk where
  | cells (cs : List Value) (elem : TypeId)
  /-- A row of n elements, each of numbers of these kinds; there is room for cap. -/
  | row (ro : Bool) (ks : List IntKind) (elem : TypeId) (n cap : Nat) (f : Nat → Nat → Int)
def Blk.ro : Blk → Bool
  | .cells .. => false
  | .row ro .. => ro

structure St where
  h : List (Nat × Blk)
  next : Nat
structure Fr where
  n : Nat
  m : List (Nat × Value)
def Fr.put (t : Fr) : Option Nat → Value → Fr
  | none, _ => t
  | some d, v => bif Nat.ble (d + 1) t.n then ⟨t.n, (d, v) :: del t.m d⟩ else t
def St.alloc (s : St) (b : Blk) : St := ⟨(s.next, b) :: s.h, s.next + 1⟩
def St.set (s : St) (i : Nat) (b : Blk) : St := ⟨upd s.h i b, s.next⟩
def St.drop (s : St) (i : Nat) : St := ⟨del s.h i, s.next⟩

abbrev KV := Value → St → Prop
abbrev KP := Value → Prop
abbrev Spec := List Value → St → KV → Prop
structure Env where
  P : Program
  T : List (Nat × TI)
  F : List (Nat × Func)
  X : Nat → Option Spec
  /-- Types of structures of numbers, with their numbers' kinds; types of truth values. -/
  Q : List (Nat × List IntKind)
  Bo : List Nat

def rsl (b i l c : Nat) : Value := .slice (some ⟨b, i, some 0⟩) l c
def rpt (b i j : Nat) : Value := .pointer (some ⟨b, i, some j⟩)
def ev (x : Operand) (t : Fr) : Option Value :=
  match x with
  | .tmp i => look t.m i
  | .const v => bif groundT v then some v else none
  | .global _ => none
  | .func f => some (.func (.func f) #[] #[])
def evs : List Operand → Fr → Option (List Value)
  | [], _ => some []
  | o :: l, t => match ev o t with
    | some v => match evs l t with
      | some r => some (v :: r)
      | none => none
    | none => none
def kO {α : Type} (o : Option α) (k : α → Prop) : Prop :=
  match o with
  | some v => k v
  | none => False
def br (b : Bool) (p q : Prop) : Prop :=
  match b with
  | true => p
  | false => q
theorem br_intro {b : Bool} {p q : Prop} (h : b = true → p) (h' : b = false → q) : br b p q := by cases b; exact h' rfl; exact h rfl
def lo : IntKind → Int
  | .i64 => -9223372036854775808 | .i32 => -2147483648 | .i16 => -32768 | .i8 => -128 | _ => 0
def hi : IntKind → Int
  | .i64 => 9223372036854775807 | .i32 => 2147483647 | .i16 => 32767 | .i8 => 127 | .u64 => 18446744073709551615 | .u32 => 4294967295 | .u16 => 65535 | .u8 => 255
def signed : IntKind → Bool
  | .i64 | .i32 | .i16 | .i8 => true
  | _ => false
def md : IntKind → Int
  | .u8 => 256 | .u16 => 65536 | .u32 => 4294967296 | _ => 18446744073709551616
def p1 : Int → Int
  | .ofNat n => .ofNat (Nat.succ n)
  | .negSucc _ => 1
def p2 : Int → Int
  | .ofNat n => .ofNat (Nat.pow 2 n)
  | .negSucc _ => 1
def maskB : Int → Bool
  | .ofNat n => (List.range 64).any fun m => Nat.beq (Nat.succ n) (Nat.pow 2 m)
  | .negSucc _ => false
def bts : IntKind → Int
  | .i8 | .u8 => 8 | .i16 | .u16 => 16 | .i32 | .u32 => 32 | _ => 64
def arith (k : IntKind) (z : Int) (K : KP) : Prop := bif signed k then (lo k ≤ z ∧ z ≤ hi k) ∧ K (.int k z) else K (.int k (z % md k))
def shB : BinOp → Bool
  | .shl | .shr => true
  | _ => false
def shI (op : BinOp) (k : IntKind) (a b : Int) (K : KP) : Prop :=
  match op with
  | .shl => (0 ≤ b ∧ b ≤ bts k) ∧ arith k (a * p2 b) K
  | .shr => (0 ≤ b ∧ b ≤ bts k) ∧ K (.int k (a / p2 b))
  | _ => False
def dec (p : Prop) [Decidable p] (K : KP) : Prop := if p then K (.bool true) else K (.bool false)
def decN (p : Prop) [Decidable p] (K : KP) : Prop := if p then K (.bool false) else K (.bool true)
theorem dec_elim {p : Prop} [Decidable p] {K : KP} (h : dec p K) : K (.bool (decide p)) := by
  unfold dec at h
  by_cases e : p
  · rw [decide_eq_true e]; rw [if_pos e] at h; exact h
  · rw [decide_eq_false e]; rw [if_neg e] at h; exact h
theorem decN_elim {p : Prop} [Decidable p] {K : KP} (h : decN p K) : K (.bool (!decide p)) := by
  unfold decN at h
  by_cases e : p
  · rw [decide_eq_true e]; rw [if_pos e] at h; exact h
  · rw [decide_eq_false e]; rw [if_neg e] at h; exact h
theorem if_both {p : Prop} [Decidable p] {x y : Prop} (h : p → x) (h' : ¬ p → y) : if p then x else y := by
  by_cases e : p
  · rw [if_pos e]; exact h e
  · rw [if_neg e]; exact h' e
def binI (op : BinOp) (k : IntKind) (a b : Int) (K : KP) : Prop :=
  match op with
  | .add => arith k (a + b) K
  | .sub => arith k (a - b) K
  | .mul => arith k (a * b) K
  | .quo => (0 ≤ a ∧ a ≤ hi k ∧ 0 < b) ∧ K (.int k (a / b))
  | .rem => (0 ≤ a ∧ 0 < b) ∧ K (.int k (a % b))
  | .eql => dec (a = b) K
  | .neq => decN (a = b) K
  | .lss => dec (a < b) K
  | .leq => dec (a ≤ b) K
  | .gtr => dec (b < a) K
  | .geq => dec (b ≤ a) K
  | .and => (0 ≤ a ∧ a ≤ hi k ∧ b ≤ hi k ∧ maskB b = true) ∧ K (.int k (a % p1 b))
  | _ => False
def kindEq (a b : IntKind) : Bool := Ev.kindEq a b
def intsOf : List IntKind → List Value → Option (List Int)
  | [], [] => some []
  | k :: ks, .int k' z :: l => bif kindEq k k' then (match intsOf ks l with
    | some r => some (z :: r)
    | none => none) else none
  | _, _ => none
def eqX (op : BinOp) (p : Bool) (K : KP) : Prop :=
  match op with
  | .eql => K (.bool p)
  | .neq => K (.bool (!p))
  | _ => False
def eqD (op : BinOp) (p : Prop) [Decidable p] (K : KP) : Prop :=
  match op with
  | .eql => dec p K
  | .neq => decN p K
  | _ => False
def eqL : List Int → List Int → Prop
  | [], [] => True
  | [a], [b] => a = b
  | a :: l, b :: m => a = b ∧ eqL l m
  | _, _ => False
theorem eqL_iff : ∀ l m : List Int, eqL l m ↔ l = m
  | [], [] => by simp [eqL]
  | [a], [b] => by simp [eqL]
  | a :: c :: l, b :: m => by
    have := eqL_iff (c :: l) m
    simp only [eqL]
    rw [this]
    simp
  | [a], b :: c :: m => by simp [eqL]
  | [], _ :: _ => by simp [eqL]
  | _ :: _, [] => by simp [eqL]
instance (l m : List Int) : Decidable (eqL l m) := decidable_of_iff _ (eqL_iff l m).symm
def noA : Option Addr → Bool
  | none => true
  | some _ => false
def binX (E : Env) (op : BinOp) (ty : TypeId) (u v : Value) (K : KP) : Prop :=
  match u, v with
  | .int k a, .int k' b => bif shB op then shI op k a b K else kindEq k k' = true ∧ binI op k a b K
  | .bool a, .bool b => E.Bo.any (Nat.beq ty) = true ∧ eqX op (a == b) K
  | .agg ⟨cs⟩, .agg ⟨ds⟩ => kO (look E.Q ty) fun ks => kO (intsOf ks cs) fun l => kO (intsOf ks ds) fun m => eqD op (eqL l m) K
  | .slice p _ _, .slice none 0 0 => kO (look E.T ty) fun ti => ti.kind = .slice ∧ eqX op (noA p) K
  | _, _ => False

def fieldP (fs : List (Nat × Bool × Nat)) (f : Nat) (k : Nat → Bool → Nat → Prop) : Prop := kO (fs[f]?) fun q => k q.1 q.2.1 q.2.2
def tI (E : Env) (ty : TypeId) (k : TI → Prop) : Prop := kO (look E.T ty) k
def rowVals (f : Nat → Nat → Int) (i : Nat) : Nat → List IntKind → List Value
  | _, [] => []
  | j, k :: ks => .int k (f i j) :: rowVals f i (j + 1) ks
def loadP (s : St) (ti : TI) (a : Addr) (K : KP) : Prop :=
  kO (look s.h a.block) fun o => match o with
  | .cells cs _ => match a.spot with
    | none => bif ti.agg then Nat.ble (a.off + ti.size) cs.length = true ∧ K (.agg ⟨(cs.drop a.off).take ti.size⟩) else kO (cs[a.off]?) K
    | some _ => False
  | .row _ ks _ n _ f => match a.spot with
    | some j => a.off < n ∧ (bif ti.agg then (j = 0 ∧ ti.size = ks.length) ∧ K (.agg ⟨rowVals f a.off 0 ks⟩) else kO (ks[j]?) fun k => K (.int k (f a.off j)))
    | none => False
def addN (a : Nat) (b : Nat) : Nat :=
  match a with
  | 0 => b
  | _ + 1 => a + b
def rowW (s : St) (b : Nat) (k : Nat → Prop) : Prop :=
  kO (look s.h b) fun o => match o with
  | .row _ ks .. => k ks.length
  | .cells .. => False
def iaX (s : St) (ti : TI) (x : Value) (z : Int) (K : KP) : Prop :=
  match x with
  | .slice (some ⟨b, i, some 0⟩) l _ => (ti.kind = .slice ∧ rowW s b fun w => ti.esize = w) ∧ (0 ≤ z ∧ z < (l : Int)) ∧ K (rpt b (addN i z.toNat) 0)
  | .slice (some ⟨b, i, some 1⟩) l _ => (ti.kind = .slice ∧ rowW s b fun w => ti.esize = w) ∧ (0 ≤ z ∧ z < (l : Int)) ∧ K (rpt b (addN i z.toNat) 0)
  | .slice (some ⟨b, i, some (q + 2)⟩) l _ => (ti.kind = .slice ∧ rowW s b fun w => ti.esize = w) ∧ (0 ≤ z ∧ z < (l : Int)) ∧ K (rpt b (addN i (q + z.toNat)) 0)
  | .slice (some ⟨b, o, none⟩) l _ => ti.kind = .slice ∧ (0 ≤ z ∧ z < (l : Int)) ∧ K (.pointer (some ⟨b, o + z.toNat * ti.esize, none⟩))
  | .pointer (some ⟨b, o, none⟩) => ti.kind = .array ∧ (0 ≤ z ∧ z < (ti.len : Int)) ∧ K (.pointer (some ⟨b, o + z.toNat * ti.esize, none⟩))
  | _ => False
def faX (s : St) (ti : TI) (x : Value) (f : Nat) (K : KP) : Prop :=
  fieldP ti.fields f fun o _ n => Nat.ble 1 n = true ∧ match x with
  | .pointer (some ⟨b, i, none⟩) => K (.pointer (some ⟨b, i + o, none⟩))
  | .pointer (some ⟨b, i, some j⟩) => kO (look s.h b) fun _ => K (.pointer (some ⟨b, i, some (j + o)⟩))
  | _ => False
def partV (cs : List Value) (o : Nat) (g : Bool) (n : Nat) (K : KP) : Prop :=
  Nat.ble 1 n = true ∧ (bif g then Nat.ble (o + n) cs.length = true ∧ K (.agg ⟨(cs.drop o).take n⟩) else kO (cs[o]?) K)
def lenV : Value → Option Value
  | .slice _ l _ => some (.int .i64 (l : Int))
  | _ => none
def capV : Value → Option Value
  | .slice _ _ c => some (.int .i64 (c : Int))
  | _ => none
def isSl (E : Env) (ty : TypeId) (k : Prop) : Prop := tI E ty fun ti => ti.kind = .slice ∧ k
def callP (E : Env) (b : Builtin) (ts : List TypeId) (vs : List Value) (K : KP) : Prop :=
  match b, ts, vs with
  | .len, [ty], [v] => isSl E ty (kO (lenV v) K)
  | .cap, [ty], [v] => isSl E ty (kO (capV v) K)
  | .min, [_, _], [.int k a, .int k' b] => kindEq k k' = true ∧ K (.int k (if b < a then b else a))
  | .max, [_, _], [.int k a, .int k' b] => kindEq k k' = true ∧ K (.int k (if a < b then b else a))
  | _, _, _ => False
def kindsOf : List Value → Option (List IntKind)
  | [] => some []
  | .int k (Int.ofNat 0) :: l => match kindsOf l with
    | some ks => some (k :: ks)
    | none => none
  | _ :: _ => none
def elemX (E : Env) (ti : TI) (k : List IntKind → Prop) : Prop := ti.kind = .slice ∧ tI E ti.elem fun te => kO te.zero fun z => kO (kindsOf z) fun ks => Nat.beq te.size ks.length = true ∧ Nat.ble 1 ks.length = true ∧ Nat.ble te.bytes 1000000 = true ∧ k ks

def bnd (d : Int) (t : Fr) (o : Option Operand) (k : Int → Prop) : Prop :=
  match o with
  | none => k d
  | some x => kO (ev x t) fun v => match v with
    | .int _ z => k z
    | _ => False
def fsl (b i l : Nat) : Value := .slice (some ⟨b, i, some 1⟩) l l
def csl (b i z l : Nat) : Value := .slice (some ⟨b, i, some (Nat.succ (Nat.succ z))⟩) l l
def sliceX (s : St) (ks : List IntKind) (x : Value) (t : Fr) (lo hi mx : Option Operand) (K : KP) : Prop :=
  match x with
  | .slice (some ⟨b, i, some 0⟩) l c => (rowW s b fun w => ks.length = w) ∧ bnd 0 t lo fun z1 => bnd (l : Int) t hi fun z2 => bnd (c : Int) t mx fun z3 => (0 ≤ z1 ∧ z1 ≤ z2 ∧ z2 ≤ z3 ∧ z3 ≤ (c : Int)) ∧
      bif mx.isSome then z2 = z3 ∧ (bif lo.isNone then br (decide (z1 < z3)) (K (fsl b (addN i z1.toNat) (z2 - z1).toNat)) (K (rsl b i 0 0)) else K (csl b i z1.toNat (z2 - z1).toNat)) else bif lo.isNone then K (rsl b i z2.toNat z3.toNat) else br (decide (z1 < z3)) (K (rsl b (addN i z1.toNat) (z2 - z1).toNat (z3 - z1).toNat)) (K (rsl b i 0 0))
  | .slice none 0 0 => bnd 0 t lo fun z1 => bnd 0 t hi fun z2 => bnd 0 t mx fun z3 => (z1 = 0 ∧ z2 = 0 ∧ z3 = 0) ∧ K (.slice none 0 0)
  | _ => False

def pureX (E : Env) (o : Op) (t : Fr) (s : St) (K : KP) : Prop :=
  match o with
  | .move x | .assign x => kO (ev x t) K
  | .pick c a b => kO (ev c t) fun v => match v with
    | .bool q => br q (kO (ev a t) K) (kO (ev b t) K)
    | _ => False
  | .load ty a => tI E ty fun ti => kO (ev a t) fun v => match v with
    | .pointer (some a) => loadP s ti a K
    | _ => False
  | .nilCheck x => kO (ev x t) fun v => match v with
    | .pointer (some a) => K (.pointer (some a))
    | .func (.func f) a b => K (.func (.func f) a b)
    | _ => False
  | .fieldAddr ty x f => tI E ty fun ti => kO (ev x t) fun v => faX s ti v f K
  | .field ty x f => tI E ty fun ti => kO (ev x t) fun v => match v with
    | .agg ⟨cs⟩ => fieldP ti.fields f fun o g n => partV cs o g n K
    | _ => False
  | .extract x i => kO (ev x t) fun v => match v with
    | .tuple ⟨vs⟩ => kO (vs[i]?) K
    | _ => False
  | .makeFunc (.func f) a b => kO (evs a.toList t) fun a => kO (evs b.toList t) fun b => K (.func (.func f) ⟨a⟩ ⟨b⟩)
  | .indexAddr ty x ix => tI E ty fun ti => kO (ev x t) fun v => kO (ev ix t) fun i => match i with
    | .int _ z => iaX s ti v z K
    | _ => False
  | .binOp op ty x y _ => kO (ev x t) fun u => kO (ev y t) fun v => binX E op ty u v K
  | .unOp .not _ x => kO (ev x t) fun v => match v with
    | .bool b => K (.bool (!b))
    | _ => False
  | .convert src dst x => tI E src fun ts => tI E dst fun td => kO (ev x t) fun v => match v, ts.kind, td.kind with
    | .int k z, .int _, .int j => bif kindEq k j then K (.int j z) ∧ (lo j ≤ z ∧ z ≤ hi j) else bif signed j then (bif kindEq k .u64 then (lo j ≤ z ∧ z ≤ hi j) ∧ K (.int j z) else K (.int j (j.wrap z))) else K (.int j (z % md j))
    | _, _, _ => False
  | .call ⟨.builtin b, args, ts⟩ => kO (evs args.toList t) fun vs => callP E b ts.toList vs K
  | .build ty parts => tI E ty fun ti => kO (evs (parts.toList.map (·.2)) t) fun vs => kO (Ev.places ti ti.kind) fun pl => kO (Ev.fillL pl (Ev.zipI parts.toList vs) ti.zero) fun r => K (.agg ⟨r⟩)
  | .slice ty x lo hi mx => tI E ty fun ti => elemX E ti fun ks => (mx.isNone || hi.isSome) = true ∧ kO (ev x t) fun v => sliceX s ks v t lo hi mx K
  | _ => False
def pureB : Op → Bool
  | .move _ | .assign _ | .pick .. | .load .. | .nilCheck _ | .fieldAddr .. | .field .. | .extract .. | .makeFunc .. | .indexAddr .. | .binOp .. | .unOp .. | .convert .. | .build .. | .slice .. => true
  | .call ⟨.builtin .len, _, _⟩ | .call ⟨.builtin .cap, _, _⟩ | .call ⟨.builtin .min, _, _⟩ | .call ⟨.builtin .max, _, _⟩ => true
  | _ => false
end Go.Rx

namespace Go.Rx
open Go.Ev (TI TK groundT cellsL)

def intsMany (ks : List IntKind) : Nat → List Value → Option (List Int)
  | 0, [] => some []
  | 0, _ :: _ => none
  | n + 1, l => match intsOf ks (l.take ks.length) with
    | some a => match intsMany ks n (l.drop ks.length) with
      | some r => some (a ++ r)
      | none => none
    | none => none
def ksEq : List IntKind → List IntKind → Bool
  | [], [] => true
  | a :: l, b :: m => kindEq a b && ksEq l m
  | _, _ => false
def litF (w : Nat) (zs : List Int) (i j : Nat) : Int := (zs[i * w + j]?).getD 0
def putF (f : Nat → Nat → Int) (i j : Nat) (z : Int) (a b : Nat) : Int := if a = i ∧ b = j then z else f a b
def putE (f : Nat → Nat → Int) (i : Nat) (zs : List Int) (a b : Nat) : Int := if a = i then (zs[b]?).getD 0 else f a b
def appF (f : Nat → Nat → Int) (l : Nat) (g : Nat → Nat → Int) (i : Nat) (a b : Nat) : Int := if a < l then f a b else g (a - l + i) b
def cpyF (f : Nat → Nat → Int) (i m : Nat) (g : Nat → Nat → Int) (i' : Nat) (a b : Nat) : Int := if i ≤ a ∧ a < i + m then g (a - i + i') b else f a b
def clrF (f : Nat → Nat → Int) (i m : Nat) (a b : Nat) : Int := if i ≤ a ∧ a < i + m then 0 else f a b

def zeroX (ti : TI) (k : List Value → Prop) : Prop := kO ti.zero k
def storeX (s : St) (ti : TI) (a : Addr) (v : Value) (K : St → Prop) : Prop :=
  kO (look s.h a.block) fun o => match o with
  | .cells cs e => match a.spot with
    | none => Nat.beq (cellsL v).length ti.size = true ∧ Ev.oneL (cellsL v) = true ∧ kO (Ev.lsetAll cs a.off (cellsL v)) fun cs' => K (s.set a.block (.cells cs' e))
    | some _ => False
  | .row ro ks e n cap f => ro = false ∧ match a.spot with
    | some j => a.off < n ∧ (bif ti.agg then (j = 0 ∧ ti.size = ks.length) ∧ kO (intsOf ks (cellsL v)) fun zs => K (s.set a.block (.row false ks e n cap (putE f a.off zs)))
        else match v with
          | .int k z => Nat.beq ti.size 1 = true ∧ kO (ks[j]?) fun k' => kindEq k k' = true ∧ K (s.set a.block (.row false ks e n cap (putF f a.off j z)))
          | _ => False)
    | none => False

def srcX (s : St) (ks : List IntKind) (x : Value) (k : Nat → (Nat → Nat → Int) → Nat → Prop) : Prop :=
  match x with
  | .slice none 0 _ => k 0 (fun _ _ => 0) 0
  | .slice (some ⟨b, i, some 0⟩) m _ => kO (look s.h b) fun o => match o with
    | .row _ ks' _ n _ g => ksEq ks ks' = true ∧ i + m ≤ n ∧ k m g i
    | .cells .. => False
  | _ => False
def newRow (s : St) (ks : List IntKind) (e : TypeId) (n : Nat) (f : Nat → Nat → Int) (K : KV) : Prop :=
  ∀ cap, n ≤ cap → K (rsl s.next 0 n (cap - 1 + 1)) (s.alloc (.row false ks e n (cap - 1 + 1) f))
def appX (s : St) (ks : List IntKind) (e : TypeId) (sl x : Value) (K : KV) : Prop :=
  srcX s ks x fun m g i' => m ≤ 100000 ∧ match sl with
  | .slice none 0 0 => br (decide (0 < m)) (newRow s ks e m (appF (fun _ _ => 0) 0 g i') K) (K (.slice none 0 0) s)
  | .slice (some ⟨b, i, some 0⟩) l c => kO (look s.h b) fun o => match o with
    | .row ro ks' e' n cap f => ksEq ks ks' = true ∧ match c with
      | 0 => l = 0 ∧ br (decide (0 < m)) (newRow s ks e m (appF (fun _ _ => 0) 0 g i') K) (K (rsl b i 0 0) s)
      | _ + 1 => (Nat.beq e e' = true ∧ ro = false ∧ i = 0 ∧ l = n ∧ c = cap ∧ l + m ≤ 100000) ∧ newRow (s.drop b) ks e (l + m) (appF f l g i') K
    | .cells .. => False
  | .slice (some ⟨b, i, some 1⟩) l c => c = l ∧ kO (look s.h b) fun o => match o with
    | .row _ ks' _ n _ f => (ksEq ks ks' = true ∧ i + l ≤ n ∧ l + m ≤ 100000 ∧ 0 < m) ∧ newRow s ks e (l + m) (appF (fun a => f (i + a)) l g i') K
    | .cells .. => False
  | _ => False
def copyX (s : St) (ks : List IntKind) (d x : Value) (K : KV) : Prop :=
  srcX s ks x fun m g i' => match d with
  | .slice (some ⟨b, i, some 0⟩) l _ => kO (look s.h b) fun o => match o with
    | .row ro ks' e n cap f => (ro = false ∧ ksEq ks ks' = true ∧ i + l ≤ n) ∧ K (.int .i64 ((Nat.min m l : Nat) : Int)) (s.set b (.row false ks e n cap (cpyF f i (Nat.min m l) g i')))
    | .cells .. => False
  | _ => False
def clearX (s : St) (ks : List IntKind) (d : Value) (K : KV) : Prop :=
  match d with
  | .slice (some ⟨b, i, some 0⟩) l _ => kO (look s.h b) fun o => match o with
    | .row ro ks' e n cap f => (ro = false ∧ i + l ≤ n ∧ ksEq ks ks' = true) ∧ K (.tuple #[]) (s.set b (.row false ks e n cap (clrF f i l)))
    | .cells .. => False
  | .slice none 0 _ => K (.tuple #[]) s
  | _ => False

def cellB (E : Env) (ti : TI) : Bool :=
  match look E.T ti.elem with
  | some te => match te.zero with
    | some z => match kindsOf z with
      | some _ => false
      | none => true
    | none => false
  | none => false
def cellsX (E : Env) (ti : TI) (len : Nat) (vo : Option (List Value)) (parts : Array (Nat × Operand)) (s : St) (K : KV) : Prop :=
  ti.kind = .slice ∧ (Nat.ble 1 len = true ∧ Nat.ble len 1000 = true) ∧ tI E ti.elem fun te => kO te.zero fun z => (Nat.ble 1 te.size = true ∧ Nat.ble te.size 100 = true ∧ Nat.ble te.bytes 1000000 = true) ∧
    kO vo fun vs => kO (Ev.fillL (Ev.placeA te.size) (Ev.zipI parts.toList vs) (some (Ev.repL z len))) fun r => K (.slice (some ⟨s.next, 0, none⟩) len len) (s.alloc (.cells r ti.elem))

abbrev CallK := Nat → List Value → St → KV → Prop
def builtinX (E : Env) (b : Builtin) (ts : List TypeId) (vs : List Value) (s : St) (K : KV) : Prop :=
  match b, ts, vs with
  | .append, [sT, xT], [sl, x] => isSl E xT (tI E sT fun ti => elemX E ti fun ks => appX s ks ti.elem sl x K)
  | .copy, [sT, xT], [d, x] => isSl E xT (tI E sT fun ti => elemX E ti fun ks => copyX s ks d x K)
  | .clear, [sT], [d] => tI E sT fun ti => elemX E ti fun ks => clearX s ks d K
  | _, _, _ => False
def calleeX (C : CallK) (f : Value) (args : List Value) (s : St) (K : KV) : Prop :=
  match f with
  | .func (.func g) ⟨first⟩ ⟨cap⟩ => C g (first ++ (args ++ cap)) s K
  | _ => False
def effX (E : Env) (C : CallK) (o : Op) (t : Fr) (s : St) (K : KV) : Prop :=
  match o with
  | .alloc e => tI E e fun ti => zeroX ti fun z => K (.pointer (some ⟨s.next, 0, none⟩)) (s.alloc (.cells z e))
  | .box e x => kO (ev x t) fun v => K (.pointer (some ⟨s.next, 0, none⟩)) (s.alloc (.cells (cellsL v) e))
  | .store ty a x => tI E ty fun ti => kO (ev a t) fun p => kO (ev x t) fun v => match p with
    | .pointer (some a) => storeX s ti a v fun s' => K (.tuple #[]) s'
    | _ => False
  | .build ty parts => tI E ty fun ti => kO (evs (parts.toList.map (·.2)) t) fun vs => kO (Ev.places ti ti.kind) fun pl => kO (Ev.fillL pl (Ev.zipI parts.toList vs) ti.zero) fun r => K (.agg ⟨r⟩) s
  | .buildSlice ty len parts => tI E ty fun ti => bif cellB E ti then cellsX E ti len (evs (parts.toList.map (·.2)) t) parts s K else elemX E ti fun ks => Nat.ble (Nat.mul len ks.length) 100000 = true ∧ kO (evs (parts.toList.map (·.2)) t) fun vs => tI E ti.elem fun te =>
      kO te.zero fun z => kO (Ev.fillL (Ev.placeA ks.length) (Ev.zipI parts.toList vs) (some (Ev.repL z len))) fun r => kO (intsMany ks len r) fun zs =>
        K (rsl s.next 0 len len) (s.alloc (.row false ks ti.elem len len (litF ks.length zs)))
  | .makeSlice ty l c => tI E ty fun ti => elemX E ti fun ks => kO (ev l t) fun u => kO (ev c t) fun v => match u, v with
    | .int _ z, .int _ z' => (0 ≤ z ∧ z ≤ z' ∧ z' ≤ 100000) ∧ K (rsl s.next 0 z.toNat z'.toNat) (s.alloc (.row false ks ti.elem z.toNat z'.toNat (fun _ _ => 0)))
    | _, _ => False
  | .slice ty x lo hi mx => tI E ty fun ti => elemX E ti fun ks => (mx.isNone || hi.isSome) = true ∧ kO (ev x t) fun v => sliceX s ks v t lo hi mx fun v => K v s
  | .call ⟨.builtin b, args, ts⟩ => kO (evs args.toList t) fun vs => builtinX E b ts.toList vs s K
  | .call ⟨.value f, args, _⟩ => kO (evs args.toList t) fun vs => kO (ev f t) fun f => calleeX C f vs s K
  | _ => False
def opX (E : Env) (C : CallK) (o : Op) (t : Fr) (s : St) (K : KV) : Prop :=
  bif pureB o then pureX E o t s fun v => K v s else effX E C o t s K

inductive Ex where
  | normal | exit (id : Nat) | ret
abbrev QX := Ex → Fr → St → Prop

def guardX (ops : Array Oper) (t : Fr) (g : Option (Nat × Bool)) (yes no : Prop) : Prop :=
  match g with
  | none => yes
  | some (j, want) => kO (ops.toList[j]?) fun o => kO o.dst fun d => kO (look t.m d) fun v => match v with
    | .bool b => br b (bif want then yes else no) (bif want then no else yes)
    | .tuple _ => no
    | _ => False
def opsX (E : Env) (C : CallK) (ops : Array Oper) : List Oper → Fr → St → (Fr → St → Prop) → Prop
  | [], t, s, Q => Q t s
  | o :: l, t, s, Q => guardX ops t o.guard (opX E C o.op t s fun v s' => opsX E C ops l (t.put o.dst v) s' Q) (opsX E C ops l (t.put o.dst (.tuple #[])) s Q)
def pureOps (E : Env) (ops : Array Oper) : List Oper → Fr → St → (Fr → Prop) → Prop
  | [], t, _, Q => Q t
  | o :: l, t, s, Q => guardX ops t o.guard (pureB o.op = true ∧ pureX E o.op t s fun v => pureOps E ops l (t.put o.dst v) s Q) (pureOps E ops l (t.put o.dst (.tuple #[])) s Q)
def drawB (ops : Array Oper) (n : Nat) : Bool := bif Nat.beq n ops.size then Region.lexB .any ops else Region.lexTailB .any ops n
def pickN (ops : Array Oper) : Nat → Nat
  | 0 => 0
  | n + 1 => bif drawB ops (n + 1) && (ops.toList.take (n + 1)).all (fun o => pureB o.op) then n + 1 else pickN ops n
def drawAt (E : Env) (C : CallK) (ops : Array Oper) (t : Fr) (s : St) (Q : Fr → St → Prop) (n : Nat) : Prop := drawB ops n = true ∧ pureOps E ops (ops.toList.take n) t s fun t' => opsX E C ops (ops.toList.drop n) t' s Q
def idxO : List Oper → Nat → List (Nat × Oper)
  | [], _ => []
  | o :: l, i => (i, o) :: idxO l (i + 1)
def waits (hd : List (Nat × Oper)) (o : Oper) : Bool := o.after.toList.all fun e => !Region.binds .any e || hd.any fun p => Nat.beq p.1 e.on
def parts : List (Nat × Oper) → List (Nat × Oper) → List (Nat × Oper) → List (Nat × Oper) × List (Nat × Oper)
  | [], hd, tl => (hd, tl)
  | p :: l, hd, tl => bif pureB p.2.op && waits hd p.2 then parts l (hd ++ [p]) tl else parts l hd (tl ++ [p])
def calmB : Op → Bool
  | .move _ | .assign _ | .extract .. | .build .. | .slice .. => true
  | _ => false
def floatGo (ops : Array Oper) : List (Nat × Oper) → Array Bool → Bool
  | [], _ => true
  | p :: hd, listed => (Region.ready .any ops listed).contains p.1 && (Region.free .any ops listed p.1 && floatGo ops hd (listed.setIfInBounds p.1 true))
def listGo : List (Nat × Oper) → Array Bool → Array Bool
  | [], listed => listed
  | p :: hd, listed => listGo hd (listed.setIfInBounds p.1 true)
def floatB0 (ops : Array Oper) (q : List (Nat × Oper) × List (Nat × Oper)) : Bool := Region.noSelect ops && (Nat.beq (q.1.length + q.2.length) ops.size && floatGo ops q.1 (Array.replicate ops.size false))
def again : List (Nat × Blk) → St → Prop
  | [], _ => True
  | (b, o) :: l, s => look s.h b = some o ∧ again l s
def ancGo (ops : Array Oper) : Nat → List Nat → List Nat
  | 0, m => m
  | j + 1, m => ancGo ops j (bif m.any (Nat.beq j) then (match ops.toList[j]? with
    | some o => (o.after.toList.filter (Region.binds .any)).map (·.on) ++ m
    | none => m) else m)
def storeB : Op → Bool
  | .store .. => true
  | .call ⟨.value (.tmp _), _, _⟩ => true
  | _ => false
def lastB (ops : Array Oper) : Bool :=
  (match ops.toList[ops.size - 1]? with
  | some o => storeB o.op
  | none => false) && (List.range (ops.size - 1)).all (fun i => (ancGo ops ops.size [ops.size - 1]).any (Nat.beq i))
def lastK (ops : Array Oper) : Nat := bif lastB ops then ops.size - 1 else ops.size
def floatB (ops : Array Oper) (q : List (Nat × Oper) × List (Nat × Oper)) : Bool := (q.1.all fun p => !Nat.beq p.1 (lastK ops)) && floatB0 ops q
def execX (E : Env) (C : CallK) (ops : Array Oper) (h0 : List (Nat × Blk)) (j : Nat) (o : Oper) (t : Fr) (s : St) (k : Fr → St → Prop) : Prop :=
  guardX ops t o.guard (bif pureB o.op then pureX E o.op t s fun v => k (t.put o.dst v) s else effX E C o.op t s fun v s' => (bif Nat.beq j (lastK ops) then True else again h0 s') ∧ k (t.put o.dst v) s') (k (t.put o.dst (.tuple #[])) s)
def calmOf (ops : Array Oper) (listed : Array Bool) : List Nat → Option (Nat × Oper)
  | [] => none
  | i :: r => match ops.toList[i]? with
    | some o => bif !Nat.beq i (lastK ops) && (calmB o.op && Region.free .any ops listed i) then some (i, o) else calmOf ops listed r
    | none => calmOf ops listed r
def eachX (ops : Array Oper) (f : Nat → Oper → Prop) : List Nat → Prop
  | [] => True
  | [j] => kO (ops.toList[j]?) (f j)
  | j :: l => kO (ops.toList[j]?) (f j) ∧ eachX ops f l
def treeX (E : Env) (C : CallK) (ops : Array Oper) (h0 : List (Nat × Blk)) : Nat → Array Bool → Fr → St → (Fr → St → Prop) → Prop
  | 0, listed, t, s, Q => (Region.ready .any ops listed).isEmpty = true ∧ Q t s
  | n + 1, listed, t, s, Q => match Region.ready .any ops listed with
    | [] => Q t s
    | i :: l => match calmOf ops listed (i :: l) with
      | some p => execX E C ops h0 p.1 p.2 t s fun t' s' => treeX E C ops h0 n (listed.setIfInBounds p.1 true) t' s' Q
      | none => eachX ops (fun j o => execX E C ops h0 j o t s fun t' s' => treeX E C ops h0 n (listed.setIfInBounds j true) t' s' Q) (i :: l)
def dropL : List Nat → St → St
  | [], s => s
  | b :: l, s => dropL l (s.drop b)
def baseV (ops : Array Oper) (t : Fr) (q : Nat) : Option Value :=
  match ops.toList.find? (fun o => match o.dst with
    | some d => Nat.beq d q
    | none => false) with
  | none => ev (.tmp q) t
  | some o => match o.op with
    | .move x | .assign x => ev x t
    | _ => none
def bases (ops : Array Oper) (t : Fr) : List Oper → List Nat
  | [] => []
  | o :: l => match o.op with
    | .call ⟨.builtin .append, args, _⟩ => match args.toList with
      | .tmp q :: _ => match baseV ops t q with
        | some (.slice (some ⟨b, _, some 0⟩) _ (_ + 1)) => b :: bases ops t l
        | _ => bases ops t l
      | _ => bases ops t l
    | _ => bases ops t l
def keptS (ops : Array Oper) (t : Fr) (s : St) : St := dropL (bases ops t ops.toList) s
def floatAt (E : Env) (C : CallK) (ops : Array Oper) (t : Fr) (s : St) (Q : Fr → St → Prop) (q : List (Nat × Oper) × List (Nat × Oper)) : Prop :=
  floatB ops q = true ∧ pureOps E ops (q.1.map (·.2)) t (keptS ops t s) fun t' => treeX E C ops (keptS ops t s).h q.2.length (listGo q.1 (Array.replicate ops.size false)) t' s Q
def floatX (E : Env) (C : CallK) (ops : Array Oper) (t : Fr) (s : St) (Q : Fr → St → Prop) : Prop := floatAt E C ops t s Q (parts (idxO ops.toList 0) [] [])
def drawY (E : Env) (C : CallK) (ops : Array Oper) (t : Fr) (s : St) (Q : Fr → St → Prop) (n : Nat) : Prop := bif drawB ops n then drawAt E C ops t s Q n else floatX E C ops t s Q
def drawX (E : Env) (C : CallK) (ops : Array Oper) (t : Fr) (s : St) (Q : Fr → St → Prop) : Prop := drawY E C ops t s Q (pickN ops ops.size)

def nm (base : Nat) (ρ : List (Nat × Nat)) (b : Nat) : Option Nat := bif Nat.ble (b + 1) base then some b else look ρ b
def ren (base : Nat) (ρ : List (Nat × Nat)) (p : Option Addr) (q : Option Addr) : Prop :=
  match p, q with
  | none, none => True
  | some ⟨b, i, j⟩, some ⟨b', i', j'⟩ => nm base ρ b = some b' ∧ i = i' ∧ j = j'
  | _, _ => False
mutual
def rv (base : Nat) (ρ : List (Nat × Nat)) : Value → Value → Prop
  | .bool a, .bool b => a = b
  | .int k a, .int k' b => k = k' ∧ a = b
  | .string a, .string b => a = b
  | .pointer p, .pointer q => ren base ρ p q
  | .slice p l c, .slice q l' c' => ren base ρ p q ∧ l = l' ∧ c = c'
  | .nilFunc, .nilFunc => True
  | .nilIface, .nilIface => True
  | .func (.func f) ⟨a⟩ ⟨b⟩, .func (.func g) ⟨a'⟩ ⟨b'⟩ => f = g ∧ rl base ρ a a' ∧ rl base ρ b b'
  | .agg ⟨a⟩, .agg ⟨a'⟩ => rl base ρ a a'
  | .tuple ⟨a⟩, .tuple ⟨a'⟩ => rl base ρ a a'
  | _, _ => False
def rl (base : Nat) (ρ : List (Nat × Nat)) : List Value → List Value → Prop
  | [], [] => True
  | u :: a, v :: b => rv base ρ u v ∧ rl base ρ a b
  | _, _ => False
end
def rb (base : Nat) (ρ : List (Nat × Nat)) : Blk → Blk → Prop
  | .cells a e, .cells b e' => e = e' ∧ rl base ρ a b
  | .row ro ks e n c f, .row ro' ks' e' n' c' f' => ro = ro' ∧ ks = ks' ∧ e = e' ∧ n = n' ∧ c = c' ∧ ∀ i j, i < n → j < ks.length → f i j = f' i j
  | _, _ => False
def rSlots (base : Nat) (ρ : List (Nat × Nat)) (m : List (Nat × Value)) : List (Nat × Value) → Prop
  | [] => True
  | (i, u) :: l => kO (look m i) (rv base ρ u) ∧ rSlots base ρ m l
def rBlks (base : Nat) (ρ : List (Nat × Nat)) (h : List (Nat × Blk)) : List (Nat × Blk) → Prop
  | [] => True
  | (b, o) :: l => (kO (nm base ρ b) fun b' => kO (look h b') (rb base ρ o)) ∧ rBlks base ρ h l
def injB (l : List (Nat × Nat)) : Bool :=
  match l with
  | [] => true
  | (a, b) :: r => r.all (fun x => !Nat.beq x.1 a && !Nat.beq x.2 b) && injB r
def Sub (base : Nat) (ρ : List (Nat × Nat)) (t : Fr) (s : St) (t0 : Fr) (s0 : St) : Prop :=
  (t.n = t0.n ∧ Nat.ble base s0.next = true ∧ injB ρ = true ∧ (ρ.all fun x => Nat.ble base x.1 && Nat.ble (x.1 + 1) s0.next && Nat.ble base x.2) = true) ∧ rSlots base ρ t.m t0.m ∧ rBlks base ρ s.h s0.h

inductive LoopW (base : Nat) (B : Fr → St → QX → Prop) (Q : QX) : Fr → St → Prop
  | mk {t : Fr} {s : St} (R : QX) (h : B t s R) (hn : ∀ t' s', R .normal t' s' → LoopW base B Q t' s') (hq : ∀ e t' s', e ≠ .normal → R e t' s' → Q e t' s') : LoopW base B Q t s
  | sub {t t0 : Fr} {s s0 : St} (ρ : List (Nat × Nat)) (h : Sub base ρ t s t0 s0) (h0 : LoopW base B Q t0 s0) : LoopW base B Q t s

structure LS where
  α : Type
  T : α → Fr
  S : α → St
  I : α → Prop
  m : α → Nat
  ρ0 : List (Nat × Nat)
  ρ1 : List (List (Nat × Nat))
abbrev Ann := Nat → Fr → St → Option (List LS)
def keyC : Code → Nat
  | .region id .. => id
  | .seq a _ => keyC a
  | .block _ a => keyC a
  | .scope a => keyC a
  | .loop a => keyC a
  | .cond _ a _ => keyC a
  | _ => 0
def atE (base : Nat) : List LS → Fr → St → Prop
  | [], _, _ => False
  | [L], t, s => ∃ a, Sub base L.ρ0 t s (L.T a) (L.S a) ∧ L.I a
  | L :: r, t, s => (∃ a, Sub base L.ρ0 t s (L.T a) (L.S a) ∧ L.I a) ∨ atE base r t s
def atR (base : Nat) (m : Nat) (L : LS) : List (List (Nat × Nat)) → Fr → St → Prop
  | [], _, _ => False
  | [ρ], t, s => ∃ a, Sub base ρ t s (L.T a) (L.S a) ∧ L.I a ∧ L.m a < m
  | ρ :: r, t, s => (∃ a, Sub base ρ t s (L.T a) (L.S a) ∧ L.I a ∧ L.m a < m) ∨ atR base m L r t s
def atN (base : Nat) (m : Nat) : List LS → Fr → St → Prop
  | [], _, _ => False
  | [L], t, s => atR base m L L.ρ1 t s
  | L :: r, t, s => atR base m L L.ρ1 t s ∨ atN base m r t s
def rndX (base : Nat) (B : Fr → St → QX → Prop) (Q : QX) (all : List LS) : List LS → Prop
  | [] => True
  | [L] => ∀ a, L.I a → B (L.T a) (L.S a) fun e t' s' => match e with
    | .normal => atN base (L.m a) all t' s'
    | e => Q e t' s'
  | L :: r => (∀ a, L.I a → B (L.T a) (L.S a) fun e t' s' => match e with
    | .normal => atN base (L.m a) all t' s'
    | e => Q e t' s') ∧ rndX base B Q all r
def loopV (base : Nat) (B : Fr → St → QX → Prop) (Q : QX) (Ls : List LS) (t : Fr) (s : St) : Prop := atE base Ls t s ∧ rndX base B Q Ls Ls
def unrX (B : Fr → St → QX → Prop) (Q : QX) : Nat → Fr → St → Prop
  | 0, _, _ => False
  | n + 1, t, s => B t s fun e t' s' => match e with
    | .normal => unrX B Q n t' s'
    | e => Q e t' s'
def loopO (base : Nat) (B : Fr → St → QX → Prop) (Q : QX) (Ls : List LS) (t : Fr) (s : St) : Prop :=
  match Ls with
  | [] => unrX B Q 12 t s
  | L :: r => loopV base B Q (L :: r) t s
theorem unrX_W {base : Nat} {B : Fr → St → QX → Prop} {Q : QX} : ∀ {n : Nat} {t : Fr} {s : St}, unrX B Q n t s → LoopW base B Q t s
  | 0, _, _, h => h.elim
  | n + 1, _, _, h => LoopW.mk _ h (fun _ _ hn => unrX_W hn) fun e t' s' hne h => by
    cases e with
    | normal => exact absurd rfl hne
    | exit id => exact h
    | ret => exact h
def codeX (E : Env) (C : CallK) (A : Ann) (base : Nat) : Code → Fr → St → QX → Prop
  | .skip, t, s, Q => Q .normal t s
  | .label _, t, s, Q => Q .normal t s
  | .region _ ops false, t, s, Q => opsX E C ops ops.toList t s (Q .normal)
  | .region _ ops true, t, s, Q => drawX E C ops t s (Q .normal)
  | .seq a b, t, s, Q => codeX E C A base a t s fun e t' s' => match e with
    | .normal => codeX E C A base b t' s' Q
    | e => Q e t' s'
  | .cond c a b, t, s, Q => kO (ev c t) fun v => match v with
    | .bool q => br q (codeX E C A base a t s Q) (codeX E C A base b t s Q)
    | _ => False
  | .block id b, t, s, Q => codeX E C A base b t s fun e t' s' => match e with
    | .exit i => bif Nat.beq i id then Q .normal t' s' else Q (.exit i) t' s'
    | e => Q e t' s'
  | .loop b, t, s, Q => match A (keyC b) t s with
    | none => LoopW base (codeX E C A base b) Q t s
    | some L => loopO base (codeX E C A base b) Q L t s
  | .exit id, t, s, Q => Q (.exit id) t s
  | .scope b, t, s, Q => codeX E C A base b t s Q
  | .ret, t, s, Q => Q .ret t s
  | _, _, _, _ => False

def resX1 (E : Env) (t : Fr) (s : St) (r : ResultVar) (k : Value → Prop) : Prop :=
  match r with
  | .tmp i => kO (look t.m i) k
  | .cell a ty => kO (look t.m a) fun v => match v with
    | .pointer (some a) => tI E ty fun ti => loadP s ti a k
    | _ => False
def resX (E : Env) (t : Fr) (s : St) : List ResultVar → (List Value → Prop) → Prop
  | [], k => k []
  | r :: l, k => resX1 E t s r fun v => resX E t s l fun vs => k (v :: vs)
def tupV : List Value → Value
  | [v] => v
  | vs => .tuple ⟨vs⟩
def argM : Nat → List Value → List (Nat × Value)
  | _, [] => []
  | i, v :: l => (i, v) :: argM (i + 1) l
def bodyX (E : Env) (C : CallK) (A : Ann) (fn : Func) (args : List Value) (s : St) (K : KV) : Prop :=
  kO fn.body fun c => Nat.ble args.length fn.ntmps = true ∧ codeX E C A s.next c ⟨fn.ntmps, argM 0 args⟩ s fun e t' s' => match e with
    | .exit _ => False
    | _ => resX E t' s' fn.results.toList fun vs => K (tupV vs) s'
abbrev AnnI := Nat → List Value → St → Ann
def callI (E : Env) (I : AnnI) : Nat → CallK
  | 0 => fun _ _ _ _ => False
  | n + 1 => fun f args s K => match E.X f with
    | some sp => sp args s K
    | none => kO (look E.F f) fun fn => bodyX E (callI E I n) (I f args s) fn args s K
def noI : AnnI := fun _ _ _ _ _ _ => some []
def callN (E : Env) (n : Nat) : CallK := callI E noI n
end Go.Rx

namespace Go.Rx
open Go.RowKit (Below)
open Go.Ev (TI TK groundT cellsL sizeAt aggAt aggOf TIs run_loadCells run_storeCells Wrote add_none)

structure Loc where
  b : Nat
  o : Nat
  w : Nat
abbrev Sig := Nat → Option Loc
def Le (S S' : Sig) : Prop := ∀ b x, S b = some x → S' b = some x
theorem Le.refl (S : Sig) : Le S S := fun _ _ h => h
theorem Le.trans {S S' S'' : Sig} (h : Le S S') (h' : Le S' S'') : Le S S'' := fun b x e => h' b x (h b x e)

inductive VR (S : Sig) : Value → Value → Prop
  | bool (b : Bool) : VR S (.bool b) (.bool b)
  | int (k : IntKind) (n : Int) : VR S (.int k n) (.int k n)
  | str (s : ByteArray) : VR S (.string s) (.string s)
  | ptrN : VR S (.pointer none) (.pointer none)
  | ptr {b : Nat} {x : Loc} (off : Nat) (h : S b = some x) : VR S (.pointer (some ⟨b, off, none⟩)) (.pointer (some ⟨x.b, x.o + off, none⟩))
  | rpt {b : Nat} {x : Loc} (i j : Nat) (h : S b = some x) : VR S (.pointer (some ⟨b, i, some j⟩)) (.pointer (some ⟨x.b, x.o + i * x.w + j, none⟩))
  | slN (l c : Nat) : VR S (.slice none l c) (.slice none l c)
  | sl {b : Nat} {x : Loc} (off l c : Nat) (h : S b = some x) : VR S (.slice (some ⟨b, off, none⟩) l c) (.slice (some ⟨x.b, x.o + off, none⟩) l c)
  | rsl {b : Nat} {x : Loc} (i l c : Nat) (h : S b = some x) : VR S (.slice (some ⟨b, i, some 0⟩) l c) (.slice (some ⟨x.b, x.o + i * x.w, none⟩) l c)
  /-- A slice that has just the room that it takes. -/
  | full {b : Nat} {x : Loc} (i l : Nat) (h : S b = some x) : VR S (.slice (some ⟨b, i, some 1⟩) l l) (.slice (some ⟨x.b, x.o + i * x.w, none⟩) l l)
  /-- The same, behind elements that are left out. -/
  | cut {b : Nat} {x : Loc} (i z l : Nat) (h : S b = some x) : VR S (.slice (some ⟨b, i, some (z + 2)⟩) l l) (.slice (some ⟨x.b, x.o + (i + if l = 0 then 0 else z) * x.w, none⟩) l l)
  | mapN : VR S (.map none) (.map none)
  | func (f : FuncId) {a a' b b' : List Value} (ha : a.length = a'.length) (ha' : ∀ (i : Nat) v v', a[i]? = some v → a'[i]? = some v' → VR S v v')
      (hb : b.length = b'.length) (hb' : ∀ (i : Nat) v v', b[i]? = some v → b'[i]? = some v' → VR S v v') : VR S (.func (.func f) ⟨a⟩ ⟨b⟩) (.func (.func f) ⟨a'⟩ ⟨b'⟩)
  | nilFunc : VR S .nilFunc .nilFunc
  | nilIface : VR S .nilIface .nilIface
  | iface (t : TypeId) {v v' : Value} (h : VR S v v') : VR S (.iface t v) (.iface t v')
  | agg {a a' : List Value} (ha : a.length = a'.length) (ha' : ∀ (i : Nat) v v', a[i]? = some v → a'[i]? = some v' → VR S v v') : VR S (.agg ⟨a⟩) (.agg ⟨a'⟩)
  | tuple {a a' : List Value} (ha : a.length = a'.length) (ha' : ∀ (i : Nat) v v', a[i]? = some v → a'[i]? = some v' → VR S v v') : VR S (.tuple ⟨a⟩) (.tuple ⟨a'⟩)

def LR (S : Sig) (a a' : List Value) : Prop := a.length = a'.length ∧ ∀ (i : Nat) v v', a[i]? = some v → a'[i]? = some v' → VR S v v'

theorem VR.mono {S S' : Sig} (hle : Le S S') {v v' : Value} (h : VR S v v') : VR S' v v' := by
  induction h with
  | bool b => exact .bool b
  | int k n => exact .int k n
  | str s => exact .str s
  | ptrN => exact .ptrN
  | ptr off h => exact .ptr off (hle _ _ h)
  | rpt i j h => exact .rpt i j (hle _ _ h)
  | slN l c => exact .slN l c
  | sl off l c h => exact .sl off l c (hle _ _ h)
  | rsl i l c h => exact .rsl i l c (hle _ _ h)
  | full i l h => exact .full i l (hle _ _ h)
  | cut i z l h => exact .cut i z l (hle _ _ h)
  | mapN => exact .mapN
  | func f ha _ hb _ iha ihb => exact .func f ha iha hb ihb
  | nilFunc => exact .nilFunc
  | nilIface => exact .nilIface
  | iface t _ ih => exact .iface t ih
  | agg ha _ ih => exact .agg ha ih
  | tuple ha _ ih => exact .tuple ha ih
theorem LR.mono {S S' : Sig} (hle : Le S S') {a a' : List Value} (h : LR S a a') : LR S' a a' := ⟨h.1, fun i v v' e e' => (h.2 i v v' e e').mono hle⟩
theorem LR.nil {S : Sig} : LR S [] [] := ⟨rfl, fun i v v' e => by simp at e⟩
theorem LR.cons {S : Sig} {x x' : Value} {a a' : List Value} (hx : VR S x x') (h : LR S a a') : LR S (x :: a) (x' :: a') := by
  refine ⟨by simp [h.1], fun i v v' e e' => ?_⟩
  cases i with
  | zero => simp at e e'; subst e; subst e'; exact hx
  | succ i => simp at e e'; exact h.2 i v v' e e'
theorem LR.head {S : Sig} {x x' : Value} {a a' : List Value} (h : LR S (x :: a) (x' :: a')) : VR S x x' := h.2 0 x x' rfl rfl
theorem LR.tail {S : Sig} {x x' : Value} {a a' : List Value} (h : LR S (x :: a) (x' :: a')) : LR S a a' :=
  ⟨by have := h.1; simpa using this, fun i v v' e e' => h.2 (i + 1) v v' (by simpa using e) (by simpa using e')⟩
theorem LR.nil_inv {S : Sig} {a' : List Value} (h : LR S [] a') : a' = [] := by
  have := h.1
  cases a' with
  | nil => rfl
  | cons x xs => simp at this
theorem LR.cons_inv {S : Sig} {x : Value} {a b : List Value} (h : LR S (x :: a) b) : ∃ x' a', b = x' :: a' ∧ VR S x x' ∧ LR S a a' := by
  cases b with
  | nil => have := h.1; simp at this
  | cons x' a' => exact ⟨x', a', rfl, h.head, h.tail⟩
theorem LR.append {S : Sig} {a a' b b' : List Value} (h : LR S a a') (k : LR S b b') : LR S (a ++ b) (a' ++ b') := by
  refine ⟨by simp [h.1, k.1], fun i v v' e e' => ?_⟩
  rw [List.getElem?_append] at e e'
  by_cases hi : i < a.length
  · rw [if_pos hi] at e
    rw [if_pos (by rw [← h.1]; exact hi)] at e'
    exact h.2 i v v' e e'
  · rw [if_neg hi] at e
    rw [if_neg (by rw [← h.1]; exact hi), ← h.1] at e'
    exact k.2 _ v v' e e'
theorem LR.take {S : Sig} {a a' : List Value} (h : LR S a a') (n : Nat) : LR S (a.take n) (a'.take n) := by
  refine ⟨by simp [h.1], fun i v v' e e' => ?_⟩
  rw [List.getElem?_take] at e e'
  split at e
  · rename_i hi
    rw [if_pos hi] at e'
    exact h.2 i v v' e e'
  · cases e
theorem LR.drop {S : Sig} {a a' : List Value} (h : LR S a a') (n : Nat) : LR S (a.drop n) (a'.drop n) := by
  refine ⟨by simp [h.1], fun i v v' e e' => ?_⟩
  rw [List.getElem?_drop] at e e'
  exact h.2 _ v v' e e'
theorem LR.get {S : Sig} {a a' : List Value} (h : LR S a a') {i : Nat} {v : Value} (e : a[i]? = some v) : ∃ v', a'[i]? = some v' ∧ VR S v v' := by
  have hi : i < a.length := (List.getElem?_eq_some_iff.1 e).1
  have hi' : i < a'.length := h.1 ▸ hi
  exact ⟨a'[i], List.getElem?_eq_getElem hi', h.2 i v _ e (List.getElem?_eq_getElem hi')⟩
theorem VR.undef {S : Sig} : VR S (.tuple #[]) (.tuple #[]) := .tuple (a := []) (a' := []) rfl (fun i v v' e => by simp at e)
theorem VR.cells {S : Sig} {v v' : Value} (h : VR S v v') : LR S (cellsL v) v'.cells.toList := by
  cases h with
  | agg ha ha' => exact ⟨ha, ha'⟩
  | func f ha ha' hb hb' => exact .cons (.func f ha ha' hb hb') .nil
  | iface t h => exact .cons (.iface t h) .nil
  | tuple ha ha' => exact .cons (.tuple ha ha') .nil
  | ptr off h => exact .cons (.ptr off h) .nil
  | rpt i j h => exact .cons (.rpt i j h) .nil
  | sl off l c h => exact .cons (.sl off l c h) .nil
  | rsl i l c h => exact .cons (.rsl i l c h) .nil
  | full i l h => exact .cons (.full i l h) .nil
  | cut i z l h => exact .cons (.cut i z l h) .nil
  | bool b => exact .cons (.bool b) .nil
  | int k n => exact .cons (.int k n) .nil
  | str s => exact .cons (.str s) .nil
  | ptrN => exact .cons .ptrN .nil
  | slN l c => exact .cons (.slN l c) .nil
  | mapN => exact .cons .mapN .nil
  | nilFunc => exact .cons .nilFunc .nil
  | nilIface => exact .cons .nilIface .nil
theorem VR.oneCell {S : Sig} {v v' : Value} (h : VR S v v') (g : v.oneCell' = true) : v'.oneCell' = true := by
  cases h <;> first | rfl | (simp [Value.oneCell'] at g)
theorem LR.oneCells {S : Sig} : ∀ {a a' : List Value}, LR S a a' → (∀ v ∈ a, v.oneCell' = true) → ∀ v ∈ a', v.oneCell' = true
  | [], a', h, _ => by rw [h.nil_inv]; intro v hv; cases hv
  | x :: xs, a', h, g => by
    obtain ⟨x', xs', rfl, h1, h2⟩ := h.cons_inv
    intro v hv
    rcases List.mem_cons.1 hv with rfl | hv
    · exact h1.oneCell (g x (by simp))
    · exact h2.oneCells (fun u hu => g u (by simp [hu])) v hv

theorem groundS_refl {S : Sig} {v : Value} (g : Ev.groundS v = true) : VR S v v := by
  unfold Ev.groundS at g
  split at g <;> first | exact .bool _ | exact .int _ _ | exact .str _ | exact .nilFunc | exact .nilIface | exact .ptrN | exact .mapN | exact .slN _ _ | exact .func _ rfl (fun i v v' e => by simp at e) rfl (fun i v v' e => by simp at e) | cases g
theorem groundL_refl {S : Sig} : ∀ {a : List Value}, a.all Ev.groundS = true → LR S a a
  | [], _ => .nil
  | x :: xs, g => by simp at g; exact .cons (groundS_refl g.1) (groundL_refl (by simpa using g.2))
theorem groundA_refl {S : Sig} {v : Value} (g : Ev.groundA v = true) : VR S v v := by
  unfold Ev.groundA at g
  split at g
  · have := groundL_refl (S := S) g; exact .agg this.1 this.2
  · have := groundL_refl (S := S) g; exact .iface _ (.agg this.1 this.2)
  · exact .iface _ (groundS_refl g)
  · exact groundS_refl g
theorem groundT_refl {S : Sig} {v : Value} (g : groundT v = true) : VR S v v := by
  unfold Ev.groundT at g
  split at g
  · rename_i vs
    have key : ∀ l : List Value, l.all Ev.groundA = true → LR S l l := by
      intro l
      induction l with
      | nil => exact fun _ => .nil
      | cons x xs ih => intro h; simp at h; exact .cons (groundA_refl h.1) (ih (by simpa using h.2))
    have := key _ g
    exact .tuple this.1 this.2
  · exact groundA_refl g

theorem groundS_eq {S : Sig} {v v' : Value} (h : VR S v v') (g : Ev.groundS v = true) : v' = v := by
  cases h with
  | func f ha ha' hb hb' =>
    rename_i a a' b b'
    cases a with
    | cons x xs => simp [Ev.groundS] at g
    | nil =>
      cases b with
      | cons x xs => simp [Ev.groundS] at g
      | nil =>
        have e1 : a' = [] := by cases a' with | nil => rfl | cons y ys => simp at ha
        have e2 : b' = [] := by cases b' with | nil => rfl | cons y ys => simp at hb
        subst e1; subst e2; rfl
  | _ => first | rfl | (simp [Ev.groundS] at g)
theorem groundL_eq {S : Sig} : ∀ {a a' : List Value}, LR S a a' → a.all Ev.groundS = true → a' = a
  | [], a', h, _ => h.nil_inv
  | x :: xs, a', h, g => by
    obtain ⟨x', xs', rfl, h1, h2⟩ := h.cons_inv
    simp at g
    rw [groundS_eq h1 g.1, groundL_eq h2 (by simpa using g.2)]
theorem groundA_eq {S : Sig} {v v' : Value} (h : VR S v v') (g : Ev.groundA v = true) : v' = v := by
  cases h with
  | agg ha ha' => simp only [Ev.groundA] at g; rw [groundL_eq ⟨ha, ha'⟩ g]
  | iface t h =>
    cases h with
    | agg ha ha' => simp only [Ev.groundA] at g; rw [groundL_eq ⟨ha, ha'⟩ g]
    | func f ha ha' hb hb' => simp only [Ev.groundA] at g; rw [groundS_eq (.func f ha ha' hb hb') g]
    | iface t h => simp [Ev.groundA, Ev.groundS] at g
    | tuple ha ha' => simp [Ev.groundA, Ev.groundS] at g
    | ptr off h => simp [Ev.groundA, Ev.groundS] at g
    | rpt i j h => simp [Ev.groundA, Ev.groundS] at g
    | sl off l c h => simp [Ev.groundA, Ev.groundS] at g
    | rsl i l c h => simp [Ev.groundA, Ev.groundS] at g
    | full i l h => simp [Ev.groundA, Ev.groundS] at g
    | cut i z l h => simp [Ev.groundA, Ev.groundS] at g
    | _ => rfl
  | func f ha ha' hb hb' => simp only [Ev.groundA] at g; exact groundS_eq (.func f ha ha' hb hb') g
  | tuple ha ha' => simp [Ev.groundA, Ev.groundS] at g
  | ptr off h => simp [Ev.groundA, Ev.groundS] at g
  | rpt i j h => simp [Ev.groundA, Ev.groundS] at g
  | sl off l c h => simp [Ev.groundA, Ev.groundS] at g
  | rsl i l c h => simp [Ev.groundA, Ev.groundS] at g
  | full i l h => simp [Ev.groundA, Ev.groundS] at g
  | cut i z l h => simp [Ev.groundA, Ev.groundS] at g
  | _ => rfl
theorem ground_eq {S : Sig} {v v' : Value} (h : VR S v v') (g : groundT v = true) : v' = v := by
  unfold Ev.groundT at g
  split at g
  · rename_i vs
    cases h with
    | tuple ha ha' =>
      rename_i a'
      have key : ∀ l l' : List Value, LR S l l' → l.all Ev.groundA = true → l' = l := by
        intro l
        induction l with
        | nil => intro l' h _; exact h.nil_inv
        | cons x xs ih =>
          intro l' h g
          obtain ⟨x', r, rfl, h1, h2⟩ := h.cons_inv
          simp at g
          rw [groundA_eq h1 g.1, ih r h2 (by simpa using g.2)]
      rw [key vs a' ⟨ha, ha'⟩ g]
  · exact groundA_eq h g

theorem look_upd {α : Type} : ∀ (l : List (Nat × α)) (i : Nat) (x : α) (j : Nat), look (upd l i x) j = if j = i then (look l i).map (fun _ => x) else look l j
  | [], i, x, j => by simp [upd, look]
  | (k, v) :: l, i, x, j => by
    simp only [upd]
    cases hk : Nat.beq k i with
    | true =>
      obtain rfl := Nat.eq_of_beq_eq_true hk
      simp only [cond_true, look, hk, Option.map_some]
      by_cases h : j = k
      · subst h; simp
      · have : Nat.beq k j = false := by cases hb : Nat.beq k j with | true => exact absurd (Nat.eq_of_beq_eq_true hb).symm h | false => rfl
        simp [this, h]
    | false =>
      simp only [cond_false, look, hk]
      cases hj : Nat.beq k j with
      | true =>
        obtain rfl := Nat.eq_of_beq_eq_true hj
        have : ¬ k = i := fun e => by rw [e, Nat.beq_refl] at hk; cases hk
        simp [this]
      | false =>
        simp only [cond_false]
        exact look_upd l i x j
theorem look_del {α : Type} : ∀ (l : List (Nat × α)) (i j : Nat), look (del l i) j = if j = i then none else look l j
  | [], i, j => by simp [del, look]
  | (k, v) :: l, i, j => by
    simp only [del]
    cases hk : Nat.beq k i with
    | true =>
      obtain rfl := Nat.eq_of_beq_eq_true hk
      simp only [cond_true, look]
      rw [look_del l k j]
      by_cases h : j = k
      · simp [h]
      · have : Nat.beq k j = false := by cases hb : Nat.beq k j with | true => exact absurd (Nat.eq_of_beq_eq_true hb).symm h | false => rfl
        simp [this, h]
    | false =>
      simp only [cond_false, look]
      cases hj : Nat.beq k j with
      | true =>
        obtain rfl := Nat.eq_of_beq_eq_true hj
        have : ¬ k = i := fun e => by rw [e, Nat.beq_refl] at hk; cases hk
        simp [this]
      | false =>
        simp only [cond_false]
        exact look_del l i j
theorem look_cons {α : Type} (l : List (Nat × α)) (i : Nat) (x : α) (j : Nat) : look ((i, x) :: l) j = if j = i then some x else look l j := by
  simp only [look]
  cases hj : Nat.beq i j with
  | true => obtain rfl := Nat.eq_of_beq_eq_true hj; simp
  | false =>
    have : ¬ j = i := fun e => by rw [e, Nat.beq_refl] at hj; cases hj
    simp [this]

def BR (S : Sig) (o : Blk) (x : Loc) (h : Option Obj) : Prop :=
  match o with
  | .cells cs e => ∃ C fr, h = some (.cells C e fr) ∧ LR S cs ((C.toList.drop x.o).take cs.length) ∧ x.o + cs.length ≤ C.size ∧ ∀ i, i < C.size → ¬ (fr.1 ≤ i ∧ i < fr.2)
  | .row ro ks e n cap f => x.w = ks.length ∧ ((ro = true ∧ n = 0) ∨ ∃ C fr, h = some (.cells C e fr) ∧ (ro = false → n ≤ cap) ∧ x.o + n * ks.length ≤ C.size ∧ (ro = false → x.o + cap * ks.length ≤ C.size) ∧
      (∀ (i j : Nat) k, i < n → ks[j]? = some k → C[x.o + i * ks.length + j]? = some (.int k (f i j))) ∧ (ro = false → ∀ i, i < C.size → ¬ (fr.1 ≤ i ∧ i < fr.2)))
theorem BR.row_w {S : Sig} {ro : Bool} {ks : List IntKind} {e : TypeId} {n cap : Nat} {f : Nat → Nat → Int} {x : Loc} {h : Option Obj} (hb : BR S (.row ro ks e n cap f) x h) : x.w = ks.length := hb.1
theorem BR.row_get {S : Sig} {ro : Bool} {ks : List IntKind} {e : TypeId} {n cap : Nat} {f : Nat → Nat → Int} {x : Loc} {h : Option Obj} (hb : BR S (.row ro ks e n cap f) x h) (hn : ro = false ∨ 0 < n) :
    ∃ C fr, h = some (.cells C e fr) ∧ x.w = ks.length ∧ (ro = false → n ≤ cap) ∧ x.o + n * ks.length ≤ C.size ∧ (ro = false → x.o + cap * ks.length ≤ C.size) ∧
      (∀ (i j : Nat) k, i < n → ks[j]? = some k → C[x.o + i * ks.length + j]? = some (.int k (f i j))) ∧ (ro = false → ∀ i, i < C.size → ¬ (fr.1 ≤ i ∧ i < fr.2)) := by
  obtain ⟨h1, h2⟩ := hb
  rcases h2 with ⟨h3, h4⟩ | ⟨C, fr, h3, h4⟩
  · rcases hn with h5 | h5
    · rw [h3] at h5; cases h5
    · omega
  · exact ⟨C, fr, h3, h1, h4⟩
theorem BR.row_mk {S : Sig} {ro : Bool} {ks : List IntKind} {e : TypeId} {n cap : Nat} {f : Nat → Nat → Int} {x : Loc} {h : Option Obj} {C : Array Value} {fr : Nat × Nat} (h1 : h = some (.cells C e fr)) (h2 : x.w = ks.length) (h3 : ro = false → n ≤ cap) (h4 : x.o + n * ks.length ≤ C.size) (h5 : ro = false → x.o + cap * ks.length ≤ C.size)
    (h6 : ∀ (i j : Nat) k, i < n → ks[j]? = some k → C[x.o + i * ks.length + j]? = some (.int k (f i j))) (h7 : ro = false → ∀ i, i < C.size → ¬ (fr.1 ≤ i ∧ i < fr.2)) : BR S (.row ro ks e n cap f) x h := ⟨h2, .inr ⟨C, fr, h1, h3, h4, h5, h6, h7⟩⟩
structure Keeps (B : Nat → Prop) (w0 w : World) : Prop where
  os : w.os = w0.os
  tape : w.tape = w0.tape
  output : w.output = w0.output
  size : w0.heap.size ≤ w.heap.size
  block : ∀ k, B k → w.heap[k]? = w0.heap[k]?
structure HR (B : Nat → Prop) (w0 : World) (S : Sig) (s : St) (w : World) : Prop where
  blk : ∀ b o, look s.h b = some o → ∃ x, S b = some x ∧ BR S o x w.heap[x.b]? ∧ (o.ro = true → B x.b) ∧ (o.ro = false → ¬ B x.b)
  inj : ∀ b b' o o' x x', look s.h b = some o → look s.h b' = some o' → S b = some x → S b' = some x' → o.ro = false → x.b = x'.b → b = b'
  fresh : ∀ b, s.next ≤ b → S b = none
  bound : ∀ b x, S b = some x → x.b < w.heap.size
  below : Keeps B w0 w
  root : ∀ x, B x → x < w0.heap.size

theorem BR.mono {S S' : Sig} (hle : Le S S') {o : Blk} {x : Loc} {h : Option Obj} (hb : BR S o x h) : BR S' o x h := by
  cases o with
  | cells cs e => obtain ⟨C, fr, h1, h2, h3⟩ := hb; exact ⟨C, fr, h1, h2.mono hle, h3⟩
  | row ro ks e n cap f => exact hb

theorem HR.drew {B : Nat → Prop} {w0 : World} {S : Sig} {s : St} {w : World} (h : HR B w0 S s w) (k : Nat) : HR B w0 S s { w with drawn := k } :=
  ⟨h.blk, h.inj, h.fresh, h.bound, ⟨h.below.os, h.below.tape, h.below.output, h.below.size, h.below.block⟩, h.root⟩

theorem HR.alloc {B : Nat → Prop} {w0 : World} {S : Sig} {s : St} {w w' : World} (h : HR B w0 S s w) {o : Blk} (hro : o.ro = false) (wd : Nat)
    {obj : Obj} (hw : w'.heap = w.heap.push obj) (hos : w'.os = w.os) (ht : w'.tape = w.tape) (hout : w'.output = w.output) (hb : ∀ S', Le S S' → BR S' o ⟨w.heap.size, 0, wd⟩ (some obj)) :
    ∃ S', Le S S' ∧ S' s.next = some ⟨w.heap.size, 0, wd⟩ ∧ HR B w0 S' (s.alloc o) w' := by
  let S' : Sig := fun b => if b = s.next then some ⟨w.heap.size, 0, wd⟩ else S b
  have hnew : S' s.next = some ⟨w.heap.size, 0, wd⟩ := by simp [S']
  have hold : ∀ b, b ≠ s.next → S' b = S b := fun b hb => by simp [S', hb]
  have hle : Le S S' := fun b x e => by
    by_cases hb : b = s.next
    · rw [hb, h.fresh _ (Nat.le_refl _)] at e; cases e
    · rw [hold b hb]; exact e
  have hget : ∀ x, x < w.heap.size → w'.heap[x]? = w.heap[x]? := fun x hx => by rw [hw, Array.getElem?_push, if_neg (by omega)]
  have hlast : w'.heap[w.heap.size]? = some obj := by rw [hw, Array.getElem?_push, if_pos rfl]
  have hsz : w'.heap.size = w.heap.size + 1 := by rw [hw]; simp
  have hlk : ∀ b, look (s.alloc o).h b = if b = s.next then some o else look s.h b := fun b => look_cons s.h s.next o b
  have hnB : ¬ B w.heap.size := fun hB => by have := h.root _ hB; have := h.below.size; omega
  refine ⟨S', hle, hnew, ⟨?_, ?_, ?_, ?_, ?_, h.root⟩⟩
  · intro b o' hb'
    rw [hlk] at hb'
    by_cases e : b = s.next
    · rw [if_pos e] at hb'
      cases hb'
      refine ⟨_, e ▸ hnew, by rw [hlast]; exact hb S' hle, fun e => (by rw [hro] at e; cases e), fun _ => hnB⟩
    · rw [if_neg e] at hb'
      obtain ⟨x, h1, h2, h3⟩ := h.blk b o' hb'
      exact ⟨x, hle _ _ h1, by rw [hget x.b (h.bound _ _ h1)]; exact h2.mono hle, h3⟩
  · intro b b' o1 o2 x x' h1 h2 h3 h4 hr hxx
    rw [hlk] at h1 h2
    by_cases e : b = s.next
    · by_cases e' : b' = s.next
      · rw [e, e']
      · rw [if_neg e'] at h2
        rw [hold b' e'] at h4
        rw [e, hnew] at h3
        obtain rfl := Option.some.inj h3
        exact absurd (h.bound _ _ h4) (by rw [← hxx]; simp)
    · rw [if_neg e] at h1
      rw [hold b e] at h3
      by_cases e' : b' = s.next
      · rw [e', hnew] at h4
        obtain rfl := Option.some.inj h4
        exact absurd (h.bound _ _ h3) (by rw [hxx]; simp)
      · rw [if_neg e'] at h2
        rw [hold b' e'] at h4
        exact h.inj b b' o1 o2 x x' h1 h2 h3 h4 hr hxx
  · intro b hb'
    have hb2 : s.next + 1 ≤ b := hb'
    rw [hold b (by omega)]
    exact h.fresh b (by omega)
  · intro b x hb'
    by_cases e : b = s.next
    · rw [e, hnew] at hb'
      obtain rfl := Option.some.inj hb'
      simp
      omega
    · rw [hold b e] at hb'; have := h.bound _ _ hb'; omega
  · refine ⟨hos.trans h.below.os, ht.trans h.below.tape, hout.trans h.below.output, by have := h.below.size; omega, fun k hk => ?_⟩
    rw [hget k (by have := h.below.size; have := h.root k hk; omega)]
    exact h.below.block k hk

theorem HR.update {B : Nat → Prop} {w0 : World} {S : Sig} {s : St} {w w' : World} (h : HR B w0 S s w) {b : Nat} {o o' : Blk} {x : Loc} (hb : look s.h b = some o) (hS : S b = some x) (hro : o.ro = false) (hro' : o'.ro = false)
    (hsz : w'.heap.size = w.heap.size) (hoth : ∀ y, y ≠ x.b → w'.heap[y]? = w.heap[y]?) (hos : w'.os = w.os) (ht : w'.tape = w.tape) (hout : w'.output = w.output) (hbr : BR S o' x w'.heap[x.b]?) : HR B w0 S (s.set b o') w' := by
  have hlk : ∀ b2, look (s.set b o').h b2 = if b2 = b then some o' else look s.h b2 := fun b2 => by
    show look (upd s.h b o') b2 = _
    rw [look_upd, hb]
    rfl
  have hnB : ¬ B x.b := by obtain ⟨x', h1, -, -, h2⟩ := h.blk b o hb; rw [hS] at h1; obtain rfl := Option.some.inj h1; exact h2 hro
  refine ⟨?_, ?_, h.fresh, fun b x e => by rw [hsz]; exact h.bound b x e, ?_, h.root⟩
  · intro b2 o2 h2
    rw [hlk] at h2
    by_cases e : b2 = b
    · rw [if_pos e] at h2
      subst e
      obtain rfl := Option.some.inj h2
      exact ⟨x, hS, hbr, fun e => (by rw [hro'] at e; cases e), fun _ => hnB⟩
    · rw [if_neg e] at h2
      obtain ⟨x2, h3, h4, h5⟩ := h.blk b2 o2 h2
      refine ⟨x2, h3, ?_, h5⟩
      rw [hoth x2.b (fun e2 => e (h.inj b b2 o o2 x x2 hb h2 hS h3 hro e2.symm).symm)]
      exact h4
  · intro b1 b2 o1 o2 y y' h1 h2 h3 h4 hr hyy
    rw [hlk] at h1 h2
    by_cases e1 : b1 = b
    · by_cases e2 : b2 = b
      · rw [e1, e2]
      · rw [if_neg e2] at h2
        subst e1
        exact h.inj b1 b2 o o2 y y' hb h2 h3 h4 hro hyy
    · rw [if_neg e1] at h1
      by_cases e2 : b2 = b
      · subst e2
        exact h.inj b1 b2 o1 o y y' h1 hb h3 h4 hr hyy
      · rw [if_neg e2] at h2
        exact h.inj b1 b2 o1 o2 y y' h1 h2 h3 h4 hr hyy
  · refine ⟨hos.trans h.below.os, ht.trans h.below.tape, hout.trans h.below.output, by have := h.below.size; omega, fun k hk => ?_⟩
    rw [hoth k (fun e => by subst e; exact hnB hk)]
    exact h.below.block k hk

theorem HR.forget {B : Nat → Prop} {w0 : World} {S : Sig} {s : St} {w : World} (h : HR B w0 S s w) (b : Nat) : HR B w0 S (s.drop b) w := by
  have hlk : ∀ b2 o, look (s.drop b).h b2 = some o → b2 ≠ b ∧ look s.h b2 = some o := fun b2 o e => by
    have e' : look (del s.h b) b2 = some o := e
    rw [look_del] at e'
    by_cases h2 : b2 = b
    · rw [if_pos h2] at e'; cases e'
    · rw [if_neg h2] at e'; exact ⟨h2, e'⟩
  exact ⟨fun b2 o e => h.blk b2 o (hlk b2 o e).2, fun b1 b2 o1 o2 x x' e1 e2 => h.inj b1 b2 o1 o2 x x' (hlk _ _ e1).2 (hlk _ _ e2).2, h.fresh, h.bound, h.below, h.root⟩
theorem HR.rename {B : Nat → Prop} {w0 : World} {S : Sig} {s : St} {w w' : World} (h : HR B w0 S s w) {b : Nat} {o o' : Blk} {x : Loc} (hb : look s.h b = some o) (hS : S b = some x) (hro : o.ro = false) (hro' : o'.ro = false) (y : Loc) (hy : y.b = x.b)
    (hsz : w'.heap.size = w.heap.size) (hoth : ∀ y, y ≠ x.b → w'.heap[y]? = w.heap[y]?) (hos : w'.os = w.os) (ht : w'.tape = w.tape) (hout : w'.output = w.output) (hbr : ∀ S', Le S S' → BR S' o' y w'.heap[x.b]?) :
    ∃ S', Le S S' ∧ S' s.next = some y ∧ HR B w0 S' ((s.drop b).alloc o') w' := by
  have hnB : ¬ B x.b := by obtain ⟨x', h1, -, -, h2⟩ := h.blk b o hb; rw [hS] at h1; obtain rfl := Option.some.inj h1; exact h2 hro
  let S' : Sig := fun b => if b = s.next then some y else S b
  have hnew : S' s.next = some y := by simp [S']
  have hold : ∀ b, b ≠ s.next → S' b = S b := fun b hb => by simp [S', hb]
  have hle : Le S S' := fun b x e => by
    by_cases hb : b = s.next
    · rw [hb, h.fresh _ (Nat.le_refl _)] at e; cases e
    · rw [hold b hb]; exact e
  have hlk : ∀ b2 o2, look ((s.drop b).alloc o').h b2 = some o2 → (b2 = s.next ∧ o2 = o') ∨ (b2 ≠ s.next ∧ b2 ≠ b ∧ look s.h b2 = some o2) := fun b2 o2 e => by
    have e' : look ((s.next, o') :: del s.h b) b2 = some o2 := e
    rw [look_cons, look_del] at e'
    by_cases h1 : b2 = s.next
    · rw [if_pos h1] at e'; exact .inl ⟨h1, (Option.some.inj e').symm⟩
    · rw [if_neg h1] at e'
      by_cases h2 : b2 = b
      · rw [if_pos h2] at e'; cases e'
      · rw [if_neg h2] at e'; exact .inr ⟨h1, h2, e'⟩
  have hother : ∀ b2 o2 x2, b2 ≠ b → look s.h b2 = some o2 → S b2 = some x2 → x2.b ≠ x.b := fun b2 o2 x2 hne h2 h3 e => hne (h.inj b b2 o o2 x x2 hb h2 hS h3 hro e.symm).symm
  refine ⟨S', hle, hnew, ⟨?_, ?_, ?_, ?_, ?_, h.root⟩⟩
  · intro b2 o2 h2
    rcases hlk b2 o2 h2 with ⟨rfl, rfl⟩ | ⟨e1, e2, h3⟩
    · exact ⟨y, hnew, by rw [hy]; exact hbr S' hle, fun e => (by rw [hro'] at e; cases e), fun _ => by rw [hy]; exact hnB⟩
    · obtain ⟨x2, h4, h5, h6⟩ := h.blk b2 o2 h3
      exact ⟨x2, hle _ _ h4, by rw [hoth x2.b (hother b2 o2 x2 e2 h3 h4)]; exact h5.mono hle, h6⟩
  · intro b1 b2 o1 o2 y1 y2 h1 h2 h3 h4 hr hyy
    rcases hlk b1 o1 h1 with ⟨rfl, rfl⟩ | ⟨e1, e2, h5⟩
    · rcases hlk b2 o2 h2 with ⟨rfl, -⟩ | ⟨e3, e4, h6⟩
      · rfl
      · rw [hnew] at h3
        obtain rfl := Option.some.inj h3
        rw [hold b2 e3] at h4
        exact absurd (hyy.symm.trans hy) (hother b2 o2 y2 e4 h6 h4)
    · rw [hold b1 e1] at h3
      rcases hlk b2 o2 h2 with ⟨rfl, -⟩ | ⟨e3, e4, h6⟩
      · rw [hnew] at h4
        obtain rfl := Option.some.inj h4
        exact absurd (hyy.trans hy) (hother b1 o1 y1 e2 h5 h3)
      · rw [hold b2 e3] at h4
        exact h.inj b1 b2 o1 o2 y1 y2 h5 h6 h3 h4 hr hyy
  · intro b2 hb2
    have : s.next + 1 ≤ b2 := hb2
    rw [hold b2 (by omega)]
    exact h.fresh b2 (by omega)
  · intro b2 x2 h2
    by_cases e : b2 = s.next
    · rw [e, hnew] at h2
      obtain rfl := Option.some.inj h2
      rw [hsz, hy]
      exact h.bound _ _ hS
    · rw [hold b2 e] at h2
      rw [hsz]
      exact h.bound _ _ h2
  · refine ⟨hos.trans h.below.os, ht.trans h.below.tape, hout.trans h.below.output, by have := h.below.size; omega, fun k hk => ?_⟩
    rw [hoth k (fun e => by subst e; exact hnB hk)]
    exact h.below.block k hk

structure AR (S : Sig) (t : Fr) (a : Act) : Prop where
  size : a.tmps.size = t.n
  defers : a.defers = []
  slots : ∀ i v, look t.m i = some v → VR S v (a.tmps.getD i undef)
theorem AR.mono {S S' : Sig} (hle : Le S S') {t : Fr} {a : Act} (h : AR S t a) : AR S' t a := ⟨h.size, h.defers, fun i v e => (h.slots i v e).mono hle⟩
theorem AR.put {S : Sig} {t : Fr} {a : Act} (h : AR S t a) (d : Option Nat) {v v' : Value} (hv : VR S v v') : AR S (t.put d v) (a.put d v') := by
  cases d with
  | none => exact h
  | some d =>
    cases hd : Nat.ble (d + 1) t.n with
    | false =>
      have hge : ¬ d < t.n := fun hlt => by rw [Nat.ble_eq_true_of_le hlt] at hd; cases hd
      have hsame : a.put (some d) v' = a := by
        show { a with tmps := a.tmps.setIfInBounds d v' } = a
        have : a.tmps.setIfInBounds d v' = a.tmps := by simp [Array.setIfInBounds, h.size, hge]
        rw [this]
      have e1 : t.put (some d) v = t := by simp only [Fr.put, hd, cond_false]
      rw [hsame, e1]
      exact h
    | true =>
      have hlt : d < t.n := Nat.le_of_ble_eq_true hd
      have e1 : t.put (some d) v = ⟨t.n, (d, v) :: del t.m d⟩ := by simp only [Fr.put, hd, cond_true]
      rw [e1]
      refine ⟨by simp [Act.put, h.size], h.defers, fun i u e => ?_⟩
      show VR S u ((a.tmps.setIfInBounds d v').getD i undef)
      have e' : look ((d, v) :: del t.m d) i = some u := e
      rw [look_cons, look_del] at e'
      by_cases hi : i = d
      · subst hi
        rw [if_pos rfl] at e'
        obtain rfl := Option.some.inj e'
        have : i < a.tmps.size := by rw [h.size]; exact hlt
        simp [this]
        exact hv
      · rw [if_neg hi, if_neg hi] at e'
        have : (a.tmps.setIfInBounds d v').getD i undef = a.tmps.getD i undef := by
          simp [Array.getD_eq_getD_getElem?, Ne.symm hi]
        rw [this]
        exact h.slots i u e'
theorem ev_ok {S : Sig} {t : Fr} {a : Act} (h : AR S t a) {x : Operand} {v : Value} (he : ev x t = some v) : VR S v (a.eval x) := by
  cases x with
  | tmp i => exact h.slots i v he
  | const c =>
    have he' : (bif groundT c then some c else none) = some v := he
    cases hg : groundT c with
    | false => rw [hg] at he'; cases he'
    | true =>
      rw [hg] at he'
      obtain rfl : c = v := Option.some.inj he'
      exact groundT_refl hg
  | global g => cases he
  | func f =>
    obtain rfl : Value.func (.func f) #[] #[] = v := Option.some.inj he
    exact .func (a := []) (a' := []) (b := []) (b' := []) f rfl (fun i v v' e => by simp at e) rfl (fun i v v' e => by simp at e)
theorem evs_ok {S : Sig} {t : Fr} {a : Act} (h : AR S t a) : ∀ {l : List Operand} {vs : List Value}, evs l t = some vs → LR S vs (l.map a.eval)
  | [], vs, he => by
    obtain rfl : [] = vs := Option.some.inj he
    exact .nil
  | o :: os, vs, he => by
    simp only [evs] at he
    cases hv : ev o t with
    | none => rw [hv] at he; cases he
    | some v =>
      rw [hv] at he
      cases hr : evs os t with
      | none => simp only [hr] at he; cases he
      | some r =>
        simp only [hr] at he
        obtain rfl : v :: r = vs := Option.some.inj he
        exact .cons (ev_ok h hv) (evs_ok h hr)
end Go.Rx

namespace Go.Rx
open Go.RowKit (Below)
open Go.Ev (TI TK groundT cellsL sizeAt aggAt aggOf TIs run_loadCells add_none mkTI_some run_sizeOf' run_isAgg' run_part fieldsOf_get sizeAt_pos sizeAt_info kind_slice kind_array kind_int)

def SpecOk (P : Program) (f : Nat) (sp : Spec) : Prop := ∀ (args : List Value) (s : St) (K : KV), sp args s K → ∀ (B : Nat → Prop) (w0 : World) (S : Sig) (args' : Array Value) (w : World), LR S args args'.toList → HR B w0 S s w →
  Calls P f args' w fun e w' => ∃ v s' S' v', e = .returned v' ∧ K v s' ∧ Le S S' ∧ VR S' v v' ∧ HR B w0 S' s' w'
structure EnvOk (E : Env) : Prop where
  types : ∀ ty i, look E.T ty = some i → Ev.mkTI E.P ty = some i
  funcs : ∀ f fn, look E.F f = some fn → E.P.funcs[f]? = some fn ∧ (fn.name == "runtime.NumGoroutine") = false
  specs : ∀ f sp, E.X f = some sp → (∃ fn, E.P.funcs[f]? = some fn ∧ fn.body.isSome = true ∧ (fn.name == "runtime.NumGoroutine") = false) ∧ SpecOk E.P f sp
  mixed : E.P.follows .mixedOrders = true
  qs : ∀ ty ks, look E.Q ty = some ks → Ev.QOk E.P ty ks
  bo : ∀ ty ∈ E.Bo, E.P.underlying ty = some .bool

theorem kO_some {α : Type} {o : Option α} {k : α → Prop} (h : kO o k) : ∃ v, o = some v ∧ k v := by
  cases o with
  | none => exact h.elim
  | some v => exact ⟨v, rfl, h⟩
theorem br_cases {b : Bool} {p q : Prop} (h : br b p q) : (b = true ∧ p) ∨ (b = false ∧ q) := by
  cases b
  · exact .inr ⟨rfl, h⟩
  · exact .inl ⟨rfl, h⟩
theorem tI_some {E : Env} (hE : EnvOk E) {ty : TypeId} {k : TI → Prop} (h : tI E ty k) : ∃ i inf d, TIs E.P ty i inf d ∧ k i := by
  obtain ⟨i, h1, h2⟩ := kO_some h
  obtain ⟨inf, d, T⟩ := mkTI_some (hE.types _ _ h1)
  exact ⟨i, inf, d, T, h2⟩
theorem intInv {S : Sig} {v v' : Value} {k : IntKind} {n : Int} (h : VR S v v') (he : v = .int k n) : v' = .int k n := by
  subst he
  cases h
  rfl
theorem boolInv {S : Sig} {v : Value} {b : Bool} (h : VR S (.bool b) v) : v = .bool b := by cases h; rfl
theorem aggInv {S : Sig} {v' : Value} {cs : List Value} (h : VR S (.agg ⟨cs⟩) v') : ∃ cs' : List Value, v' = .agg ⟨cs'⟩ ∧ LR S cs cs' := by
  cases h with
  | agg ha ha' => exact ⟨_, rfl, ha, ha'⟩
theorem tupInv {S : Sig} {v' : Value} {cs : List Value} (h : VR S (.tuple ⟨cs⟩) v') : ∃ cs' : List Value, v' = .tuple ⟨cs'⟩ ∧ LR S cs cs' := by
  cases h with
  | tuple ha ha' => exact ⟨_, rfl, ha, ha'⟩
theorem ptrInv {S : Sig} {v' : Value} {b o : Nat} (h : VR S (.pointer (some ⟨b, o, none⟩)) v') : ∃ x, S b = some x ∧ v' = .pointer (some ⟨x.b, x.o + o, none⟩) := by
  cases h with
  | ptr off h => exact ⟨_, h, rfl⟩
theorem rptInv {S : Sig} {v' : Value} {b i j : Nat} (h : VR S (.pointer (some ⟨b, i, some j⟩)) v') : ∃ x, S b = some x ∧ v' = .pointer (some ⟨x.b, x.o + i * x.w + j, none⟩) := by
  cases h with
  | rpt i j h => exact ⟨_, h, rfl⟩
theorem slcInv {S : Sig} {v' : Value} {b o l c : Nat} (h : VR S (.slice (some ⟨b, o, none⟩) l c) v') : ∃ x, S b = some x ∧ v' = .slice (some ⟨x.b, x.o + o, none⟩) l c := by
  cases h with
  | sl off l c h => exact ⟨_, h, rfl⟩
theorem rslInv {S : Sig} {v' : Value} {b i l c : Nat} (h : VR S (.slice (some ⟨b, i, some 0⟩) l c) v') : ∃ x, S b = some x ∧ v' = .slice (some ⟨x.b, x.o + i * x.w, none⟩) l c := by
  cases h with
  | rsl i l c h => exact ⟨_, h, rfl⟩
theorem fullInv {S : Sig} {v' : Value} {b i l : Nat} (h : VR S (.slice (some ⟨b, i, some 1⟩) l l) v') : ∃ x, S b = some x ∧ v' = .slice (some ⟨x.b, x.o + i * x.w, none⟩) l l := by
  cases h with
  | full i l h => exact ⟨_, h, rfl⟩
theorem cutInv {S : Sig} {v' : Value} {b i z l c : Nat} (h : VR S (.slice (some ⟨b, i, some (z + 2)⟩) l c) v') : ∃ x, S b = some x ∧ c = l ∧ v' = .slice (some ⟨x.b, x.o + (i + if l = 0 then 0 else z) * x.w, none⟩) l l := by
  cases h with
  | cut i z l h => exact ⟨_, h, rfl, rfl⟩
theorem kindEq_eq {j k : IntKind} (h : kindEq j k = true) : j = k := Ev.kindEq_eq h
theorem ksEq_eq : ∀ {l m : List IntKind}, ksEq l m = true → l = m
  | [], [], _ => rfl
  | [], _ :: _, h => by cases h
  | _ :: _, [], h => by cases h
  | a :: l, b :: m, h => by
    simp only [ksEq, Bool.and_eq_true] at h
    rw [kindEq_eq h.1, ksEq_eq h.2]
theorem addN_eq (a b : Nat) : addN a b = a + b := by cases a <;> simp [addN]
theorem wrap_id {k : IntKind} {z : Int} (h : lo k ≤ z ∧ z ≤ hi k) : k.wrap z = z := by
  cases k
  · exact IntWalk.i8_in _ h
  · exact IntWalk.i16_in _ h
  · exact IntWalk.i32_in _ h
  · exact IntWalk.i64_in _ h
  · exact IntWalk.u8_in _ h
  · exact IntWalk.u16_in _ h
  · exact IntWalk.u32_in _ h
  · exact IntWalk.u64_in _ h

theorem wrap_md {k : IntKind} {z : Int} (h : signed k = false) : k.wrap z = z % md k := by
  cases k <;> first | exact absurd h (by decide) | simp [IntKind.wrap, IntKind.signed, IntKind.bits, md]
section
variable {E : Env} {B : Nat → Prop} {w0 : World} {S : Sig} {s : St} {w : World} {t : Fr} {a : Act}
theorem arith_ok {k : IntKind} {z : Int} {K : KP} (h : arith k z K) : K (.int k (k.wrap z)) := by
  unfold arith at h
  cases hs : signed k with
  | true =>
    rw [hs] at h
    have h' : (lo k ≤ z ∧ z ≤ hi k) ∧ K (.int k z) := h
    rw [wrap_id h'.1]
    exact h'.2
  | false =>
    rw [hs] at h
    rw [wrap_md hs]
    exact h
theorem p2_eq (n : Nat) : p2 (n : Int) = (2 : Int) ^ n := by
  show ((Nat.pow 2 n : Nat) : Int) = _
  show ((2 ^ n : Nat) : Int) = _
  simp
theorem bts_eq (k : IntKind) : bts k = (k.bits : Int) := by cases k <;> rfl
theorem shI_ok {op : BinOp} {k k' : IntKind} {x y : Int} {K : KP} (h : shI op k x y K) (S : Sig) (ty : TypeId) (ox oy : Operand) (w : World) :
    ∃ v, K v ∧ VR S v v ∧ ((do eqGuard op ty ox oy (.int k x) (.int k' y); binOp op ty (.int k x) (.int k' y)) : Sem Value).run E.P w = .ok v w := by
  have key : ∀ y : Int, 0 ≤ y → y ≤ bts k → ¬ y < 0 ∧ min y.toNat k.bits = y.toNat ∧ p2 y = 2 ^ y.toNat := fun y h0 h1 => by
    obtain ⟨n, rfl⟩ := Int.eq_ofNat_of_zero_le h0
    rw [bts_eq] at h1
    exact ⟨by omega, by have : n ≤ k.bits := by omega
                        rw [Int.toNat_natCast]; exact Nat.min_eq_left this, p2_eq n⟩
  cases op <;> first | exact h.elim | skip
  · obtain ⟨⟨h0, h1⟩, h2⟩ := h
    obtain ⟨e1, e2, e3⟩ := key y h0 h1
    refine ⟨_, arith_ok h2, .int _ _, ?_⟩
    rw [e3]
    simp [eqGuard, binOp, Op.shift, e1, e2]
  · obtain ⟨⟨h0, h1⟩, h2⟩ := h
    obtain ⟨e1, e2, e3⟩ := key y h0 h1
    refine ⟨_, h2, .int _ _, ?_⟩
    rw [e3]
    have : (0 : Int) ≤ 2 ^ y.toNat := by
      have := p2_eq y.toNat
      rw [← this]
      exact Int.natCast_nonneg _
    simp [eqGuard, binOp, Op.shift, e1, e2, Int.fdiv_eq_ediv_of_nonneg _ this]
theorem and_mask {k : IntKind} {x y : Int} (h0 : 0 ≤ x) (h1 : x ≤ hi k) (h2 : y ≤ hi k) (hm : maskB y = true) : k.wrap ((BitVec.ofInt k.bits x &&& BitVec.ofInt k.bits y).toNat : Int) = x % p1 y := by
  obtain ⟨a, rfl⟩ := Int.eq_ofNat_of_zero_le h0
  cases y with
  | negSucc n => cases hm
  | ofNat b =>
    obtain ⟨m, -, hm⟩ := List.any_eq_true.1 hm
    have hm : b + 1 = 2 ^ m := Nat.eq_of_beq_eq_true hm
    have hb : hi k < (2 : Int) ^ k.bits := by cases k <;> decide
    have ha2 : a < 2 ^ k.bits := by
      have : (a : Int) < ((2 ^ k.bits : Nat) : Int) := by rw [Int.natCast_pow]; exact Int.lt_of_le_of_lt h1 hb
      omega
    have hb2 : b < 2 ^ k.bits := by
      have : (b : Int) < ((2 ^ k.bits : Nat) : Int) := by rw [Int.natCast_pow]; exact Int.lt_of_le_of_lt h2 hb
      omega
    have e : (BitVec.ofInt k.bits (a : Int) &&& BitVec.ofInt k.bits (Int.ofNat b)).toNat = a % (b + 1) := by
      have q1 : BitVec.ofInt k.bits (a : Int) = BitVec.ofNat k.bits a := BitVec.ofInt_natCast _ _
      have q2 : BitVec.ofInt k.bits (Int.ofNat b) = BitVec.ofNat k.bits b := BitVec.ofInt_natCast _ _
      rw [q1, q2, BitVec.toNat_and, BitVec.toNat_ofNat, BitVec.toNat_ofNat, Nat.mod_eq_of_lt ha2, Nat.mod_eq_of_lt hb2, hm, ← Nat.and_two_pow_sub_one_eq_mod]
      congr 1
      omega
    rw [e]
    show k.wrap ((a % (b + 1) : Nat) : Int) = ((a : Int) % ((b + 1 : Nat) : Int))
    rw [← Int.natCast_emod]
    refine wrap_id ⟨?_, ?_⟩
    · have h1 : lo k ≤ 0 := by cases k <;> simp [lo]
      omega
    · have := Nat.mod_le a (b + 1)
      omega
theorem quo_ok {k : IntKind} {x y : Int} (h : 0 ≤ x ∧ x ≤ hi k ∧ 0 < y) : k.wrap (x.tdiv y) = x / y := by
  have e : x.tdiv y = x / y := Int.tdiv_eq_ediv_of_nonneg h.1
  rw [e]
  refine wrap_id ⟨?_, ?_⟩
  · have h0 : 0 ≤ x / y := Int.ediv_nonneg h.1 (by omega)
    have h1 : lo k ≤ 0 := by cases k <;> simp [lo]
    omega
  · have h1 : x / y ≤ x := Int.ediv_le_self _ h.1
    omega
theorem intsOf_ints : ∀ {ks : List IntKind} {cs : List Value} {l : List Int}, intsOf ks cs = some l → cs = Ev.ints ks l ∧ l.length = ks.length
  | [], [], l, h => by
    obtain rfl : [] = l := Option.some.inj h
    exact ⟨rfl, rfl⟩
  | [], _ :: _, l, h => by simp [intsOf] at h
  | k :: ks, [], l, h => by simp [intsOf] at h
  | k :: ks, v :: cs, l, h => by
    cases v <;> first | (simp [intsOf] at h; done) | skip
    rename_i k' z
    simp only [intsOf] at h
    cases hk : kindEq k k' with
    | false => rw [hk] at h; cases h
    | true =>
      rw [hk] at h
      obtain rfl := kindEq_eq hk
      simp only [cond_true] at h
      cases hr : intsOf ks cs with
      | none => rw [hr] at h; cases h
      | some r =>
        rw [hr] at h
        obtain rfl : z :: r = l := Option.some.inj h
        obtain ⟨h1, h2⟩ := intsOf_ints hr
        exact ⟨by rw [h1]; rfl, by simp [h2]⟩
theorem ints_all : ∀ {ks : List IntKind} {l : List Int} {l' : List Value}, LR S (Ev.ints ks l) l' → l' = Ev.ints ks l
  | [], l, l', h => by simp only [Ev.ints] at h ⊢; exact h.nil_inv
  | k :: ks, [], l', h => by simp only [Ev.ints] at h ⊢; exact h.nil_inv
  | k :: ks, z :: l, l', h => by
    obtain ⟨x', r, rfl, h1, h2⟩ := LR.cons_inv (show LR S (.int k z :: Ev.ints ks l) l' from h)
    rw [intInv h1 rfl, ints_all h2]
    rfl

theorem binI_ok {op : BinOp} {k : IntKind} {x y : Int} {K : KP} (h : binI op k x y K) (S : Sig) (ty : TypeId) (ox oy : Operand) (w : World) :
    ∃ v, K v ∧ VR S v v ∧ ((do eqGuard op ty ox oy (.int k x) (.int k y); binOp op ty (.int k x) (.int k y)) : Sem Value).run E.P w = .ok v w := by
  cases op <;> first | exact h.elim | skip
  · exact ⟨_, arith_ok h, .int _ _, by simp [eqGuard, binOp, Op.intArith]⟩
  · exact ⟨_, arith_ok h, .int _ _, by simp [eqGuard, binOp, Op.intArith]⟩
  · exact ⟨_, arith_ok h, .int _ _, by simp [eqGuard, binOp, Op.intArith]⟩
  · have hy : ¬ y = 0 := by have := h.1; omega
    exact ⟨_, h.2, .int _ _, by simp [eqGuard, binOp, Op.intDiv, hy, quo_ok h.1]⟩
  · have hy : ¬ y = 0 := by have := h.1; omega
    exact ⟨_, h.2, .int _ _, by simp [eqGuard, binOp, Op.intDiv, hy, Int.tmod_eq_emod_of_nonneg h.1.1]⟩
  · refine ⟨_, h.2, .int _ _, ?_⟩
    rw [← and_mask h.1.1 h.1.2.1 h.1.2.2.1 h.1.2.2.2]
    have q : binOp .and ty (.int k x) (.int k y) = (pure (.int k (k.wrap (BitVec.ofInt k.bits x &&& BitVec.ofInt k.bits y).toNat)) : Sem Value) := by
      simp only [binOp, Op.intBits, ne_eq, not_true_eq_false, if_false]
    rw [q]
    simp only [eqGuard]
    rfl
  · exact ⟨_, dec_elim h, .bool _, by simp [eqGuard, binOp, Op.intCmp]; rfl⟩
  · exact ⟨_, decN_elim h, .bool _, by simp [eqGuard, binOp, Op.intCmp]; rfl⟩
  · exact ⟨_, dec_elim h, .bool _, by simp [eqGuard, binOp, Op.intCmp]⟩
  · exact ⟨_, dec_elim h, .bool _, by simp [eqGuard, binOp, Op.intCmp]⟩
  · exact ⟨_, dec_elim h, .bool _, by simp [eqGuard, binOp, Op.intCmp]⟩
  · exact ⟨_, dec_elim h, .bool _, by simp [eqGuard, binOp, Op.intCmp]⟩
theorem eqX_ok {op : BinOp} {p : Bool} {K : KP} (h : eqX op p K) : (op = .eql ∧ K (.bool p)) ∨ (op = .neq ∧ K (.bool (!p))) := by
  cases op <;> first | exact h.elim | exact .inl ⟨rfl, h⟩ | exact .inr ⟨rfl, h⟩
theorem eqD_ok {op : BinOp} {l m : List Int} {K : KP} (h : eqD op (eqL l m) K) : (op = .eql ∧ K (.bool (decide (l = m)))) ∨ (op = .neq ∧ K (.bool (!decide (l = m)))) := by
  cases op <;> first | exact h.elim | skip
  · refine .inl ⟨rfl, ?_⟩
    rw [← decide_eq_decide.2 (eqL_iff l m)]
    exact dec_elim h
  · refine .inr ⟨rfl, ?_⟩
    rw [← decide_eq_decide.2 (eqL_iff l m)]
    exact decN_elim h
theorem binX_ok (hE : EnvOk E) {op : BinOp} {u v u' v' : Value} {K : KP} {ty : TypeId} (h : binX E op ty u v K) (hu : VR S u u') (hv : VR S v v') (ox oy : Operand) (w : World) :
    ∃ r, K r ∧ VR S r r ∧ ((do eqGuard op ty ox oy u' v'; binOp op ty u' v') : Sem Value).run E.P w = .ok r w := by
  unfold binX at h
  split at h
  · rename_i k x k' y
    rw [intInv hu rfl, intInv hv rfl]
    cases hs : shB op with
    | true =>
      rw [hs] at h
      exact shI_ok h S ty ox oy w
    | false =>
      rw [hs] at h
      obtain ⟨h1, h2⟩ := h
      obtain rfl := kindEq_eq h1
      exact binI_ok h2 S ty ox oy w
  · rename_i x y
    obtain ⟨h1, h2⟩ := h
    rw [boolInv hu, boolInv hv]
    obtain ⟨q, hq, hq'⟩ := List.any_eq_true.1 h1
    obtain rfl := Nat.eq_of_beq_eq_true hq'
    have hb := hE.bo _ hq
    have he : (Op.equal ty (.bool x) (.bool y)).run E.P w = .ok (x == y) w := by
      obtain ⟨n, hn⟩ := Ev.equal_unfold ty (.bool x) (.bool y)
      rw [hn]
      simp [Op.equalIn, run_underlying hb]
    rcases eqX_ok h2 with ⟨rfl, h3⟩ | ⟨rfl, h3⟩
    · exact ⟨_, h3, .bool _, by simp [eqGuard, binOp, he]⟩
    · exact ⟨_, h3, .bool _, by simp [eqGuard, binOp, he]⟩
  · rename_i cs ds
    obtain ⟨ks, h1, ha⟩ := kO_some h
    obtain ⟨l, h2, hb⟩ := kO_some ha
    obtain ⟨m, h3, hc⟩ := kO_some hb
    clear h ha hb
    obtain ⟨cs', rfl, hl⟩ := aggInv hu
    obtain ⟨ds', rfl, hm⟩ := aggInv hv
    obtain ⟨rfl, hl2⟩ := intsOf_ints h2
    obtain ⟨rfl, hm2⟩ := intsOf_ints h3
    rw [ints_all hl, ints_all hm]
    have key := hE.qs _ _ h1 l m hl2 hm2
    rcases eqD_ok hc with ⟨rfl, h4⟩ | ⟨rfl, h4⟩
    · exact ⟨_, h4, .bool _, by rw [key .eql ox oy w (.inl rfl)]; rfl⟩
    · exact ⟨_, h4, .bool _, by rw [key .neq ox oy w (.inr rfl)]; rfl⟩
  · rename_i p l c
    obtain ⟨ti, inf, d, T, h1, h2⟩ := tI_some hE h
    rw [T.kind] at h1
    obtain ⟨e, einf, ed, rfl, -, -⟩ := kind_slice h1
    obtain rfl : v' = .slice none 0 0 := by cases hv; rfl
    obtain ⟨q, rfl, hq⟩ : ∃ q, u' = .slice q l c ∧ noA p = q.isNone := by
      cases hu with
      | slN l c => exact ⟨_, rfl, rfl⟩
      | sl off l c h => exact ⟨_, rfl, rfl⟩
      | rsl i l c h => exact ⟨_, rfl, rfl⟩
      | full i l h => exact ⟨_, rfl, rfl⟩
      | cut i z l h => exact ⟨_, rfl, rfl⟩
    rw [hq] at h2
    have he : (Op.equal ty (.slice q l c) (.slice none 0 0)).run E.P w = .ok q.isNone w := by
      obtain ⟨n, hn⟩ := Ev.equal_unfold ty (.slice q l c) (.slice none 0 0)
      rw [hn]
      cases q <;> simp [Op.equalIn, run_underlying T.under]
    rcases eqX_ok h2 with ⟨rfl, h3⟩ | ⟨rfl, h3⟩
    · exact ⟨_, h3, .bool _, by simp [eqGuard, binOp, he]⟩
    · exact ⟨_, h3, .bool _, by simp [eqGuard, binOp, he]⟩
  · exact h.elim
end
end Go.Rx

namespace Go.Rx
open Go.RowKit (Below)
open Go.Ev (TI TK groundT cellsL sizeAt aggAt aggOf TIs add_none mkTI_some run_sizeOf' run_isAgg' run_part fieldsOf_get sizeAt_pos sizeAt_info kind_slice kind_array kind_int)
section
variable {E : Env} {B : Nat → Prop} {w0 : World} {S : Sig} {s : St} {w : World} {t : Fr} {a : Act}
theorem rowVals_get (f : Nat → Nat → Int) (i : Nat) : ∀ (ks : List IntKind) (j0 j : Nat), (rowVals f i j0 ks)[j]? = ks[j]?.map fun k => .int k (f i (j0 + j))
  | [], j0, j => by simp [rowVals]
  | k :: ks, j0, 0 => by simp [rowVals]
  | k :: ks, j0, j + 1 => by
    simp only [rowVals, List.getElem?_cons_succ]
    rw [rowVals_get f i ks (j0 + 1) j, show j0 + 1 + j = j0 + (j + 1) by omega]
theorem rowVals_length (f : Nat → Nat → Int) (i : Nat) : ∀ (ks : List IntKind) (j0 : Nat), (rowVals f i j0 ks).length = ks.length
  | [], j0 => rfl
  | k :: ks, j0 => by simp [rowVals, rowVals_length f i ks (j0 + 1)]

theorem loadP_ok (h : HR B w0 S s w) {ty : TypeId} {ti : TI} {inf : TypeInfo} {d : TypeDesc} (T : TIs E.P ty ti inf d) {p : Addr} {K : KP} (hk : loadP s ti p K) {pv : Value} (hp : VR S (.pointer (some p)) pv) :
    ∃ v v' q, pv = .pointer (some q) ∧ K v ∧ VR S v v' ∧ (loadVar ty q).run E.P w = .ok v' w := by
  unfold loadP at hk
  obtain ⟨o, ho, hk⟩ := kO_some hk
  obtain ⟨b, off, sp⟩ := p
  cases o with
  | cells cs e =>
    cases sp with
    | some j => exact hk.elim
    | none =>
      obtain ⟨x, hS, rfl⟩ := ptrInv hp
      obtain ⟨x', hS', hbr, -⟩ := h.blk _ _ ho
      rw [hS] at hS'
      obtain rfl := Option.some.inj hS'
      obtain ⟨C, fr, hx, hl, hsz, -⟩ := hbr
      simp only at hk ⊢
      cases hagg : ti.agg with
      | true =>
        rw [hagg] at hk
        obtain ⟨h1, h2⟩ := hk
        have h1 : off + ti.size ≤ cs.length := Nat.le_of_ble_eq_true h1
        have hd : aggOf d = true := by rw [← T.agg]; exact hagg
        have hrun := Ev.run_loadCells (P := E.P) (w := w) (x := x.b) (off := x.o + off) (n := ti.size) hx (by omega)
        rw [T.size] at hrun
        refine ⟨_, .agg ⟨(C.toList.drop (x.o + off)).take inf.size⟩, _, rfl, h2, ?_, ?_⟩
        · have := (hl.drop off).take ti.size
          rw [List.drop_take, List.take_take, List.drop_drop, show min ti.size (cs.length - off) = ti.size by omega, T.size] at this
          rw [T.size]
          exact .agg this.1 this.2
        · simp [loadVar, run_isAgg' T.under, hd, run_sizeOf' T.info, hrun]
      | false =>
        rw [hagg] at hk
        obtain ⟨v, h1, h2⟩ := kO_some hk
        have hd : aggOf d = false := by rw [← T.agg]; exact hagg
        obtain ⟨v', h3, h4⟩ := hl.get h1
        have hlt : off < cs.length := (List.getElem?_eq_some_iff.1 h1).1
        rw [List.getElem?_take, if_pos hlt, List.getElem?_drop] at h3
        have hcell : w.cell? ⟨x.b, x.o + off, none⟩ = some v' := by simp only [World.cell?, hx]; simpa using h3
        exact ⟨v, v', _, rfl, h2, h4, by simp [loadVar, run_isAgg' T.under, hd, hcell]⟩
  | row ro ks e n cap f =>
    cases sp with
    | none => exact hk.elim
    | some j =>
      obtain ⟨x, hS, rfl⟩ := rptInv hp
      obtain ⟨x', hS', hbr, -⟩ := h.blk _ _ ho
      rw [hS] at hS'
      obtain rfl := Option.some.inj hS'
      obtain ⟨hlt, hk⟩ := hk
      simp only at hlt
      obtain ⟨C, fr, hx, hw, hnc, hsz, -, hc, -⟩ := hbr.row_get (.inr (by omega))
      simp only at hk ⊢
      rw [hw]
      have hmul : off * ks.length + ks.length ≤ n * ks.length := by
        have := Nat.mul_le_mul_right ks.length (show off + 1 ≤ n from hlt)
        rw [Nat.add_mul, Nat.one_mul] at this
        exact this
      cases hagg : ti.agg with
      | true =>
        rw [hagg] at hk
        obtain ⟨⟨rfl, hts⟩, h2⟩ := hk
        have hd : aggOf d = true := by rw [← T.agg]; exact hagg
        have hrun := Ev.run_loadCells (P := E.P) (w := w) (x := x.b) (off := x.o + off * ks.length + 0) (n := inf.size) hx (by rw [← T.size, hts]; omega)
        refine ⟨_, .agg ⟨(C.toList.drop (x.o + off * ks.length + 0)).take inf.size⟩, _, rfl, h2, ?_, ?_⟩
        · have hlr : LR S (rowVals f off 0 ks) ((C.toList.drop (x.o + off * ks.length + 0)).take inf.size) := by
            refine ⟨?_, fun i v v' e e' => ?_⟩
            · rw [rowVals_length, ← T.size, hts]
              simp
              omega
            · rw [rowVals_get] at e
              cases hki : ks[i]? with
              | none => rw [hki] at e; cases e
              | some k =>
                rw [hki] at e
                obtain rfl : Value.int k (f off (0 + i)) = v := Option.some.inj e
                have hi : i < ks.length := (List.getElem?_eq_some_iff.1 hki).1
                rw [List.getElem?_take, if_pos (by rw [← T.size, hts]; exact hi), List.getElem?_drop, Nat.add_zero] at e'
                have := hc off i k hlt hki
                rw [← Array.getElem?_toList] at this
                rw [this] at e'
                obtain rfl := Option.some.inj e'
                rw [Nat.zero_add]
                exact .int _ _
          exact .agg hlr.1 hlr.2
        · simp only [Nat.add_zero] at hrun ⊢
          simp [loadVar, run_isAgg' T.under, hd, run_sizeOf' T.info, hrun]
      | false =>
        rw [hagg] at hk
        obtain ⟨k, h1, h2⟩ := kO_some hk
        have hd : aggOf d = false := by rw [← T.agg]; exact hagg
        have hcell : w.cell? ⟨x.b, x.o + off * ks.length + j, none⟩ = some (.int k (f off j)) := by
          simp only [World.cell?, hx]
          exact hc off j k hlt h1
        exact ⟨_, _, _, rfl, h2, .int _ _, by simp [loadVar, run_isAgg' T.under, hd, hcell]⟩

def PX (S : Sig) (K : KP) (m : Result Next) (w : World) : Prop := ∃ v v', K v ∧ VR S v v' ∧ m = .ok (.value v') w

theorem partV_ok {cs cs' : List Value} (hl : LR S cs cs') {ty : TypeId} {o n : Nat} {g : Bool} {K : KP} (h : partV cs o g n K) (hn : n = sizeAt E.P ty) (hg : g = aggAt E.P ty) :
    ∃ v v', K v ∧ VR S v v' ∧ (part ty ⟨cs'⟩ o).run E.P w = .ok v' w := by
  obtain ⟨h1, h⟩ := h
  have hpos : 1 ≤ n := Nat.le_of_ble_eq_true h1
  obtain ⟨inf, d, hi, hu, hsz⟩ := sizeAt_pos (P := E.P) (ty := ty) (by omega)
  have hg' : g = aggOf d := by simp [hg, aggAt, hu]
  rw [run_part hi hu]
  cases hd : aggOf d with
  | true =>
    rw [hg', hd] at h
    obtain ⟨h2, h3⟩ := h
    have h2 : o + n ≤ cs.length := Nat.le_of_ble_eq_true h2
    have e : (⟨cs'⟩ : Array Value).extract o (o + inf.size) = ⟨(cs'.drop o).take n⟩ := by
      apply Array.ext'
      simp [List.extract_eq_take_drop, hsz, hn]
    have := (hl.drop o).take n
    exact ⟨_, .agg ⟨(cs'.drop o).take n⟩, h3, .agg this.1 this.2, by simp only [if_true, e]⟩
  | false =>
    rw [hg', hd] at h
    obtain ⟨v, h2, h3⟩ := kO_some h
    obtain ⟨v', h4, h5⟩ := hl.get h2
    have h4' : (⟨cs'⟩ : Array Value)[o]? = some v' := by simpa using h4
    exact ⟨v, v', h3, h5, by simp [h4']⟩

theorem callP_ok (hE : EnvOk E) {b : Builtin} {ts : Array TypeId} {ty : TypeId} {consts : Array Bool} {args args' : List Value} (hl : LR S args args') {K : KP} (h : callP E b ts.toList args K) :
    PX S K ((builtin b ts ty consts ⟨args'⟩).run E.P w) w := by
  have hlen : ∀ (sT : TypeId) (v : Value), ts.toList = [sT] → args = [v] → ∃ v', args' = [v'] ∧ VR S v v' ∧ ts = #[sT] := by
    rintro sT v h1 rfl
    obtain ⟨v', r, rfl, h2, h3⟩ := hl.cons_inv
    obtain rfl := h3.nil_inv
    exact ⟨v', rfl, h2, by apply Array.ext'; rw [h1]⟩
  unfold callP at h
  split at h
  · rename_i sT v hts
    obtain ⟨v', rfl, hv, rfl⟩ := hlen sT v hts rfl
    obtain ⟨ti, inf, d, T, hk, h⟩ := tI_some hE h
    obtain ⟨u, h1, h2⟩ := kO_some h
    rw [T.kind] at hk
    obtain ⟨e, einf, ed, rfl, -, -⟩ := kind_slice hk
    unfold lenV at h1
    split at h1
    · obtain rfl := Option.some.inj h1
      cases hv <;> exact ⟨_, _, h2, .int _ _, by simp [builtin, Builtin.len_, run_underlying T.under, goInt]⟩
    · cases h1
  · rename_i sT v hts
    obtain ⟨v', rfl, hv, rfl⟩ := hlen sT v hts rfl
    obtain ⟨ti, inf, d, T, hk, h⟩ := tI_some hE h
    obtain ⟨u, h1, h2⟩ := kO_some h
    rw [T.kind] at hk
    obtain ⟨e, einf, ed, rfl, -, -⟩ := kind_slice hk
    unfold capV at h1
    split at h1
    · obtain rfl := Option.some.inj h1
      cases hv <;> exact ⟨_, _, h2, .int _ _, by simp [builtin, Builtin.cap_, run_underlying T.under, goInt]⟩
    · cases h1
  · rename_i t1 t2 k x k' y hts
    obtain ⟨h1, h2⟩ := h
    obtain rfl := kindEq_eq h1
    obtain ⟨v1, r, rfl, h3, h4⟩ := hl.cons_inv
    obtain ⟨v2, r2, rfl, h5, h6⟩ := h4.cons_inv
    obtain rfl := h6.nil_inv
    rw [intInv h3 rfl, intInv h5 rfl]
    refine ⟨_, _, h2, .int _ _, ?_⟩
    by_cases hlt : y < x <;> simp [builtin, Builtin.min_, Builtin.min2, hlt]
  · rename_i t1 t2 k x k' y hts
    obtain ⟨h1, h2⟩ := h
    obtain rfl := kindEq_eq h1
    obtain ⟨v1, r, rfl, h3, h4⟩ := hl.cons_inv
    obtain ⟨v2, r2, rfl, h5, h6⟩ := h4.cons_inv
    obtain rfl := h6.nil_inv
    rw [intInv h3 rfl, intInv h5 rfl]
    refine ⟨_, _, h2, .int _ _, ?_⟩
    by_cases hlt : x < y <;> simp [builtin, Builtin.max_, Builtin.max2, hlt]
  · exact h.elim
end
end Go.Rx

namespace Go.Rx
open Go.RowKit (Below)
open Go.Ev (TI TK groundT cellsL sizeAt aggAt aggOf TIs add_none mkTI_some run_sizeOf' run_isAgg' run_part fieldsOf_get sizeAt_pos sizeAt_info kind_slice kind_array kind_int)
section
variable {E : Env} {B : Nat → Prop} {w0 : World} {S : Sig} {s : St} {w : World} {t : Fr} {a : Act}
theorem iaX_ok (h : HR B w0 S s w) {ty : TypeId} {ti : TI} {inf : TypeInfo} {d : TypeDesc} (T : TIs E.P ty ti inf d) {v v' : Value} {z : Int} {K : KP} (hk : iaX s ti v z K) (hv : VR S v v') (k : IntKind) :
    PX S K ((do pure (.value (← Instr.indexAt ty v' (.int k z))) : Sem Next).run E.P w) w := by
  unfold iaX at hk
  split at hk
  · rename_i b i l c
    obtain ⟨⟨hkd, hw⟩, ⟨h0, h1⟩, hk⟩ := hk
    obtain ⟨n, rfl⟩ := Int.eq_ofNat_of_zero_le h0
    have hlt : n < l := by omega
    obtain ⟨x, hS, rfl⟩ := rslInv hv
    obtain ⟨o, ho, hw⟩ := kO_some hw
    obtain ⟨x', hS', hbr, -⟩ := h.blk _ _ ho
    rw [hS] at hS'
    obtain rfl := Option.some.inj hS'
    rw [T.kind] at hkd
    obtain ⟨e, einf, ed, rfl, he1, he2⟩ := kind_slice hkd
    have hes : ti.esize = einf.size := by rw [T.esize]; exact sizeAt_info he1 he2
    cases o with
    | cells cs e' => exact hw.elim
    | row ro ks e' n' cap f =>
      have hxw : x.w = einf.size := by rw [hbr.row_w, ← hes]; exact hw.symm
      rw [addN_eq, show (n : Int).toNat = n from rfl] at hk
      refine ⟨_, .pointer (some ⟨x.b, x.o + (i + n) * x.w + 0, none⟩), hk, .rpt _ _ hS, ?_⟩
      have e1 : x.o + i * x.w + n * einf.size = x.o + (i + n) * x.w + 0 := by rw [Nat.add_mul, hxw]; omega
      simp [Instr.indexAt, asIntOf, run_underlying T.under, run_sizeOf' he1, add_none, hlt]
      simpa using e1
  · rename_i b i l c
    obtain ⟨⟨hkd, hw⟩, ⟨h0, h1⟩, hk⟩ := hk
    obtain ⟨n, rfl⟩ := Int.eq_ofNat_of_zero_le h0
    have hlt : n < l := by omega
    obtain ⟨x, hS, rfl⟩ : ∃ x, S b = some x ∧ v' = .slice (some ⟨x.b, x.o + i * x.w, none⟩) l c := by
      cases hv with
      | full i l h => exact ⟨_, h, rfl⟩
    obtain ⟨o, ho, hw⟩ := kO_some hw
    obtain ⟨x', hS', hbr, -⟩ := h.blk _ _ ho
    rw [hS] at hS'
    obtain rfl := Option.some.inj hS'
    rw [T.kind] at hkd
    obtain ⟨e, einf, ed, rfl, he1, he2⟩ := kind_slice hkd
    have hes : ti.esize = einf.size := by rw [T.esize]; exact sizeAt_info he1 he2
    cases o with
    | cells cs e' => exact hw.elim
    | row ro ks e' n' cap f =>
      have hxw : x.w = einf.size := by rw [hbr.row_w, ← hes]; exact hw.symm
      rw [addN_eq, show (n : Int).toNat = n from rfl] at hk
      refine ⟨_, .pointer (some ⟨x.b, x.o + (i + n) * x.w + 0, none⟩), hk, .rpt _ _ hS, ?_⟩
      have e1 : x.o + i * x.w + n * einf.size = x.o + (i + n) * x.w + 0 := by rw [Nat.add_mul, hxw]; omega
      simp [Instr.indexAt, asIntOf, run_underlying T.under, run_sizeOf' he1, add_none, hlt]
      simpa using e1
  · rename_i b i q l c
    obtain ⟨⟨hkd, hw⟩, ⟨h0, h1⟩, hk⟩ := hk
    obtain ⟨n, rfl⟩ := Int.eq_ofNat_of_zero_le h0
    have hlt : n < l := by omega
    obtain ⟨x, hS, rfl, rfl⟩ := cutInv hv
    obtain ⟨o, ho, hw⟩ := kO_some hw
    obtain ⟨x', hS', hbr, -⟩ := h.blk _ _ ho
    rw [hS] at hS'
    obtain rfl := Option.some.inj hS'
    rw [T.kind] at hkd
    obtain ⟨e, einf, ed, rfl, he1, he2⟩ := kind_slice hkd
    have hes : ti.esize = einf.size := by rw [T.esize]; exact sizeAt_info he1 he2
    cases o with
    | cells cs e' => exact hw.elim
    | row ro ks e' n' cap f =>
      have hxw : x.w = einf.size := by rw [hbr.row_w, ← hes]; exact hw.symm
      rw [addN_eq, show (n : Int).toNat = n from rfl] at hk
      have hl0 : (if c = 0 then 0 else q) = q := if_neg (by omega)
      refine ⟨_, .pointer (some ⟨x.b, x.o + (i + (q + n)) * x.w + 0, none⟩), hk, .rpt _ _ hS, ?_⟩
      have e1 : x.o + (i + q) * x.w + n * einf.size = x.o + (i + (q + n)) * x.w + 0 := by rw [← Nat.add_assoc, Nat.add_mul (i + q), hxw]; omega
      rw [hl0]
      simp [Instr.indexAt, asIntOf, run_underlying T.under, run_sizeOf' he1, add_none, hlt]
      simpa using e1
  · rename_i b o l c
    obtain ⟨hkd, ⟨h0, h1⟩, hk⟩ := hk
    obtain ⟨n, rfl⟩ := Int.eq_ofNat_of_zero_le h0
    have hlt : n < l := by omega
    obtain ⟨x, hS, rfl⟩ := slcInv hv
    rw [T.kind] at hkd
    obtain ⟨e, einf, ed, rfl, he1, he2⟩ := kind_slice hkd
    have hes : ti.esize = einf.size := by rw [T.esize]; exact sizeAt_info he1 he2
    rw [hes, show (n : Int).toNat = n from rfl] at hk
    refine ⟨_, .pointer (some ⟨x.b, x.o + (o + n * einf.size), none⟩), hk, .ptr _ hS, ?_⟩
    simp [Instr.indexAt, asIntOf, run_underlying T.under, run_sizeOf' he1, add_none, hlt, Nat.add_assoc]
  · rename_i b o
    obtain ⟨hkd, ⟨h0, h1⟩, hk⟩ := hk
    obtain ⟨n, rfl⟩ := Int.eq_ofNat_of_zero_le h0
    obtain ⟨x, hS, rfl⟩ := ptrInv hv
    rw [T.kind] at hkd
    obtain ⟨n', e, einf, ed, rfl, he1, he2⟩ := kind_array hkd
    have hes : ti.esize = einf.size := by rw [T.esize]; exact sizeAt_info he1 he2
    have hlen : ti.len = n' := T.len
    have hlt : n < n' := by omega
    rw [hes, show (n : Int).toNat = n from rfl] at hk
    refine ⟨_, .pointer (some ⟨x.b, x.o + (o + n * einf.size), none⟩), hk, .ptr _ hS, ?_⟩
    simp [Instr.indexAt, asIntOf, run_underlying T.under, run_sizeOf' he1, Instr.sureAddr, add_none, hlt, Nat.add_assoc]
  · exact hk.elim

theorem faX_ok (_h : HR B w0 S s w) {ty : TypeId} {ti : TI} {inf : TypeInfo} {d : TypeDesc} (T : TIs E.P ty ti inf d) {v v' : Value} {f : Nat} {K : KP} (hk : faX s ti v f K) (hv : VR S v v') :
    PX S K ((do pure (.value (← Instr.fieldAt ty v' f)) : Sem Next).run E.P w) w := by
  unfold faX fieldP at hk
  rw [T.fields] at hk
  obtain ⟨⟨o, g, n⟩, hf, h1, hk⟩ := kO_some hk
  obtain ⟨fs, fd, rfl, hfd, rfl, -, rfl⟩ := fieldsOf_get hf
  have hpos : 1 ≤ sizeAt E.P fd.type := Nat.le_of_ble_eq_true h1
  obtain ⟨finf, fd', hfi, -, hfs⟩ := sizeAt_pos (P := E.P) (ty := fd.type) (by omega)
  have hne : ¬ finf.size = 0 := by omega
  split at hk
  · obtain ⟨x, hS, rfl⟩ := ptrInv hv
    refine ⟨_, _, hk, .ptr _ hS, ?_⟩
    simp [Instr.fieldAt, run_underlying T.under, hfd, Instr.sureAddr, fieldPlace, run_sizeOf' hfi, hne, add_none, Nat.add_assoc]
  · obtain ⟨x, hS, rfl⟩ := rptInv hv
    obtain ⟨_, _, hk⟩ := kO_some hk
    refine ⟨_, _, hk, .rpt _ _ hS, ?_⟩
    simp [Instr.fieldAt, run_underlying T.under, hfd, Instr.sureAddr, fieldPlace, run_sizeOf' hfi, hne, add_none, Nat.add_assoc]
  · exact hk.elim

end
end Go.Rx

namespace Go.Rx
open Go.RowKit (Below)
open Go.Ev (TI TK groundT cellsL sizeAt aggAt aggOf TIs add_none mkTI_some run_sizeOf' run_isAgg' run_part fieldsOf_get sizeAt_pos sizeAt_info kind_slice kind_array kind_int kind_struct run_storeCells Wrote fold_splice lsetAll_spec fillL zipI repL)
section
variable {E : Env} {B : Nat → Prop} {w0 : World} {S : Sig} {s : St} {w : World} {t : Fr} {a : Act}
def OX (B : Nat → Prop) (w0 : World) (S : Sig) (K : KV) (m : Result Next) : Prop :=
  ∃ v s' S' w', K v s' ∧ Le S S' ∧ HR B w0 S' s' w' ∧ ((∃ v', m = .ok (.value v') w' ∧ VR S' v v') ∨ (m = .ok .skip w' ∧ v = .tuple #[]))
theorem OX.val {K : KV} {v v' : Value} {s' : St} {S' : Sig} {w' : World} (hk : K v s') (hle : Le S S') (h : HR B w0 S' s' w') (hv : VR S' v v') : OX B w0 S K (.ok (.value v') w') :=
  ⟨v, s', S', w', hk, hle, h, .inl ⟨v', rfl, hv⟩⟩
theorem OX.skip {K : KV} {s' : St} {S' : Sig} {w' : World} (hk : K (.tuple #[]) s') (hle : Le S S') (h : HR B w0 S' s' w') : OX B w0 S K (.ok .skip w') :=
  ⟨_, s', S', w', hk, hle, h, .inr ⟨rfl, rfl⟩⟩

theorem HR.newCells (h : HR B w0 S s w) {cs cs' : List Value} {e : TypeId} (hl : LR S cs cs') :
    ∃ S', Le S S' ∧ S' s.next = some ⟨w.heap.size, 0, 0⟩ ∧ HR B w0 S' (s.alloc (.cells cs e)) { w with heap := w.heap.push (.cells ⟨cs'⟩ e) } := by
  refine h.alloc rfl 0 rfl rfl rfl rfl fun S' hle => ⟨_, (0, 0), rfl, ?_, ?_, fun i _ => by simp⟩
  · have : List.take cs.length (List.drop 0 cs') = cs' := by rw [hl.1]; simp
    show LR S' cs (List.take cs.length (List.drop 0 cs'))
    rw [this]; exact hl.mono hle
  · show 0 + cs.length ≤ cs'.length
    rw [hl.1]; omega
theorem HR.newRow (h : HR B w0 S s w) {ks : List IntKind} {e : TypeId} {n cap : Nat} {f : Nat → Nat → Int} {C : Array Value} {w' : World} (hw : w'.heap = w.heap.push (.cells C e)) (hos : w'.os = w.os) (ht : w'.tape = w.tape) (hout : w'.output = w.output)
    (hn : n ≤ cap) (hC : cap * ks.length ≤ C.size) (hc : ∀ (i j : Nat) k, i < n → ks[j]? = some k → C[i * ks.length + j]? = some (.int k (f i j))) :
    ∃ S', Le S S' ∧ S' s.next = some ⟨w.heap.size, 0, ks.length⟩ ∧ HR B w0 S' (s.alloc (.row false ks e n cap f)) w' := by
  refine h.alloc rfl ks.length hw hos ht hout fun S' hle => BR.row_mk (C := C) (fr := (0, 0)) rfl rfl (fun _ => hn) ?_ (fun _ => by simpa using hC) ?_ (fun _ i _ => by simp)
  · have := Nat.mul_le_mul_right ks.length hn
    simp
    omega
  · intro i j k hi hk
    simpa using hc i j k hi hk

structure ElemOk (E : Env) (ti : TI) (ks : List IntKind) : Prop where
  elem : ∃ inf d, E.P.info? ti.elem = some inf ∧ E.P.underlying ti.elem = some d ∧ inf.size = ks.length ∧ inf.bytes ≤ 1000000 ∧ ∃ z, inf.zero = some z ∧ z.cells.toList = ks.map (fun k => Value.int k 0)
  zero : ∀ te k, look E.T ti.elem = some te → te.zero = some k → k = ks.map fun k => Value.int k 0
  pos : 1 ≤ ks.length
theorem kindsOf_some : ∀ {cs : List Value} {ks : List IntKind}, kindsOf cs = some ks → cs = ks.map fun k => Value.int k 0
  | [], ks, h => by
    obtain rfl : [] = ks := Option.some.inj h
    rfl
  | v :: cs, ks, h => by
    unfold kindsOf at h
    split at h
    · cases ‹v :: cs = []›
    · rename_i k l he
      obtain ⟨rfl, rfl⟩ := List.cons.inj he
      split at h
      · rename_i ks' hr
        obtain rfl := Option.some.inj h
        rw [kindsOf_some hr]
        rfl
      · cases h
    · cases h
theorem elemX_some (hE : EnvOk E) {ty : TypeId} {ti : TI} {inf : TypeInfo} {d : TypeDesc} (T : TIs E.P ty ti inf d) {k : List IntKind → Prop} (h : elemX E ti k) :
    ∃ ks, ElemOk E ti ks ∧ k ks ∧ d = .slice ti.elem ∧ ti.esize = ks.length := by
  obtain ⟨h1, h⟩ := h
  obtain ⟨te, ht, h⟩ := kO_some h
  obtain ⟨z, hz, h⟩ := kO_some h
  obtain ⟨ks, hks, h2, h3, h4, hkk⟩ := kO_some h
  obtain ⟨inf', d', T'⟩ := mkTI_some (hE.types _ _ ht)
  have h2 : te.size = ks.length := Nat.eq_of_beq_eq_true h2
  have h3 : 1 ≤ ks.length := Nat.le_of_ble_eq_true h3
  have h4 : te.bytes ≤ 1000000 := Nat.le_of_ble_eq_true h4
  have hz' := hz
  rw [T'.zero] at hz'
  obtain ⟨z0, hz1, hz2⟩ := Option.bind_eq_some_iff.1 hz'
  obtain rfl := kindsOf_some hks
  have hcells : z0.cells.toList = ks.map fun k => Value.int k 0 := by
    unfold Ev.zeroOf at hz2
    cases hg : Ev.groundA z0 && Nat.beq (cellsL z0).length inf'.size with
    | false => rw [hg] at hz2; cases hz2
    | true =>
      rw [hg] at hz2
      have : cellsL z0 = ks.map fun k => Value.int k 0 := Option.some.inj hz2
      rw [← this]
      cases z0 <;> rfl
  rw [T.kind] at h1
  obtain ⟨e, einf, ed, rfl, he1, he2⟩ := kind_slice h1
  have hel : ti.elem = e := T.elem
  refine ⟨ks, ⟨⟨inf', d', T'.info, T'.under, by rw [← T'.size, h2], by rw [← T'.bytes]; exact h4, z0, hz1, hcells⟩, fun te' k h5 h6 => ?_, h3⟩, hkk, by rw [hel], ?_⟩
  · rw [ht] at h5
    obtain rfl := Option.some.inj h5
    rw [hz] at h6
    exact (Option.some.inj h6).symm
  · rw [T.esize]
    show sizeAt E.P e = _
    rw [sizeAt_info he1 he2, ← h2, T'.size]
    have := T'.info
    rw [hel, he1] at this
    rw [Option.some.inj this]
end
end Go.Rx

namespace Go.Rx
open Go.RowKit (Below)
open Go.Ev (TI TK groundT cellsL sizeAt aggAt aggOf TIs add_none mkTI_some run_sizeOf' run_isAgg' run_part fieldsOf_get sizeAt_pos sizeAt_info kind_slice kind_array kind_int kind_struct Wrote fold_splice lsetAll_spec fillL zipI repL)
theorem idx_inj {w i j i' j' : Nat} (hj : j < w) (hj' : j' < w) (h : i * w + j = i' * w + j') : i = i' ∧ j = j' := by
  have h1 : (i * w + j) / w = i := by rw [Nat.mul_comm, Nat.mul_add_div (by omega), Nat.div_eq_of_lt hj]; omega
  have h2 : (i' * w + j') / w = i' := by rw [Nat.mul_comm, Nat.mul_add_div (by omega), Nat.div_eq_of_lt hj']; omega
  have h3 : i = i' := by rw [← h1, ← h2, h]
  subst h3
  exact ⟨rfl, by omega⟩
theorem idx_lt {w i j n : Nat} (hj : j < w) (hi : i < n) : i * w + j < n * w := by
  have := Nat.mul_le_mul_right w (show i + 1 ≤ n from hi)
  rw [Nat.add_mul, Nat.one_mul] at this
  omega
theorem splice_get (C : List Value) (o : Nat) (vs : List Value) (h : o + vs.length ≤ C.length) (q : Nat) :
    (C.take o ++ vs ++ C.drop (o + vs.length))[q]? = if q < o then C[q]? else if q < o + vs.length then vs[q - o]? else C[q]? := by
  have hl : (C.take o).length = o := by simp; omega
  by_cases h1 : q < o
  · rw [if_pos h1, List.append_assoc, List.getElem?_append_left (by omega), List.getElem?_take, if_pos h1]
  · rw [if_neg h1]
    by_cases h2 : q < o + vs.length
    · rw [if_pos h2, List.append_assoc, List.getElem?_append_right (by omega), List.getElem?_append_left (by omega), hl]
    · rw [if_neg h2, List.getElem?_append_right (by simp; omega), List.getElem?_drop]
      congr 1
      simp
      omega
section
variable {E : Env} {B : Nat → Prop} {w0 : World} {S : Sig} {s : St} {w : World} {t : Fr} {a : Act}
theorem HR.writeCells (h : HR B w0 S s w) {P : Program} {b off : Nat} {cs cs' : List Value} {e : TypeId} {x : Loc} (ho : look s.h b = some (.cells cs e)) (hS : S b = some x) {vs vs' : List Value} (hl : LR S vs vs') (hone : ∀ v ∈ vs, v.oneCell' = true)
    (hls : Ev.lsetAll cs off vs = some cs') : ∃ w', (storeCells ⟨x.b, x.o + off, none⟩ vs').run P w = .ok () w' ∧ HR B w0 S (s.set b (.cells cs' e)) w' := by
  obtain ⟨x', hS', ⟨C, fr, hx, hlr, hsz, hfr⟩, -⟩ := h.blk _ _ ho
  rw [hS] at hS'
  obtain rfl := Option.some.inj hS'
  obtain ⟨h1, h2⟩ := lsetAll_spec cs off vs cs' hls
  have hlen : vs.length = vs'.length := hl.1
  obtain ⟨w', hrun, hwr⟩ := Ev.run_storeCells (P := P) vs' 0 (x.o + off) C w hx (by omega) (hl.oneCells hone) hfr
  refine ⟨w', hrun, h.update ho hS rfl rfl hwr.size hwr.other hwr.os hwr.tape hwr.output ?_⟩
  have hcl : cs'.length = cs.length := by rw [h2]; simp; omega
  refine ⟨_, fr, hwr.row, ?_, ?_, ?_⟩
  · refine ⟨?_, fun i v v' e1 e2 => ?_⟩
    · simp; omega
    · have hi : i < cs'.length := (List.getElem?_eq_some_iff.1 e1).1
      rw [List.getElem?_take, if_pos hi, List.getElem?_drop] at e2
      have e2' : (C.toList.take (x.o + off + 0) ++ vs' ++ C.toList.drop (x.o + off + 0 + vs'.length))[x.o + i]? = some v' := e2
      rw [Nat.add_zero, splice_get _ _ _ (by simp; omega)] at e2'
      rw [h2, splice_get _ _ _ h1] at e1
      by_cases k1 : i < off
      · rw [if_pos k1] at e1
        rw [if_pos (by omega)] at e2'
        obtain ⟨u, k2, k3⟩ := hlr.get e1
        rw [List.getElem?_take, if_pos (by omega), List.getElem?_drop, e2'] at k2
        obtain rfl := Option.some.inj k2
        exact k3
      · rw [if_neg k1] at e1
        rw [if_neg (by omega)] at e2'
        by_cases k2 : i < off + vs.length
        · rw [if_pos k2] at e1
          rw [if_pos (by omega), show x.o + i - (x.o + off) = i - off by omega] at e2'
          exact hl.2 _ _ _ e1 e2'
        · rw [if_neg k2] at e1
          rw [if_neg (by omega)] at e2'
          obtain ⟨u, k3, k4⟩ := hlr.get e1
          rw [List.getElem?_take, if_pos (by omega), List.getElem?_drop, e2'] at k3
          obtain rfl := Option.some.inj k3
          exact k4
  · show _ ≤ (C.toList.take (x.o + off + 0) ++ vs' ++ C.toList.drop (x.o + off + 0 + vs'.length)).length
    simp; omega
  · intro i hi
    have : i < (C.toList.take (x.o + off + 0) ++ vs' ++ C.toList.drop (x.o + off + 0 + vs'.length)).length := hi
    exact hfr i (by simp at this; omega)

theorem HR.writeRow (h : HR B w0 S s w) {P : Program} {b n cap : Nat} {ks : List IntKind} {e : TypeId} {f f' : Nat → Nat → Int} {x : Loc} (ho : look s.h b = some (.row false ks e n cap f)) (hS : S b = some x) {vs : List Value} (q0 : Nat)
    (hone : ∀ v ∈ vs, v.oneCell' = true) (hq : q0 + vs.length ≤ n * ks.length)
    (hin : ∀ (i j : Nat) k, i < n → ks[j]? = some k → q0 ≤ i * ks.length + j → i * ks.length + j < q0 + vs.length → vs[i * ks.length + j - q0]? = some (.int k (f' i j)))
    (hout : ∀ (i j : Nat) k, i < n → ks[j]? = some k → ¬ (q0 ≤ i * ks.length + j ∧ i * ks.length + j < q0 + vs.length) → f' i j = f i j) :
    ∃ w', (storeCells ⟨x.b, x.o + q0, none⟩ vs).run P w = .ok () w' ∧ HR B w0 S (s.set b (.row false ks e n cap f')) w' := by
  obtain ⟨x', hS', hbr, -⟩ := h.blk _ _ ho
  rw [hS] at hS'
  obtain rfl := Option.some.inj hS'
  obtain ⟨C, fr, hx, hxw, hnc, hsz, hcap, hc, hfr⟩ := hbr.row_get (.inl rfl)
  obtain ⟨w', hrun, hwr⟩ := Ev.run_storeCells (P := P) vs 0 (x.o + q0) C w hx (by omega) hone (hfr rfl)
  have hlen : ((C.toList.take (x.o + q0 + 0) ++ vs ++ C.toList.drop (x.o + q0 + 0 + vs.length))).length = C.size := by simp; omega
  refine ⟨w', hrun, h.update ho hS rfl rfl hwr.size hwr.other hwr.os hwr.tape hwr.output (BR.row_mk hwr.row hxw hnc ?_ (fun _ => ?_) ?_ (fun _ => ?_))⟩
  · show _ ≤ (C.toList.take (x.o + q0 + 0) ++ vs ++ C.toList.drop (x.o + q0 + 0 + vs.length)).length
    rw [hlen]; exact hsz
  · show _ ≤ (C.toList.take (x.o + q0 + 0) ++ vs ++ C.toList.drop (x.o + q0 + 0 + vs.length)).length
    rw [hlen]; exact hcap rfl
  · intro i j k hi hk
    have hj : j < ks.length := (List.getElem?_eq_some_iff.1 hk).1
    have hlt := idx_lt hj hi
    have old := hc i j k hi hk
    rw [← Array.getElem?_toList] at old ⊢
    show (C.toList.take (x.o + q0 + 0) ++ vs ++ C.toList.drop (x.o + q0 + 0 + vs.length))[x.o + i * ks.length + j]? = _
    rw [Nat.add_zero, splice_get _ _ _ (by simp; omega)]
    by_cases k1 : q0 ≤ i * ks.length + j ∧ i * ks.length + j < q0 + vs.length
    · rw [if_neg (by omega), if_pos (by omega), show x.o + i * ks.length + j - (x.o + q0) = i * ks.length + j - q0 by omega]
      exact hin i j k hi hk k1.1 k1.2
    · rw [hout i j k hi hk k1]
      by_cases k2 : i * ks.length + j < q0
      · rw [if_pos (by omega)]; exact old
      · rw [if_neg (by omega), if_neg (by omega)]; exact old
  · intro i hi
    have : i < (C.toList.take (x.o + q0 + 0) ++ vs ++ C.toList.drop (x.o + q0 + 0 + vs.length)).length := hi
    rw [hlen] at this
    exact hfr rfl i this

theorem ints_get : ∀ {ks : List IntKind} {l : List Int} {j : Nat} {k : IntKind}, l.length = ks.length → ks[j]? = some k → (Ev.ints ks l)[j]? = some (.int k ((l[j]?).getD 0))
  | [], l, j, k, _, h => by simp at h
  | k0 :: ks, [], j, k, hl, h => by simp at hl
  | k0 :: ks, z :: l, 0, k, hl, h => by
    simp at h
    subst h
    rfl
  | k0 :: ks, z :: l, j + 1, k, hl, h => by
    have := ints_get (ks := ks) (l := l) (j := j) (k := k) (by simpa using hl) (by simpa using h)
    simpa [Ev.ints] using this
theorem ints_length : ∀ {ks : List IntKind} {l : List Int}, l.length = ks.length → (Ev.ints ks l).length = ks.length
  | [], l, _ => by simp [Ev.ints]
  | k0 :: ks, [], hl => by simp at hl
  | k0 :: ks, z :: l, hl => by
    have := ints_length (ks := ks) (l := l) (by simpa using hl)
    simpa [Ev.ints] using this
theorem ints_one : ∀ {ks : List IntKind} {l : List Int}, ∀ v ∈ Ev.ints ks l, v.oneCell' = true
  | [], l, v, h => by simp [Ev.ints] at h
  | k0 :: ks, [], v, h => by simp [Ev.ints] at h
  | k0 :: ks, z :: l, v, h => by
    rcases List.mem_cons.1 (show v ∈ Value.int k0 z :: Ev.ints ks l from h) with rfl | h
    · rfl
    · exact ints_one v h

theorem storeX_ok (h : HR B w0 S s w) {ty : TypeId} {ti : TI} {inf : TypeInfo} {d : TypeDesc} (T : TIs E.P ty ti inf d) {p : Addr} {v pv v' : Value} {K : St → Prop} (hk : storeX s ti p v K) (hp : VR S (.pointer (some p)) pv) (hv : VR S v v') :
    ∃ s' w', K s' ∧ HR B w0 S s' w' ∧ ((do Instr.storeAt ty pv v'; pure .skip) : Sem Next).run E.P w = .ok .skip w' := by
  unfold storeX at hk
  obtain ⟨o, ho, hk1⟩ := kO_some hk
  clear hk
  have hk := hk1
  clear hk1
  obtain ⟨b, off, sp⟩ := p
  cases o with
  | cells cs e =>
    cases sp with
    | some j => exact hk.elim
    | none =>
      obtain ⟨x, hS, rfl⟩ := ptrInv hp
      obtain ⟨h1, h2, h3⟩ := hk
      obtain ⟨cs', h4, h5⟩ := kO_some h3
      have h1 : (cellsL v).length = ti.size := Nat.eq_of_beq_eq_true h1
      obtain ⟨w', hrun, hH⟩ := h.writeCells (P := E.P) ho hS hv.cells (Ev.oneL_all h2) h4
      have hsz : v'.cells.size = inf.size := by
        have := hv.cells.1
        rw [← T.size, ← h1, this]; simp
      exact ⟨_, w', h5, hH, by simp [Instr.storeAt, Instr.sureAddr, storeVar, run_sizeOf' T.info, hsz, hrun]⟩
  | row ro ks e n cap f =>
    obtain ⟨rfl, hk⟩ := hk
    cases sp with
    | none => exact hk.elim
    | some j =>
      obtain ⟨x, hS, rfl⟩ := rptInv hp
      obtain ⟨hlt, hk⟩ := hk
      simp only at hlt hk
      have hxw : x.w = ks.length := by
        obtain ⟨x', hS', hbr, -⟩ := h.blk _ _ ho
        rw [hS] at hS'
        obtain rfl := Option.some.inj hS'
        exact hbr.row_w
      rw [hxw]
      cases hagg : ti.agg with
      | true =>
        rw [hagg] at hk
        obtain ⟨⟨rfl, hts⟩, h2⟩ := hk
        obtain ⟨zs, h3, h4⟩ := kO_some h2
        obtain ⟨h5, h6⟩ := intsOf_ints h3
        have hcv : v'.cells.toList = Ev.ints ks zs := by
          have := hv.cells
          rw [h5] at this
          exact ints_all this
        have hil := ints_length h6
        have hmul := Nat.mul_le_mul_right ks.length (show off + 1 ≤ n from hlt)
        rw [Nat.add_mul, Nat.one_mul] at hmul
        obtain ⟨w', hrun, hH⟩ := h.writeRow (P := E.P) (vs := Ev.ints ks zs) (f' := putE f off zs) ho hS (off * ks.length) ints_one (by rw [hil]; omega) (by
            intro i j k hi hk2 h7 h8
            have hj : j < ks.length := (List.getElem?_eq_some_iff.1 hk2).1
            rw [hil] at h8
            have hio : i = off := by
              rcases Nat.lt_trichotomy i off with q | q | q
              · have := idx_lt hj q; omega
              · exact q
              · have := Nat.mul_le_mul_right ks.length (show off + 1 ≤ i from q)
                rw [Nat.add_mul, Nat.one_mul] at this
                omega
            subst hio
            rw [show i * ks.length + j - i * ks.length = j by omega, ints_get h6 hk2]
            simp [putE]) (by
            intro i j k hi hk2 h7
            have hj : j < ks.length := (List.getElem?_eq_some_iff.1 hk2).1
            rw [hil] at h7
            unfold putE
            rw [if_neg]
            rintro rfl
            exact h7 (by omega))
        have hsz : v'.cells.size = inf.size := by
          rw [← T.size, hts, ← hil, ← hcv]; simp
        refine ⟨_, w', h4, hH, ?_⟩
        have he : x.o + off * ks.length + 0 = x.o + off * ks.length := rfl
        simp [Instr.storeAt, Instr.sureAddr, storeVar, run_sizeOf' T.info, hsz, hcv, hrun]
      | false =>
        rw [hagg] at hk
        simp only [cond_false] at hk
        split at hk
        · rename_i k z
          obtain ⟨h1, h2⟩ := hk
          obtain ⟨k', h3, h4, h5⟩ := kO_some h2
          obtain rfl := kindEq_eq h4
          obtain rfl := intInv hv rfl
          have h1 : ti.size = 1 := Nat.eq_of_beq_eq_true h1
          have hj : j < ks.length := (List.getElem?_eq_some_iff.1 h3).1
          have hlt2 := idx_lt hj hlt
          obtain ⟨w', hrun, hH⟩ := h.writeRow (P := E.P) (vs := [.int k z]) (f' := putF f off j z) ho hS (off * ks.length + j) (by simp [Value.oneCell']) (by simp; omega) (by
              intro i' j' k2 hi hk2 h7 h8
              have hj' : j' < ks.length := (List.getElem?_eq_some_iff.1 hk2).1
              simp at h8
              obtain ⟨rfl, rfl⟩ := idx_inj hj' hj (show i' * ks.length + j' = off * ks.length + j by omega)
              rw [h3] at hk2
              obtain rfl := Option.some.inj hk2
              simp [putF]) (by
              intro i' j' k2 hi hk2 h7
              have hj' : j' < ks.length := (List.getElem?_eq_some_iff.1 hk2).1
              unfold putF
              rw [if_neg]
              rintro ⟨rfl, rfl⟩
              exact h7 (by simp))
          have hsz : inf.size = 1 := by rw [← T.size, h1]
          refine ⟨_, w', h5, hH, ?_⟩
          rw [← Nat.add_assoc] at hrun
          simp [Instr.storeAt, Instr.sureAddr, storeVar, run_sizeOf' T.info, hsz, Value.cells, hrun]
        · exact hk.elim
end
end Go.Rx

namespace Go.Rx
open Go.RowKit (Below)
open Go.Ev (TI TK groundT cellsL sizeAt aggAt aggOf TIs add_none mkTI_some run_sizeOf' run_isAgg' run_zero' sizeAt_pos sizeAt_info kind_slice Wrote repL repL_get repL_length run_grow run_room run_firstCells_at madeCells_rep zeroCells_rep)
section
variable {E : Env} {B : Nat → Prop} {w0 : World} {S : Sig} {s : St} {w : World} {t : Fr} {a : Act}
def Reads (ks : List IntKind) (m : Nat) (g : Nat → Nat → Int) (i' : Nat) (news : List Value) : Prop :=
  news.length = m * ks.length ∧ (∀ v ∈ news, v.oneCell' = true) ∧ ∀ (i j : Nat) k, i < m → ks[j]? = some k → news[i * ks.length + j]? = some (.int k (g (i' + i) j))
theorem reads_part {C : Array Value} {o n : Nat} {ks : List IntKind} {g : Nat → Nat → Int} (hks : 1 ≤ ks.length) (hsz : o + n * ks.length ≤ C.size) (hc : ∀ (i j : Nat) k, i < n → ks[j]? = some k → C[o + i * ks.length + j]? = some (.int k (g i j)))
    {i m : Nat} (him : i + m ≤ n) : Reads ks m g i ((C.toList.drop (o + i * ks.length)).take (m * ks.length)) := by
  have hmul : i * ks.length + m * ks.length ≤ n * ks.length := by rw [← Nat.add_mul]; exact Nat.mul_le_mul_right _ him
  have hget : ∀ (q : Nat), q < m * ks.length → ((C.toList.drop (o + i * ks.length)).take (m * ks.length))[q]? = C[o + i * ks.length + q]? := fun q hq => by
    rw [List.getElem?_take, if_pos hq, List.getElem?_drop]; simp
  have hcell : ∀ (a b : Nat) k, a < m → ks[b]? = some k → ((C.toList.drop (o + i * ks.length)).take (m * ks.length))[a * ks.length + b]? = some (.int k (g (i + a) b)) := by
    intro a b k ha hb
    have hbl : b < ks.length := (List.getElem?_eq_some_iff.1 hb).1
    rw [hget _ (idx_lt hbl ha), show o + i * ks.length + (a * ks.length + b) = o + (i + a) * ks.length + b by rw [Nat.add_mul]; omega]
    exact hc _ _ _ (by omega) hb
  refine ⟨by simp; omega, fun v hv => ?_, hcell⟩
  obtain ⟨q, hq⟩ := List.getElem?_of_mem hv
  have hql : q < m * ks.length := by
    have := (List.getElem?_eq_some_iff.1 hq).1
    rw [List.length_take] at this
    omega
  have hqm : q / ks.length < m := by rw [Nat.div_lt_iff_lt_mul (by omega)]; exact hql
  have hqr : q % ks.length < ks.length := Nat.mod_lt _ (by omega)
  have := hcell (q / ks.length) (q % ks.length) _ hqm (List.getElem?_eq_getElem hqr)
  rw [show q / ks.length * ks.length + q % ks.length = q by rw [Nat.mul_comm]; exact Nat.div_add_mod q ks.length, hq] at this
  rw [Option.some.inj this]
  rfl

theorem srcX_ok (h : HR B w0 S s w) {P : Program} {ks : List IntKind} (hks : 1 ≤ ks.length) {x x' : Value} (hx : VR S x x') {k : Nat → (Nat → Nat → Int) → Nat → Prop} (hk : srcX s ks x k) {xT e' : TypeId} (hu : P.underlying xT = some (.slice e')) :
    ∃ m g i' news l c base, k m g i' ∧ Reads ks m g i' news ∧ x' = .slice base l c ∧ l = m ∧ Src P ks.length xT x' m news w ∧
      ∀ n, n ≤ m → (Builtin.firstCells ks.length n x').run P w = .ok ⟨news.take (n * ks.length)⟩ w := by
  unfold srcX at hk
  split at hk
  · rename_i c
    cases hx
    refine ⟨0, _, 0, [], 0, c, none, hk, ⟨by simp, by simp, fun i j k hi => by omega⟩, rfl, rfl, Src.ofNil w hu c, fun n hn => ?_⟩
    have := run_firstCells_none (P := P) w ks.length n 0 c
    simpa using this
  · rename_i b i m c
    obtain ⟨o, ho, hk1⟩ := kO_some hk
    clear hk
    cases o with
    | cells cs e => exact hk1.elim
    | row ro ks' e n cap g =>
      obtain ⟨h1, h2, h3⟩ := hk1
      obtain rfl := ksEq_eq h1
      obtain ⟨xx, hS, rfl⟩ := rslInv hx
      obtain ⟨x2, hS', hbr, -⟩ := h.blk _ _ ho
      rw [hS] at hS'
      obtain rfl := Option.some.inj hS'
      rcases Nat.eq_zero_or_pos n with hn0 | hn0
      · obtain rfl : m = 0 := by omega
        have hfc : ∀ w' : World, (Builtin.firstCells ks.length 0 (.slice (some ⟨xx.b, xx.o + i * xx.w, none⟩) 0 c)).run P w' = .ok (([] : List Value).toArray) w' := fun w' => by
          simp [Builtin.firstCells, loadCells, loadCellsFrom]
        refine ⟨0, g, i, [], 0, c, _, h3, ⟨by simp, by simp, fun i j k hi => by omega⟩, rfl, rfl, ⟨.inl ⟨e', hu⟩, fun _ => rfl, hfc w, hfc w.drew, by simp, by simp⟩, fun q hq => ?_⟩
        obtain rfl : q = 0 := by omega
        simpa using hfc w
      obtain ⟨C, fr, hxC, hxw, hnc, hsz, hcap, hc, hfr⟩ := hbr.row_get (.inr hn0)
      rw [hxw]
      have hR := reads_part hks hsz hc h2
      have hmul : i * ks.length + m * ks.length ≤ n * ks.length := by rw [← Nat.add_mul]; exact Nat.mul_le_mul_right _ h2
      have hrun := Ev.run_loadCells (P := P) (w := w) (x := xx.b) (off := xx.o + i * ks.length) (n := m * ks.length) hxC (by omega)
      have hrun2 := Ev.run_loadCells (P := P) (w := w.drew) (x := xx.b) (off := xx.o + i * ks.length) (n := m * ks.length) hxC (by omega)
      refine ⟨m, g, i, _, m, c, _, h3, hR, rfl, rfl, ⟨.inl ⟨e', hu⟩, fun _ => rfl, run_firstCells_at hrun, run_firstCells_at hrun2, hR.1, hR.2.1⟩, fun q hq => ?_⟩
      have hmul2 := Nat.mul_le_mul_right ks.length hq
      have hrun3 := Ev.run_loadCells (P := P) (w := w) (x := xx.b) (off := xx.o + i * ks.length) (n := q * ks.length) hxC (by omega)
      rw [List.take_take, show min (q * ks.length) (m * ks.length) = q * ks.length by omega]
      exact run_firstCells_at hrun3
  · exact hk.elim

theorem reads_at {ks : List IntKind} {m : Nat} {g : Nat → Nat → Int} {i' : Nat} {news : List Value} (hR : Reads ks m g i' news) (olds rest : List Value) (l : Nat) (hl : olds.length = l * ks.length) (f : Nat → Nat → Int)
    (ho : ∀ (i j : Nat) k, i < l → ks[j]? = some k → olds[i * ks.length + j]? = some (.int k (f i j))) :
    ∀ (i j : Nat) k, i < l + m → ks[j]? = some k → ((olds ++ news) ++ rest)[i * ks.length + j]? = some (.int k (appF f l g i' i j)) := by
  intro i j k hi hk
  have hj : j < ks.length := (List.getElem?_eq_some_iff.1 hk).1
  unfold appF
  by_cases h1 : i < l
  · rw [if_pos h1, List.append_assoc, List.getElem?_append_left (by rw [hl]; exact idx_lt hj h1)]
    exact ho i j k h1 hk
  · rw [if_neg h1]
    have hmul := Nat.mul_le_mul_right ks.length (show l ≤ i by omega)
    have hsub : i * ks.length + j - l * ks.length = (i - l) * ks.length + j := by rw [Nat.sub_mul]; omega
    have hlt := idx_lt hj (show i - l < m by omega)
    rw [List.append_assoc, List.getElem?_append_right (by omega), hl, hsub, List.getElem?_append_left (by rw [hR.1]; exact hlt), hR.2.2 _ _ _ (by omega) hk, Nat.add_comm i' (i - l)]

theorem appX_ok (h : HR B w0 S s w) {ty xT sT e' : TypeId} {ti : TI} {ks : List IntKind} (hel : ElemOk E ti ks) (hT : E.P.underlying sT = some (.slice ti.elem)) (hu : E.P.underlying xT = some (.slice e')) {sl x sl' x' : Value} (hsl : VR S sl sl') (hx : VR S x x') {K : KV}
    (hk : appX s ks ti.elem sl x K) : OX B w0 S K ((do pure (.value (← Builtin.append_ #[sT, xT] ty #[sl', x'])) : Sem Next).run E.P w) := by
  obtain ⟨inf, d, hi1, hi2, hisz, hib, z, hz1, hz2⟩ := hel.elem
  have hzs : z.cells.size = inf.size := by rw [hisz]; have := congrArg List.length hz2; simpa using this
  obtain ⟨m, g, i', news, lx, cx, bx, ⟨hm, hk1⟩, hR, hxe, hlm, hsrc, -⟩ := srcX_ok h (P := E.P) hel.pos hx hk hu
  clear hk
  rw [← hisz] at hsrc
  have grow : ∀ (base : Option Addr) (l c : Nat) (olds : List Value) (f : Nat → Nat → Int) (s1 : St), HR B w0 S s1 w → olds.length = l * ks.length → (∀ (i j : Nat) k, i < l → ks[j]? = some k → olds[i * ks.length + j]? = some (.int k (f i j))) →
      (Builtin.firstCells inf.size l (.slice base l c)).run E.P w.drew = .ok olds.toArray w.drew → c < l + m → l + m ≤ 200000 → newRow s1 ks ti.elem (l + m) (appF f l g i') K →
      OX B w0 S K ((do pure (.value (← Builtin.append_ #[sT, xT] ty #[.slice base l c, x'])) : Sem Next).run E.P w) := by
    intro base l c olds f s1 h1 hol hoc hfc hlt hle hnew
    obtain ⟨ex, rest, hr1, hr2⟩ := run_grow (ty := ty) hT hi1 hz1 base l c olds hfc x' m news hsrc hlt hle hib hzs
    have hC : ((olds ++ news) ++ rest).length = (l + m + ex) * ks.length := by
      simp only [List.length_append, hol, hR.1, hr1, hisz, Nat.add_mul]
    obtain ⟨S', hle', hn', hH⟩ := (h1.drew (w.drawn + 1)).newRow (ks := ks) (e := ti.elem) (n := l + m) (cap := l + m + ex) (f := appF f l g i') (C := ⟨(olds ++ news) ++ rest⟩) (w' := { { w with drawn := w.drawn + 1 } with heap := w.heap.push (.cells ⟨(olds ++ news) ++ rest⟩ ti.elem) }) rfl rfl rfl rfl (by omega)
      (by show _ ≤ ((olds ++ news) ++ rest).length; rw [hC]; exact Nat.le_refl _) (fun i j k hi hk => by
        have := reads_at hR olds rest l hol f hoc i j k hi hk
        simpa using this)
    rw [Sem.run_bind, hr2]
    have hcp : l + m + ex - 1 + 1 = l + m + ex := by omega
    have hnew := hnew (l + m + ex) (by omega)
    rw [hcp] at hnew
    refine .val hnew hle' hH ?_
    have := VR.rsl (S := S') 0 (l + m) (l + m + ex) hn'
    simpa [rsl] using this
  unfold appX at *
  split at hk1
  · cases hsl
    rcases br_cases hk1 with ⟨hm0, hk2⟩ | ⟨hm0, hk2⟩
    · have hm0 : 0 < m := of_decide_eq_true hm0
      have := grow none 0 0 [] (fun _ _ => 0) s h (by simp) (fun i j k hi => by omega) (run_firstCells_none w.drew inf.size 0 0 0) (by omega) (by omega) (by simpa using hk2)
      simpa using this
    · have hm0 : ¬ 0 < m := of_decide_eq_false hm0
      obtain rfl : m = 0 := by omega
      have hr := Ev.run_room_nil (ty := ty) hT hi1 hsrc
      rw [Sem.run_bind, hr]
      exact .val hk2 (Le.refl S) h (.slN 0 0)
  · rename_i b i l c
    obtain ⟨o, ho, hk2⟩ := kO_some hk1
    clear hk1
    obtain ⟨xx, hS, rfl⟩ := rslInv hsl
    cases o with
    | cells cs e => exact hk2.elim
    | row ro ks' e n cap f =>
      obtain ⟨h1, hk3⟩ := hk2
      obtain rfl := ksEq_eq h1
      obtain ⟨x2, hS', hbr, -⟩ := h.blk _ _ ho
      rw [hS] at hS'
      obtain rfl := Option.some.inj hS'
      cases c with
      | zero =>
        obtain ⟨rfl, hk4⟩ := hk3
        rcases br_cases hk4 with ⟨hm0, hk5⟩ | ⟨hm0, hk5⟩
        · have hm0 : 0 < m := of_decide_eq_true hm0
          have hfc : (Builtin.firstCells inf.size 0 (.slice (some ⟨xx.b, xx.o + i * xx.w, none⟩) 0 0)).run E.P w.drew = .ok (([] : List Value).toArray) w.drew := by
            simp [Builtin.firstCells, loadCells, loadCellsFrom]
          have := grow (some ⟨xx.b, xx.o + i * xx.w, none⟩) 0 0 [] (fun _ _ => 0) s h (by simp) (fun i j k hi => by omega) hfc (by omega) (by omega) (by simpa using hk5)
          simpa using this
        · have hm0 : ¬ 0 < m := of_decide_eq_false hm0
          obtain rfl : m = 0 := by omega
          have hnn : news = [] := by have := hR.1; simp at this; exact this
          subst hnn
          have hr := run_room (ty := ty) (off := xx.o + i * xx.w) (sLen := 0) (sCap := 0) (b := xx.b) hT hi1 hsrc (by omega) (w' := w) rfl
          rw [Sem.run_bind, hr]
          exact .val hk5 (Le.refl S) h (.rsl _ _ _ hS)
      | succ c =>
        obtain ⟨⟨h2, rfl, rfl, rfl, hcc, hlm2⟩, hk4⟩ := hk3
        obtain rfl : ti.elem = e := Nat.eq_of_beq_eq_true h2
        obtain ⟨C, fr, hxC, hxw, hnc, hsz, hcap, hc, hfr⟩ := hbr.row_get (.inl rfl)
        have hmul := Nat.mul_le_mul_right ks.length (hnc rfl)
        have hR0 := reads_part hel.pos hsz hc (show 0 + l ≤ l by omega)
        simp only [Nat.zero_mul, Nat.add_zero] at hR0 ⊢
        by_cases hroom : l + m ≤ c + 1
        · -- in place
          have hnl : news.length = m * ks.length := hR.1
          have hm2 := Nat.mul_le_mul_right ks.length hroom
          rw [Nat.add_mul] at hm2
          have hcapC := hcap rfl
          rw [← hcc] at hcapC
          obtain ⟨w', hrun, hwr⟩ := Ev.run_storeCells (P := E.P) (e := ti.elem) news 0 (xx.o + l * inf.size) C w hxC (by rw [hisz]; omega) hsrc.one (hfr rfl)
          have hr := run_room (ty := ty) (off := xx.o) hT hi1 hsrc hroom hrun
          rw [Sem.run_bind, hr]
          obtain ⟨S', hle', hn', hH⟩ := h.rename (w' := w') (o' := .row false ks ti.elem (l + m) (c + 1) (appF f l g i')) ho hS rfl rfl ⟨xx.b, xx.o, ks.length⟩ rfl hwr.size hwr.other hwr.os hwr.tape hwr.output (fun S' _ => by
            refine BR.row_mk hwr.row rfl (fun _ => hroom) ?_ (fun _ => ?_) ?_ (fun _ => ?_)
            · show _ ≤ (C.toList.take (xx.o + l * inf.size + 0) ++ news ++ C.toList.drop (xx.o + l * inf.size + 0 + news.length)).length
              rw [Nat.add_mul, hisz]; simp; omega
            · show _ ≤ (C.toList.take (xx.o + l * inf.size + 0) ++ news ++ C.toList.drop (xx.o + l * inf.size + 0 + news.length)).length
              rw [hisz]; simp; omega
            · intro i j k hi hk
              have hj : j < ks.length := (List.getElem?_eq_some_iff.1 hk).1
              rw [← Array.getElem?_toList]
              show (C.toList.take (xx.o + l * inf.size + 0) ++ news ++ C.toList.drop (xx.o + l * inf.size + 0 + news.length))[xx.o + i * ks.length + j]? = _
              rw [Nat.add_zero, hisz, splice_get _ _ _ (by simp; omega)]
              unfold appF
              by_cases h1 : i < l
              · have := idx_lt hj h1
                rw [if_pos h1, if_pos (by omega)]
                have old := hc i j k h1 hk
                rw [← Array.getElem?_toList] at old
                exact old
              · have hmul3 := Nat.mul_le_mul_right ks.length (show l ≤ i by omega)
                have hsub : xx.o + i * ks.length + j - (xx.o + l * ks.length) = (i - l) * ks.length + j := by rw [Nat.sub_mul]; omega
                have hlt := idx_lt hj (show i - l < m by omega)
                rw [if_neg h1, if_neg (by omega), if_pos (by rw [hnl]; rw [Nat.sub_mul] at hlt; omega), hsub, hR.2.2 _ _ _ (by omega) hk, Nat.add_comm i' (i - l)]
            · intro i hi
              have : i < (C.toList.take (xx.o + l * inf.size + 0) ++ news ++ C.toList.drop (xx.o + l * inf.size + 0 + news.length)).length := hi
              exact hfr rfl i (by rw [hisz] at this; simp at this; omega))
          refine .val (show K (rsl s.next 0 (l + m) (c + 1)) _ from hk4 (c + 1) hroom) hle' hH ?_
          have := VR.rsl (S := S') 0 (l + m) (c + 1) hn'
          show VR S' (.slice (some ⟨s.next, 0, some 0⟩) (l + m) (c + 1)) _
          simpa using this
        · -- a new row
          have hfc : (Builtin.firstCells inf.size l (.slice (some ⟨xx.b, xx.o, none⟩) l (c + 1))).run E.P w.drew = .ok ((C.toList.drop xx.o).take (l * ks.length)).toArray w.drew := by
            have := Ev.run_loadCells (P := E.P) (w := w.drew) (x := xx.b) (off := xx.o) (n := l * inf.size) hxC (by rw [hisz]; omega)
            have h2 := run_firstCells_at (len := l) (cap := c + 1) this
            rw [hisz] at h2 ⊢
            exact h2
          exact grow (some ⟨xx.b, xx.o, none⟩) l (c + 1) _ f (s.drop b) (h.forget b) hR0.1 (fun i j k hi hk => by have := hR0.2.2 i j k hi hk; simpa using this) hfc (by omega) (by omega) hk4
  · rename_i b i l c
    obtain ⟨rfl, hk2⟩ := hk1
    obtain ⟨o, ho, hk2⟩ := kO_some hk2
    obtain ⟨xx, hS, rfl⟩ := fullInv hsl
    cases o with
    | cells cs e => exact hk2.elim
    | row ro ks' e n cap f =>
      obtain ⟨⟨h1, h2, h3, h4⟩, hk3⟩ := hk2
      obtain rfl := ksEq_eq h1
      obtain ⟨x2, hS', hbr, -⟩ := h.blk _ _ ho
      rw [hS] at hS'
      obtain rfl := Option.some.inj hS'
      rcases Nat.eq_zero_or_pos c with hc0 | hc0
      · subst hc0
        have hfc : (Builtin.firstCells inf.size 0 (.slice (some ⟨xx.b, xx.o + i * xx.w, none⟩) 0 0)).run E.P w.drew = .ok (([] : List Value).toArray) w.drew := by
          simp [Builtin.firstCells, loadCells, loadCellsFrom]
        exact grow (some ⟨xx.b, xx.o + i * xx.w, none⟩) 0 0 [] _ s h (by simp) (fun i j k hi => by omega) hfc (by omega) (by omega) hk3
      · obtain ⟨C, fr, hxC, hxw, hnc, hsz, hcap, hc, hfr⟩ := hbr.row_get (.inr (by omega))
        have hR0 := reads_part hel.pos hsz hc h2
        have hmul := Nat.mul_le_mul_right ks.length h2
        rw [Nat.add_mul] at hmul
        rw [hxw]
        have hfc : (Builtin.firstCells inf.size c (.slice (some ⟨xx.b, xx.o + i * ks.length, none⟩) c c)).run E.P w.drew = .ok ((C.toList.drop (xx.o + i * ks.length)).take (c * ks.length)).toArray w.drew := by
          have := Ev.run_loadCells (P := E.P) (w := w.drew) (x := xx.b) (off := xx.o + i * ks.length) (n := c * inf.size) hxC (by rw [hisz]; omega)
          have h2 := run_firstCells_at (len := c) (cap := c) this
          rw [hisz] at h2 ⊢
          exact h2
        exact grow (some ⟨xx.b, xx.o + i * ks.length, none⟩) c c _ (fun a => f (i + a)) s h hR0.1 (fun i j k hi hk => hR0.2.2 i j k hi hk) hfc (by omega) (by omega) hk3
  · exact hk1.elim
end
end Go.Rx
