/-
  An evaluator of the model's programs on abstract memory: blocks by number, values as the model has them; written so that the kernel reckons with it quickly. Where it gives an answer, that answer is what the call does in every world (the text after this one proves it). No project text.
-/
import GoSem.Dispatch
import GoSem.Step
universe u
namespace Go.Ev
noncomputable section

inductive Tr (α : Type) where
  | leaf
  | node (v : Option α) (l r : Tr α)

def Tr.get {α : Type} (t : Tr α) : Nat → Option α :=
  Tr.rec (fun _ => none) (fun v _ _ gl gr n => Nat.rec v (fun m _ => Nat.rec (gl (Nat.div m 2)) (fun _ _ => gr (Nat.div m 2)) (Nat.mod m 2)) n) t

def mkL {α : Type} (v : Option α) (r : Tr α) (l : Option (Tr α)) : Option (Tr α) := Option.rec none (fun l => some (.node v l r)) l
def mkR {α : Type} (v : Option α) (l : Tr α) (r : Option (Tr α)) : Option (Tr α) := Option.rec none (fun r => some (.node v l r)) r
def Tr.one {α : Type} (b : Option α) (fuel : Nat) : Nat → Option (Tr α) :=
  Nat.rec (fun _ => none) (fun _ ih n => Nat.rec (some (.node b .leaf .leaf)) (fun m _ => Nat.rec (mkL none .leaf (ih (Nat.div m 2))) (fun _ _ => mkR none .leaf (ih (Nat.div m 2))) (Nat.mod m 2)) n) fuel
def Tr.set {α : Type} (b : Option α) (t : Tr α) : Nat → Option (Tr α) :=
  Tr.rec (Tr.one b 64) (fun v l r sl sr n => Nat.rec (some (.node b l r)) (fun m _ => Nat.rec (mkL v r (sl (Nat.div m 2))) (fun _ _ => mkR v l (sr (Nat.div m 2))) (Nat.mod m 2)) n) t

def fNat {β : Sort u} (n : Nat) (k : Nat → β) : β := Nat.rec (k 0) (fun m _ => k (Nat.succ m)) n
def fInt {β : Sort u} : Int → (Int → β) → β
  | .ofNat m => fun k => fNat m fun m => k (.ofNat m)
  | .negSucc m => fun k => fNat m fun m => k (.negSucc m)
def fBool {β : Sort u} : Bool → (Bool → β) → β
  | true => fun k => k true
  | false => fun k => k false
def fAddr {β : Sort u} : Addr → (Addr → β) → β
  | ⟨b, o, none⟩ => fun k => fNat b fun b => fNat o fun o => k ⟨b, o, none⟩
  | ⟨b, o, some s⟩ => fun k => fNat b fun b => fNat o fun o => k ⟨b, o, some s⟩
def fV {β : Sort u} : Value → (Value → β) → β
  | .int i n => fun k => fInt n fun n => k (.int i n)
  | .bool b => fun k => fBool b fun b => k (.bool b)
  | .pointer (some a) => fun k => fAddr a fun a => k (.pointer (some a))
  | .slice (some a) l c => fun k => fAddr a fun a => fNat l fun l => fNat c fun c => k (.slice (some a) l c)
  | v => fun k => k v

def groundS : Value → Bool
  | .bool _ | .int .. | .string _ | .nilFunc | .nilIface | .pointer none | .map none => true
  | .slice none _ _ => true
  | .func (.func _) ⟨[]⟩ ⟨[]⟩ => true
  | _ => false
def groundA : Value → Bool
  | .agg ⟨cs⟩ => cs.all groundS
  | .iface _ (.agg ⟨cs⟩) => cs.all groundS
  | .iface _ v => groundS v
  | v => groundS v
def groundT : Value → Bool
  | .tuple ⟨vs⟩ => vs.all groundA
  | v => groundA v

def cellsL : Value → List Value
  | .agg ⟨l⟩ => l
  | v => [v]
def zeroOf (n : Nat) (z : Value) : Option (List Value) := Bool.rec none (some (cellsL z)) (groundA z && Nat.beq (cellsL z).length n)
def zvalOf (z : Value) : Option Value := Bool.rec none (some z) (groundA z)

inductive TK where
  | int (k : IntKind) | string | struct | array | slice | map | pointer | func | iface | other

structure TI where
  size : Nat
  bytes : Nat
  agg : Bool
  zero : Option (List Value)
  zval : Option Value
  kind : TK
  fields : List (Nat × Bool × Nat)
  len : Nat
  elem : Nat
  eagg : Bool
  esize : Nat
  kk : TK

def known (P : Program) (t : TypeId) : Bool := (P.info? t).isSome && (P.underlying t).isSome
def kindOf (P : Program) : TypeDesc → TK
  | .int k => .int k
  | .string => .string
  | .struct fs => bif fs.toList.all (fun f => known P f.type) then .struct else .other
  | .array _ e => bif known P e then .array else .other
  | .slice e => bif known P e then .slice else .other
  | .map _ e => bif known P e then .map else .other
  | .pointer _ => .pointer
  | .func .. => .func
  | .interface _ => .iface
  | _ => .other
def aggOf : TypeDesc → Bool
  | .struct _ | .array _ _ => true
  | _ => false
def elemOf' : TypeDesc → Nat
  | .slice e => e | .array _ e => e | .map _ e => e | .pointer e => e | _ => 0
def lenOf' : TypeDesc → Nat
  | .array n _ => n | _ => 0
def aggAt (P : Program) (t : TypeId) : Bool := ((P.underlying t).map aggOf).getD false
def sizeAt (P : Program) (t : TypeId) : Nat :=
  match P.info? t, P.underlying t with
  | some i, some _ => i.size
  | _, _ => 0
def fieldsOf (P : Program) : TypeDesc → List (Nat × Bool × Nat)
  | .struct fs => fs.toList.map fun f => (f.offset, aggAt P f.type, sizeAt P f.type)
  | _ => []
def keyKind (P : Program) : TypeDesc → TK
  | .map k _ => match P.underlying k with
    | some d => kindOf P d
    | none => .other
  | _ => .other
def mkTI (P : Program) (t : TypeId) : Option TI :=
  match P.info? t, P.underlying t with
  | some i, some d => some { size := i.size, bytes := i.bytes, agg := aggOf d, zero := i.zero.bind (zeroOf i.size), zval := i.zero.bind zvalOf, kind := kindOf P d, fields := fieldsOf P d, len := lenOf' d, elem := elemOf' d, eagg := aggAt P (elemOf' d), esize := sizeAt P (elemOf' d), kk := keyKind P d }
  | _, _ => none

structure As where
  eq : Bool
  u : Value
  v : Value
  b : Bool

structure Env where
  P : Program
  T : Tr TI
  F : Tr Func
  A : List As
  Q : List (TypeId × List IntKind)
  C : List (FuncId × List Value × Value)
  J : Option FuncId

inductive Blk where
  | cells (cs : List Value) (elem : TypeId) (exact : Bool)
  | map (es : List MapEntry) (clock : Nat)
  | loop (st : LoopState) (pend : Option Code) (n : Nat) (m : Tr Value) (ps : List Nat) (x y : Code)
  | defd

structure St where
  heap : Tr Blk
  next : Nat
  lim : Nat

inductive DEl where
  | mark (d : Nat) | call (f : FuncId) (args : List Value)
structure Hd where
  n : Nat
  rd : Option Nat
  ds : List DEl

structure Fr where
  n : Hd
  m : Tr Value

inductive Res where
  | val (v : Value) (s : St)
  | skip (s : St)
  | call (f : FuncId) (fn : Func) (args : List Value) (s : St)
  | yield (l : Nat) (args : List Value) (s : St)
  | pan (v : Value) (s : St)
  | dfr (f : FuncId) (args : List Value) (s : St)
  | bad (why : String)

def consO (x : Value) : Option (List Value) → Option (List Value)
  | some r => some (x :: r)
  | none => none
def lset0K (v : Value) (ih : List Value → Option (List Value)) : List Value → Option (List Value)
  | _ :: xs => consO v (ih xs)
  | [] => none
def lsetAll0 (vs : List Value) : List Value → Option (List Value) := List.rec some (fun v _ ih => lset0K v ih) vs
def lsetAll (l : List Value) : Nat → List Value → Option (List Value) :=
  List.rec (fun off vs => Nat.rec (lsetAll0 vs []) (fun _ _ => none) off) (fun x xs ih off vs => Nat.rec (lsetAll0 vs (x :: xs)) (fun m _ => consO x (ih m vs)) off) l
def takeL (l : List Value) : Nat → Option (List Value) :=
  List.rec (fun n => Nat.rec (some []) (fun _ _ => none) n) (fun x _ ih n => Nat.rec (some []) (fun m _ => consO x (ih m)) n) l
def extract (l : List Value) : Nat → Nat → Option (List Value) :=
  List.rec (fun off n => Nat.rec (takeL [] n) (fun _ _ => none) off) (fun x xs ih off n => Nat.rec (takeL (x :: xs) n) (fun m _ => ih m n) off) l
def appL (l : List Value) : List Value → List Value := List.rec (fun r => r) (fun x _ ih r => x :: ih r) l

def bsApp (l : List UInt8) : List UInt8 → List UInt8 := List.rec (fun r => r) (fun x _ ih r => x :: ih r) l
def joinT (sep : List UInt8) : List ByteArray → List UInt8
  | [] => []
  | x :: r => bsApp sep (bsApp x.data.toList (joinT sep r))
def joinL (sep : List UInt8) : List ByteArray → List UInt8
  | [] => []
  | x :: r => bsApp x.data.toList (joinT sep r)
def joinB (sep : ByteArray) (xs : List ByteArray) : ByteArray := ⟨⟨joinL sep.data.toList xs⟩⟩
def strsOf : List Value → Option (List ByteArray)
  | [] => some []
  | .string b :: l => match strsOf l with
    | some r => some (b :: r)
    | none => none
  | _ :: _ => none

def allocK (b lim : Nat) : Option (Tr Blk) → Option (Nat × St)
  | some h => some (b, ⟨h, Nat.succ b, lim⟩)
  | none => none
def St.alloc (s : St) (b : Blk) : Option (Nat × St) := St.rec (fun h nx lim => fNat nx fun n => Bool.rec none (allocK n lim (Tr.set (some b) h n)) (Nat.ble (Nat.succ n) lim)) s
theorem St.alloc_eq (s : St) (b : Blk) : s.alloc b = fNat s.next fun n => Bool.rec none (allocK n s.lim (Tr.set (some b) s.heap n)) (Nat.ble (Nat.succ n) s.lim) := rfl
def St.getCells (s : St) (b : Nat) : Option (List Value × TypeId × Bool) :=
  match s.heap.get b with
  | some (.cells cs e ex) => some (cs, e, ex)
  | _ => none
def St.getMap (s : St) (b : Nat) : Option (List MapEntry × Nat) :=
  match s.heap.get b with
  | some (.map es clock) => some (es, clock)
  | _ => none
def putBK (n lim : Nat) : Option (Tr Blk) → Option St
  | some h => some ⟨h, n, lim⟩
  | none => none
def St.putB (s : St) (b : Nat) (o : Option Blk) : Option St := St.rec (fun h nx lim => putBK nx lim (Tr.set o h b)) s
theorem St.putB_eq (s : St) (b : Nat) (o : Option Blk) : s.putB b o = putBK s.next s.lim (Tr.set o s.heap b) := rfl
def cellsAtK (off n : Nat) : Option (List Value × TypeId × Bool) → Option (List Value)
  | some (cs, _, _) => extract cs off n
  | none => none
def cellsAt (s : St) (b off n : Nat) : Option (List Value) := cellsAtK off n (s.getCells b)

def writeK2 (s : St) (b : Nat) (e : TypeId) (ex : Bool) : Option (List Value) → Option St
  | some cs => s.putB b (some (.cells cs e ex))
  | none => none
def writeK (s : St) (b off : Nat) (vs : List Value) : Option (List Value × TypeId × Bool) → Option St
  | some (cs, e, ex) => writeK2 s b e ex (lsetAll cs off vs)
  | none => none
def one1 : Value → Bool
  | .agg _ => false
  | .tuple _ => false
  | _ => true
def andB : Bool → Bool → Bool
  | true => fun b => b
  | false => fun _ => false
def oneL (l : List Value) : Bool := List.rec true (fun v _ ih => andB (one1 v) ih) l
def write (s : St) (b off : Nat) (vs : List Value) : Option St := Bool.rec none (writeK s b off vs (s.getCells b)) (oneL vs)

def constV (v : Value) : Bool → Option Value
  | true => some v
  | false => none
def getU : Option Value → Value
  | some v => v
  | none => .tuple #[]
def evo : Operand → Fr → Option Value
  | .tmp i => fun t => some (getU (t.m.get i))
  | .const v => fun _ => constV v (groundT v)
  | .global _ => fun _ => none
  | .func f => fun _ => some (.func (.func f) #[] #[])
def evsK (v : Option Value) : Option (List Value) → Option (List Value)
  | some vs => match v with | some v => some (v :: vs) | none => none
  | none => none
def evs (l : List Operand) : Fr → Option (List Value) := List.rec (fun _ => some []) (fun o _ ih t => evsK (evo o t) (ih t)) l

def resV (s : St) : Option Value → Res
  | some v => .val v s
  | none => .bad "v"
def resP (e : Nat → Value) : Option (Nat × St) → Res
  | some (b, s) => .val (e b) s
  | none => .bad "alloc"
def resS : Option St → Res
  | some s => .skip s
  | none => .bad "write"
def resVS (v : Value) : Option St → Res
  | some s => .val v s
  | none => .bad "write"

def resG (s : St) : Option Value → Res
  | some v => Bool.rec (.bad "ground") (.val v s) (groundT v)
  | none => .bad "pure"
def prun (P : Program) {α : Type} : Sem α → Option α
  | .pure a => some a
  | .program k => prun P (k P)
  | _ => none
def wrap64 : Int → Int
  | .ofNat m => Bool.rec (IntKind.wrap .i64 (.ofNat m)) (.ofNat m) (Nat.ble m 9223372036854775807)
  | .negSucc m => Bool.rec (IntKind.wrap .i64 (.negSucc m)) (.negSucc m) (Nat.ble m 9223372036854775807)
def wrapF : IntKind → Int → Int
  | .i64 => wrap64
  | k => IntKind.wrap k
def iAdd : Int → Int → Int
  | .ofNat a => fun
    | .ofNat b => .ofNat (Nat.add a b)
    | y => .ofNat a + y
  | x => fun y => x + y
def iSub : Int → Int → Int
  | .ofNat a => fun
    | .ofNat b => Bool.rec (.ofNat a - .ofNat b) (.ofNat (Nat.sub a b)) (Nat.ble b a)
    | y => .ofNat a - y
  | x => fun y => x - y
def iLe : Int → Int → Bool
  | .ofNat a => fun
    | .ofNat b => Nat.ble a b
    | .negSucc _ => false
  | .negSucc a => fun
    | .ofNat _ => true
    | .negSucc b => Nat.ble b a
def iEq : Int → Int → Bool
  | .ofNat a => fun
    | .ofNat b => Nat.beq a b
    | .negSucc _ => false
  | .negSucc a => fun
    | .ofNat _ => false
    | .negSucc b => Nat.beq a b
def bNot : Bool → Bool
  | true => false
  | false => true
def fastI : BinOp → IntKind → Int → Int → Option Value
  | .add => fun k a b => some (.int k (wrapF k (iAdd a b)))
  | .sub => fun k a b => some (.int k (wrapF k (iSub a b)))
  | .mul => fun k a b => some (.int k (wrapF k (Int.mul a b)))
  | .eql => fun _ a b => some (.bool (iEq a b))
  | .neq => fun _ a b => some (.bool (bNot (iEq a b)))
  | .lss => fun _ a b => some (.bool (bNot (iLe b a)))
  | .leq => fun _ a b => some (.bool (iLe a b))
  | .gtr => fun _ a b => some (.bool (bNot (iLe a b)))
  | .geq => fun _ a b => some (.bool (iLe b a))
  | _ => fun _ _ _ => none
def kindEq : IntKind → IntKind → Bool
  | .i64, .i64 => true
  | .u64, .u64 => true
  | .u8, .u8 => true
  | .i32, .i32 => true
  | a, b => decide (a = b)
def binG (E : Env) (op : BinOp) (t : TypeId) (x y : Operand) (a b : Value) (s : St) : Bool → Res
  | true => resG s (prun E.P (do eqGuard op t x y a b; binOp op t a b))
  | false => .bad "binOp ground"
def binNil (op : BinOp) (s : St) (isNil : Bool) : Res :=
  match op with
  | .eql => .val (.bool isNil) s
  | .neq => .val (.bool (bNot isNil)) s
  | _ => .bad "binOp nil"
def isN {α : Type} : Option α → Bool
  | none => true
  | some _ => false
def isNilV : Value → TK → Option Bool
  | .slice a _ _ => fun
    | .slice => some (isN a)
    | _ => none
  | .map a => fun
    | .map => some (isN a)
    | _ => none
  | .pointer a => fun
    | .pointer => some (isN a)
    | _ => none
  | .iface _ _ => fun
    | .iface => some false
    | _ => none
  | .func .. => fun
    | .func => some false
    | _ => none
  | _ => fun _ => none
def sameShape : Value → Value → Bool
  | .slice .. => fun | .slice none _ _ => true | _ => false
  | .map _ => fun | .map none => true | _ => false
  | .pointer _ => fun | .pointer none => true | _ => false
  | .iface .. => fun | .nilIface => true | _ => false
  | .func (.func _) _ _ => fun | .nilFunc => true | _ => false
  | _ => fun _ => false
def binN (op : BinOp) (s : St) : Option Bool → Res
  | some b => binNil op s b
  | none => .bad "binOp nil"
def binT (op : BinOp) (s : St) (a : Value) : Option TI → Res
  | some ti => binN op s (isNilV a ti.kind)
  | none => .bad "binOp type"
def ktag : Value → Option IntKind
  | .int k _ => some k
  | .func (.methodOf _ _) _ ⟨[.int k _]⟩ => some k
  | _ => none
def symV : Value → Bool
  | .func (.methodOf _ _) _ ⟨[.int _ _]⟩ => true
  | _ => false
def opN : BinOp → Nat
  | .add => 1 | .sub => 2 | .mul => 3 | .quo => 4 | .rem => 5 | .and => 6 | .or => 7 | .xor => 8 | .andNot => 9 | .shl => 10 | .shr => 11
  | _ => 0
def opOf : Nat → BinOp
  | 1 => .add | 2 => .sub | 3 => .mul | 4 => .quo | 5 => .rem | 6 => .and | 7 => .or | 8 => .xor | 9 => .andNot | 10 => .shl | 11 => .shr
  | _ => .eql
def nodeB (op : BinOp) (u v : Value) (k : IntKind) : Value := .func (.methodOf (opN op) "") ⟨[u, v]⟩ ⟨[.int k 0]⟩
def nodeC (u : Value) (k : IntKind) : Value := .func (.methodOf 0 "") ⟨[u]⟩ ⟨[.int k 0]⟩
def nodeI (u v a b : Value) (k : IntKind) : Value := .func (.methodOf 0 "") ⟨[u, v, a, b]⟩ ⟨[.int k 0]⟩
def xEqL (f : Value → Value → Bool) : List Value → List Value → Bool
  | [] => fun
    | [] => true
    | _ :: _ => false
  | a :: l => fun
    | b :: m => andB (f a b) (xEqL f l m)
    | [] => false
def ksEq : IntKind → IntKind → Bool
  | .i64, .i64 => true
  | .u64, .u64 => true
  | .u8, .u8 => true
  | a, b => decide (a = b)
def xEq (n : Nat) : Value → Value → Bool :=
  Nat.rec (fun _ _ => false) (fun _ ih u v => match u with
    | .int k a => match v with
      | .int k' b => andB (ksEq k k') (iEq a b)
      | _ => false
    | .func (.methodOf o z) ⟨l⟩ ⟨c⟩ => match v with
      | .func (.methodOf o' z') ⟨l'⟩ ⟨c'⟩ => andB (Nat.beq o o') (andB (xEqL ih l l') (andB (xEqL ih c c') (decide (z = z'))))
      | _ => false
    | _ => false) n
def bEq : Bool → Bool → Bool
  | true => fun b => b
  | false => bNot
def lookA (c : Bool) (u v : Value) : List As → Option Bool
  | [] => none
  | a :: l => Bool.rec (lookA c u v l) (some a.b) (andB (bEq c a.eq) (andB (xEq 100 u a.u) (xEq 100 v a.v)))
def orO : Option Bool → Option Bool → Option Bool
  | some b => fun _ => some b
  | none => fun o => o
def selfO : Bool → Option Bool
  | true => some true
  | false => none
def decEq (E : Env) (u v : Value) : Option Bool := orO (selfO (xEq 100 u v)) (orO (lookA true u v E.A) (lookA true v u E.A))
def decLe (E : Env) (u v : Value) : Option Bool := orO (selfO (xEq 100 u v)) (lookA false u v E.A)
def nzB (E : Env) : Value → Bool
  | .int _ n => bNot (iEq n 0)
  | v => match ktag v with
    | some k => match lookA true v (.int k 0) E.A with
      | some false => true
      | _ => false
    | none => false
def nonnegB : Value → Bool
  | .int _ (.ofNat _) => true
  | _ => false
def okB (E : Env) (k k' : IntKind) (v : Value) : BinOp → Bool
  | .add | .sub | .mul | .and | .or | .xor | .andNot => ksEq k k'
  | .quo | .rem => andB (ksEq k k') (nzB E v)
  | .shl | .shr => nonnegB v
  | _ => false
def resB (s : St) (f : Bool → Bool) : Option Bool → Res
  | some b => .val (.bool (f b)) s
  | none => .bad "not decided"
def symK (E : Env) (op : BinOp) (s : St) (u v : Value) (k k' : IntKind) : Res :=
  match op with
  | .eql => Bool.rec (.bad "kinds") (resB s (fun b => b) (decEq E u v)) (ksEq k k')
  | .neq => Bool.rec (.bad "kinds") (resB s bNot (decEq E u v)) (ksEq k k')
  | .leq => Bool.rec (.bad "kinds") (resB s (fun b => b) (decLe E u v)) (ksEq k k')
  | .gtr => Bool.rec (.bad "kinds") (resB s bNot (decLe E u v)) (ksEq k k')
  | .geq => Bool.rec (.bad "kinds") (resB s (fun b => b) (decLe E v u)) (ksEq k k')
  | .lss => Bool.rec (.bad "kinds") (resB s bNot (decLe E v u)) (ksEq k k')
  | op => Bool.rec (.bad "an operation on a number that is not known") (.val (nodeB op u v k) s) (okB E k k' v op)
def symB (E : Env) (op : BinOp) (s : St) (u v : Value) : Res :=
  match ktag u with
  | some k => match ktag v with
    | some k' => symK E op s u v k k'
    | none => .bad "operands"
  | none => .bad "operands"
def eq1 (E : Env) (u v : Value) : Option Bool :=
  match u with
  | .int _ a => match v with
    | .int _ b => some (iEq a b)
    | v => decEq E u v
  | u => decEq E u v
def andO : Option Bool → Option Bool → Option Bool
  | some true => fun o => o
  | some false => fun
    | some _ => some false
    | none => none
  | none => fun _ => none
def eqL (E : Env) : List IntKind → List Value → List Value → Option Bool
  | [] => fun
    | [] => fun
      | [] => some true
      | _ => none
    | _ => fun _ => none
  | k :: ks => fun
    | u :: l => fun
      | v :: m => match ktag u with
        | some k1 => match ktag v with
          | some k2 => Bool.rec none (andO (eq1 E u v) (eqL E ks l m)) (andB (ksEq k k1) (ksEq k k2))
          | none => none
        | none => none
      | [] => none
    | [] => fun _ => none
def lookQ (t : TypeId) : List (TypeId × List IntKind) → Option (List IntKind)
  | [] => none
  | (t', ks) :: l => Bool.rec (lookQ t l) (some ks) (Nat.beq t t')
def symA (E : Env) (op : BinOp) (_ : TypeId) (s : St) (l m : List Value) : Option (List IntKind) → Res
  | some ks => match op with
    | .eql => resB s (fun b => b) (eqL E ks l m)
    | .neq => resB s bNot (eqL E ks l m)
    | _ => .bad "operation"
  | none => .bad "structures of numbers that are not known"
def symsB : List Value → Bool
  | [] => false
  | v :: l => Bool.rec (symsB l) true (symV v)
def binV (E : Env) (op : BinOp) (t : TypeId) (x y : Operand) (s : St) (a b : Value) : Res :=
  Bool.rec (binG E op t x y a b s (groundA a && groundA b)) (binT op s a (E.T.get t)) (sameShape a b)
def binI2 (E : Env) (op : BinOp) (t : TypeId) (x y : Operand) (s : St) (j k : IntKind) (a b : Int) : Option Value → Res
  | some v => Bool.rec (binG E op t x y (.int j a) (.int k b) s true) (.val v s) (kindEq j k)
  | none => binG E op t x y (.int j a) (.int k b) s true
def bin1 (E : Env) (op : BinOp) (t : TypeId) (x y : Operand) (s : St) : Value → Value → Res
  | .int j a => fun
    | .int k b => binI2 E op t x y s j k a b (fastI op j a b)
    | .func (.methodOf o z) l c => symB E op s (.int j a) (.func (.methodOf o z) l c)
    | v => binV E op t x y s (.int j a) v
  | .func (.methodOf o z) l c => fun v => symB E op s (.func (.methodOf o z) l c) v
  | .agg ⟨l⟩ => fun
    | .agg ⟨m⟩ => Bool.rec (binV E op t x y s (.agg ⟨l⟩) (.agg ⟨m⟩)) (symA E op t s l m (lookQ t E.Q)) (symsB l || symsB m)
    | v => binV E op t x y s (.agg ⟨l⟩) v
  | u => fun v => binV E op t x y s u v
def binO (E : Env) (op : BinOp) (t : TypeId) (x y : Operand) (s : St) (a : Option Value) : Option Value → Res
  | some b => match a with | some a => bin1 E op t x y s a b | none => .bad "binOp"
  | none => .bad "binOp"
def opBin (op : BinOp) (ty : TypeId) (x y : Operand) (E : Env) (t : Fr) (s : St) : Res := binO E op ty x y s (evo x t) (evo y t)

def opMove (x : Operand) (_ : Env) (t : Fr) (s : St) : Res := resV s (evo x t)
def pickK (a b : Operand) (t : Fr) (s : St) : Option Value → Res
  | some (.bool true) => resV s (evo a t)
  | some (.bool false) => resV s (evo b t)
  | _ => .bad "pick"
def opPick (c a b : Operand) (_ : Env) (t : Fr) (s : St) : Res := pickK a b t s (evo c t)
def ptr0 (b : Nat) : Value := .pointer (some ⟨b, 0, none⟩)
def allocZ (s : St) (e : TypeId) : Option (List Value) → Res
  | some z => resP ptr0 (s.alloc (.cells z e true))
  | none => .bad "zero"
def zeroT : Option TI → Option (List Value)
  | some i => i.zero
  | none => none
def opAlloc (e : TypeId) (E : Env) (_ : Fr) (s : St) : Res := allocZ s e (zeroT (E.T.get e))
def boxK (s : St) (e : TypeId) : Option Value → Res
  | some v => resP ptr0 (s.alloc (.cells (cellsL v) e true))
  | none => .bad "box"
def opBox (e : TypeId) (x : Operand) (_ : Env) (t : Fr) (s : St) : Res := boxK s e (evo x t)
def aggK (s : St) : Option (List Value) → Res
  | some l => .val (.agg ⟨l⟩) s
  | none => .bad "cells"
def oneK (s : St) : Option (List Value) → Res
  | some [v] => .val v s
  | _ => .bad "cell"
def partR (s : St) (n : Nat) (get : Nat → Option (List Value)) : Bool → Res
  | true => aggK s (get n)
  | false => oneK s (get 1)
def loadP (s : St) (a : Addr) : Option TI → Res
  | some i => partR s i.size (cellsAt s a.block a.off) i.agg
  | none => .bad "load type"
def loadK (E : Env) (ty : TypeId) (s : St) : Option Value → Res
  | some (.pointer (some a)) => loadP s a (E.T.get ty)
  | _ => .bad "load addr"
def opLoad (ty : TypeId) (a : Operand) (E : Env) (t : Fr) (s : St) : Res := loadK E ty s (evo a t)
def storeT (s : St) (a : Addr) (cs : List Value) : Option TI → Res
  | some i => Bool.rec (.bad "store size") (resS (write s a.block a.off cs)) (Nat.beq cs.length i.size)
  | none => .bad "store type"
def storeK (E : Env) (ty : TypeId) (s : St) (a : Option Value) : Option Value → Res
  | some v => match a with
    | some (.pointer (some a)) => storeT s a (cellsL v) (E.T.get ty)
    | _ => .bad "store addr"
  | none => .bad "store"
def opStore (ty : TypeId) (a x : Operand) (E : Env) (t : Fr) (s : St) : Res := storeK E ty s (evo a t) (evo x t)
def nilK (s : St) : Option Value → Res
  | some (.pointer (some p)) => .val (.pointer (some p)) s
  | some (.func (.func f) a b) => .val (.func (.func f) a b) s
  | _ => .bad "nilCheck"
def opNil (x : Operand) (_ : Env) (t : Fr) (s : St) : Res := nilK s (evo x t)
def addA (a : Addr) (n : Nat) : Value := .pointer (some ⟨a.block, Nat.add a.off n, none⟩)
def faF (s : St) (a : Addr) : Option (Nat × Bool × Nat) → Res
  | some (o, _, n) => Nat.rec (.bad "fieldAddr") (fun _ _ => .val (addA a o) s) n
  | none => .bad "fieldAddr"
def faK (s : St) (fs : List (Nat × Bool × Nat)) (f : Nat) : Option Value → Res
  | some (.pointer (some a)) => faF s a (fs[f]?)
  | _ => .bad "fieldAddr"
def faT (s : St) (f : Nat) (x : Option Value) : Option TI → Res
  | some i => faK s i.fields f x
  | none => .bad "fieldAddr type"
def opFA (st : TypeId) (x : Operand) (f : Nat) (E : Env) (t : Fr) (s : St) : Res := faT s f (evo x t) (E.T.get st)
def fdN (s : St) (cs : List Value) (o : Nat) (g : Bool) (n : Nat) : Res := Nat.rec (.bad "field") (fun _ _ => partR s n (extract cs o) g) n
def fdK (s : St) (cs : List Value) : Option (Nat × Bool × Nat) → Res
  | some (o, g, n) => fdN s cs o g n
  | none => .bad "field"
def fdV (s : St) (fs : List (Nat × Bool × Nat)) (f : Nat) : Option Value → Res
  | some (.agg ⟨cs⟩) => fdK s cs (fs[f]?)
  | _ => .bad "field"
def fdT (s : St) (f : Nat) (x : Option Value) : Option TI → Res
  | some i => fdV s i.fields f x
  | none => .bad "field type"
def opField (st : TypeId) (x : Operand) (f : Nat) (E : Env) (t : Fr) (s : St) : Res := fdT s f (evo x t) (E.T.get st)
def fill1 (v : Value) (cells : List Value) : Option (Nat × Nat) → Option (List Value)
  | some (off, size) => Bool.rec none (lsetAll cells off (cellsL v)) (Nat.beq (cellsL v).length size)
  | none => none
def fillL (place : Nat → Option (Nat × Nat)) : List (Nat × Value) → Option (List Value) → Option (List Value)
  | [] => fun c => c
  | (i, v) :: rest => fun
    | some cells => fillL place rest (fill1 v cells (place i))
    | none => none
def zipI : List (Nat × Operand) → List Value → List (Nat × Value)
  | (i, _) :: r => fun
    | v :: vs => (i, v) :: zipI r vs
    | [] => []
  | [] => fun _ => []
def placeF (fs : List (Nat × Bool × Nat)) (i : Nat) : Option (Nat × Nat) :=
  match fs[i]? with
  | some (o, _, n) => some (o, n)
  | none => none
def placeA (n i : Nat) : Option (Nat × Nat) := some (Nat.mul i n, n)
def places (i : TI) : TK → Option (Nat → Option (Nat × Nat))
  | .struct => some (placeF i.fields)
  | .array => some (placeA i.esize)
  | _ => none
def buildP (s : St) (z : Option (List Value)) (ps : List (Nat × Value)) : Option (Nat → Option (Nat × Nat)) → Res
  | some pl => aggK s (fillL pl ps z)
  | none => .bad "build"
def buildT (s : St) (ps : List (Nat × Value)) : Option TI → Res
  | some i => buildP s i.zero ps (places i i.kind)
  | none => .bad "build type"
def buildV (E : Env) (ty : TypeId) (parts : List (Nat × Operand)) (s : St) : Option (List Value) → Res
  | some vs => buildT s (zipI parts vs) (E.T.get ty)
  | none => .bad "build"
def opBuild (ty : TypeId) (parts : Array (Nat × Operand)) (E : Env) (t : Fr) (s : St) : Res := buildV E ty parts.toList s (evs (parts.toList.map (·.2)) t)
def repL (z : List Value) (n : Nat) : List Value := Nat.rec [] (fun _ ih => appL z ih) n
def sl0 (len cap b : Nat) : Value := .slice (some ⟨b, 0, none⟩) len cap
def bsK (s : St) (e len : Nat) : Option (List Value) → Res
  | some cs => resP (sl0 len len) (s.alloc (.cells cs e true))
  | none => .bad "buildSlice"
def bs0 (s : St) (e len : Nat) : List (Nat × Value) → Bool → Res
  | [] => fun
    | true => resP (sl0 len len) (s.alloc (.cells [] e true))
    | false => .bad "buildSlice size"
  | _ => fun _ => .bad "buildSlice size"
def bsZ (s : St) (e len n : Nat) (ps : List (Nat × Value)) : Option (List Value) → Res
  | some z => bsK s e len (fillL (placeA n) ps (some (repL z len)))
  | none => .bad "buildSlice"
def bsT (E : Env) (s : St) (len : Nat) (ps : List (Nat × Value)) : Option TI → Res
  | some i => match i.kind with
    | .slice => Bool.rec (bs0 s i.elem len ps (Nat.beq (Nat.mul len i.esize) 0)) (bsZ s i.elem len i.esize ps (zeroT (E.T.get i.elem))) (Nat.ble (Nat.mul len i.esize) 16777216 && Nat.ble 1 (Nat.mul len i.esize))
    | _ => .bad "buildSlice"
  | none => .bad "buildSlice"
def bsV (E : Env) (ty len : Nat) (parts : List (Nat × Operand)) (s : St) : Option (List Value) → Res
  | some vs => bsT E s len (zipI parts vs) (E.T.get ty)
  | none => .bad "buildSlice"
def opBS (ty len : Nat) (parts : Array (Nat × Operand)) (E : Env) (t : Fr) (s : St) : Res := bsV E ty len parts.toList s (evs (parts.toList.map (·.2)) t)
def exK (s : St) (i : Nat) : Option Value → Res
  | some (.tuple ⟨vs⟩) => resV s (vs[i]?)
  | _ => .bad "extract"
def opEx (x : Operand) (i : Nat) (_ : Env) (t : Fr) (s : St) : Res := exK s i (evo x t)
def mfK (f : FuncId) (s : St) (a : Option (List Value)) : Option (List Value) → Res
  | some b => match a with | some a => .val (.func (.func f) ⟨a⟩ ⟨b⟩) s | none => .bad "makeFunc"
  | none => .bad "makeFunc"
def opMF : Fn → Array Operand → Array Operand → Env → Fr → St → Res
  | .func f => fun a b _ t s => mfK f s (evs a.toList t) (evs b.toList t)
  | _ => fun _ _ _ _ _ => .bad "makeFunc"
def msZ (s : St) (e l c : Nat) : Option TI → Res
  | some i => Bool.rec (.bad "make size") (match i.zero with | some z => resP (sl0 l c) (s.alloc (.cells (repL z c) e true)) | none => .bad "make zero") (Nat.ble l c && Nat.ble (Nat.mul c (Nat.succ i.bytes)) 1000000000)
  | none => .bad "make"
def msT (E : Env) (s : St) (l c : Nat) : Option TI → Res
  | some i => match i.kind with
    | .slice => msZ s i.elem l c (E.T.get i.elem)
    | _ => .bad "make"
  | none => .bad "make"
def msV (E : Env) (ty : TypeId) (s : St) (l : Option Value) : Option Value → Res
  | some (.int _ (.ofNat c)) => match l with
    | some (.int _ (.ofNat l)) => fNat l fun l => fNat c fun c => msT E s l c (E.T.get ty)
    | _ => .bad "make len"
  | _ => .bad "make cap"
def opMS (ty : TypeId) (l c : Operand) (E : Env) (t : Fr) (s : St) : Res := msV E ty s (evo l t) (evo c t)
def iaS (s : St) (a : Addr) (len n i : Nat) : Res :=
  Bool.rec (.bad "index range") (.val (.pointer (some ⟨a.block, Nat.add a.off (Nat.mul i n), none⟩)) s) (Nat.ble (Nat.succ i) len)
def iaSl (s : St) (ti : TI) (i : Nat) : Value → Res
  | .slice (some a) len _ => iaS s a len ti.esize i
  | _ => .bad "indexAddr"
def iaAr (s : St) (ti : TI) (i : Nat) : Value → Res
  | .pointer (some a) => iaS s a ti.len ti.esize i
  | _ => .bad "indexAddr"
def iaT (s : St) (ti : TI) (i : Nat) : TK → Value → Res
  | .slice => iaSl s ti i
  | .array => iaAr s ti i
  | _ => fun _ => .bad "indexAddr"
def iaV (s : St) (i : Nat) (x : Option Value) : Option TI → Res
  | some ti => match x with | some x => iaT s ti i ti.kind x | none => .bad "indexAddr"
  | none => .bad "indexAddr"
def iaK (E : Env) (ty : TypeId) (s : St) (x : Option Value) : Option Value → Res
  | some (.int _ (.ofNat i)) => iaV s i x (E.T.get ty)
  | _ => .bad "indexAddr ix"
def opIA (ty : TypeId) (x ix : Operand) (E : Env) (t : Fr) (s : St) : Res := iaK E ty s (evo x t) (evo ix t)
def ixS (s : St) : Option UInt8 → Res
  | some c => .val (.int .u8 c.toNat) s
  | none => .bad "index"
def ixN (s : St) (i : Nat) (ti : TI) (cs : List Value) (n : Nat) : Res :=
  Nat.rec (.bad "index") (fun _ _ => Bool.rec (.bad "index") (partR s n (extract cs (Nat.mul i n)) ti.eagg) (Nat.ble (Nat.succ i) ti.len)) n
def ixAr (s : St) (ti : TI) (i : Nat) : Value → Res
  | .agg ⟨cs⟩ => ixN s i ti cs ti.esize
  | _ => .bad "index"
def ixSt (s : St) (i : Nat) : Value → Res
  | .string b => ixS s (b.data.toList[i]?)
  | _ => .bad "index"
def ixT (s : St) (ti : TI) (i : Nat) : TK → Value → Res
  | .array => ixAr s ti i
  | .string => ixSt s i
  | _ => fun _ => .bad "index"
def ixV (s : St) (i : Nat) (x : Option Value) : Option TI → Res
  | some ti => match x with | some x => ixT s ti i ti.kind x | none => .bad "index"
  | none => .bad "index"
def ixK (E : Env) (ty : TypeId) (s : St) (x : Option Value) : Option Value → Res
  | some (.int _ (.ofNat i)) => ixV s i x (E.T.get ty)
  | _ => .bad "index ix"
def opIx (ty : TypeId) (x ix : Operand) (E : Env) (t : Fr) (s : St) : Res := ixK E ty s (evo x t) (evo ix t)
def asIdx : Option Value → Option Nat
  | some (.int _ (.ofNat n)) => some n
  | _ => none
def bnd (d : Nat) (t : Fr) : Option Operand → Option Nat
  | none => some d
  | some o => asIdx (evo o t)
def slA (a : Addr) (exact : Bool) (l n h m : Nat) : Value :=
  .slice (some ⟨a.block, Nat.add a.off (Nat.mul l n), Bool.rec a.spot (some 0) exact⟩) (Nat.sub h l) (Nat.sub m l)
def slN (s : St) (l h m : Nat) : Res := .val (.slice none (Nat.sub h l) (Nat.sub m l)) s
def slOpen2 (e : TypeId) : Option St → Res
  | some s => resP (sl0 0 0) (s.alloc (.cells [] e false))
  | none => .bad "slice: open"
def slOpen (s : St) (b : Nat) (e : TypeId) : Bool → Res
  | true => slOpen2 e (s.putB b none)
  | false => .bad "slice: an open end"
def slG (s : St) (a : Addr) (exact : Bool) (n l h m : Nat) : Option (List Value × TypeId × Bool) → Res
  | some (cs, e, ex) => Bool.rec (slOpen s a.block e (Nat.beq cs.length (Nat.add a.off (Nat.mul l n)))) (.val (slA a exact 0 0 (Nat.sub h l) (Nat.sub m l)) s) (exact || (ex || bNot (isN a.spot)))
  | none => .bad "slice: dead"
def slP (s : St) (exact : Bool) (n l h m : Nat) : Option Addr → Res
  | none => slN s l h m
  | some a => Bool.rec (.val (slA a exact l n h m) s) (slG s a exact n l h m (s.getCells a.block)) (Nat.beq m l)
def slS (s : St) (a : Option Addr) (exact : Bool) (cap n l h m : Nat) : Res :=
  Bool.rec (.bad "slice bounds") (slP s exact n l h m a) (Nat.ble l h && (Nat.ble h m && Nat.ble m cap))
def slK (s : St) (a : Option Addr) (exact : Bool) (cap n : Nat) (l h : Option Nat) : Option Nat → Res
  | some m => match l, h with | some l, some h => slS s a exact cap n l h m | _, _ => .bad "slice"
  | none => .bad "slice"
def slStr (s : St) (b : ByteArray) (l : Option Nat) : Option Nat → Res
  | some h => match l with | some l => Bool.rec (.bad "slice") (.val (.string (b.extract l h)) s) (Nat.ble l h && Nat.ble h b.size) | none => .bad "slice"
  | none => .bad "slice"
def slSl (lo hi mx : Option Operand) (t : Fr) (s : St) (ti : TI) : Value → Res
  | .slice a len cap => slK s a (bNot (isN mx)) cap ti.esize (bnd 0 t lo) (bnd len t hi) (bnd cap t mx)
  | _ => .bad "slice"
def slAr (lo hi mx : Option Operand) (t : Fr) (s : St) (ti : TI) : Value → Res
  | .pointer (some a) => slK s (some a) true ti.len ti.esize (bnd 0 t lo) (bnd ti.len t hi) (bnd ti.len t mx)
  | _ => .bad "slice"
def slSt (lo hi mx : Option Operand) (t : Fr) (s : St) : Value → Res
  | .string b => Option.rec (slStr s b (bnd 0 t lo) (bnd b.size t hi)) (fun _ => .bad "slice") mx
  | _ => .bad "slice"
def slT (lo hi mx : Option Operand) (t : Fr) (s : St) (ti : TI) : TK → Value → Res
  | .slice => slSl lo hi mx t s ti
  | .array => slAr lo hi mx t s ti
  | .string => slSt lo hi mx t s
  | _ => fun _ => .bad "slice"
def slV (lo hi mx : Option Operand) (t : Fr) (s : St) (x : Option Value) : Option TI → Res
  | some ti => match x with | some x => slT lo hi mx t s ti ti.kind x | none => .bad "slice"
  | none => .bad "slice"
def opSl (ty : TypeId) (x : Operand) (lo hi mx : Option Operand) (E : Env) (t : Fr) (s : St) : Res := slV lo hi mx t s (evo x t) (E.T.get ty)
def slOk (hi mx : Option Operand) : Bool := isN mx || bNot (isN hi)
def opSlC (ty : TypeId) (x : Operand) (lo hi mx : Option Operand) : Bool → Env → Fr → St → Res
  | true => opSl ty x lo hi mx
  | false => fun _ _ _ => .bad "slice"
def convG (E : Env) (a b : TypeId) (v : Value) (s : St) : Bool → Res
  | true => resG s (prun E.P (convert a b v))
  | false => .bad "convert ground"
def srcInt (E : Env) (a : TypeId) : Bool := bNot (isN (E.T.get a))
def convI (E : Env) (a b : TypeId) (n : Int) (v : Value) (s : St) : TK → Bool → Res
  | .int k => fun
    | true => .val (.int k (wrapF k n)) s
    | false => convG E a b v s true
  | _ => fun _ => convG E a b v s true
def convS (E : Env) (a : TypeId) (v : Value) (s : St) : TK → Res
  | .int k => Bool.rec (.bad "convert") (.val (nodeC v k) s) (srcInt E a && symV v)
  | _ => .bad "convert"
def convT (E : Env) (a b : TypeId) (s : St) (v : Value) : Option TI → Res
  | some ti => match v with
    | .int k n => convI E a b n (.int k n) s ti.kind (srcInt E a)
    | .func (.methodOf o z) l c => convS E a (.func (.methodOf o z) l c) s ti.kind
    | v => convG E a b v s (groundA v)
  | none => .bad "convert"
def convK (E : Env) (a b : TypeId) (s : St) : Option Value → Res
  | some v => convT E a b s v (E.T.get b)
  | none => .bad "convert"
def opConv (a b : TypeId) (x : Operand) (E : Env) (t : Fr) (s : St) : Res := convK E a b s (evo x t)
def miV (ty : TypeId) (s : St) (v : Value) : TK → Res
  | .iface => .bad "makeInterface"
  | .other => .bad "makeInterface"
  | _ => .val (.iface ty v) s
def miT (ty : TypeId) (s : St) (v : Value) : Option TI → Res
  | some ti => miV ty s v ti.kind
  | none => .bad "makeInterface"
def miK (E : Env) (ty : TypeId) (s : St) : Option Value → Res
  | some v => miT ty s v (E.T.get ty)
  | none => .bad "makeInterface"
def opMI (ty : TypeId) (x : Operand) (E : Env) (t : Fr) (s : St) : Res := miK E ty s (evo x t)
def unG (E : Env) (op : UnOp) (v : Value) (s : St) : Bool → Res
  | true => resG s (prun E.P (Op.unary op v))
  | false => .bad "unOp"
def unK (E : Env) (op : UnOp) (s : St) : Option Value → Res
  | some v => unG E op v s (groundS v)
  | none => .bad "unOp"
def opUn (op : UnOp) (x : Operand) (E : Env) (t : Fr) (s : St) : Res := unK E op s (evo x t)

def srcK (len : Nat) : Option (List Value) → Option (Nat × List Value)
  | some l => some (len, l)
  | none => none
def srcCells (s : St) (sz : Nat) : Value → Option (Nat × List Value)
  | .slice none 0 _ => some (0, [])
  | .slice (some a) len _ => srcK len (cellsAt s a.block a.off (Nat.mul len sz))
  | .string b => Bool.rec none (some (b.size, b.data.toList.map fun c => Value.int .u8 c.toNat)) (Nat.beq sz 1)
  | _ => none
def apNew (s : St) (e : TypeId) (n : Nat) (cells : List Value) : Res := resP (sl0 n n) (s.alloc (.cells cells e false))
def apKill (e : TypeId) (n : Nat) (cells : List Value) : Option St → Res
  | some s => apNew s e n cells
  | none => .bad "kill"
def apGrow2 (s : St) (e : TypeId) (a : Addr) (n : Nat) (new old : List Value) : Bool → Res
  | true => apNew s e n (appL old new)
  | false => apKill e n (appL old new) (s.putB a.block none)
def apGrow (s : St) (e : TypeId) (a : Addr) (n : Nat) (new : List Value) (exact : Bool) : Option (List Value) → Res
  | some old => apGrow2 s e a n new old exact
  | none => .bad "append old"
def apAt2 (s : St) (e sz : Nat) (a : Addr) (len cap n : Nat) (new cs : List Value) (ex : Bool) : Bool → Res
  | true => resVS (.slice (some a) (Nat.add len n) cap) (write s a.block (Nat.add a.off (Nat.mul len sz)) new)
  | false => Bool.rec (.bad "append size") (apGrow s e a (Nat.add len n) new (ex || bNot (isN a.spot)) (extract cs a.off (Nat.mul len sz)))
      (Nat.ble (Nat.add len n) 100000 && (ex || (bNot (isN a.spot) || Nat.beq cs.length (Nat.add a.off (Nat.mul cap sz)))))
def apAt (s : St) (e sz : Nat) (a : Addr) (len cap n : Nat) (new : List Value) : Option (List Value × TypeId × Bool) → Res
  | some (cs, e', ex) => Bool.rec (.bad "append type") (apAt2 s e sz a len cap n new cs ex (Nat.ble (Nat.add len n) cap)) (Nat.beq e e')
  | none => .bad "append dead"
def apS (s : St) (e sz : Nat) (n : Nat) (new : List Value) : Value → Res
  | .slice none 0 0 => Nat.rec (.val (.slice none 0 0) s) (fun _ _ => apNew s e n new) n
  | .slice (some a) len cap => Nat.rec (Bool.rec (.bad "append len") (.val (.slice (some a) len cap) s) (Nat.ble len cap)) (fun _ _ => apAt s e sz a len cap n new (s.getCells a.block)) n
  | _ => .bad "append"
def apK (s : St) (e sz by_ : Nat) (sl : Value) : Option (Nat × List Value) → Res
  | some (n, new) => Bool.rec (.bad "append size") (apS s e sz n new sl) (Nat.ble n 100000 && (Nat.ble by_ 1000000 && oneL new))
  | none => .bad "append source"
def apE (s : St) (e : TypeId) (sl x : Value) : Option TI → Res
  | some i => Bool.rec (.bad "append zero") (apK s e i.size i.bytes sl (srcCells s i.size x)) (bNot (isN i.zero))
  | none => .bad "append elem"
def apT (E : Env) (s : St) (sl x : Value) : Option TI → Res
  | some ti => match ti.kind with
    | .slice => apE s ti.elem sl x (E.T.get ti.elem)
    | _ => .bad "append"
  | none => .bad "append"
def srcTK : TK → Bool
  | .slice => true
  | .string => true
  | _ => false
def srcOk : Option TI → Bool
  | some i => srcTK i.kind
  | none => false
def opAppend (E : Env) (s : St) (ts : List TypeId) : List Value → Res
  | [sl, x] => match ts with
    | [sT, xT] => Bool.rec (.bad "append") (apT E s sl x (E.T.get sT)) (srcOk (E.T.get xT))
    | _ => .bad "append"
  | _ => .bad "append"
def minN (a b : Nat) : Nat := Bool.rec b a (Nat.ble a b)
def lenOf1 : Value → Option Nat
  | .slice _ n _ => some n
  | .string b => some b.size
  | _ => none
def cpSrc (s : St) (n sz : Nat) : Value → Option (List Value)
  | .slice none _ _ => some []
  | .slice (some a) _ _ => cellsAt s a.block a.off (Nat.mul n sz)
  | .string b => Bool.rec none (some ((b.data.toList.map fun c => Value.int .u8 c.toNat).take n)) (Nat.beq sz 1)
  | _ => none
def cpA (s : St) (n : Nat) (a : Addr) : Option (List Value) → Res
  | some cs => resVS (.int .i64 (Int.ofNat n)) (write s a.block a.off cs)
  | none => .bad "copy"
def cpN (s : St) (n : Nat) : Option (List Value) → Res
  | some _ => .val (.int .i64 (Int.ofNat n)) s
  | none => .bad "copy"
def cpW (s : St) (n : Nat) (cs : Option (List Value)) : Option Addr → Res
  | none => cpN s n cs
  | some a => cpA s n a cs
def cpK (s : St) (sz : Nat) (base : Option Addr) (dLen : Nat) (x : Value) : Option Nat → Res
  | some xl => fNat (minN xl dLen) fun n => cpW s n (cpSrc s n sz x) base
  | none => .bad "copy"
def cpD (s : St) (sz : Nat) (x : Value) : Value → Res
  | .slice base dLen _ => cpK s sz base dLen x (lenOf1 x)
  | _ => .bad "copy"
def cpTK (s : St) (sz : Nat) (d x : Value) : TK → Res
  | .slice => cpD s sz x d
  | _ => .bad "copy"
def cpT (s : St) (d x : Value) : Option TI → Res
  | some ti => cpTK s ti.esize d x ti.kind
  | none => .bad "copy"
def opCopy (E : Env) (s : St) (ts : List TypeId) : List Value → Res
  | [d, x] => match ts with | sT :: _ => cpT s d x (E.T.get sT) | [] => .bad "copy"
  | _ => .bad "copy"
def clZ (s : St) (a : Addr) (n : Nat) : Option (List Value) → Res
  | some z => resVS (.tuple #[]) (write s a.block a.off (repL z n))
  | none => .bad "clear"
def clV (E : Env) (s : St) (e : TypeId) : Value → Res
  | .slice none _ _ => .val (.tuple #[]) s
  | .slice (some a) n _ => Nat.rec (.val (.tuple #[]) s) (fun _ _ => clZ s a n (zeroT (E.T.get e))) n
  | _ => .bad "clear"
def clM2 (r : Nat) (s : St) : Option (List MapEntry × Nat) → Res
  | some (_, ck) => resVS (.tuple #[]) (s.putB r (some (.map [] ck)))
  | none => .bad "clear"
def clM (s : St) : Value → Res
  | .map none => .val (.tuple #[]) s
  | .map (some r) => clM2 r s (s.getMap r)
  | _ => .bad "clear"
def clTK (E : Env) (s : St) (e : TypeId) (x : Value) : TK → Res
  | .slice => clV E s e x
  | .map => clM s x
  | _ => .bad "clear"
def clT (E : Env) (s : St) (x : Value) : Option TI → Res
  | some ti => clTK E s ti.elem x ti.kind
  | none => .bad "clear"
def opClear (E : Env) (s : St) (ts : List TypeId) : List Value → Res
  | [x] => match ts with | sT :: _ => clT E s x (E.T.get sT) | [] => .bad "clear"
  | _ => .bad "clear"
def lenSl (s : St) : Value → Res
  | .slice _ n _ => .val (.int .i64 (Int.ofNat n)) s
  | _ => .bad "len"
def lenSt (s : St) : Value → Res
  | .string b => .val (.int .i64 (Int.ofNat b.size)) s
  | _ => .bad "len"
def lenMK (s : St) : Option (List MapEntry × Nat) → Res
  | some (es, _) => .val (.int .i64 (Int.ofNat es.length)) s
  | none => .bad "len"
def lenMp (s : St) : Value → Res
  | .map none => .val (.int .i64 0) s
  | .map (some r) => lenMK s (s.getMap r)
  | _ => .bad "len"
def lenK (s : St) (x : Value) : TK → Res
  | .slice => lenSl s x
  | .string => lenSt s x
  | .map => lenMp s x
  | _ => .bad "len"
def lenT (s : St) (x : Value) : Option TI → Res
  | some ti => lenK s x ti.kind
  | none => .bad "len"
def opLen (E : Env) (s : St) (ts : List TypeId) : List Value → Res
  | [x] => match ts with | sT :: _ => lenT s x (E.T.get sT) | [] => .bad "len"
  | _ => .bad "len"
def capK (n : Nat) (s : St) (sp : Option Nat) : Option (List Value × TypeId × Bool) → Res
  | some (_, _, ex) => Bool.rec (.bad "cap of an open slice") (.val (.int .i64 (Int.ofNat n)) s) (ex || bNot (isN sp))
  | none => .bad "cap"
def capV (s : St) : Value → Res
  | .slice none _ n => .val (.int .i64 (Int.ofNat n)) s
  | .slice (some a) _ n => capK n s a.spot (s.getCells a.block)
  | _ => .bad "cap"
def capTK (s : St) (x : Value) : TK → Res
  | .slice => capV s x
  | _ => .bad "cap"
def capT (s : St) (x : Value) : Option TI → Res
  | some ti => capTK s x ti.kind
  | none => .bad "cap"
def opCap (E : Env) (s : St) (ts : List TypeId) : List Value → Res
  | [x] => match ts with | sT :: _ => capT s x (E.T.get sT) | [] => .bad "cap"
  | _ => .bad "cap"
def keyOkB : TK → Value → Bool
  | .int k => fun
    | .int k' _ => kindEq k' k
    | _ => false
  | .string => fun
    | .string _ => true
    | _ => false
  | _ => fun _ => false
def keyEq : Value → Value → Bool
  | .int _ a => fun
    | .int _ b => iEq a b
    | _ => false
  | .string a => fun
    | .string b => decide (a = b)
    | _ => false
  | _ => fun _ => false
def findE (kk : TK) (k : Value) (l : List MapEntry) : Nat → Option (Option (Nat × Value)) :=
  List.rec (fun _ => some none) (fun e _ ih i => Bool.rec none (Bool.rec (ih (Nat.succ i)) (some (some (i, e.val))) (keyEq k e.key)) (keyOkB kk e.key)) l
def findK (kk : TK) (k : Value) (l : List MapEntry) : Option (Option (Nat × Value)) := Bool.rec none (findE kk k l 0) (keyOkB kk k)
def opMM (r : Option Operand) (_ : Env) (_ : Fr) (s : St) : Res :=
  match r with
  | none => resP (fun b => .map (some b)) (s.alloc (.map [] 0))
  | some _ => .bad "makeMap with a hint"
def lkRes (s : St) (v : Value) (b : Bool) : Bool → Res
  | true => .val (.tuple ⟨[v, .bool b]⟩) s
  | false => .val v s
def lkZ (s : St) (ok : Bool) : Option TI → Res
  | some i => match i.zval with
    | some z => lkRes s z false ok
    | none => .bad "lookup zero"
  | none => .bad "lookup"
def lkF (E : Env) (s : St) (ok : Bool) (e : Nat) : Option (Option (Nat × Value)) → Res
  | some (some (_, v)) => lkRes s v true ok
  | some none => lkZ s ok (E.T.get e)
  | none => .bad "lookup key"
def lkM (E : Env) (s : St) (ok : Bool) (e : Nat) (kk : TK) (k : Value) : Option (List MapEntry × Nat) → Res
  | some (es, _) => lkF E s ok e (findK kk k es)
  | none => .bad "lookup map"
def lkV (E : Env) (s : St) (ok : Bool) (e : Nat) (kk : TK) (k : Value) : Value → Res
  | .map none => lkF E s ok e (findK kk k [])
  | .map (some r) => lkM E s ok e kk k (s.getMap r)
  | _ => .bad "lookup"
def lkT (E : Env) (s : St) (ok : Bool) (x k : Value) : Option TI → Res
  | some ti => match ti.kind with
    | .map => lkV E s ok ti.elem ti.kk k x
    | _ => .bad "lookup"
  | none => .bad "lookup"
def lkO (E : Env) (s : St) (ok : Bool) (ti : Option TI) (x : Option Value) : Option Value → Res
  | some k => match x with
    | some x => lkT E s ok x k ti
    | none => .bad "lookup"
  | none => .bad "lookup"
def opLk (ty : TypeId) (x ix : Operand) (ok : Bool) (E : Env) (t : Fr) (s : St) : Res := lkO E s ok (E.T.get ty) (evo x t) (evo ix t)
def pnK (s : St) : Option Value → Res
  | some (.iface ty v) => .pan (.iface ty v) s
  | _ => .bad "panic"
def opPn (x : Operand) (_ : Env) (t : Fr) (s : St) : Res := pnK s (evo x t)
def taZ (s : St) (ok : Bool) : Option Value → Res
  | some z => Bool.rec (.bad "type assertion") (.val (.tuple ⟨[z, .bool false]⟩) s) ok
  | none => .bad "type assertion"
def taV (s : St) (y : TypeId) (ok : Bool) (ti : TI) : Option Value → Res
  | some .nilIface => taZ s ok ti.zval
  | some (.iface t v) => Bool.rec (taZ s ok ti.zval) (lkRes s v true ok) (Nat.beq t y)
  | _ => .bad "type assertion"
def taKd (k : Res) : TK → Res
  | .iface => .bad "type assertion to an interface"
  | .other => .bad "type assertion"
  | _ => k
def taT (s : St) (y : TypeId) (ok : Bool) (x : Option Value) : Option TI → Res
  | some ti => taKd (taV s y ok ti x) ti.kind
  | none => .bad "type assertion"
def opTA (x : Operand) (y : TypeId) (ok : Bool) (E : Env) (t : Fr) (s : St) : Res := taT s y ok (evo x t) (E.T.get y)
def updE (l : List MapEntry) (key val : Value) : Nat → List MapEntry :=
  List.rec (fun _ => []) (fun e r ih i => Nat.rec (⟨key, val, e.born⟩ :: r) (fun m _ => e :: ih m) i) l
def pushE (l : List MapEntry) (x : MapEntry) : List MapEntry := List.rec [x] (fun e _ ih => e :: ih) l
def muF (s : St) (r : Nat) (es : List MapEntry) (ck : Nat) (k v : Value) : Option (Option (Nat × Value)) → Res
  | some (some (i, _)) => resS (s.putB r (some (.map (updE es k v i) ck)))
  | some none => fNat ck fun ck => resS (s.putB r (some (.map (pushE es ⟨k, v, ck⟩) (Nat.succ ck))))
  | none => .bad "mapUpdate key"
def muM (s : St) (r : Nat) (kk : TK) (k v : Value) : Option (List MapEntry × Nat) → Res
  | some (es, ck) => muF s r es ck k v (findK kk k es)
  | none => .bad "mapUpdate map"
def muT (s : St) (k v : Value) (ti : Option TI) : Value → Res
  | .map (some r) => match ti with
    | some ti => match ti.kind with
      | .map => muM s r ti.kk k v (s.getMap r)
      | _ => .bad "mapUpdate"
    | none => .bad "mapUpdate"
  | _ => .bad "mapUpdate"
def muO (s : St) (ti : Option TI) (m k : Option Value) : Option Value → Res
  | some v => match m, k with
    | some m, some k => muT s k v ti m
    | _, _ => .bad "mapUpdate"
  | none => .bad "mapUpdate"
def opMU (ty : TypeId) (m k v : Operand) (E : Env) (t : Fr) (s : St) : Res := muO s (E.T.get ty) (evo m t) (evo k t) (evo v t)
def delE (l : List MapEntry) : Nat → List MapEntry := List.rec (fun _ => []) (fun e r ih i => Nat.rec r (fun m _ => e :: ih m) i) l
def dlF (s : St) (r : Nat) (es : List MapEntry) (ck : Nat) : Option (Option (Nat × Value)) → Res
  | some (some (i, _)) => resVS (.tuple #[]) (s.putB r (some (.map (delE es i) ck)))
  | some none => .val (.tuple #[]) s
  | none => .bad "delete key"
def dlM (s : St) (r : Nat) (kk : TK) (k : Value) : Option (List MapEntry × Nat) → Res
  | some (es, ck) => dlF s r es ck (findK kk k es)
  | none => .bad "delete map"
def dlT (s : St) (k : Value) (ti : Option TI) : Value → Res
  | .map (some r) => match ti with
    | some ti => match ti.kind with
      | .map => dlM s r ti.kk k (s.getMap r)
      | _ => .bad "delete"
    | none => .bad "delete"
  | _ => .bad "delete"
def opDelete (E : Env) (s : St) (ts : List TypeId) : List Value → Res
  | [m, k] => match ts with | sT :: _ => dlT s k (E.T.get sT) m | [] => .bad "delete"
  | _ => .bad "delete"
def mmK (E : Env) (s : St) (m : Sem Value) : Bool → Res
  | true => resG s (prun E.P m)
  | false => .bad "min"
def le1 (E : Env) (u v : Value) : Option Bool :=
  match u with
  | .int _ a => match v with
    | .int _ b => some (iLe a b)
    | v => decLe E u v
  | u => decLe E u v
def sel (u v : Value) : Bool → Value
  | true => v
  | false => u
def selN (mx : Bool) (cur v : Value) (k : IntKind) : Value := Bool.rec (nodeI cur v cur v k) (nodeI cur v v cur k) mx
def pickM (E : Env) (mx : Bool) (k : IntKind) : Value → List Value → Option Value
  | cur, [] => some cur
  | cur, v :: l => match ktag v with
    | some k' => match le1 E cur v with
      | some b => Bool.rec none (pickM E mx k (sel cur v (bEq mx b)) l) (ksEq k k')
      | none => Bool.rec none (pickM E mx k (selN mx cur v k) l) (ksEq k k')
    | none => none
def resM (s : St) : Option Value → Res
  | some v => .val v s
  | none => .bad "min, max: not decided"
def symM (E : Env) (mx : Bool) (s : St) : List Value → Res
  | [] => .bad "min"
  | x :: l => match ktag x with
    | some k => resM s (pickM E mx k x l)
    | none => .bad "min"
def opMin (E : Env) (s : St) (ts : Array TypeId) (ty : TypeId) (args : List Value) : Res := Bool.rec (mmK E s (Builtin.min_ ts ty ⟨args⟩) (args.all groundS)) (symM E false s args) (symsB args)
def opMax (E : Env) (s : St) (ts : Array TypeId) (ty : TypeId) (args : List Value) : Res := Bool.rec (mmK E s (Builtin.max_ ts ty ⟨args⟩) (args.all groundS)) (symM E true s args) (symsB args)
def builtin1 (E : Env) (s : St) (ts : Array TypeId) (ty : TypeId) : Builtin → List Value → Res
  | .len => opLen E s ts.toList
  | .cap => opCap E s ts.toList
  | .append => opAppend E s ts.toList
  | .copy => opCopy E s ts.toList
  | .clear => opClear E s ts.toList
  | .delete => opDelete E s ts.toList
  | .min => opMin E s ts ty
  | .max => opMax E s ts ty
  | _ => fun _ => .bad "builtin"
def callF (f : FuncId) (args : List Value) (s : St) : Option Func → Res
  | some fn => .call f fn args s
  | none => .bad "call of what function"
def callV (E : Env) (s : St) (args : List Value) : Option Value → Res
  | some (.func (.func f) first cap) => callF f (appL first.toList (appL args cap.toList)) s (E.F.get f)
  | some (.func (.yield l) ⟨[]⟩ ⟨[]⟩) => .yield l args s
  | _ => .bad "call of what"
def callA (E : Env) (t : Fr) (s : St) (c : Call) (ty : TypeId) : Option (List Value) → Res
  | some args => match c.callee with
    | .value f => callV E s args (evo f t)
    | .builtin b => builtin1 E s c.argTypes ty b args
    | .invoke _ _ => .bad "invoke"
  | none => .bad "call args"
def opCall (c : Call) (ty : TypeId) (E : Env) (t : Fr) (s : St) : Res := callA E t s c ty (evs c.args.toList t)

def dfrF (s : St) (as : List Value) : Option Value → Res
  | some (.func (.func g) first cap) => .dfr g (appL first.toList (appL as cap.toList)) s
  | _ => .bad "defer"
def dfrA (s : St) (f : Option Value) : Option (List Value) → Res
  | some as => dfrF s as f
  | none => .bad "operands"
def dfrC (t : Fr) (s : St) (as : List Operand) : Callee → Res
  | .value x => dfrA s (evo x t) (evs as t)
  | _ => .bad "defer"
def opDefer (c : Call) (_ : Env) (t : Fr) (s : St) : Res := dfrC t s c.args.toList c.callee

def opName : Op → String
  | .makeMap .. => "makeMap" | .lookup .. => "lookup" | .mapUpdate .. => "mapUpdate" | .range .. => "range" | .next .. => "next" | .typeAssert .. => "typeAssert" | .panic .. => "panic"
  | .defer .. => "defer" | .go .. => "go" | .entry .. => "entry" | .entryStore .. => "entryStore" | .insert .. => "insert" | .mapEntry .. => "mapEntry" | .ready .. => "ready" | .waits .. => "waits"
  | .sliceToArrayPointer .. => "sliceToArrayPointer" | _ => "op"
def op1 : Op → TypeId → Env → Fr → St → Res
  | .move x | .assign x => fun _ => opMove x
  | .pick c a b => fun _ => opPick c a b
  | .alloc e => fun _ => opAlloc e
  | .box e x => fun _ => opBox e x
  | .load ty a => fun _ => opLoad ty a
  | .store ty a x => fun _ => opStore ty a x
  | .nilCheck x => fun _ => opNil x
  | .fieldAddr st x f => fun _ => opFA st x f
  | .field st x f => fun _ => opField st x f
  | .build ty parts => fun _ => opBuild ty parts
  | .buildSlice ty len parts => fun _ => opBS ty len parts
  | .extract x i => fun _ => opEx x i
  | .makeFunc fn a b => fun _ => opMF fn a b
  | .makeSlice ty l c => fun _ => opMS ty l c
  | .indexAddr ty x ix => fun _ => opIA ty x ix
  | .index ty x ix => fun _ => opIx ty x ix
  | .slice ty x lo hi mx => fun _ => opSlC ty x lo hi mx (slOk hi mx)
  | .binOp op ty x y _ => fun _ => opBin op ty x y
  | .unOp op _ x => fun _ => opUn op x
  | .convert a b x => fun _ => opConv a b x
  | .makeInterface ty x => fun _ => opMI ty x
  | .makeMap _ r => fun _ => opMM r
  | .lookup ty x ix ok => fun _ => opLk ty x ix ok
  | .mapUpdate ty m k v => fun _ => opMU ty m k v
  | .insert ty m k v => fun _ => opMU ty m k v
  | .call c => opCall c
  | .panic x => fun _ => opPn x
  | .defer c => fun _ => opDefer c
  | .typeAssert x _ y ok => fun _ => opTA x y ok
  | o => fun _ _ _ _ => .bad (opName o)

inductive Ex where
  | normal | exit (id : Nat) | ret | pan (v : Value)
inductive Out where
  | ret (v : Value) | pan (v : Value)
abbrev CR := Except String (Out × St)
abbrev R := Except String (Ex × Fr × St)

def aggO : Option (List Value) → Option Value
  | some l => some (.agg ⟨l⟩)
  | none => none
def oneO : Option (List Value) → Option Value
  | some [v] => some v
  | _ => none
def varT (s : St) (a : Addr) : Option TI → Option Value
  | some i => Bool.rec (oneO (cellsAt s a.block a.off 1)) (aggO (cellsAt s a.block a.off i.size)) i.agg
  | none => none
def varAt (E : Env) (ty : TypeId) (s : St) : Value → Option Value
  | .pointer (some a) => varT s a (E.T.get ty)
  | _ => none
def resOne (E : Env) (t : Fr) (s : St) : ResultVar → Option Value
  | .tmp i => some (getU (t.m.get i))
  | .cell a ty => varAt E ty s (getU (t.m.get a))
def resAll (E : Env) (t : Fr) (s : St) : List ResultVar → Option (List Value)
  | [] => some []
  | r :: rs => evsK (resOne E t s r) (resAll E t s rs)
def tupK : Option (List Value) → Option Value
  | some vs => some (.tuple ⟨vs⟩)
  | none => none
def resultsOf (E : Env) (t : Fr) (s : St) : List ResultVar → Option Value
  | [] => some (.tuple #[])
  | [r] => resOne E t s r
  | rs => tupK (resAll E t s rs)

def argsK (ih : Nat → Tr Value → Option (Tr Value)) (i : Nat) : Option (Tr Value) → Option (Tr Value)
  | some m => ih i m
  | none => none
def argsIn : List Value → Nat → Tr Value → Option (Tr Value)
  | [] => fun _ m => some m
  | v :: vs => fun i m => argsK (argsIn vs) (Nat.succ i) (Tr.set (some v) m i)
def leaveV (s : St) : Option Value → CR
  | some v => .ok (.ret v, s)
  | none => .error "results"
def shut1 (s : St) (d : Nat) : Option Blk → Option St
  | some .defd => s.putB d none
  | _ => none
def yV : Option Value → Option Bool
  | some (.bool b) => some b
  | _ => none
def yO (t : Fr) : Option Oper → Option Bool
  | some o => match o.dst with
    | some d => yV (t.m.get d)
    | none => none
  | none => none
def yW (want : Bool) : Option Bool → Bool
  | some b => bEq b want
  | none => false
def wantedB (ops : Array Oper) (t : Fr) : Option (Nat × Bool) → Bool
  | none => true
  | some (j, want) => yW want (yO t (ops.toList[j]?))
inductive FM where
  | rt | pn (v : Value) (r : Bool)
abbrev CD := Except String (FM × St)
abbrev RDf := Except String (FM × Fr × St)
def fmV : FM → Value
  | .pn v false => v
  | _ => .nilIface
def fmM : FM → FM
  | .pn v _ => .pn v true
  | .rt => .rt
def fmS : FM → FM
  | .pn v r => Bool.rec (.pn v false) .rt r
  | .rt => .rt
def putTK (n : Hd) : Option (Tr Value) → Option Fr
  | some m => some ⟨n, m⟩
  | none => none
def putT (v : Value) (t : Fr) : Option Nat → Option Fr
  | none => some t
  | some d => Fr.rec (fun n m => Bool.rec none (putTK n (Tr.set (some v) m d)) (Nat.ble (Nat.succ d) n.n)) t
theorem putT_eq (v : Value) (t : Fr) (d : Nat) : putT v t (some d) = Bool.rec none (putTK t.n (Tr.set (some v) t.m d)) (Nat.ble (Nat.succ d) t.n.n) := rfl
def dfPut (k : Fr → RDf) : Option Fr → RDf
  | some t => k t
  | none => .error "slot"
def dfK (dst : Option Nat) (k : FM → Fr → St → RDf) (m : FM) (t : Fr) : Res → RDf
  | .val v s => fV v fun v => dfPut (fun t => k m t s) (putT v t dst)
  | .skip s => dfPut (fun t => k m t s) (putT (.tuple #[]) t dst)
  | _ => .error "deferred region"
def recB : Op → Bool
  | .call ⟨.builtin .recover, ⟨[]⟩, _⟩ => true
  | _ => false
def dfOne (E : Env) (o : Oper) (k : FM → Fr → St → RDf) (m : FM) (t : Fr) (s : St) : Bool → RDf
  | true => Bool.rec (dfK o.dst k m t (op1 o.op o.type E t s)) (dfPut (fun t => k (fmM m) t s) (putT (fmV m) t o.dst)) (recB o.op)
  | false => dfPut (fun t => k m t s) (putT (.tuple #[]) t o.dst)
def dfOps (E : Env) (ops : Array Oper) : List Oper → FM → Fr → St → RDf
  | [] => fun m t s => .ok (m, t, s)
  | o :: l => fun m t s => dfOne E o (dfOps E ops l) m t s (wantedB ops t o.guard)
def dfRes (m : FM) (s : St) : Option Value → CD
  | some _ => .ok (m, s)
  | none => .error "results"
def dfEnd2 (E : Env) (fn : Func) (m : FM) (t : Fr) (s : St) : List DEl → CD
  | [] => dfRes m s (resultsOf E t s fn.results.toList)
  | _ :: _ => .error "deferred in deferred"
def dfEnd (E : Env) (fn : Func) (m : FM) : R → CD
  | .ok (.normal, t, s) => dfEnd2 E fn m t s t.n.ds
  | .ok (.ret, t, s) => dfEnd2 E fn m t s t.n.ds
  | .ok _ => .error "deferred call"
  | .error e => .error e
def dfRest (E : Env) (rec : Code → Fr → St → R) (fn : Func) (y : Code) : RDf → CD
  | .ok (m, t, s) => dfEnd E fn m (rec y t s)
  | .error e => .error e
def dfBody (E : Env) (rec : Code → Fr → St → R) (fn : Func) (m : FM) (t : Fr) (s : St) : Code → CD
  | .seq (.region i ops false) y => Bool.rec (dfEnd E fn m (rec (.seq (.region i ops false) y) t s)) (dfRest E rec fn y (dfOps E ops ops.toList m t s)) (ops.toList.any fun o => recB o.op)
  | c => dfEnd E fn m (rec c t s)
def dfEnter (E : Env) (rec : Code → Fr → St → R) (fn : Func) (m : FM) (s : St) (c : Code) : Option (Tr Value) → CD
  | some fm => fNat fn.ntmps fun n => dfBody E rec fn m ⟨⟨n, none, []⟩, fm⟩ s c
  | none => .error "frame"
def dfCall (E : Env) (rec : Code → Fr → St → R) (m : FM) (args : List Value) (s : St) : Option Func → CD
  | some fn => match fn.body with
    | some c => Bool.rec (.error "args") (dfEnter E rec fn m s c (argsIn args 0 .leaf)) (Nat.ble args.length fn.ntmps)
    | none => .error "no body"
  | none => .error "no function"
def lvK (k : FM → St → CD) : CD → CD
  | .ok (m, s) => k (fmS m) s
  | .error e => .error e
def lvShut (k : FM → St → CD) (m : FM) : Option St → CD
  | some s => k m s
  | none => .error "deferred"
def leaveDs (E : Env) (rec : Code → Fr → St → R) : List DEl → FM → St → CD
  | [] => fun m s => .ok (m, s)
  | .mark d :: ds => fun m s => lvShut (leaveDs E rec ds) m (shut1 s d (s.heap.get d))
  | .call f args :: ds => fun m s => lvK (leaveDs E rec ds) (dfCall E rec m args s (E.F.get f))
def leaveE (E : Env) (fn : Func) (t : Fr) : CD → CR
  | .ok (.rt, s) => leaveV s (resultsOf E t s fn.results.toList)
  | .ok (.pn v false, s) => .ok (.pan v, s)
  | .ok (.pn _ true, _) => .error "recovered"
  | .error e => .error e
def leaveK (E : Env) (rec : Code → Fr → St → R) (fn : Func) : R → CR
  | .ok (.exit _, _, _) => .error "left"
  | .ok (.pan v, t, s) => leaveE E fn t (leaveDs E rec t.n.ds (.pn v false) s)
  | .ok (.normal, t, s) => leaveE E fn t (leaveDs E rec t.n.ds .rt s)
  | .ok (.ret, t, s) => leaveE E fn t (leaveDs E rec t.n.ds .rt s)
  | .error e => .error e
def enterK (E : Env) (rec : Code → Fr → St → R) (fn : Func) (s : St) (c : Code) : Option (Tr Value) → CR
  | some m => fNat fn.ntmps fun n => leaveK E rec fn (rec c ⟨⟨n, none, []⟩, m⟩ s)
  | none => .error "frame"
def callK (E : Env) (rec : Code → Fr → St → R) (args : List Value) (s : St) : Option Func → CR
  | some fn => match fn.body with
    | some c => Bool.rec (.error "args") (enterK E rec fn s c (argsIn args 0 .leaf)) (Nat.ble args.length fn.ntmps)
    | none => .error "no body"
  | none => .error "no function"
def callWith (E : Env) (rec : Code → Fr → St → R) (g : FuncId) (args : List Value) (s : St) : CR :=
  callK E rec args s (E.F.get g)
def callFn (E : Env) (rec : Code → Fr → St → R) (fn : Func) (args : List Value) (s : St) : CR := callK E rec args s (some fn)

def aEq : Value → Value → Bool
  | .agg ⟨l⟩ => fun
    | .agg ⟨m⟩ => xEqL (xEq 100) l m
    | _ => false
  | u => xEq 100 u
def lookC (f : FuncId) (args : List Value) : List (FuncId × List Value × Value) → Option Value
  | [] => none
  | (g, l, v) :: r => Bool.rec (lookC f args r) (some v) (andB (Nat.beq f g) (xEqL aEq args l))
def joinC (s : St) (sep : ByteArray) : Option (List ByteArray) → CR
  | some xs => Bool.rec (.error "join") (.ok (.ret (.string (joinB sep xs)), s)) (Nat.ble xs.length 100000 && Nat.ble (joinL sep.data.toList xs).length 1000000)
  | none => .error "join"
def joinA (s : St) (sep : ByteArray) (len cap : Nat) : Option (List Value) → CR
  | some cs => Bool.rec (.error "join") (joinC s sep (strsOf cs)) (Nat.beq cs.length len && Nat.ble len cap)
  | none => .error "join"
def joinV (s : St) : List Value → CR
  | [.slice (some a) len cap, .string sep] => Bool.rec (.error "join") (joinA s sep len cap (cellsAt s a.block a.off len)) (isN a.spot)
  | _ => .error "join"
def isF (f : FuncId) : Option FuncId → Bool
  | some g => Nat.beq f g
  | none => false
def callJ (E : Env) (rec : Code → Fr → St → R) (fn : Func) (args : List Value) (s : St) : Bool → CR
  | true => joinV s args
  | false => callFn E rec fn args s
def callC (E : Env) (rec : Code → Fr → St → R) (f : FuncId) (fn : Func) (args : List Value) (s : St) : Option Value → CR
  | some v => .ok (.ret v, s)
  | none => callJ E rec fn args s (isF f E.J)
def callG (E : Env) (rec : Code → Fr → St → R) (f : FuncId) (fn : Func) (args : List Value) (s : St) : CR := callC E rec f fn args s (lookC f args E.C)

def setPsK (k : Tr Value → Option (Tr Value)) : Option (Tr Value) → Option (Tr Value)
  | some m => k m
  | none => none
def setPs : List Nat → List Value → Nat → Tr Value → Option (Tr Value)
  | [] => fun
    | [] => fun _ m => some m
    | _ :: _ => fun _ _ => none
  | p :: ps => fun
    | v :: vs => fun n m => Bool.rec none (setPsK (setPs ps vs n) (Tr.set (some v) m p)) (Nat.ble (Nat.succ p) n)
    | [] => fun _ _ => none
def rdEnd3 (b : Bool) : Option St → CR
  | some s => .ok (.ret (.bool b), s)
  | none => .error "round"
def rdEnd2 (l : Nat) (st : LoopState) (j : Option Code) (b : Bool) (s : St) : Option Blk → CR
  | some (.loop _ _ n m ps x y) => rdEnd3 b (s.putB l (some (.loop st j n m ps x y)))
  | _ => .error "round"
def rdEnd (l : Nat) : R → CR
  | .ok (.normal, _, s) => rdEnd2 l .ready none true s (s.heap.get l)
  | .ok (.ret, _, s) => rdEnd2 l .done (some .ret) false s (s.heap.get l)
  | .ok (.exit i, _, s) => rdEnd2 l .done (some (.exit i)) false s (s.heap.get l)
  | .ok (.pan _, _, _) => .error "panic in a round"
  | .error e => .error e
def rdBody (rec : Code → Fr → St → R) (l : Nat) (t : Fr) (y : Code) : Option St → CR
  | some s => rdEnd l (rec y t s)
  | none => .error "round"
def rdBegin (rec : Code → Fr → St → R) (l : Nat) (y : Code) (t : Fr) (s : St) : Option Blk → CR
  | some (.loop .ready pd n m ps x' y') => rdBody rec l t y (s.putB l (some (.loop .busy pd n m ps x' y')))
  | _ => .error "round"
def rdAssign (rec : Code → Fr → St → R) (l : Nat) (y : Code) : R → CR
  | .ok (.normal, t, s) => rdBegin rec l y t s (s.heap.get l)
  | .ok _ => .error "round"
  | .error e => .error e
def yieldM (rec : Code → Fr → St → R) (l n : Nat) (x y : Code) (s : St) : Option (Tr Value) → CR
  | some m => rdAssign rec l y (rec x ⟨⟨n, some l, []⟩, m⟩ s)
  | none => .error "yield"
def yieldK (rec : Code → Fr → St → R) (l : Nat) (args : List Value) (s : St) : Option Blk → CR
  | some (.loop _ _ n m ps x y) => yieldM rec l n x y s (setPs ps args n m)
  | _ => .error "yield"
def yieldW (rec : Code → Fr → St → R) (l : Nat) (args : List Value) (s : St) : CR := yieldK rec l args s (s.heap.get l)
def rfJump (rec : Code → Fr → St → R) (t : Fr) (s : St) : Option Code → R
  | none => .ok (.normal, t, s)
  | some c => rec c t s
def rfEnd3 (rec : Code → Fr → St → R) (t : Fr) (pd : Option Code) : Option St → R
  | some s => rfJump rec t s pd
  | none => .error "loop"
def busyB : LoopState → Bool
  | .busy => true
  | _ => false
def rfEnd2 (rec : Code → Fr → St → R) (l : Nat) (t : Fr) (s : St) : Option Blk → R
  | some (.loop st pd n m ps x y) => Bool.rec (rfEnd3 rec t pd (s.putB l (some (.loop .exhausted pd n m ps x y)))) (.error "busy") (busyB st)
  | _ => .error "loop"
def rfEnd (rec : Code → Fr → St → R) (l : Nat) (t : Fr) : CR → R
  | .ok (.ret _, s) => rfEnd2 rec l t s (s.heap.get l)
  | .ok (.pan v, s) => .ok (.pan v, t, s)
  | .error e => .error e
def rfCall (E : Env) (rec : Code → Fr → St → R) (t : Fr) (f : Option Value) : Option (Nat × St) → R
  | some (l, s) => match f with
    | some (.func (.func g) first cap) => rfEnd rec l t (callWith E rec g (appL first.toList (.func (.yield l) ⟨[]⟩ ⟨[]⟩ :: cap.toList)) s)
    | _ => .error "range over what"
  | none => .error "alloc"
def rfLoop (E : Env) (rec : Code → Fr → St → R) (f : Option Value) (ps : List Nat) (x y : Code) (t : Fr) (s : St) : R :=
  rfCall E rec t f (s.alloc (.loop .ready none t.n.n t.m ps x y))
def rfOut (E : Env) (rec : Code → Fr → St → R) (f : Option Value) (ps : List Nat) (x y : Code) (t : Fr) : Option (Nat × St) → R
  | some (d, s) => rfLoop E rec f ps x y ⟨⟨t.n.n, t.n.rd, .mark d :: t.n.ds⟩, t.m⟩ s
  | none => .error "alloc"
def rfIn (E : Env) (rec : Code → Fr → St → R) (f : Option Value) (ps : List Nat) (x y : Code) (t : Fr) (s : St) : Option Blk → R
  | some (.loop ..) => rfLoop E rec f ps x y t s
  | _ => .error "loop"
def rfR (E : Env) (rec : Code → Fr → St → R) (f : Operand) (ps : List Nat) (x y : Code) (t : Fr) (s : St) : Option Nat → R
  | none => rfOut E rec (evo f t) ps x y t (s.alloc .defd)
  | some l => rfIn E rec (evo f t) ps x y t s (s.heap.get l)

def putM (k : Fr → St → R) (n : Hd) (s : St) (m : Option (Tr Value)) : R := Option.rec (.error "slot") (fun m => k ⟨n, m⟩ s) m
def putF (d : Nat) (k : Fr → St → R) (v : Value) (s : St) (t : Fr) : R :=
  Fr.rec (fun n m => Bool.rec (.error "slot") (putM k n s (Tr.set (some v) m d)) (Nat.ble (Nat.succ d) n.n)) t
def putK : Option Nat → (Fr → St → R) → Fr → Value → St → R
  | some d => fun k t v s => putF d k v s t
  | none => fun k t _ s => k t s
def onCall (dst : Option Nat) (k : Fr → St → R) (t : Fr) : CR → R
  | .ok (.ret v, s) => putK dst k t v s
  | .ok (.pan v, s) => .ok (.pan v, t, s)
  | .error e => .error e
def dfrK (dst : Option Nat) (k : Fr → St → R) (f : FuncId) (args : List Value) (s : St) : Fr → R
  | ⟨⟨n, none, ds⟩, m⟩ => putK dst k ⟨⟨n, none, .call f args :: ds⟩, m⟩ (.tuple #[]) s
  | _ => .error "defer in a round"
def onRes (E : Env) (rec : Code → Fr → St → R) (dst : Option Nat) (k : Fr → St → R) (t : Fr) : Res → R
  | .val v s => fV v fun v => putK dst k t v s
  | .skip s => putK dst k t (.tuple #[]) s
  | .call f fn args s => onCall dst k t (callG E rec f fn args s)
  | .yield l args s => onCall dst k t (yieldW rec l args s)
  | .pan v s => .ok (.pan v, t, s)
  | .dfr f args s => dfrK dst k f args s t
  | .bad w => .error w
def op1K (E : Env) (rec : Code → Fr → St → R) (o : Oper) (k : Fr → St → R) (t : Fr) (s : St) : Bool → R
  | true => onRes E rec o.dst k t (op1 o.op o.type E t s)
  | false => putK o.dst k t (.tuple #[]) s
def opsWith (E : Env) (rec : Code → Fr → St → R) (ops : Array Oper) (l : List Oper) : Fr → St → R :=
  List.rec (fun t s => .ok (.normal, t, s)) (fun o _ ih t s => op1K E rec o ih t s (wantedB ops t o.guard)) l

def bitB (m i : Nat) : Bool := Nat.beq (Nat.mod (Nat.shiftRight m i) 2) 1
def bindsB (e : Edge) : Bool :=
  match e.ground with
  | .textOnly _ => false
  | .gcOnly _ => false
  | _ => true
def getN (l : List Nat) (i : Nat) : Nat := (l[i]?).getD 0
def mOf (ms : List Nat) : List Edge → Nat
  | [] => 0
  | e :: es => bif bindsB e then Nat.lor (mOf ms es) (Nat.lor (Nat.shiftLeft 1 e.on) (getN ms e.on)) else mOf ms es
def masksOf : List Oper → List Nat → List Nat
  | [], ms => ms
  | o :: os, ms => fNat (mOf ms o.after.toList) fun m => masksOf os (ms ++ [m])
def loudB : Op → Bool
  | .store .. => true
  | .mapUpdate .. => true
  | .insert .. => true
  | .call c => match c.callee with
    | .builtin .len => false
    | .builtin .cap => false
    | .builtin .min => false
    | .builtin .max => false
    | _ => true
  | _ => false
def readerB : Op → Bool
  | .load .. => true
  | .lookup .. => true
  | .slice .. => true
  | .call c => match c.callee with
    | .builtin .len => true
    | .builtin .cap => true
    | _ => false
  | _ => false
def tmpsOf : List Operand → List Nat
  | [] => []
  | .tmp d :: os => d :: tmpsOf os
  | _ :: os => tmpsOf os
def guardTmp (ops : Array Oper) : Option (Nat × Bool) → List Nat
  | none => []
  | some (j, _) => match ops.toList[j]? with
    | some o => match o.dst with
      | some d => [d]
      | none => []
    | none => []
def looksB (ops : Array Oper) (o : Oper) : List Nat := guardTmp ops o.guard ++ tmpsOf o.op.operands.toList
def memN (d : Nat) : List Nat → Bool
  | [] => false
  | x :: xs => Nat.beq d x || memN d xs
def idxL : List Oper → Nat → List (Nat × Oper)
  | [], _ => []
  | o :: os, i => (i, o) :: idxL os (i + 1)
def edgeOk (i : Nat) : List Edge → Bool
  | [] => true
  | e :: es => (bNot (bindsB e) || Nat.ble (Nat.succ e.on) i) && edgeOk i es
def opOk (ms : List Nat) (i : Nat) (o : Oper) : Bool :=
  edgeOk i o.after.toList && Nat.beq (getN ms i) (mOf ms o.after.toList) && (match o.dst with | some d => Nat.ble d 1152921504606846976 | none => true)
def pairOk (ops : Array Oper) (ms : List Nat) (i : Nat) (oi : Oper) (j : Nat) (oj : Oper) : Bool :=
  Nat.beq i j || ((match oi.dst with
    | none => true
    | some d => (bNot (memN d (looksB ops oj)) || (bitB (getN ms j) i || bitB (getN ms i) j)) && (match oj.dst with | some d' => bNot (Nat.beq d d') | none => true)) &&
  (bNot (loudB oi.op && (loudB oj.op && Nat.ble i j)) || bitB (getN ms j) i))
def statOk (ops : Array Oper) (ms : List Nat) (l : List (Nat × Oper)) : Bool :=
  l.all fun x => opOk ms x.1 x.2 && l.all fun y => pairOk ops ms x.1 x.2 y.1 y.2
def stat (ops : Array Oper) : Option (List Nat) :=
  (fun ms => Bool.rec none (some ms) (statOk ops ms (idxL ops.toList 0))) (masksOf ops.toList [])

def sEq : Value → Value → Bool
  | .int k a => fun
    | .int k' b => kindEq k k' && iEq a b
    | _ => false
  | .bool a => fun
    | .bool b => bEq a b
    | _ => false
  | .string a => fun
    | .string b => decide (a = b)
    | _ => false
  | .pointer none => fun
    | .pointer none => true
    | _ => false
  | .pointer (some ⟨b, o, none⟩) => fun
    | .pointer (some ⟨b', o', none⟩) => Nat.beq b b' && Nat.beq o o'
    | _ => false
  | .slice none l c => fun
    | .slice none l' c' => Nat.beq l l' && Nat.beq c c'
    | _ => false
  | .slice (some ⟨b, o, none⟩) l c => fun
    | .slice (some ⟨b', o', none⟩) l' c' => Nat.beq b b' && Nat.beq o o' && Nat.beq l l' && Nat.beq c c'
    | _ => false
  | .slice (some ⟨b, o, some k⟩) l c => fun
    | .slice (some ⟨b', o', some k'⟩) l' c' => Nat.beq b b' && Nat.beq o o' && Nat.beq l l' && Nat.beq c c' && Nat.beq k k'
    | _ => false
  | .map none => fun
    | .map none => true
    | _ => false
  | .map (some b) => fun
    | .map (some b') => Nat.beq b b'
    | _ => false
  | .nilIface => fun
    | .nilIface => true
    | _ => false
  | .nilFunc => fun
    | .nilFunc => true
    | _ => false
  | .func (.func f) ⟨[]⟩ ⟨[]⟩ => fun
    | .func (.func g) ⟨[]⟩ ⟨[]⟩ => Nat.beq f g
    | _ => false
  | .func (.methodOf o z) l c => xEq 100 (.func (.methodOf o z) l c)
  | _ => fun _ => false
def lEq : List Value → List Value → Bool
  | [], [] => true
  | a :: l, b :: m => sEq a b && lEq l m
  | _, _ => false
def tEq : Value → Value → Bool
  | .agg ⟨l⟩ => fun
    | .agg ⟨m⟩ => lEq l m
    | _ => false
  | .iface t v => fun
    | .iface t' v' => Nat.beq t t' && sEq v v'
    | _ => false
  | .func (.func f) ⟨a⟩ ⟨b⟩ => fun
    | .func (.func g) ⟨a'⟩ ⟨b'⟩ => Nat.beq f g && (lEq a a' && lEq b b')
    | _ => false
  | .func (.yield f) ⟨[]⟩ ⟨[]⟩ => fun
    | .func (.yield g) ⟨[]⟩ ⟨[]⟩ => Nat.beq f g
    | _ => false
  | v => sEq v
def ltEq : List Value → List Value → Bool
  | [], [] => true
  | a :: l, b :: m => tEq a b && ltEq l m
  | _, _ => false
def vEq : Value → Value → Bool
  | .agg ⟨l⟩ => fun
    | .agg ⟨m⟩ => ltEq l m
    | _ => false
  | .iface t v => fun
    | .iface t' v' => Nat.beq t t' && tEq v v'
    | _ => false
  | .func (.func f) ⟨a⟩ ⟨b⟩ => fun
    | .func (.func g) ⟨a'⟩ ⟨b'⟩ => Nat.beq f g && (ltEq a a' && ltEq b b')
    | _ => false
  | v => tEq v

structure Snap where
  st : St
  g : Nat
  L : Nat
structure Rd where
  i : Nat
  m : Nat
  o : Oper
  t : Fr
  v : Value
structure DS where
  t : Fr
  st : St
  g : Nat
  L : Nat
  al : List (Nat × Blk)
  sn : List Snap
  rd : List Rd
  v : Value
  c : Option Blk
abbrev RD := Except String DS

def descK (k : Tr Blk → Option (Tr Blk)) : Option (Tr Blk) → Option (Tr Blk)
  | some h => k h
  | none => none
def descT (base g m : Nat) : List (Nat × Blk) → Tr Blk → Option (Tr Blk)
  | [] => fun h => some h
  | (a, c) :: l => fun h => Bool.rec (descT base g m l h) (descK (descT base g m l) (Tr.set (some c) h (Nat.add base a))) (andB (bitB m a) (bNot (bitB g a)))
def outV : CR → Except String (Value × St)
  | .ok (.ret v, s) => .ok (v, s)
  | .ok (.pan _, _) => .error "panic in a drawn region"
  | .error e => .error e
def settle (E : Env) (rec : Code → Fr → St → R) : Res → Except String (Value × St)
  | .val v s => fV v fun v => .ok (v, s)
  | .skip s => .ok (.tuple #[], s)
  | .call f fn args s => outV (callG E rec f fn args s)
  | .yield l args s => outV (yieldW rec l args s)
  | .pan _ _ => .error "panic in a drawn region"
  | .dfr _ _ _ => .error "defer in a drawn region"
  | .bad w => .error w
def dPut (k : Fr → DS) : Option Fr → RD
  | some t => .ok (k t)
  | none => .error "slot"
def dLoudEnd (o : Oper) (i m : Nat) (ds : DS) (v : Value) (st : St) : RD :=
  DS.rec (fun t0 st0 g0 L0 al sn rd _ _ => fNat (Nat.lor g0 m) fun g => fNat (Nat.lor L0 (Nat.shiftLeft 1 i)) fun L => dPut (fun t => ⟨t, st, g, L, al, ⟨st0, g0, L0⟩ :: sn, rd, v, none⟩) (putT v t0 o.dst)) ds
theorem dLoudEnd_eq (o : Oper) (i m : Nat) (ds : DS) (v : Value) (st : St) : dLoudEnd o i m ds v st = fNat (Nat.lor ds.g m) fun g => fNat (Nat.lor ds.L (Nat.shiftLeft 1 i)) fun L => dPut (fun t => ⟨t, st, g, L, ds.al, ⟨ds.st, ds.g, ds.L⟩ :: ds.sn, ds.rd, v, none⟩) (putT v ds.t o.dst) := rfl
def dLoud2 (o : Oper) (i m : Nat) (ds : DS) : Except String (Value × St) → RD
  | .ok (v, s) => Bool.rec (.error "lim") (dLoudEnd o i m ds v s) (andB (Nat.beq s.lim ds.st.lim) (Nat.ble ds.st.next s.next))
  | .error e => .error e
def dLoud (E : Env) (rec : Code → Fr → St → R) (o : Oper) (i m : Nat) (ds : DS) : Bool → Option (Tr Blk) → RD
  | true => fun
    | some h => dLoud2 o i m ds (St.rec (fun _ nx lim => settle E rec (op1 o.op o.type E ds.t ⟨h, nx, lim⟩)) ds.st)
    | none => .error "desc"
  | false => fun
    | some h => St.rec (fun _ nx lim => dLoudEnd o i m ds (.tuple #[]) ⟨h, nx, lim⟩) ds.st
    | none => .error "desc"
def dQuietEnd (o : Oper) (i : Nat) (ds : DS) (v : Value) : Option Blk → RD
  | some c => DS.rec (fun t0 st g L al sn rd _ _ => dPut (fun t => ⟨t, st, g, L, (i, c) :: al, sn, rd, v, some c⟩) (putT v t0 o.dst)) ds
  | none => DS.rec (fun t0 st g L al sn rd _ _ => dPut (fun t => ⟨t, st, g, L, al, sn, rd, v, none⟩) (putT v t0 o.dst)) ds
def dReadEnd (o : Oper) (i m : Nat) (ds : DS) : Res → RD
  | .val v _ => fV v fun v => DS.rec (fun t0 st g L al sn rd _ _ => dPut (fun t => ⟨t, st, g, L, al, sn, ⟨i, m, o, t0, v⟩ :: rd, v, none⟩) (putT v t0 o.dst)) ds
  | .bad w => .error w
  | _ => .error "read"
def dRead (E : Env) (base : Nat) (o : Oper) (i m : Nat) (ds : DS) (w : String) : Bool → RD
  | true => match descT base ds.g m ds.al ds.st.heap with
    | some h => dReadEnd o i m ds (op1 o.op o.type E ds.t ⟨h, Nat.add base i, Nat.add base i⟩)
    | none => .error "desc"
  | false => .error w
def dQuiet (E : Env) (base : Nat) (o : Oper) (i m : Nat) (ds : DS) : Res → RD
  | .val v s => fV v fun v => dQuietEnd o i ds v (s.heap.get (Nat.add base i))
  | .skip s => dQuietEnd o i ds (.tuple #[]) (s.heap.get (Nat.add base i))
  | .bad w => dRead E base o i m ds w (readerB o.op)
  | _ => .error "quiet call"
def dWant (E : Env) (rec : Code → Fr → St → R) (base : Nat) (o : Oper) (i m : Nat) (ds : DS) : Bool → RD
  | true => dLoud E rec o i m ds true (descT base ds.g m ds.al ds.st.heap)
  | false => dQuiet E base o i m ds (op1 o.op o.type E ds.t ⟨.leaf, Nat.add base i, Nat.succ (Nat.add base i)⟩)
def dSkip (base : Nat) (E : Env) (rec : Code → Fr → St → R) (o : Oper) (i m : Nat) (ds : DS) : Bool → RD
  | true => dLoud E rec o i m ds false (descT base ds.g m ds.al ds.st.heap)
  | false => dQuietEnd o i ds (.tuple #[]) none
def dstep (E : Env) (rec : Code → Fr → St → R) (ops : Array Oper) (base : Nat) (o : Oper) (i m : Nat) (ds : DS) : RD :=
  Bool.rec (dSkip base E rec o i m ds (loudB o.op)) (dWant E rec base o i m ds (loudB o.op)) (wantedB ops ds.t o.guard)
def dThen (k : DS → RD) : RD → RD
  | .ok d => k d
  | .error e => .error e
def dGo (E : Env) (rec : Code → Fr → St → R) (ops : Array Oper) (base : Nat) : List Oper → List Nat → Nat → DS → RD
  | [] => fun _ _ ds => .ok ds
  | o :: os => fun ms i ds => match ms with
    | m :: ms => dThen (dGo E rec ops base os ms (Nat.succ i)) (dstep E rec ops base o i m ds)
    | [] => .error "masks"
def rdV (v : Value) : Res → Bool
  | .val u _ => vEq u v
  | _ => false
def rdOk (E : Env) (base Lall : Nat) (al : List (Nat × Blk)) (r : Rd) (q : Snap) : Bool :=
  Bool.rec (match descT base q.g r.m al q.st.heap with
    | some h => rdV r.v (op1 r.o.op r.o.type E r.t ⟨h, Nat.add base r.i, Nat.add base r.i⟩)
    | none => false) true (bitB q.g r.i || bNot (Nat.beq (Nat.land r.m Lall) (Nat.land r.m q.L)))
def alOk (base : Nat) (q : Snap) (x : Nat × Blk) : Bool := bitB q.g x.1 || isN (q.st.heap.get (Nat.add base x.1))
def snOk (E : Env) (base Lall : Nat) (al : List (Nat × Blk)) (rd : List Rd) (q : Snap) : Bool := al.all (alOk base q) && rd.all fun r => rdOk E base Lall al r q
def dFin (t : Fr) (next lim : Nat) : Option (Tr Blk) → R
  | some h => .ok (.normal, t, ⟨h, next, lim⟩)
  | none => .error "desc"
def dEnd (E : Env) (base n : Nat) : RD → R
  | .ok ds => Bool.rec (.error "order") (St.rec (fun h nx lim => dFin ds.t nx lim (descT base ds.g (Nat.sub (Nat.pow 2 n) 1) ds.al h)) ds.st)
      (List.all (⟨ds.st, ds.g, ds.L⟩ :: ds.sn) (snOk E base ds.L ds.al ds.rd))
  | .error e => .error e
def drawM (E : Env) (rec : Code → Fr → St → R) (ops : Array Oper) (t : Fr) (s : St) : Option (List Nat) → R
  | some ms => St.rec (fun h nx0 lim => fNat nx0 fun base => fNat (Nat.add base ops.toList.length) fun nx =>
      Bool.rec (.error "lim") (dEnd E base ops.toList.length (dGo E rec ops base ops.toList ms 0 ⟨t, ⟨h, nx, lim⟩, 0, 0, [], [], [], .tuple #[], none⟩)) (Nat.ble nx lim)) s
  | none => .error "draw"

def regionW (E : Env) (rec : Code → Fr → St → R) (ops : Array Oper) : Bool → Fr → St → R
  | false => opsWith E rec ops ops.toList
  | true => fun t s => drawM E rec ops t s (stat ops)
def seqK (k : Fr → St → R) : R → R
  | .ok (.normal, t, s) => k t s
  | r => r
def condK (a b : Fr → St → R) (t : Fr) (s : St) : Option Value → R
  | some (.bool true) => a t s
  | some (.bool false) => b t s
  | _ => .error "cond"
def blockE (id : Nat) (t : Fr) (s : St) : Ex → R
  | .exit i => Bool.rec (.ok (.exit i, t, s)) (.ok (.normal, t, s)) (Nat.beq i id)
  | e => .ok (e, t, s)
def blockK (id : Nat) : R → R
  | .ok (e, t, s) => blockE id t s e
  | .error e => .error e
def execWith (E : Env) (rec : Code → Fr → St → R) : Code → Fr → St → R
  | .skip | .label _ => fun t s => .ok (.normal, t, s)
  | .seq a b => fun t s => seqK (rec b) (rec a t s)
  | .cond x a b => fun t s => condK (rec a) (rec b) t s (evo x t)
  | .block id b => fun t s => blockK id (rec b t s)
  | .loop b => fun t s => seqK (rec (.loop b)) (rec b t s)
  | .exit id => fun t s => .ok (.exit id, t, s)
  | .ret => fun t s => .ok (.ret, t, s)
  | .region _ ops d => regionW E rec ops d
  | .scope b => fun t s => rec b t s
  | .rangeFunc f ps x y => fun t s => rfR E rec f ps.toList x y t s t.n.rd
  | .goto _ => fun _ _ => .error "goto"
  | _ => fun _ _ => .error "code"

def exec (E : Env) (n : Nat) : Code → Fr → St → R :=
  Nat.rec (fun _ _ _ => .error "out of fuel") (fun _ ih => execWith E ih) n

def boolOf : CR → Option Bool
  | .ok (.ret (.bool b), _) => some b
  | _ => none
def run (E : Env) (n : Nat) (f : FuncId) (args : List Value) : Option Bool := boolOf (callWith E (exec E n) f args ⟨.leaf, 0, 1152921504606846976⟩)
def okFn (fn : Func) : Option Func := Bool.rec none (some fn) (fn.body.isSome && fn.name != "runtime.NumGoroutine")
def trOfO {α : Type} : List (Option α) → Nat → Tr α → Tr α
  | [] => fun _ m => m
  | x :: xs => fun i m => match Tr.set x m i with
    | some m' => trOfO xs (Nat.succ i) m'
    | none => m
def mkFT (P : Program) : Tr Func := trOfO (P.funcs.toList.map okFn) 0 .leaf
def mkTT (P : Program) : Tr TI := trOfO ((List.range P.types.size).map (mkTI P)) 0 .leaf
end
end Go.Ev
