/-
  Says: a machine over virtual blocks, as definitions that the kernel runs (no claim of its own).
-/
import Derived.AtR
noncomputable section
namespace Go.Vx
/-! A machine of its own over virtual blocks: a call is run by the kernel alone. -/

inductive T (α : Type) where
  | nil
  | node (v : Option α) (l r : T α)

def T.get {α : Type} (t : T α) : Nat → Option α :=
  T.rec (motive := fun _ => Nat → Option α) (fun _ => none)
    (fun v _ _ gl gr i => Bool.rec (motive := fun _ => Option α)
      (Bool.rec (motive := fun _ => Option α) (gr (Nat.sub (Nat.div i (nat_lit 2)) (nat_lit 1))) (gl (Nat.div i (nat_lit 2))) (Nat.beq (Nat.mod i (nat_lit 2)) (nat_lit 1))) v (Nat.beq i (nat_lit 0))) t

/-- A trie of one place. -/
def T.one {α : Type} (x : α) (d : Nat) : Nat → T α :=
  Nat.rec (motive := fun _ => Nat → T α) (fun _ => .nil)
    (fun _ ih i => Bool.rec (motive := fun _ => T α)
        (Bool.rec (motive := fun _ => T α) (.node none .nil (ih (Nat.sub (Nat.div i (nat_lit 2)) (nat_lit 1)))) (.node none (ih (Nat.div i (nat_lit 2))) .nil) (Nat.beq (Nat.mod i (nat_lit 2)) (nat_lit 1)))
        (.node (some x) .nil .nil) (Nat.beq i (nat_lit 0))) d
def T.put {α : Type} (x : α) (t : T α) : Nat → T α :=
  T.rec (motive := fun _ => Nat → T α) (T.one x (nat_lit 21))
      (fun v l r pl pr i => Bool.rec (motive := fun _ => T α)
        (Bool.rec (motive := fun _ => T α) (.node v l (pr (Nat.sub (Nat.div i (nat_lit 2)) (nat_lit 1)))) (.node v (pl (Nat.div i (nat_lit 2))) r) (Nat.beq (Nat.mod i (nat_lit 2)) (nat_lit 1)))
        (.node (some x) l r) (Nat.beq i (nat_lit 0))) t
def T.set {α : Type} (_d : Nat) (t : T α) (i : Nat) (x : α) : T α := T.put x t i


/-! ### Lists -/
def nthL {α : Type} (l : List α) : Nat → Option α :=
  List.rec (motive := fun _ => Nat → Option α) (fun _ => none) (fun v _ ih n => Bool.rec (motive := fun _ => Option α) (ih (Nat.sub n 1)) (some v) (Nat.beq n 0)) l
def takeL {α : Type} (l : List α) : Nat → List α :=
  List.rec (motive := fun _ => Nat → List α) (fun _ => []) (fun v _ ih n => Bool.rec (motive := fun _ => List α) (v :: ih (Nat.sub n 1)) [] (Nat.beq n 0)) l
def dropL {α : Type} (l : List α) : Nat → List α :=
  List.rec (motive := fun _ => Nat → List α) (fun _ => []) (fun v t ih n => Bool.rec (motive := fun _ => List α) (ih (Nat.sub n 1)) (v :: t) (Nat.beq n 0)) l
def lenL {α : Type} (l : List α) : Nat := List.rec (motive := fun _ => Nat) 0 (fun _ _ ih => Nat.succ ih) l
def appL {α : Type} (l k : List α) : List α := List.rec (motive := fun _ => List α) k (fun v _ ih => v :: ih) l
def allL {α : Type} (p : α → Bool) (l : List α) : Bool := List.rec (motive := fun _ => Bool) true (fun v _ ih => Bool.rec (motive := fun _ => Bool) false ih (p v)) l
def revOn {α : Type} (l : List α) : List α → List α := List.rec (motive := fun _ => List α → List α) (fun k => k) (fun v _ ih k => ih (v :: k)) l
def mapL {α β : Type} (f : α → β) (l : List α) : List β := List.rec (motive := fun _ => List β) [] (fun v _ ih => f v :: ih) l

/-- The greatest number of blocks. -/
def top : Nat := 1048576
/-- From here on a capacity is not known: 'BIG - d': what the block's own capacity is, less d. -/
def half : Nat := 4611686018427387904
def BIG : Nat := 9223372036854775808

inductive VObj where
  | cells (c : List Value) (e : TypeId) (fz : Bool)
  | grow (rc : List Value) (n : Nat) (e : TypeId)
  | map (es : List MapEntry) (clock : Nat)
  | iter (s : ByteArray) (pos : Nat)
  | loop (st : LoopState) (pending : Option Code) (fn : FuncId) (nt : Nat) (tm : T Value) (ps : Array Tmp) (assign body : Code)
  | dfr (taken : Bool)

structure VW where
  heap : T VObj
  size : Nat
  floor : Nat

def VW.push (V : VW) (o : VObj) : VW := ⟨V.heap.set 21 V.size o, Nat.add V.size (nat_lit 1), Nat.add V.floor (nat_lit 0)⟩
def VW.put (V : VW) (b : Nat) (o : VObj) : VW := ⟨V.heap.set 21 b o, Nat.add V.size (nat_lit 0), Nat.add V.floor (nat_lit 0)⟩

structure St where
  tm : T Value
  V : VW
  df : List Nat

inductive X where
  | normal
  | exit (id : Nat)
  | goto (l : Nat)
  | ret

inductive R where
  | fall (x : X) (s : St)
  | val (v : Value) (V : VW)
  | bad (why fn : Nat)

/-- Where one is: the function, how many temporaries it has, the loop whose round runs. -/
structure Env where
  fn : FuncId
  nt : Nat
  ro : Option Nat

inductive Task where
  | code (c : Code) (E : Env) (s : St)
  | again (c : Code) (E : Env) (s : St)
  | inside (b c : Code) (E : Env) (s : St)
  | call (f : FuncId) (args : List Value) (V : VW)
  | base (f : FuncId) (args : List Value)
  | round (l : Nat) (args : List Value) (V : VW)

/-! ### Values -/

def atom : Value → Bool
  | .bool _ | .int .. | .float .. | .complex .. | .string _ | .pointer none | .slice none _ _ | .map none | .chan none | .nilFunc | .nilIface => true
  | .func (.func _) ⟨[]⟩ ⟨[]⟩ => true
  | _ => false

def flat1 : Value → Bool
  | .agg ⟨l⟩ => l.all atom
  | v => atom v

def flat : Value → Bool
  | .tuple ⟨l⟩ => l.all flat1
  | .iface _ v => flat1 v
  | v => flat1 v

def cellsL : Value → List Value
  | .agg ⟨l⟩ => l
  | v => [v]

def orU (o : Option Value) : Value := Option.rec (motive := fun _ => Value) undef (fun v => v) o
def tget (tm : T Value) (t : Nat) : Value := orU (tm.get t)

def gloV (g : Nat) (_ : T Value) : Value := .pointer (some ⟨g, 0, none⟩)
def funV (f : FuncId) (_ : T Value) : Value := .func (.func f) ⟨[]⟩ ⟨[]⟩
def conV (v : Value) (_ : T Value) : Value := v
def tmpV (t : Nat) (tm : T Value) : Value := tget tm t
def ev (tm : T Value) (x : Operand) : Value := Operand.rec (motive := fun _ => T Value → Value) tmpV conV gloV funV x tm

def notYield : Fn → Bool
  | .yield _ => false
  | _ => true

/-- Constants are flat, variables are there. -/
def okO (P : Program) : Operand → Bool
  | .const v => flat v
  | .global g => Nat.blt g P.globals.size
  | _ => true
def okOp (P : Program) (o : Oper) : Bool := o.op.operands.toList.all (okO P)

/-! ### What the program says of its types -/

def isAggD : TypeDesc → Bool
  | .struct _ | .array _ _ => true
  | _ => false
def lay (P : Program) (t : TypeId) : Option (Nat × Bool) :=
  match P.info? t, P.underlying t with
  | some i, some d => some (i.size, isAggD d)
  | _, _ => none
def sizeA (P : Program) (t : TypeId) : Option Nat := (P.info? t).map (·.size)
/-- The cells of a type's zero value, all of them plain. -/
def zeroL (P : Program) (t : TypeId) : Option (List Value) :=
  match P.info? t with
  | some i => match i.zero with
    | some z => if (cellsL z).all atom then some (cellsL z) else none
    | none => none
  | none => none
def zeroV (P : Program) (t : TypeId) : Option Value :=
  match P.info? t with
  | some i => match i.zero with
    | some z => if flat1 z then some z else none
    | none => none
  | none => none
/-- Where a part lies in a struct or an array, and how many cells it has. -/
def placeOf (P : Program) (t : TypeId) (i : Nat) : Option (Nat × Nat) :=
  match P.underlying t with
  | some (.struct fs) => match fs[i]? with
    | some f => (sizeA P f.type).map fun n => (f.offset, n)
    | none => none
  | some (.array _ e) => (sizeA P e).map fun n => (i * n, n)
  | _ => none
def allFieldsOk (P : Program) (t : TypeId) : Bool :=
  match P.underlying t with
  | some (.struct fs) => fs.all fun f => (P.info? f.type).isSome
  | some (.array _ e) => (sizeA P e).isSome
  | _ => false
def elemS (P : Program) (t : TypeId) : Option (TypeId × Nat) :=
  match P.underlying t with
  | some (.slice e) => (sizeA P e).map fun n => (e, n)
  | _ => none
def fieldOf (P : Program) (t : TypeId) (i : Nat) : Option (Nat × Nat × Bool) :=
  match P.underlying t with
  | some (.struct fs) => match fs[i]? with
    | some f => (lay P f.type).map fun (n, a) => (f.offset, n, a)
    | none => none
  | _ => none
def rep (z : List Value) : Nat → List Value
  | 0 => []
  | n + 1 => z ++ rep z n
def bytesA (P : Program) (t : TypeId) : Option Nat := (P.info? t).map (·.bytes)
def okOps (P : Program) : List Oper → Bool
  | [] => true
  | o :: l => okOp P o && okOps P l
/-- All operands of a piece of code are. -/
def okCode (P : Program) : Code → Bool
  | .region _ ops _ => okOps P ops.toList
  | .seq a b => okCode P a && okCode P b
  | .cond c a b => okO P c && okCode P a && okCode P b
  | .block _ c | .loop c | .scope c => okCode P c
  | .rangeFunc f _ a c => okO P f && okCode P a && okCode P c
  | _ => true
/-- The loops of a piece of code. -/
def loopsC : Code → List Code
  | .loop c => c :: loopsC c
  | .seq a b => loopsC a ++ loopsC b
  | .cond _ a b => loopsC a ++ loopsC b
  | .block _ c => loopsC c
  | .scope c => loopsC c
  | .rangeFunc _ _ a c => loopsC a ++ loopsC c
  | _ => []
def loopsP (P : Program) (f : FuncId) : List Code := match P.funcs[f]? with
  | some fn => match fn.body with
    | some c => loopsC c
    | none => []
  | none => []
/-- A piece of a function's code: its operands are, its loops are the function's. -/
def OkC (P : Program) (f : FuncId) (c : Code) : Prop := okCode P c = true ∧ ∀ x ∈ loopsC c, x ∈ loopsP P f
def fnOf (P : Program) (f : FuncId) : Option (Func × Code) :=
  match P.funcs[f]? with
  | some fn => match fn.body with
    | some c => if fn.name == "runtime.NumGoroutine" || !okCode P c then none else some (fn, c)
    | none => none
  | none => none

/-! ### A dry run: what looks at no memory -/

def dr {α : Type} (P : Program) (s : Sem α) : Option α :=
  Sem.rec (motive := fun _ => Option α) (fun a => some a) (fun _ _ _ _ => none) (fun _ _ _ _ _ => none) (fun _ _ _ => none) (fun _ _ _ => none)
    (fun _ _ _ _ => none) (fun _ _ _ => none) (fun _ _ _ => none) (fun _ _ _ _ => none) (fun _ _ _ => none) (fun _ _ _ => none)
    (fun _ ih => ih P) (fun _ _ ih => ih) (fun _ => none) s

/-! ### Memory -/

def partL (n : Nat) (agg : Bool) (c : List Value) (off : Nat) : Option Value :=
  match agg with
  | true => some (.agg ⟨takeL (dropL c off) n⟩)
  | false => nthL c off

def blockOf' : Value → Option (Nat × Nat)
  | .pointer (some ⟨b, off, none⟩) => some (b, off)
  | _ => none
def spotB (b off : Nat) (sp : Option Nat) : Option (Nat × Nat) := Option.rec (motive := fun _ => Nat → Nat → Option (Nat × Nat)) (fun b off => some (b, off)) (fun _ _ _ => none) sp b off
def addrB (a : Addr) : Option (Nat × Nat) := Addr.rec (motive := fun _ => Option (Nat × Nat)) spotB a
def ptrB (a : Option Addr) : Option (Nat × Nat) := Option.rec (motive := fun _ => Option (Nat × Nat)) none addrB a
def blockOf (v : Value) : Option (Nat × Nat) := Value.rec (motive_1 := fun _ => Option (Nat × Nat)) (motive_2 := fun _ => PUnit) (motive_3 := fun _ => PUnit) (fun _ => none) (fun _ _ => none) (fun _ _ => none) (fun _ _ _ => none) (fun _ => none) ptrB (fun _ _ _ => none) (fun _ => none) (fun _ => none) (fun _ _ _ _ _ => none) none (fun _ _ _ => none) none (fun _ _ => none) (fun _ _ => none) (fun _ _ => PUnit.unit) PUnit.unit (fun _ _ _ _ => PUnit.unit) v
def rowOf : Option VObj → Option (List Value)
  | some (.cells c _ _) => some c
  | some (.grow rc _ _) => some (revOn rc [])
  | _ => none
def loadAt (la : Nat × Bool) (off : Nat) (c : List Value) : Option Value :=
  match la.2 with
  | true => match Nat.ble (Nat.add off la.1) (lenL c) with
    | true => some (.agg ⟨takeL (dropL c off) la.1⟩)
    | false => none
  | false => nthL c off
def loadGo (P : Program) (t : TypeId) (V : VW) (v : Value) : Option Value :=
  match blockOf v with
  | some bo => match rowOf (V.heap.get bo.1) with
    | some c => match lay P t with
      | some la => loadAt la bo.2 c
      | none => none
    | none => none
  | none => none

def splice (c : List Value) (off : Nat) (l : List Value) : List Value := appL (takeL c off) (appL l (dropL c (Nat.add off (lenL l))))

def writeAt (V : VW) (b off : Nat) (l : List Value) : Option VObj → Option VW
  | some (.cells c e false) => match Nat.ble V.floor b with
    | true => match Nat.ble (Nat.add off (lenL l)) (lenL c) with
      | true => some (V.put b (.cells (splice c off l) e false))
      | false => none
    | false => none
  | some (.grow rc _ e) => match Nat.ble V.floor b with
    | true => match Nat.ble (Nat.add off (lenL l)) (lenL (revOn rc [])) with
      | true => some (V.put b (.cells (splice (revOn rc []) off l) e false))
      | false => none
    | false => none
  | _ => none
def writeGo (V : VW) (b off : Nat) (l : List Value) : Option VW := writeAt V b off l (V.heap.get b)

def storeGo (P : Program) (t : TypeId) (V : VW) (a v : Value) : Option VW :=
  match blockOf a with
  | some bo => match sizeA P t with
    | some n => match Nat.beq (lenL (cellsL v)) n with
      | true => match allL Value.oneCell' (cellsL v) with
        | true => writeGo V bo.1 bo.2 (cellsL v)
        | false => none
      | false => none
    | none => none
  | none => none

def fillL (c : List Value) : List (Nat × Nat × List Value) → Option (List Value)
  | [] => some c
  | (off, n, l) :: rest => if l.length == n && Nat.ble (off + n) c.length then fillL (splice c off l) rest else none

def partsL (f : Nat → Option (Nat × Nat)) (e : Operand → Value) : List (Nat × Operand) → Option (List (Nat × Nat × List Value))
  | [] => some []
  | (i, x) :: rest => match f i, partsL f e rest with
    | some (off, n), some l => some ((off, n, cellsL (e x)) :: l)
    | _, _ => none

def intN' : Value → Option Nat
  | .int _ (.ofNat n) => some n
  | _ => none
def intP (n : Int) : Option Nat := Int.rec (motive := fun _ => Option Nat) some (fun _ => none) n
def intN (v : Value) : Option Nat := Value.rec (motive_1 := fun _ => Option Nat) (motive_2 := fun _ => PUnit) (motive_3 := fun _ => PUnit) (fun _ => none) (fun _ => intP) (fun _ _ => none) (fun _ _ _ => none) (fun _ => none) (fun _ => none) (fun _ _ _ => none) (fun _ => none) (fun _ => none) (fun _ _ _ _ _ => none) none (fun _ _ _ => none) none (fun _ _ => none) (fun _ _ => none) (fun _ _ => PUnit.unit) PUnit.unit (fun _ _ _ _ => PUnit.unit) v
def newGo (V : VW) (o : VObj) (k : Nat → Value) : R :=
  if Nat.blt V.size top then .val (k V.size) (V.push o) else .bad 1 0

def ptrTo (b : Nat) : Value := .pointer (some ⟨b, 0, none⟩)
def slTo (n c : Nat) (b : Nat) : Value := .slice (some ⟨b, 0, none⟩) n c

def opt (why : Nat) (V : VW) : Option Value → R
  | some v => .val v V
  | none => .bad why 0
def optW (why : Nat) : Option VW → R
  | some V => .val undef V
  | none => .bad why 0

def loN (d : Nat) : Option Value → Option Nat
  | none => some d
  | some v => intN v
/-- The bounds of a slice of a slice, by numbers. -/
def sliceGo (P : Program) (t : TypeId) (V : VW) (x : Value) (lo hi mx : Option Value) : R :=
  match elemS P t, x with
  | some (_, sz), .slice a len cap =>
    match loN 0 lo, loN len hi with
    | some l, some h =>
      if !Nat.ble l h then .bad 40 0 else
      match mx with
      | none =>
        if Nat.blt cap half then
          (if Nat.ble h cap then
            match a with
            | some ⟨b, off, none⟩ => .val (.slice (some ⟨b, (if cap == l then off else off + l * sz), none⟩) (h - l) (cap - l)) V
            | none => .val (.slice none (h - l) (cap - l)) V
            | _ => .bad 41 0
          else .bad 42 0)
        else if !Nat.ble h len then .bad 43 0
        else match a with
          | some ⟨b, off, none⟩ =>
            if l == 0 then .val (.slice a h cap) V
            else if Nat.blt l len && Nat.ble (half + l) cap then .val (.slice (some ⟨b, off + l * sz, none⟩) (h - l) (cap - l)) V
            else .bad 44 0
          | _ => .bad 46 0
      | some m => match intN m, a with
        | some m, some ⟨b, off, none⟩ =>
          if hi.isSome && Nat.ble h m && Nat.blt m half && (Nat.ble m len || Nat.ble m cap && Nat.blt cap half) then
            .val (.slice (some ⟨b, (if m == l then off else off + l * sz), none⟩) (h - l) (m - l)) V
          else .bad 47 0
        | some m, none => if hi.isSome && Nat.ble h m && Nat.ble m cap && Nat.blt cap half then .val (.slice none (h - l) (m - l)) V else .bad 48 1
        | _, _ => .bad 48 0
    | _, _ => .bad 49 0
  | _, _ => .bad 50 0

/-- A row that grows, told from its beginning again. -/
def flatV (V : VW) (s : Value) : VW := match s with
  | .slice (some ⟨b, _, none⟩) _ _ => match V.heap.get b with
    | some (.grow rc _ e) => match Nat.ble V.floor b with
      | true => V.put b (.cells (revOn rc []) e false)
      | false => V
    | _ => V
  | _ => V
/-- What is empty behind a row of unknown room: a row of its own. -/
def endGo (P : Program) (t : TypeId) (V : VW) (x : Value) (lo hi mx : Option Value) : R :=
  match elemS P t, x with
  | some (el, sz), .slice (some ⟨b, off, none⟩) len cap =>
    match lo, hi, mx with
    | some lv, none, none => match intN lv, V.heap.get b with
      | some l, some (.cells c e fz) =>
        if (((Nat.beq l len && Nat.ble half cap) && (Nat.ble cap BIG && Nat.beq off ((BIG - cap) * sz))) && ((!fz && Nat.beq e el) && (Nat.ble V.floor b && Nat.blt V.size top))) && Nat.ble (off + len * sz) (lenL c) then
          .val (slTo 0 BIG V.size) ((V.put b (.dfr true)).push (.cells [] el false))
        else .bad 44 1
      | _, _ => .bad 44 2
    | _, _, _ => .bad 44 3
  | _, _ => .bad 44 4
def sliceGo2 (P : Program) (t : TypeId) (V : VW) (x : Value) (lo hi mx : Option Value) : R :=
  match sliceGo P t V x lo hi mx with
  | .bad n f => match Nat.beq n 44 with
    | true => endGo P t (flatV V x) x lo hi mx
    | false => .bad n f
  | r => r

def arrP (P : Program) (t : TypeId) : Option (Nat × Nat) :=
  match P.underlying t with
  | some (.array n e) => (sizeA P e).map fun s => (n, s)
  | _ => none

def sliceAGo (P : Program) (t : TypeId) (x : Value) (lo hi : Option Value) : Option Value :=
  match arrP P t, x with
  | some (n, sz), .pointer (some ⟨b, off, none⟩) =>
    match loN 0 lo, loN n hi with
    | some l, some h => if Nat.ble l h && Nat.ble h n && Nat.blt n half then
        (if n == l then some (.slice (some ⟨b, off, none⟩) (h - l) 0) else some (.slice (some ⟨b, off + l * sz, none⟩) (h - l) (n - l)))
      else none
    | _, _ => none
  | _, _ => none

/-- What an append brings: cells of another row, or the bytes of a text. -/
def bringAt (sz off n : Nat) (c : List Value) : Option (List Value) :=
  match Nat.ble (Nat.add off (Nat.mul n sz)) (lenL c) with
  | true => some (takeL (dropL c off) (Nat.mul n sz))
  | false => none
def bringN (V : VW) (sz n : Nat) : Value → Option (List Value)
  | .slice none _ _ => some []
  | .slice (some ⟨b, off, none⟩) _ _ => match rowOf (V.heap.get b) with
    | some c => bringAt sz off n c
    | none => none
  | .string s => if Nat.ble n s.size then some ((s.data.toList.take n).map fun b => .int .u8 b.toNat) else none
  | _ => none
def bringLen : Value → Option Nat
  | .slice none n _ => if Nat.beq n 0 then some 0 else none
  | .slice (some _) n _ => some n
  | .string s => some s.size
  | _ => none
def rowD : TypeDesc → Bool
  | .slice _ | .string => true
  | _ => false
def zOk (P : Program) (e : TypeId) (sz : Nat) : Bool := match zeroL P e with
  | some z => Nat.beq z.length sz
  | none => false
def growOk (P : Program) (e : TypeId) (sz m : Nat) : Bool := Nat.blt m 65536 && (Nat.ble ((bytesA P e).getD 65536) 4096 && zOk P e sz)
def optS (v : Value) : Option VW → R
  | some V => .val v V
  | none => .bad 25 0
/-- A long row that grows is kept from its end. -/
def asRow (l : List Value) (n : Nat) (e : TypeId) : VObj := match Nat.ble 8 n with
  | true => .grow (revOn l []) n e
  | false => .cells l e false
def appendAt (P : Program) (V : VW) (e : TypeId) (sz : Nat) (base : Option Addr) (len cap n : Nat) (new : List Value) : R :=
  match base with
  | none => if Nat.beq cap 0 && Nat.beq len 0 then
      (if Nat.beq n 0 then .val (.slice none 0 0) V else if growOk P e sz n then newGo V (.cells new e false) (slTo n BIG) else .bad 22 0)
    else .bad 23 0
  | some ⟨b, off, none⟩ => match V.heap.get b with
    | some (.cells c e' fz) =>
      if !Nat.ble (off + len * sz) (lenL c) then .bad 24 0
      else if Nat.beq n 0 then .val (.slice (some ⟨b, off, none⟩) len cap) V
      else if Nat.blt cap half then
        (if Nat.ble (len + n) cap then optS (.slice (some ⟨b, off, none⟩) (len + n) cap) (writeGo V b (off + len * sz) new)
        else if growOk P e sz (len + n) then newGo V (.cells (appL (takeL (dropL c off) (len * sz)) new) e false) (slTo (len + n) BIG) else .bad 26 0)
      else if Nat.beq off ((BIG - cap) * sz) && Nat.ble cap BIG && !fz && Nat.beq e' e && Nat.ble V.floor b && growOk P e sz (len + n) && Nat.blt V.size top then
        .val (slTo (len + n) BIG V.size) ((V.put b (.dfr true)).push (asRow (appL (takeL (dropL c off) (len * sz)) new) (Nat.mul (Nat.add len n) sz) e))
      else .bad 27 0
    | some (.grow rc n0 e') =>
      if Nat.beq n 0 then .bad 28 1
      else if (Nat.beq off 0 && (Nat.beq cap BIG && Nat.beq n0 (len * sz))) && ((Nat.beq e' e && Nat.ble V.floor b) && (growOk P e sz (len + n) && Nat.blt V.size top)) then
        .val (slTo (len + n) BIG V.size) ((V.put b (.dfr true)).push (.grow (revOn new rc) (Nat.mul (Nat.add len n) sz) e))
      else .bad 28 2
    | _ => .bad 28 0
  | _ => .bad 29 0
def appendNew (P : Program) (V : VW) (e : TypeId) (sz : Nat) (s : Value) (n : Nat) (new : List Value) : R :=
  match s with
  | .slice base len cap =>
    if Nat.blt 0 sz && Nat.beq (lenL new) (n * sz) && allL Value.oneCell' new && Nat.blt (len + n) top then appendAt P V e sz base len cap n new else .bad 21 0
  | _ => .bad 21 1
def appendGo (P : Program) (V : VW) (argTypes : Array TypeId) (s x : Value) : R :=
  match argTypes[0]?, argTypes[1]? with
  | some st, some xt => match elemS P st, P.underlying xt with
    | some (e, sz), some xd =>
      if !rowD xd then .bad 20 0 else
      match bringLen x with
      | some n => match bringN V sz n x with
        | some new => appendNew P V e sz s n new
        | none => .bad 30 0
      | none => .bad 30 1
    | _, _ => .bad 31 0
  | _, _ => .bad 32 0
def appendGo2 (P : Program) (V : VW) (argTypes : Array TypeId) (s x : Value) : R :=
  match appendGo P V argTypes s x with
  | .bad n f => match Nat.beq n 28 with
    | true => appendGo P (flatV V s) argTypes s x
    | false => .bad n f
  | r => r

def copyAt (V : VW) (base : Option Addr) (m : Nat) (new : List Value) : R :=
  if Nat.beq (lenL new) 0 then .val (goInt m) V else
  match base with
  | some ⟨b, off, none⟩ => if allL Value.oneCell' new then optS (goInt m) (writeGo V b off new) else .bad 62 0
  | _ => .bad 63 0
def copyGo (P : Program) (V : VW) (argTypes : Array TypeId) (d x : Value) : R :=
  match argTypes[0]? with
  | some dt => match elemS P dt with
    | some (_, sz) =>
      match d, bringLen x with
      | .slice base dLen _, some xn => match bringN V sz (Nat.min xn dLen) x with
        | some new => copyAt V base (Nat.min xn dLen) new
        | none => .bad 64 0
      | _, _ => .bad 65 0
    | none => .bad 66 0
  | none => .bad 67 0

def clearGo (P : Program) (V : VW) (argTypes : Array TypeId) (x : Value) : R :=
  match argTypes[0]? with
  | some dt => match elemS P dt with
    | some (el, _) => match x with
      | .slice (some ⟨b, off, none⟩) n _ => match Nat.beq n 0 with
        | true => .val undef V
        | false => match zeroL P el with
          | some z => match allL Value.oneCell' (rep z n) with
            | true => optS undef (writeGo V b off (rep z n))
            | false => .bad 68 0
          | none => .bad 68 1
      | .slice none _ _ => .val undef V
      | _ => .bad 68 2
    | none => .bad 68 3
  | none => .bad 68 4

def kindN : IntKind → Nat
  | .i8 => 0 | .i16 => 1 | .i32 => 2 | .i64 => 3 | .u8 => 4 | .u16 => 5 | .u32 => 6 | .u64 => 7
def posL : IntKind → Nat
  | .i8 => 128 | .i16 => 32768 | .i32 => 2147483648 | .i64 => 9223372036854775808 | .u8 => 256 | .u16 => 65536 | .u32 => 4294967296 | .u64 => 18446744073709551616
def negL : IntKind → Nat
  | .i8 => 128 | .i16 => 32768 | .i32 => 2147483648 | .i64 => 9223372036854775808 | _ => 0
def wrapF (k : IntKind) : Int → Int
  | .ofNat m => match Nat.blt m (posL k) with
    | true => .ofNat m
    | false => match Nat.beq (negL k) 0 with
      | true => .ofNat (Nat.mod m (posL k))
      | false => k.wrap (.ofNat m)
  | .negSucc m => match Nat.blt m (negL k) with
    | true => .negSucc m
    | false => k.wrap (.negSucc m)
def eqI : Int → Int → Bool
  | .ofNat a, .ofNat b => Nat.beq a b
  | .negSucc a, .negSucc b => Nat.beq a b
  | _, _ => false
def ltI : Int → Int → Bool
  | .ofNat a, .ofNat b => Nat.blt a b
  | .negSucc _, .ofNat _ => true
  | .ofNat _, .negSucc _ => false
  | .negSucc a, .negSucc b => Nat.blt b a
/-- Bits of numbers that are not negative and small. -/
def bitsF (f : Nat → Nat → Nat) (k : IntKind) : Int → Int → Option Value
  | .ofNat a, .ofNat b => match Nat.blt a (posL k) with
    | true => match Nat.blt b (posL k) with
      | true => some (.int k (.ofNat (f a b)))
      | false => none
    | false => none
  | _, _ => none
def divF (k : IntKind) : Int → Int → Option Value
  | .ofNat a, .ofNat b => match Nat.blt a (posL k) with
    | true => match Nat.beq b 0 with
      | true => none
      | false => some (.int k (.ofNat (Nat.div a b)))
    | false => none
  | .negSucc a, .ofNat b => match Nat.blt a (negL k) with
    | true => match Nat.beq b 0 with
      | true => none
      | false => some (.int k (Int.negOfNat (Nat.div (Nat.succ a) b)))
    | false => none
  | _, _ => none
def remF (k : IntKind) : Int → Int → Option Value
  | .ofNat a, .ofNat b => match Nat.beq b 0 with
      | true => none
      | false => some (.int k (.ofNat (Nat.mod a b)))
  | .negSucc a, .ofNat b => match Nat.beq b 0 with
      | true => none
      | false => some (.int k (Int.negOfNat (Nat.mod (Nat.succ a) b)))
  | _, _ => none
def fastC : BinOp → IntKind → Int → Int → Option Value
  | .add => fun k a b => some (.int k (wrapF k (Int.add a b)))
  | .sub => fun k a b => some (.int k (wrapF k (Int.sub a b)))
  | .mul => fun k a b => some (.int k (wrapF k (Int.mul a b)))
  | .eql => fun _ a b => some (.bool (eqI a b))
  | .neq => fun _ a b => some (.bool (not (eqI a b)))
  | .lss => fun _ a b => some (.bool (ltI a b))
  | .leq => fun _ a b => some (.bool (not (ltI b a)))
  | .gtr => fun _ a b => some (.bool (ltI b a))
  | .geq => fun _ a b => some (.bool (not (ltI a b)))
  | .quo => divF
  | .rem => remF
  | .and => bitsF Nat.land
  | _ => fun _ _ _ => none
/-- The quick way of the common operators on numbers. -/
def binFast' (op : BinOp) (x y : Value) : Option Value :=
  match x, y with
  | .int k a, .int k' b => match Nat.beq (kindN k) (kindN k') with
    | true => match op with
      | .shl | .shr => none
      | _ => fastC op k a b
    | false => none
  | _, _ => none
def shiftB (op : BinOp) : Bool := match op with
  | .shl | .shr => true
  | _ => false
def bin2 (k : IntKind) (a : Int) (op : BinOp) (k' : IntKind) (b : Int) : Option Value :=
  Bool.rec (motive := fun _ => BinOp → IntKind → Int → Int → Option Value) (fun _ _ _ _ => none)
    (fun op k a b => Bool.rec (motive := fun _ => BinOp → IntKind → Int → Int → Option Value) fastC (fun _ _ _ _ => none) (shiftB op) op k a b) (Nat.beq (kindN k) (kindN k')) op k a b
def bin1 (k : IntKind) (a : Int) (op : BinOp) (y : Value) : Option Value :=
  Value.rec (motive_1 := fun _ => IntKind → Int → BinOp → Option Value) (motive_2 := fun _ => PUnit) (motive_3 := fun _ => PUnit) (fun _ => (fun _ _ _ => none)) (fun k1 b k a op => bin2 k a op k1 b) (fun _ _ => (fun _ _ _ => none)) (fun _ _ _ => (fun _ _ _ => none)) (fun _ => (fun _ _ _ => none)) (fun _ => (fun _ _ _ => none)) (fun _ _ _ => (fun _ _ _ => none)) (fun _ => (fun _ _ _ => none)) (fun _ => (fun _ _ _ => none)) (fun _ _ _ _ _ => (fun _ _ _ => none)) (fun _ _ _ => none) (fun _ _ _ => (fun _ _ _ => none)) (fun _ _ _ => none) (fun _ _ => (fun _ _ _ => none)) (fun _ _ => (fun _ _ _ => none)) (fun _ _ => PUnit.unit) PUnit.unit (fun _ _ _ _ => PUnit.unit) y k a op
def binFast (op : BinOp) (x y : Value) : Option Value :=
  Value.rec (motive_1 := fun _ => BinOp → Value → Option Value) (motive_2 := fun _ => PUnit) (motive_3 := fun _ => PUnit) (fun _ => (fun _ _ => none)) bin1 (fun _ _ => (fun _ _ => none)) (fun _ _ _ => (fun _ _ => none)) (fun _ => (fun _ _ => none)) (fun _ => (fun _ _ => none)) (fun _ _ _ => (fun _ _ => none)) (fun _ => (fun _ _ => none)) (fun _ => (fun _ _ => none)) (fun _ _ _ _ _ => (fun _ _ => none)) (fun _ _ => none) (fun _ _ _ => (fun _ _ => none)) (fun _ _ => none) (fun _ _ => (fun _ _ => none)) (fun _ _ => (fun _ _ => none)) (fun _ _ => PUnit.unit) PUnit.unit (fun _ _ _ _ => PUnit.unit) x op y

/-- A comparison with nil. -/
def eqNil (P : Program) (t : TypeId) (x y : Value) : Option Bool :=
  match P.underlying t, x, y with
  | some (.pointer _), .pointer none, .pointer b => some b.isNone
  | some (.pointer _), .pointer (some _), .pointer none => some false
  | some (.slice _), .slice none _ _, .slice b _ _ => some b.isNone
  | some (.slice _), .slice (some _) _ _, .slice none _ _ => some false
  | some (.map ..), .map none, .map b => some b.isNone
  | some (.map ..), .map (some _), .map none => some false
  | some (.func ..), .nilFunc, .nilFunc => some true
  | some (.func ..), .nilFunc, .func .. => some false
  | some (.func ..), .func .., .nilFunc => some false
  | _, _, _ => none

def binNil (P : Program) (op : BinOp) (t : TypeId) (x y : Value) : Option Value :=
  match op with
  | .eql => (eqNil P t x y).map .bool
  | .neq => (eqNil P t x y).map fun b => .bool (!b)
  | _ => none

def drV (P : Program) (s : Sem Next) : Option Value :=
  match dr P s with
  | some (.value v) => if flat v then some v else none
  | _ => none

def convFast (P : Program) (src dst : TypeId) : Value → Option Value
  | .int _ n => match P.underlying src, P.underlying dst with
    | some _, some (.int k) => some (.int k (wrapF k n))
    | _, _ => none
  | _ => none

/-- Fields that are whole numbers, each in its own cell. -/
def fldI (P : Program) (f : Field) (i : Nat) : Bool := match P.underlying f.type, lay P f.type with
  | some (.int _), some (n, false) => Nat.beq n 1 && (Nat.beq f.offset i && f.name != "_")
  | _, _ => false
def fldsI (P : Program) : List Field → Nat → Bool
  | [], _ => true
  | f :: fs, i => fldI P f i && fldsI P fs (i + 1)
/-- A struct of whole numbers: how many. -/
def plainS (P : Program) (t : TypeId) : Option Nat := match P.underlying t with
  | some (.struct fs) => if !P.stoodInHeld t && (!P.eqGuardType P.depth t && fldsI P fs.toList 0) then some fs.size else none
  | _ => none
def cmpI (x y : Value) : Option Bool := match x, y with
  | .int k a, .int k' b => match Nat.beq (kindN k) (kindN k') with
    | true => some (eqI a b)
    | false => none
  | _, _ => none
def thenB (b : Bool) (r : Option Bool) : Option Bool := match b with
  | true => r
  | false => some false
def cmpL (f : Value → Value → Option Bool) (l : List Value) : List Value → Option Bool :=
  List.rec (motive := fun _ => List Value → Option Bool) (fun k => List.rec (motive := fun _ => Option Bool) (some true) (fun _ _ _ => none) k)
    (fun x _ ih k => List.rec (motive := fun _ => Option Bool) none (fun y t _ => Option.rec (motive := fun _ => Option Bool) none (fun b => thenB b (ih t)) (f x y)) k) l
/-- Two structs of n whole numbers. -/
def eqStr (f : Value → Value → Option Bool) (n : Nat) (x y : Value) : Option Bool := match x, y with
  | .agg ⟨l⟩, .agg ⟨k⟩ => match Nat.beq (lenL l) n with
    | true => cmpL f l k
    | false => none
  | _, _ => none
def eqKey (P : Program) (t : TypeId) (x y : Value) : Option Bool := match plainS P t with
  | some n => eqStr cmpI n x y
  | none => none
/-- A key of a map: plain; where it stands in it. -/
def keyEq (P : Program) (kt : TypeId) (k k' : Value) : Option Bool := match eqKey P kt k k' with
  | some b => some b
  | none => dr P (Op.equal kt k k')
def keyAt (P : Program) (kt : TypeId) (k : Value) : List MapEntry → Nat → Option (Option (Nat × Value))
  | [], _ => some none
  | e :: es, i => match keyEq P kt k e.key with
    | some true => some (some (i, e.val))
    | some false => keyAt P kt k es (i + 1)
    | none => none
def mapOf (P : Program) (t : TypeId) : Option (TypeId × TypeId) :=
  match P.underlying t with
  | some (.map k e) => some (k, e)
  | _ => none

def ofV (V : VW) : Option Value → R
  | some v => .val v V
  | none => .bad 70 0

/-! An operation but a call: what it is stands first, what it works on comes behind. -/
abbrev Rho := Operand → Value
structure OpK where
  run : Program → Rho → VW → R
abbrev Rec := Task → R
structure OpG where
  run : Rec → Program → Env → Oper → Rho → VW → R
abbrev Lk := Nat × (VW → Bool)
/-- A new row that a call brings, and the value that points at it. -/
structure HAns where
  cells : List Value
  ty : TypeId
  val : Nat → Value
/-- What is known of calls: a value for a function and its arguments; a value with a new row; which functions are run from the tables alone, where all that comes in and goes out is flat; the tables. -/
structure Orc where
  ans : FuncId → List Value → Option Value
  rows : FuncId → List Value → Option HAns
  tries : FuncId → Bool
  base : VW
  deep : FuncId → List Value → VW → Option (Value × VW)
  cuts : Code → Env → St → Option R
/-- What is told of operations on symbols. -/
class Prims where
  bin : BinOp → Value → Value → Option Value
  conv : IntKind → Value → Option Value
variable [Prims]
def valO (x : Operand) (_ : Program) (e : Rho) (V : VW) : R := .val (e x) V
def pickO (c a b : Operand) (_ : Program) (e : Rho) (V : VW) : R := match e c with | .bool true => .val (e a) V | .bool false => .val (e b) V | _ => .bad 2 0
def allocO (t : TypeId) (P : Program) (_ : Rho) (V : VW) : R := match zeroL P t with | some z => newGo V (.cells z t false) ptrTo | none => .bad 3 0
def boxO (t : TypeId) (x : Operand) (_ : Program) (e : Rho) (V : VW) : R := newGo V (.cells (cellsL (e x)) t false) ptrTo
def buildO (t : TypeId) (ps : Array (Nat × Operand)) (P : Program) (e : Rho) (V : VW) : R := match zeroL P t, partsL (placeOf P t) e ps.toList with
  | some z, some l => if allFieldsOk P t then (match fillL z l with | some c => .val (.agg ⟨c⟩) V | none => .bad 4 0) else .bad 4 1
  | _, _ => .bad 5 0
def buildSliceO (t : TypeId) (n : Nat) (ps : Array (Nat × Operand)) (P : Program) (e : Rho) (V : VW) : R := match elemS P t with
  | some (el, sz) => match zeroL P el, partsL (fun i => some (i * sz, sz)) e ps.toList with
    | some z, some l => if z.length == sz && Nat.blt 0 sz && Nat.ble (n * sz) 65536 then (match fillL (rep z n) l with | some c => newGo V (.cells c el false) (slTo n n) | none => .bad 6 0) else .bad 6 1
    | _, _ => .bad 7 0
  | none => .bad 8 0
def loadO (t : TypeId) (a : Operand) (P : Program) (e : Rho) (V : VW) : R := ofV V (loadGo P t V (e a))
def storeO (t : TypeId) (a v : Operand) (P : Program) (e : Rho) (V : VW) : R := optW 10 (storeGo P t V (e a) (e v))
def nilCheckO (x : Operand) (_ : Program) (e : Rho) (V : VW) : R := match e x with
  | .pointer (some a) => .val (.pointer (some a)) V
  | .func (.func f) a b => .val (.func (.func f) a b) V
  | .func (.yield l) a b => .val (.func (.yield l) a b) V
  | _ => .bad 11 0
def fieldAddrO (t : TypeId) (x : Operand) (i : Nat) (P : Program) (e : Rho) (V : VW) : R := match fieldOf P t i with
  | some f => match blockOf (e x) with
    | some bo => match Nat.beq f.2.1 0 with
      | true => .bad 12 0
      | false => .val (.pointer (some ⟨bo.1, Nat.add bo.2 f.1, none⟩)) V
    | none => .bad 13 0
  | none => .bad 13 1
def aggOf' : Value → Option (List Value)
  | .agg ⟨l⟩ => some l
  | _ => none
def arrL (a : Array Value) : Option (List Value) := Array.rec (motive := fun _ => Option (List Value)) some a
def aggOf (v : Value) : Option (List Value) := Value.rec (motive_1 := fun _ => Option (List Value)) (motive_2 := fun _ => PUnit) (motive_3 := fun _ => PUnit) (fun _ => none) (fun _ _ => none) (fun _ _ => none) (fun _ _ _ => none) (fun _ => none) (fun _ => none) (fun _ _ _ => none) (fun _ => none) (fun _ => none) (fun _ _ _ _ _ => none) none (fun _ _ _ => none) none (fun a _ => arrL a) (fun _ _ => none) (fun _ _ => PUnit.unit) PUnit.unit (fun _ _ _ _ => PUnit.unit) v
def fieldO (t : TypeId) (x : Operand) (i : Nat) (P : Program) (e : Rho) (V : VW) : R := match fieldOf P t i with
  | some f => match aggOf (e x) with
    | some l => ofV V (partL f.2.1 f.2.2 l f.1)
    | none => .bad 14 0
  | none => .bad 14 1
def sliceOf' : Value → Option ((Nat × Nat) × Nat)
  | .slice (some ⟨b, o, none⟩) n _ => some ((b, o), n)
  | _ => none
def sliB (a : Option Addr) (n _c : Nat) : Option ((Nat × Nat) × Nat) := Option.rec (motive := fun _ => Nat → Option ((Nat × Nat) × Nat)) (fun _ => none) (fun bo n => some (bo, n)) (ptrB a) n
def sliceOf (v : Value) : Option ((Nat × Nat) × Nat) := Value.rec (motive_1 := fun _ => Option ((Nat × Nat) × Nat)) (motive_2 := fun _ => PUnit) (motive_3 := fun _ => PUnit) (fun _ => none) (fun _ _ => none) (fun _ _ => none) (fun _ _ _ => none) (fun _ => none) (fun _ => none) sliB (fun _ => none) (fun _ => none) (fun _ _ _ _ _ => none) none (fun _ _ _ => none) none (fun _ _ => none) (fun _ _ => none) (fun _ _ => PUnit.unit) PUnit.unit (fun _ _ _ _ => PUnit.unit) v
def indexAddrO (t : TypeId) (x i : Operand) (P : Program) (e : Rho) (V : VW) : R := match intN (e i) with
  | none => .bad 15 2
  | some j => match elemS P t with
    | some es => match sliceOf (e x) with
      | some s => match Nat.blt j s.2 with
        | true => .val (.pointer (some ⟨s.1.1, Nat.add s.1.2 (Nat.mul j es.2), none⟩)) V
        | false => .bad 15 0
      | none => .bad 15 3
    | none => match arrP P t with
      | some ns => match blockOf (e x) with
        | some s => match Nat.blt j ns.1 with
          | true => .val (.pointer (some ⟨s.1, Nat.add s.2 (Nat.mul j ns.2), none⟩)) V
          | false => .bad 15 1
        | none => .bad 15 4
      | none => .bad 15 5
def arrE (P : Program) (t : TypeId) : Option (Nat × Nat × Bool) := match P.underlying t with
  | some (.array n el) => (lay P el).map fun (s, a) => (n, s, a)
  | _ => none
def indexO (o : Oper) (t : TypeId) (x i : Operand) (P : Program) (e : Rho) (V : VW) : R := match e x with
  | .agg ⟨l⟩ => match arrE P t, intN (e i) with
    | some (n, sz, a), some j => if Nat.blt j n then ofV V (partL sz a l (j * sz)) else .bad 16 0
    | _, _ => .bad 16 1
  | x' => if flat x' && flat (e i) then ofV V (drV P (execOp e o)) else .bad 16 2
def extractO (x : Operand) (i : Nat) (_ : Program) (e : Rho) (V : VW) : R := match e x with
  | .tuple ⟨l⟩ => ofV V (nthL l i)
  | _ => .bad 17 0
/-- Whether two parts are equal: numbers, or symbols for them. -/
def cmpS (x y : Value) : Option Bool := match cmpI x y with
  | some b => some b
  | none => match Prims.bin .eql x y with
    | some (.bool b) => some b
    | _ => none
def binStr (P : Program) (op : BinOp) (t : TypeId) (x y : Value) : Option Value := match op with
  | .eql => match plainS P t with
    | some n => match eqStr cmpS n x y with
      | some b => some (.bool b)
      | none => none
    | none => none
  | .neq => match plainS P t with
    | some n => match eqStr cmpS n x y with
      | some b => some (.bool (not b))
      | none => none
    | none => none
  | _ => none
def binO (o : Oper) (op : BinOp) (t : TypeId) (x y : Operand) (P : Program) (e : Rho) (V : VW) : R := match binFast op (e x) (e y) with
  | some v => .val v V
  | none => match binNil P op t (e x) (e y) with
    | some v => .val v V
    | none => match binStr P op t (e x) (e y) with
      | some v => .val v V
      | none => if flat (e x) && flat (e y) then ofV V (drV P (execOp e o)) else ofV V (Prims.bin op (e x) (e y))
def unO (o : Oper) (op : UnOp) (x : Operand) (P : Program) (e : Rho) (V : VW) : R := match op with
  | .not => match e x with | .bool b => .val (.bool (not b)) V | _ => .bad 18 1
  | _ => if flat (e x) then ofV V (drV P (execOp e o)) else .bad 18 2
def convertO (o : Oper) (s d : TypeId) (x : Operand) (P : Program) (e : Rho) (V : VW) : R := match convFast P s d (e x) with
  | some v => .val v V
  | none => if flat (e x) then ofV V (drV P (execOp e o)) else match P.underlying s, P.underlying d with
    | some _, some (.int k) => ofV V (Prims.conv k (e x))
    | _, _ => .bad 18 3
def makeFuncO (fn : Fn) (a b : Array Operand) (_ : Program) (e : Rho) (V : VW) : R :=
  if notYield fn then .val (.func fn ⟨mapL e a.toList⟩ ⟨mapL e b.toList⟩) V else .bad 19 1
def makeMapO (t : TypeId) (h : Option Operand) (P : Program) (e : Rho) (V : VW) : R := match h with
  | none => newGo V (.map [] 0) fun b => .map (some b)
  | some h => match mapOf P t, e h with
    | some _, .int _ _ => newGo V (.map [] 0) fun b => .map (some b)
    | _, _ => .bad 19 0
def makeSliceO (t : TypeId) (l c : Operand) (P : Program) (e : Rho) (V : VW) : R := match elemS P t, intN (e l), intN (e c) with
  | some (el, sz), some l, some c => match zeroL P el with
    | some z => if z.length == sz && Nat.blt 0 sz && Nat.ble l c && Nat.ble (c * sz) 65536 && Nat.ble ((bytesA P el).getD 65536) 4096 then newGo V (.cells (rep z c) el false) (slTo l c) else .bad 9 0
    | none => .bad 9 1
  | _, _, _ => .bad 9 2
def sliceO (o : Oper) (t : TypeId) (x : Operand) (lo hi mx : Option Operand) (P : Program) (e : Rho) (V : VW) : R := match e x with
  | .slice .. => sliceGo2 P t V (e x) (lo.map e) (hi.map e) (mx.map e)
  | .pointer _ => if mx.isNone then ofV V (sliceAGo P t (e x) (lo.map e) (hi.map e)) else .bad 33 0
  | .string _ => if mx.isNone && (lo.map e).all flat && (hi.map e).all flat then ofV V (drV P (execOp e o)) else .bad 33 1
  | _ => .bad 33 2
def entriesOf (V : VW) : Option Nat → Option (List MapEntry)
  | none => some []
  | some b => match V.heap.get b with | some (.map es _) => some es | _ => none
def lookupO (t : TypeId) (m k : Operand) (ok : Bool) (P : Program) (e : Rho) (V : VW) : R := match mapOf P t, e m with
  | some (kt, et), .map r =>
    if !flat (e k) then .bad 34 0 else
    match entriesOf V r, zeroV P et, dr P (Instr.checkKey false 10000 kt (e k)), dr P (Instr.checkKey true 10000 kt (e k)) with
    | some es, some z, some _, some _ => match keyAt P kt (e k) es 0 with
      | some (some (_, v)) => .val (if ok then .tuple ⟨[v, .bool true]⟩ else v) V
      | some none => .val (if ok then .tuple ⟨[z, .bool false]⟩ else z) V
      | none => .bad 34 1
    | _, _, _, _ => .bad 34 2
  | _, _ => .bad 34 3
def updateO (t : TypeId) (m k v : Operand) (P : Program) (e : Rho) (V : VW) : R := match mapOf P t, e m with
  | some (kt, _), .map (some b) =>
    if !flat (e k) then .bad 35 0 else
    match V.heap.get b, dr P (Instr.checkKey false 10000 kt (e k)) with
    | some (.map es clock), some _ =>
      if !Nat.ble V.floor b then .bad 35 1 else
      match keyAt P kt (e k) es 0 with
      | some (some (i, _)) => match es[i]? with
        | some old => if Instr.sameBits 10000 old.key (e k) then .val undef (V.put b (.map (es.set i { old with key := e k, val := e v }) clock)) else .bad 35 2
        | none => .bad 35 3
      | some none => .val undef (V.put b (.map (es ++ [{ key := e k, val := e v, born := clock }]) (clock + 1)))
      | none => .bad 35 4
    | _, _ => .bad 35 5
  | _, _ => .bad 35 6
/-- Where the entry stands that was made at a time. -/
def bornAt (n : Int) (es : List MapEntry) : Option Nat :=
  List.rec (motive := fun _ => Option Nat) none (fun x _ ih => Bool.rec (motive := fun _ => Option Nat) (ih.map Nat.succ) (some 0) (eqI (Int.ofNat x.born) n)) es
def mapEntryO (t : TypeId) (m k : Operand) (P : Program) (e : Rho) (V : VW) : R := match mapOf P t, e m with
  | some (kt, et), .map (some b) =>
    if !flat (e k) then .bad 39 0 else
    match V.heap.get b, dr P (Instr.checkKey false 10000 kt (e k)) with
    | some (.map es clock), some _ =>
      if !Nat.ble V.floor b then .bad 39 1 else
      match keyAt P kt (e k) es 0 with
      | some (some (i, v)) => match es[i]? with
        | some old => if Instr.sameBits 10000 old.key (e k) then .val (.tuple ⟨[v, goInt old.born]⟩) (V.put b (.map (es.set i { old with key := e k, val := v }) clock)) else .bad 39 2
        | none => .bad 39 3
      | some none => match zeroV P et with
        | some z => .val (.tuple ⟨[z, goInt clock]⟩) (V.put b (.map (es ++ [{ key := e k, val := z, born := clock }]) (clock + 1)))
        | none => .bad 39 4
      | none => .bad 39 5
    | _, _ => .bad 39 6
  | _, _ => .bad 39 7
def entryStoreO (m s x : Operand) (_ : Program) (e : Rho) (V : VW) : R := match e m, e s with
  | .map (some b), .int _ n => match V.heap.get b with
    | some (.map es clock) =>
      if !Nat.ble V.floor b then .bad 39 8 else
      match bornAt n es with
      | some i => match es[i]? with
        | some old => .val undef (V.put b (.map (es.set i { old with val := e x }) clock))
        | none => .bad 39 9
      | none => .bad 39 10
    | _ => .bad 39 11
  | _, _ => .bad 39 12
def rangeO (t : TypeId) (x : Operand) (P : Program) (e : Rho) (V : VW) : R := match e x with
  | .string s => if (P.underlying t matches some .string) then newGo V (.iter s 0) ptrTo else .bad 36 0
  | _ => .bad 36 1
def nextO (it : Operand) (str : Bool) (_ : Program) (e : Rho) (V : VW) : R := match str, e it with
  | true, .pointer (some ⟨b, 0, none⟩) => match V.heap.get b with
    | some (.iter s pos) =>
      if Nat.blt pos s.size then
        (if Nat.ble V.floor b then .val (.tuple ⟨[.bool true, goInt pos, .int .i32 (Utf8.decode s pos).1]⟩) (V.put b (.iter s (pos + (Utf8.decode s pos).2))) else .bad 37 0)
      else .val (.tuple ⟨[.bool false]⟩) V
    | _ => .bad 37 1
  | _, _ => .bad 37 2
def noO (_ : Program) (_ : Rho) (_ : VW) : R := .bad 38 0

def noO1 {α : Type} (_ : α) (_ : Oper) : OpK := OpK.mk (noO)
def noO2 {α β : Type} (_ : α) (_ : β) (_ : Oper) : OpK := OpK.mk (noO)
def noO3 {α β γ : Type} (_ : α) (_ : β) (_ : γ) (_ : Oper) : OpK := OpK.mk (noO)
def noO4 {α β γ δ : Type} (_ : α) (_ : β) (_ : γ) (_ : δ) (_ : Oper) : OpK := OpK.mk (noO)
def valO' (x : Operand) (_ : Oper) : OpK := OpK.mk (valO x)
def allocO' (t : TypeId) (_ : Oper) : OpK := OpK.mk (allocO t)
def boxO' (t : TypeId) (x : Operand) (_ : Oper) : OpK := OpK.mk (boxO t x)
def pickO' (c a b : Operand) (_ : Oper) : OpK := OpK.mk (pickO c a b)
def buildO' (t : TypeId) (ps : Array (Nat × Operand)) (_ : Oper) : OpK := OpK.mk (buildO t ps)
def buildSliceO' (t : TypeId) (n : Nat) (ps : Array (Nat × Operand)) (_ : Oper) : OpK := OpK.mk (buildSliceO t n ps)
def updateO' (t : TypeId) (m k v : Operand) (_ : Oper) : OpK := OpK.mk (updateO t m k v)
def loadO' (t : TypeId) (a : Operand) (_ : Oper) : OpK := OpK.mk (loadO t a)
def storeO' (t : TypeId) (a v : Operand) (_ : Oper) : OpK := OpK.mk (storeO t a v)
def nilCheckO' (x : Operand) (_ : Oper) : OpK := OpK.mk (nilCheckO x)
def binO' (op : BinOp) (t : TypeId) (x y : Operand) (_ : TypeId) (o : Oper) : OpK := OpK.mk (binO o op t x y)
def unO' (op : UnOp) (_ : TypeId) (x : Operand) (o : Oper) : OpK := OpK.mk (unO o op x)
def convertO' (a b : TypeId) (x : Operand) (o : Oper) : OpK := OpK.mk (convertO o a b x)
def makeFuncO' (fn : Fn) (a b : Array Operand) (_ : Oper) : OpK := OpK.mk (makeFuncO fn a b)
def makeMapO' (t : TypeId) (h : Option Operand) (_ : Oper) : OpK := OpK.mk (makeMapO t h)
def makeSliceO' (t : TypeId) (l c : Operand) (_ : Oper) : OpK := OpK.mk (makeSliceO t l c)
def sliceO' (t : TypeId) (x : Operand) (lo hi mx : Option Operand) (o : Oper) : OpK := OpK.mk (sliceO o t x lo hi mx)
def fieldAddrO' (t : TypeId) (x : Operand) (i : Nat) (_ : Oper) : OpK := OpK.mk (fieldAddrO t x i)
def fieldO' (t : TypeId) (x : Operand) (i : Nat) (_ : Oper) : OpK := OpK.mk (fieldO t x i)
def indexAddrO' (t : TypeId) (x i : Operand) (_ : Oper) : OpK := OpK.mk (indexAddrO t x i)
def indexO' (t : TypeId) (x i : Operand) (o : Oper) : OpK := OpK.mk (indexO o t x i)
def lookupO' (t : TypeId) (m k : Operand) (ok : Bool) (_ : Oper) : OpK := OpK.mk (lookupO t m k ok)
def mapEntryO' (t : TypeId) (m k : Operand) (_ : Oper) : OpK := OpK.mk (mapEntryO t m k)
def entryStoreO' (_ : TypeId) (m s x : Operand) (_ : Oper) : OpK := OpK.mk (entryStoreO m s x)
def rangeO' (t : TypeId) (x : Operand) (_ : Oper) : OpK := OpK.mk (rangeO t x)
def nextO' (it : Operand) (str : Bool) (_ : Oper) : OpK := OpK.mk (nextO it str)
def extractO' (x : Operand) (i : Nat) (_ : Oper) : OpK := OpK.mk (extractO x i)
def opC (o : Oper) (op : Op) : OpK :=
  Op.rec (motive := fun _ => Oper → OpK) valO' valO' pickO' allocO' boxO' buildO' buildSliceO' updateO' loadO' storeO' noO1 noO1 nilCheckO' binO' unO' convertO' noO2 noO2 makeFuncO' makeMapO' noO2
    makeSliceO' sliceO' fieldAddrO' fieldO' indexAddrO' indexO' lookupO' updateO' mapEntryO' entryStoreO' rangeO' nextO' noO1 noO4 extractO' noO1 noO1 noO1 noO1 noO2 noO3 noO2 op o
def opK (o : Oper) : OpK := opC o o.op
def plainGo (P : Program) (o : Oper) (e : Rho) (V : VW) : R := (opK o).run P e V

def lenGo (P : Program) (o : Oper) (c : Call) (x : Operand) (E : Env) (e : Rho) (V : VW) : R :=
  match e x, (c.argTypes[0]?).bind P.underlying with
  | .slice _ n _, some (.slice _) => .val (goInt n) V
  | .map (some b), some (.map ..) => match V.heap.get b with
    | some (.map es _) => .val (goInt es.length) V
    | _ => .bad 82 E.fn
  | v, _ => if flat v then ofV V (drV P (execOp e o)) else .bad 82 E.fn
def capGo (P : Program) (c : Call) (x : Operand) (E : Env) (e : Rho) (V : VW) : R :=
  match e x, (c.argTypes[0]?).bind P.underlying with
  | .slice _ _ n, some (.slice _) => if Nat.blt n half then .val (goInt n) V else .bad 83 E.fn
  | _, _ => .bad 83 E.fn
def valueGo (f : Operand) (rec : Rec) (P : Program) (E : Env) (o : Oper) (c : Call) (e : Rho) (V : VW) : R :=
  match e f with
  | .func (.func g) ⟨a⟩ ⟨b⟩ => match fnOf P g with
    | some _ => rec (.call g (appL a (appL (mapL e c.args.toList) b)) V)
    | none => if flat (e f) && c.args.toList.all (fun x => flat (e x)) then ofV V (drV P (execOp e o)) else .bad 85 g
  | .func (.yield l) ⟨[]⟩ ⟨_⟩ => rec (.round l (mapL e c.args.toList) V)
  | _ => .bad 86 E.fn
def deleteGo (P : Program) (V : VW) (argTypes : Array TypeId) (m k : Value) : R := match argTypes[0]? with
  | some mt => match mapOf P mt, m with
    | some (kt, _), .map (some b) =>
      if !flat k then .bad 135 1 else
      match V.heap.get b, dr P (Instr.checkKey false 10000 kt k), dr P (Instr.checkKey true 10000 kt k) with
      | some (.map es clock), some _, some _ =>
        if !Nat.ble V.floor b then .bad 135 2 else
        match keyAt P kt k es 0 with
        | some (some (i, _)) => .val undef (V.put b (.map (es.eraseIdx i) clock))
        | some none => .val undef (V.put b (.map es clock))
        | none => .bad 135 3
      | _, _, _ => .bad 135 4
    | _, _ => .bad 135 5
  | none => .bad 135 6
def biGo (b : Builtin) (_ : Rec) (P : Program) (E : Env) (o : Oper) (c : Call) (e : Rho) (V : VW) : R :=
  match b, c.args.toList with
  | .append, [s, x] => appendGo2 P V c.argTypes (e s) (e x)
  | .copy, [s, x] => copyGo P V c.argTypes (e s) (e x)
  | .delete, [m, k] => deleteGo P V c.argTypes (e m) (e k)
  | .len, [x] => lenGo P o c x E e V
  | .cap, [x] => capGo P c x E e V
  | .clear, [x] => clearGo P V c.argTypes (e x)
  | .min, l => if l.all (fun x => flat (e x)) then ofV V (drV P (execOp e o)) else .bad 84 E.fn
  | .max, l => if l.all (fun x => flat (e x)) then ofV V (drV P (execOp e o)) else .bad 84 E.fn
  | _, _ => .bad 80 E.fn
def calleeC : Callee → Rec → Program → Env → Oper → Call → Rho → VW → R
  | .builtin b => biGo b
  | .value f => valueGo f
  | .invoke _ _ => fun _ _ E _ _ _ _ => .bad 87 E.fn
def callGo (c : Call) (rec : Rec) (P : Program) (E : Env) (o : Oper) (e : Rho) (V : VW) : R := calleeC c.callee rec P E o c e V
def plainC (_ : Rec) (P : Program) (_ : Env) (o : Oper) (e : Rho) (V : VW) : R := plainGo P o e V
def opG : Op → OpG
  | .call c => ⟨callGo c⟩
  | _ => ⟨plainC⟩
def opGk (o : Oper) : OpG := opG o.op
def opGo (rec : Rec) (P : Program) (E : Env) (o : Oper) (s : St) (V : VW) : R := (opGk o).run rec P E o (ev s.tm) V

/-- Is the operation wanted? -/
def guardT (ops : List Oper) (o : Oper) : Option (Option Tmp × Bool) :=
  o.guard.map fun (j, want) => ((ops[j]?).bind (·.dst), want)
def boolIs (want : Bool) : Value → Bool
  | .bool b => Bool.rec (motive := fun _ => Bool) (not b) b want
  | _ => false
def wantN (_ : T Value) : Bool := true
def wantC (ops : List Oper) (g : Nat × Bool) (tm : T Value) : Bool := Option.rec (motive := fun _ => Bool) false (fun t => boolIs g.2 (tget tm t)) ((nthL ops g.1).bind (·.dst))
def wantGo (ops : List Oper) (o : Oper) (tm : T Value) : Bool :=
  Option.rec (motive := fun _ => T Value → Bool) wantN (wantC ops) o.guard tm

def putS (t : Nat) (v : Value) (s : St) (V : VW) : R := .fall .normal ⟨s.tm.set 21 t v, V, s.df⟩
def badE (n : Nat) (E : Env) : R := .bad n E.fn
/-- A temporary that is there. -/
def okT (t n : Nat) : Bool := Bool.rec (motive := fun _ => Bool) false (Nat.ble (Nat.succ t) (nat_lit 1048576)) (Nat.ble (Nat.succ t) n)
def putGo (E : Env) (d : Option Tmp) (v : Value) (s : St) (V : VW) : R :=
  Option.rec (motive := fun _ => R) (.fall .normal ⟨s.tm, V, s.df⟩)
    (fun t => Bool.rec (motive := fun _ => R) (badE 91 E) (putS t v s V) (okT t E.nt)) d
def afterF (_ : X) (_ : St) (E : Env) (_ : Option Tmp) (_ : St) : R := badE 92 E
def afterV (v : Value) (V : VW) (E : Env) (d : Option Tmp) (s : St) : R := putGo E d v s V
def afterB (a b : Nat) (_ : Env) (_ : Option Tmp) (_ : St) : R := .bad a b
def afterGo (E : Env) (d : Option Tmp) (s : St) (r : R) : R := R.rec (motive := fun _ => Env → Option Tmp → St → R) afterF afterV afterB r E d s
def oneGo (rec : Rec) (P : Program) (E : Env) (all : List Oper) (o : Oper) (s : St) (V : VW) : R :=
  Bool.rec (motive := fun _ => R) (putGo E o.dst undef s V) (afterGo E o.dst s (opGo rec P E o s V)) (wantGo all o s.tm)

def valR (v : Value) (V : VW) (_ : St → R) : R := .val v V
def badR (a b : Nat) (_ : St → R) : R := .bad a b
def fallR (_ : X) (s : St) (ih : St → R) : R := ih s
def thenOps (ih : St → R) (r : R) : R := R.rec (motive := fun _ => (St → R) → R) fallR valR badR r ih
def opsGo (rec : Rec) (P : Program) (E : Env) (all : List Oper) (l : List Oper) : St → R :=
  List.rec (motive := fun _ => St → R) (fun s => .fall .normal s) (fun o _ ih s => St.rec (motive := fun _ => R) (fun tm V df => thenOps ih (oneGo rec P E all o ⟨tm, V, df⟩ V)) s) l

def eqB : List UInt8 → List UInt8 → Bool
  | [], [] => true
  | x :: l, y :: m => Nat.beq x.toNat y.toNat && eqB l m
  | _, _ => false
def eq1 : Value → Value → Bool
  | .int k a, .int k' b => Nat.beq (kindN k) (kindN k') && eqI a b
  | .bool a, .bool b => a == b
  | .chan (some a), .chan (some b) => Nat.beq a b
  | .slice none a c, .slice none b d => Nat.beq a b && Nat.beq c d
  | .string a, .string b => eqB a.data.toList b.data.toList
  | _, _ => false
def eqL1 : List Value → List Value → Bool
  | [], [] => true
  | x :: l, y :: m => eq1 x y && eqL1 l m
  | _, _ => false
def eqv (x y : Value) : Bool := match x with
  | .agg a => (match y with
    | .agg b => eqL1 a.toList b.toList
    | _ => false)
  | .int k a => eq1 (.int k a) y
  | .bool a => eq1 (.bool a) y
  | .chan (some a) => eq1 (.chan (some a)) y
  | .slice none a c => eq1 (.slice none a c) y
  | .string a => eq1 (.string a) y
  | _ => false
def eqA : List Value → List Value → Bool
  | [], [] => true
  | x :: l, y :: m => eqv x y && eqA l m
  | _, _ => false
def eqw (x y : Value) : Bool := match x with
  | .tuple a => (match y with
    | .tuple b => eqA a.toList b.toList
    | _ => false)
  | z => eqv z y

/-! ### A region whose operations come in any order -/

/-- What must have run before: bit j. -/
def ancOf (acc : List Nat) (o : Oper) : Nat := o.after.toList.foldl (fun s e => if Region.binds .any e then s ||| 2 ^ e.on ||| acc.getD e.on 0 else s) 0
def ancsL (l : List Oper) : List Nat := l.foldl (fun acc o => acc ++ [ancOf acc o]) []
/-- It looks at no memory. -/
def quiet (o : Op) : Bool :=
  match o with
  | .move _ | .assign _ | .pick .. | .build .. | .nilCheck _ | .fieldAddr .. | .field .. | .indexAddr .. | .index .. | .extract .. | .binOp .. | .unOp .. | .convert .. | .makeFunc .. => true
  | _ => false
/-- 0: it looks at no memory; 1: a new variable; 2: a load; 3: a store; 4: whatever else. -/
def clsOf (o : Op) : Nat :=
  match o with
  | .alloc _ | .box .. => 1
  | .load .. => 2
  | .store .. => 3
  | op => if quiet op then 0 else 4
def bit (a : List Nat) (j i : Nat) : Bool := (a.getD j 0).testBit i
def ordB (a : List Nat) (i j : Nat) : Bool := bit a (max i j) (min i j)
def looksL (ops : List Oper) (o : Oper) : List Tmp :=
  (o.op.operands.toList.filterMap fun | .tmp t => some t | _ => none) ++ (match guardT ops o with | some (some t, _) => [t] | _ => [])
/-- A look into a map. -/
def isLook : Op → Bool
  | .lookup .. => true
  | _ => false
def lookAt (ops : List Oper) (j : Nat) : Bool := match ops[j]? with
  | some o => isLook o.op
  | none => false
/-- 5: it stands in order to all that look at memory (but for looks into maps that come before it in the text), and may write. -/
def clsL (ops : List Oper) : List Nat :=
  let a := ancsL ops
  let c0 := ops.map fun o => clsOf o.op
  c0.zipIdx.map fun (c, i) => if c == 4 && !lookAt ops i && c0.zipIdx.all fun (c', j) => Nat.blt c' 2 || i == j || ordB a i j || (lookAt ops j && Nat.blt j i) then 5 else c
/-- The length of a slice: it looks at no memory. -/
def isSliceD : Option TypeDesc → Bool
  | some (.slice _) => true
  | _ => false
def lenC (P : Program) (c : Call) : Bool := match c.callee, c.args.toList with
  | .builtin .len, [_] => isSliceD ((c.argTypes[0]?).bind P.underlying)
  | _, _ => false
def lenS (P : Program) : Op → Bool
  | .call c => lenC P c
  | _ => false
def lenAt (P : Program) (ops : List Oper) (j : Nat) : Bool := match ops[j]? with
  | some o => lenS P o.op
  | none => false
def drawOk (P : Program) (ops : List Oper) : Bool :=
  let a := ancsL ops
  let cs := clsL ops
  (ops.zipIdx.all fun (o, i) => o.after.toList.all fun e => !Region.binds .any e || Nat.blt e.on i) &&
  (ops.zipIdx.all fun (o, j) => match o.dst with
    | none => true
    | some d => ops.zipIdx.all fun (o', i) => i == j || !((looksL ops o').contains d || o'.dst == some d) || ordB a i j) &&
  (cs.zipIdx.all fun (c, i) => !(c == 4) || lenAt P ops i || cs.zipIdx.all fun (c', j) => !(c' == 3) || ordB a i j)

def floorUp (s : St) : VW := ⟨s.V.heap, s.V.size, s.V.size⟩
def floorDown (fl : Nat) : R → R
  | .fall x s' => .fall x ⟨s'.tm, ⟨s'.V.heap, s'.V.size, fl⟩, s'.df⟩
  | .val v V => .val v V
  | .bad a b => .bad a b
/-- What a load or a store looks at. -/
def footOf (tm : T Value) : Op → Option (Nat × Bool)
  | .load _ a => (blockOf (ev tm a)).map fun bo => (bo.1, false)
  | .store _ a _ => (blockOf (ev tm a)).map fun bo => (bo.1, true)
  | _ => none
def foot (all : List Oper) (o : Oper) (tm : T Value) : Option (Nat × Bool) := match wantGo all o tm with
  | true => footOf tm o.op
  | false => none
/-- Of two that look at one block, and one of which writes it, one must come first. -/
def apartF (a : List Nat) (i : Nat) (f : Option (Nat × Bool)) (acc : List (Nat × Option (Nat × Bool))) : Bool :=
  match f with
  | none => true
  | some f => acc.all fun g => match g.2 with
    | none => true
    | some h => !(f.2 || h.2) || !Nat.beq f.1 h.1 || bit a i g.1
def oneDraw (rec : Rec) (P : Program) (E : Env) (all : List Oper) (o : Oper) (k : Nat) (s : St) : R :=
  match Nat.beq k 3 || Nat.beq k 5 with
  | true => oneGo rec P E all o s s.V
  | false => floorDown s.V.floor (oneGo rec P E all o s (floorUp s))
def drawStep (rec : Rec) (P : Program) (E : Env) (all : List Oper) (a : List Nat) (o : Oper) (k i : Nat) (acc : List (Nat × Option (Nat × Bool))) (s : St) : R :=
  match apartF a i (foot all o s.tm) acc with
  | true => oneDraw rec P E all o k s
  | false => .bad 114 E.fn
/-! Looks into maps that may come behind what writes: they are asked again. -/
def sameV (v : Value) : R → Bool
  | .val u _ => eqw v u
  | _ => false
def lkChk (P : Program) (o : Oper) (s s1 : St) (V : VW) : Bool := match o.dst with
  | some d => sameV (tget s1.tm d) (plainGo P o (ev s.tm) ⟨V.heap, V.size, V.size⟩)
  | none => false
def addLk (P : Program) (all : List Oper) (o : Oper) (i : Nat) (s s1 : St) (lk : List Lk) : List Lk := match isLook o.op with
  | true => match wantGo all o s.tm with
    | true => (i, lkChk P o s s1) :: lk
    | false => lk
  | false => lk
def lkAll (a : List Nat) (i : Nat) (lk : List Lk) (V : VW) : Bool := allL (fun e => bit a i e.1 || e.2 V) lk
def lkR (a : List Nat) (i : Nat) (lk : List Lk) (E : Env) (r : R) : R := match r with
  | .fall x s1 => match lkAll a i lk s1.V with
    | true => .fall x s1
    | false => .bad 115 E.fn
  | .val v V => .val v V
  | .bad m n => .bad m n
def lkStep (a : List Nat) (i k : Nat) (lk : List Lk) (E : Env) (r : R) : R := match Nat.beq k 5 with
  | true => lkR a i lk E r
  | false => r
def drawGo (rec : Rec) (P : Program) (E : Env) (all : List Oper) (a : List Nat) (l : List (Oper × Nat)) : Nat → List (Nat × Option (Nat × Bool)) → List Lk → St → R :=
  List.rec (motive := fun _ => Nat → List (Nat × Option (Nat × Bool)) → List Lk → St → R) (fun _ _ _ s => .fall .normal s)
    (fun o _ ih i acc lk s => thenOps (fun s1 => ih (i + 1) ((i, foot all o.1 s.tm) :: acc) (addLk P all o.1 i s s1 lk) s1) (lkStep a i o.2 lk E (drawStep rec P E all a o.1 o.2 i acc s))) l

def pairL (l : List Oper) : List (Oper × Nat) := l.zip (clsL l)

/-! ### Code -/

def busyL : LoopState → Bool
  | .busy => true
  | _ => false
/-- A range over a function. -/
def rangeBack (rec : Rec) (E : Env) (s : St) (l : Nat) (df : List Nat) : R → R
  | .val _ V => match V.heap.get l with
    | some (.loop st pend fn nt tm ps as b) =>
      if busyL st || !Nat.ble V.floor l || !Nat.beq fn E.fn then .bad 105 E.fn else
      match pend with
      | none => .fall .normal ⟨s.tm, V.put l (.loop .exhausted pend fn nt tm ps as b), df⟩
      | some c => rec (.code c E ⟨s.tm, V.put l (.loop .exhausted pend fn nt tm ps as b), df⟩)
    | _ => .bad 106 E.fn
  | .bad a b => .bad a b
  | .fall .. => .bad 107 E.fn
def rangeC (f : Operand) (ps : Array Tmp) (as b : Code) (rec : Rec) (P : Program) (E : Env) (s : St) : R :=
  match ev s.tm f with
  | .func (.func g) ⟨a⟩ ⟨c⟩ =>
    match fnOf P g with
    | none => .bad 101 g
    | some _ =>
      if !Nat.blt (s.V.size + 1) top then .bad 102 E.fn else
      match E.ro with
      | none =>
        rangeBack rec E s (s.V.size + 1) (s.V.size :: s.df) (rec (.call g (appL a (.func (.yield (s.V.size + 1)) ⟨[]⟩ ⟨[]⟩ :: c)) ((s.V.push (.dfr false)).push (.loop .ready none E.fn E.nt s.tm ps as b))))
      | some l0 => match s.V.heap.get l0 with
        | some (.loop _ _ _ _ _ _ _ _) =>
          rangeBack rec E s s.V.size s.df (rec (.call g (appL a (.func (.yield s.V.size) ⟨[]⟩ ⟨[]⟩ :: c)) (s.V.push (.loop .ready none E.fn E.nt s.tm ps as b))))
        | _ => .bad 103 E.fn
  | _ => .bad 104 E.fn

/-- What follows a piece of code that has come to its end. -/
def thenN (k : St → R) : R → R
  | .fall .normal s => k s
  | .fall (.exit i) s => .fall (.exit i) s
  | .fall (.goto l) s => .fall (.goto l) s
  | .fall .ret s => .fall .ret s
  | .val v V => .val v V
  | .bad a b => .bad a b
def blockBack (id : Nat) : R → R
  | .fall (.exit i) s => match Nat.beq i id with
    | true => .fall .normal s
    | false => .fall (.exit i) s
  | .fall .normal s => .fall .normal s
  | .fall (.goto l) s => .fall (.goto l) s
  | .fall .ret s => .fall .ret s
  | .val v V => .val v V
  | .bad a b => .bad a b
def scopeBack (b : Code) (rec : Rec) (E : Env) : R → R
  | .fall (.goto l) s => match findLabel b l with
    | some rest => rec (.inside b rest E s)
    | none => .fall (.goto l) s
  | .fall .normal s => .fall .normal s
  | .fall (.exit i) s => .fall (.exit i) s
  | .fall .ret s => .fall .ret s
  | .val v V => .val v V
  | .bad a b => .bad a b
def skipC (_ : Rec) (_ : Program) (_ : Env) (s : St) : R := .fall .normal s
def seqC (a b : Code) (rec : Rec) (_ : Program) (E : Env) (s : St) : R := thenN (fun s' => rec (.code b E s')) (rec (.code a E s))
def boolOf' : Value → Option Bool
  | .bool b => some b
  | _ => none
def boolOf (v : Value) : Option Bool := Value.rec (motive_1 := fun _ => Option Bool) (motive_2 := fun _ => PUnit) (motive_3 := fun _ => PUnit) some (fun _ _ => none) (fun _ _ => none) (fun _ _ _ => none) (fun _ => none) (fun _ => none) (fun _ _ _ => none) (fun _ => none) (fun _ => none) (fun _ _ _ _ _ => none) none (fun _ _ _ => none) none (fun _ _ => none) (fun _ _ => none) (fun _ _ => PUnit.unit) PUnit.unit (fun _ _ _ _ => PUnit.unit) v
def condC (c : Operand) (a b : Code) (rec : Rec) (_ : Program) (E : Env) (s : St) : R := match boolOf (ev s.tm c) with
  | some true => rec (.code a E s)
  | some false => rec (.code b E s)
  | none => .bad 110 E.fn
def blockC (id : Nat) (b : Code) (rec : Rec) (_ : Program) (E : Env) (s : St) : R := blockBack id (rec (.code b E s))
def loopC (b : Code) (rec : Rec) (_ : Program) (E : Env) (s : St) : R := thenN (fun s' => rec (.again b E s')) (rec (.code b E s))
def scopeC (b c : Code) (rec : Rec) (_ : Program) (E : Env) (s : St) : R := scopeBack b rec E (rec (.code c E s))
def exitC (x : X) (_ : Rec) (_ : Program) (_ : Env) (s : St) : R := .fall x s
def listC (ops : Array Oper) (rec : Rec) (P : Program) (E : Env) (s : St) : R := opsGo rec P E ops.toList ops.toList s
def drawable (P : Program) (ops : Array Oper) : Bool := P.follows .mixedOrders && drawOk P ops.toList
def drawD (ops : Array Oper) (rec : Rec) (P : Program) (E : Env) (s : St) : R :=
  match drawable P ops with
  | true => drawGo rec P E ops.toList (ancsL ops.toList) (pairL ops.toList) 0 [] [] s
  | false => .bad 112 E.fn
/-- What looks at memory stands in order, but for loads among one another. -/
def calmL (l : List Oper) : Bool :=
  let a := ancsL l
  let c := clsL l
  (c.all fun k => !(k == 4)) && c.zipIdx.all fun (k, i) => c.zipIdx.all fun (m, j) => !Nat.blt j i || !((k == 3 && (m == 2 || m == 3)) || (k == 2 && m == 3)) || bit a i j
def calm (P : Program) (ops : Array Oper) : Bool := drawable P ops && calmL ops.toList
def drawC (ops : Array Oper) (rec : Rec) (P : Program) (E : Env) (s : St) : R :=
  match calm P ops with
  | true => opsGo rec P E ops.toList ops.toList s
  | false => drawD ops rec P E s
def regionC (ops : Array Oper) : Bool → Rec → Program → Env → St → R
  | false => listC ops
  | true => drawC ops
def codeC : Code → Rec → Program → Env → St → R
  | .skip => skipC
  | .label _ => skipC
  | .seq a b => seqC a b
  | .cond c a b => condC c a b
  | .block id b => blockC id b
  | .loop b => loopC b
  | .exit id => exitC (.exit id)
  | .goto l => exitC (.goto l)
  | .ret => exitC .ret
  | .scope b => scopeC b b
  | .region _ ops d => regionC ops d
  | .rangeFunc f ps as b => rangeC f ps as b
  | .refuse _ => fun _ _ E _ => .bad 113 E.fn

def fillT (d : Nat) : List Value → Nat → T Value → T Value
  | [], _, t => t
  | v :: l, i, t => fillT d l (i + 1) (t.set 21 i v)

def resGo (P : Program) (s : St) (V : VW) : List ResultVar → Option (List Value)
  | [] => some []
  | .tmp t :: l => match resGo P s V l with
    | some vs => some (tget s.tm t :: vs)
    | none => none
  | .cell a t :: l => match loadGo P t V (tget s.tm a), resGo P s V l with
    | some v, some vs => some (v :: vs)
    | _, _ => none

def leaveGo (P : Program) (fn : Func) (f : FuncId) (s : St) (V : VW) : List Nat → R
  | [] => match resGo P s V fn.results.toList with
    | some [v] => .val v V
    | some vs => .val (.tuple ⟨vs⟩) V
    | none => .bad 120 f
  | k :: df => match V.heap.get k with
    | some (.dfr false) => if Nat.ble V.floor k then leaveGo P fn f s (V.put k (.dfr true)) df else .bad 121 f
    | _ => .bad 122 f

def startGo (P : Program) (fn : Func) (f : FuncId) (r : R) : R :=
  match r with
  | .fall .normal s => leaveGo P fn f s s.V s.df
  | .fall .ret s => leaveGo P fn f s s.V s.df
  | .bad a b => .bad a b
  | _ => .bad 123 f

def roundGo (rec : Task → R) (l : Nat) (args : List Value) (V : VW) : R :=
  match V.heap.get l with
  | some (.loop .ready _ fn nt tm ps as b) =>
    if !(ps.toList.length == args.length) || !(Nat.ble V.floor l) || !(ps.toList.all fun t => Nat.blt t nt && Nat.blt t top) then .bad 130 fn else
    match rec (.code as ⟨fn, nt, some l⟩ ⟨setL tm ps.toList args, V, []⟩) with
    | .fall .normal s => match s.V.heap.get l with
      | some (.loop .ready pend fn' nt' tm' ps' as' b') =>
        if !(Nat.ble s.V.floor l) then .bad 131 fn else
        endGo (rec (.code b ⟨fn, nt, some l⟩ { s with V := s.V.put l (.loop .busy pend fn' nt' tm' ps' as' b') }))
      | _ => .bad 132 fn
    | .bad a b => .bad a b
    | _ => .bad 133 fn
  | _ => .bad 134 0
  where
  setL (tm : T Value) : List Tmp → List Value → T Value
    | t :: ts, v :: vs => setL (tm.set 21 t v) ts vs
    | _, _ => tm
  endGo : R → R
    | .fall x s => match s.V.heap.get l with
      | some (.loop _ _ fn nt tm ps as b) =>
        if !(Nat.ble s.V.floor l) then .bad 135 fn else
        match x with
        | .normal => .val (.bool true) (s.V.put l (.loop .ready none fn nt tm ps as b))
        | .ret => .val (.bool false) (s.V.put l (.loop .done (some .ret) fn nt tm ps as b))
        | .exit i => .val (.bool false) (s.V.put l (.loop .done (some (.exit i)) fn nt tm ps as b))
        | .goto i => .val (.bool false) (s.V.put l (.loop .done (some (.goto i)) fn nt tm ps as b))
      | _ => .bad 136 0
    | .bad a b => .bad a b
    | _ => .bad 137 0

def noDeep (_ : FuncId) (_ : List Value) (_ : VW) : Option (Value × VW) := none
def noCuts (_ : Code) (_ : Env) (_ : St) : Option R := none
def noOrc (V : VW) : Orc := ⟨fun _ _ => none, fun _ _ => none, fun _ => false, V, noDeep, noCuts⟩
def enterGo (rec : Rec) (P : Program) (f : FuncId) (args : List Value) (V : VW) (fc : Func × Code) : R :=
  match Nat.ble (lenL args) (Nat.min fc.1.ntmps top) with
  | true => startGo P fc.1 f (rec (.code fc.2 ⟨f, fc.1.ntmps, none⟩ ⟨fillT 21 args 0 .nil, V, []⟩))
  | false => .bad 140 f
def freshT (f : FuncId) (args : List Value) (V : VW) (P : Program) (rec : Rec) : R := match fnOf P f with
  | some fc => enterGo rec P f args V fc
  | none => .bad 141 f
def flatBack (f : FuncId) (V : VW) : R → R
  | .val v _ => match flat v with
    | true => .val v V
    | false => .bad 142 f
  | .bad a b => .bad a b
  | .fall _ _ => .bad 143 f
def allFlat (l : List Value) : Bool := allL flat l
def tryT (f : FuncId) (args : List Value) (V : VW) (P : Program) (Q : Orc) (rec : Rec) : R := match Q.tries f with
  | true => match allFlat args with
    | true => flatBack f V (rec (.base f args))
    | false => freshT f args V P rec
  | false => freshT f args V P rec
def rowsT (f : FuncId) (args : List Value) (V : VW) (P : Program) (Q : Orc) (rec : Rec) : R := match Q.rows f args with
  | some h => match Nat.blt V.size top with
    | true => .val (h.val V.size) (V.push (.cells h.cells h.ty false))
    | false => .bad 144 f
  | none => tryT f args V P Q rec
def deepT (f : FuncId) (args : List Value) (V : VW) (P : Program) (Q : Orc) (rec : Rec) : R := match Q.deep f args V with
  | some (v, V') => .val v V'
  | none => rowsT f args V P Q rec
def callT (f : FuncId) (args : List Value) (V : VW) (P : Program) (Q : Orc) (rec : Rec) : R := match Q.ans f args with
  | some v => .val v V
  | none => deepT f args V P Q rec
def baseT (f : FuncId) (args : List Value) (P : Program) (Q : Orc) (rec : Rec) : R := freshT f args Q.base P rec
def codeT (c : Code) (E : Env) (s : St) (P : Program) (_ : Orc) (rec : Rec) : R := codeC c rec P E s
def againT (c : Code) (E : Env) (s : St) (P : Program) (Q : Orc) (rec : Rec) : R := match Q.cuts c E s with
  | some r => r
  | none => loopC c rec P E s
def scopedT (b c : Code) (E : Env) (s : St) (P : Program) (_ : Orc) (rec : Rec) : R := scopeC b c rec P E s
def roundT (l : Nat) (args : List Value) (V : VW) (_ : Program) (_ : Orc) (rec : Rec) : R := roundGo rec l args V
def stepC (t : Task) : Program → Orc → Rec → R :=
  Task.rec (motive := fun _ => Program → Orc → Rec → R) codeT againT scopedT callT baseT roundT t
def stepX (P : Program) (Q : Orc) (rec : Rec) (t : Task) : R := stepC t P Q rec

def run (P : Program) (Q : Orc) (n : Nat) : Task → R :=
  Nat.rec (motive := fun _ => Task → R) (fun _ => .bad 150 0) (fun _ ih t => stepX P Q ih t) n

end Go.Vx
end
