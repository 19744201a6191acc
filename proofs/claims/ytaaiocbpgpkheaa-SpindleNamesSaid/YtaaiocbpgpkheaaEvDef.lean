/- A pure evaluator for the part of the model that the program uses: one goroutine, no panic, an abstract heap. What it answers is shown to be what the machine does in XEvSound. -/
import Derived.Control
import Derived.KernelRfl
namespace Go.Ev
open Go
noncomputable section

inductive T (α : Type) where
  | lf
  | nd (v : Option α) (l r : T α)

namespace T
variable {α : Type}
def get (t : T α) : Nat → Option α :=
  T.rec (motive := fun _ => Nat → Option α) (fun _ => none)
    (fun v _ _ ihl ihr k => cond (Nat.beq k 0) v (cond (Nat.beq (Nat.mod k 2) 1) (ihl (Nat.div (Nat.sub k 1) 2)) (ihr (Nat.div (Nat.sub k 2) 2)))) t
def sing (v : α) (n : Nat) : Nat → T α :=
  Nat.rec (motive := fun _ => Nat → T α) (fun _ => .lf)
    (fun _ ih k => cond (Nat.beq k 0) (.nd (some v) .lf .lf) (cond (Nat.beq (Nat.mod k 2) 1) (.nd none (ih (Nat.div (Nat.sub k 1) 2)) .lf) (.nd none .lf (ih (Nat.div (Nat.sub k 2) 2))))) n
def set (t : T α) : Nat → α → T α :=
  T.rec (motive := fun _ => Nat → α → T α) (fun k v => sing v (Nat.succ k) k)
    (fun x l r ihl ihr k v => cond (Nat.beq k 0) (.nd (some v) l r) (cond (Nat.beq (Nat.mod k 2) 1) (.nd x (ihl (Nat.div (Nat.sub k 1) 2) v) r) (.nd x l (ihr (Nat.div (Nat.sub k 2) 2) v)))) t
def del (t : T α) : Nat → T α :=
  T.rec (motive := fun _ => Nat → T α) (fun _ => .lf)
    (fun x l r ihl ihr k => cond (Nat.beq k 0) (.nd none l r) (cond (Nat.beq (Nat.mod k 2) 1) (.nd x (ihl (Nat.div (Nat.sub k 1) 2)) r) (.nd x l (ihr (Nat.div (Nat.sub k 2) 2))))) t
def setL (t : T α) (i : Nat) (l : List α) : T α :=
  List.rec (motive := fun _ => Nat → T α → T α) (fun _ t => t) (fun x _ ih i t => ih (Nat.succ i) (t.set i x)) l i t
end T

inductive V where
  | bad
  | bool (b : Bool)
  | int (k : IntKind) (n : Int)
  | str (s : ByteArray)
  | nilPtr
  | ptr (b off : Nat)
  | nilSlice
  | slice (b off len e : Nat)
  | nilMap
  | map (r : Nat)
  | nilFunc
  | func (f : FuncId) (first captured : List V)
  | yld (l : Nat)
  | nilIface
  | agg (n : Nat) (c : T V)
  | tup (l : List V)

inductive EO where
  | cells (c : T V) (lo sz grp : Nat)
  | map (es : List (V × V × Nat)) (clock : Nat)
  | loop (st : LoopState) (pending : Option Code) (tm : T V) (n : Nat) (ps : Array Tmp) (assign body : Code) (df : Nat)
  | dfr (o : Bool)
  | iter (o : Option (Nat × Nat))

abbrev Grp := Nat × Nat × T Nat
structure EH where
  objs : T EO
  next : Nat
  grps : T Grp
  low : Nat

structure EA where
  tm : T V
  n : Nat
  df : List Nat

/-! Constants of the program -/
def ofC1 (v : Value) : V := match v with
  | .bool b => .bool b
  | .int k n => .int k n
  | .string s => .str s
  | .pointer none => .nilPtr
  | .slice none 0 0 => .nilSlice
  | .map none => .nilMap
  | .nilFunc => .nilFunc
  | .nilIface => .nilIface
  | _ => .bad
def scal (v : V) : Bool := match v with
  | .bad => false
  | .agg _ _ => false
  | .tup _ => false
  | _ => true
def allScal (l : List V) : Bool := List.rec (motive := fun _ => Bool) true (fun x _ ih => cond (scal x) ih false) l
def mapC (l : List Value) : List V := List.rec (motive := fun _ => List V) [] (fun x _ ih => ofC1 x :: ih) l
def lenV (l : List V) : Nat := List.rec (motive := fun _ => Nat) 0 (fun _ _ ih => Nat.succ ih) l
def aggL (l : List V) : V := cond (allScal l) (.agg (lenV l) (T.setL .lf 0 l)) .bad
def ofC (v : Value) : V := match v with
  | .agg cs => aggL (mapC cs.toList)
  | v => ofC1 v

def getD' (t : T V) (k : Nat) : V := match t.get k with | some v => v | none => .bad
def EA.get (a : EA) (t : Nat) : V := getD' a.tm t
def EA.put (a : EA) (d : Option Tmp) (v : V) : EA := match d with | none => a | some t => cond (Nat.blt t a.n) ⟨a.tm.set t v, a.n, a.df⟩ a
def EA.eval (a : EA) (x : Operand) : V := match x with
  | .tmp t => a.get t
  | .const v => ofC v
  | .global _ => .bad
  | .func f => .func f [] []

/-! Numbers: as the kernel computes them -/
def fN {β : Type} (n : Nat) (k : Nat → β) : β := match n with | 0 => k 0 | m + 1 => k (Nat.succ m)
def fI {β : Type} (n : Int) (k : Int → β) : β := match n with | .ofNat a => fN a fun a => k (.ofNat a) | .negSucc a => fN a fun a => k (.negSucc a)
def iLe (a b : Int) : Bool := match a, b with | .ofNat m, .ofNat n => Nat.ble m n | .negSucc m, .negSucc n => Nat.ble n m | .negSucc _, .ofNat _ => true | .ofNat _, .negSucc _ => false
def iEq (a b : Int) : Bool := match a, b with | .ofNat m, .ofNat n => Nat.beq m n | .negSucc m, .negSucc n => Nat.beq m n | .negSucc _, .ofNat _ => false | .ofNat _, .negSucc _ => false
def small (n : Int) : Bool := match n with | .ofNat a => Nat.ble a 9223372036854775807 | .negSucc a => Nat.ble a 9223372036854775807
def wr (k : IntKind) (n : Int) : Int := match k with | .i64 => cond (small n) n (IntKind.wrap .i64 n) | k => k.wrap n
def vI (k : IntKind) (n : Int) : Option V := fI (wr k n) fun n => some (.int k n)

/-! The heap -/
def EH.valid (H : EH) (b sz grp : Nat) : Bool :=
  match H.grps.get grp with
  | none => true
  | some (mn, mx, at_) => cond (Nat.ble mn sz) (cond (Nat.ble sz mx) (match at_.get sz with | some b' => Nat.beq b b' | none => false) false) false

inductive Blk where
  | no
  | mk (c : T V) (lo sz grp : Nat)
def EH.block (H : EH) (b : Nat) : Blk :=
  match H.objs.get b with
  | some (.cells c lo sz grp) => cond (H.valid b sz grp) (.mk c lo sz grp) .no
  | _ => .no

/-- n cells of src from i on, laid into dst from j on -/
def copyT (src : T V) (n : Nat) : Nat → Nat → T V → Option (T V) :=
  Nat.rec (motive := fun _ => Nat → Nat → T V → Option (T V)) (fun _ _ dst => some dst)
    (fun _ ih i j dst => match src.get i with | some v => ih (Nat.succ i) (Nat.succ j) (dst.set j v) | none => none) n
def subT (c : T V) (off n : Nat) : Option (T V) := cond (Nat.beq off 0) (some c) (copyT c n off 0 .lf)
def putT (dst : T V) (off sz n : Nat) (src : T V) : Option (T V) := cond (Nat.beq off 0) (cond (Nat.beq n sz) (some src) (copyT src n 0 off dst)) (copyT src n 0 off dst)

def EH.loadN (H : EH) (b off n : Nat) : Option V :=
  match H.block b with
  | .mk c lo sz _ => cond (Nat.ble lo off) (cond (Nat.ble (Nat.add off n) sz) (match subT c off n with | some c => some (.agg n c) | none => none) none) none
  | .no => none
def EH.load1 (H : EH) (b off : Nat) : Option V :=
  match H.block b with
  | .mk c lo sz _ => cond (Nat.ble lo off) (cond (Nat.blt off sz) (c.get off) none) none
  | .no => none

def minN (a b : Nat) : Nat := cond (Nat.ble a b) a b
def evRange (P : Program) (t : TypeId) (x : V) (H : EH) : Option (V × EH) := match P.underlying t, x with
  | some (.map _ _), .map r => match H.objs.get r with
    | some (.map _ clock) => fN H.next fun b => some (.ptr b 0, ⟨H.objs.set b (.iter (some (r, clock))), Nat.succ b, H.grps, H.low⟩)
    | _ => none
  | _, _ => none
def killO (grps : T Grp) (grp sz : Nat) : T Grp :=
  match grps.get grp with | none => grps | some (_, _, at_) => grps.set grp (sz, sz, at_)
def EH.storeIn (H : EH) (b lo sz grp : Nat) (c : Option (T V)) : Option EH :=
  match c with
  | some c => some ⟨H.objs.set b (.cells c lo sz grp), H.next, killO H.grps grp sz, minN H.low grp⟩
  | none => none
def EH.storeN (H : EH) (b off n : Nat) (src : T V) : Option EH :=
  match H.block b with
  | .mk c lo sz grp => cond (Nat.ble lo off) (cond (Nat.ble (Nat.add off n) sz) (H.storeIn b lo sz grp (putT c off sz n src)) none) none
  | .no => none

inductive TK where
  | agg (n : Nat)
  | one
  | no
def kindT (P : Program) (t : TypeId) : TK :=
  match P.underlying t, P.info? t with
  | some (.struct _), some i => .agg i.size
  | some (.array _ _), some i => .agg i.size
  | some _, some i => cond (Nat.beq i.size 1) .one .no
  | _, _ => .no
def sizeT (P : Program) (t : TypeId) : Option Nat := match P.info? t with | some i => some i.size | none => none
def zeroT (P : Program) (t : TypeId) : Option V := match P.info? t with | some i => (match i.zero with | some z => some (ofC z) | none => none) | none => none

/-- the cells of a value: none where it is none that lies in cells -/
def cellsV (v : V) : Option (Nat × T V) := match v with
  | .agg n c => some (n, c)
  | v => cond (scal v) (some (1, T.nd (some v) .lf .lf)) none

abbrev VO := Option (V × EH)
def EH.new (H : EH) (n : Nat) (c : T V) (k : Nat → EH → VO) : VO :=
  fN H.next fun b => k b ⟨H.objs.set b (.cells c 0 n b), Nat.succ b, H.grps, H.low⟩
def EH.newVar (H : EH) (v : V) : VO := match cellsV v with
  | some (n, c) => H.new n c fun b H => some (.ptr b 0, H)
  | none => none
def EH.newRow (H : EH) (n : Nat) (c : T V) (len e : Nat) : VO := H.new n c fun b H => some (.slice b 0 len e, H)
def EH.loadK (H : EH) (b off : Nat) (k : TK) : Option V := match k with
  | .agg n => H.loadN b off n
  | .one => H.load1 b off
  | .no => none
def EH.loadVar (P : Program) (H : EH) (t : TypeId) (b off : Nat) : Option V := H.loadK b off (kindT P t)

def fill1 (c : T V) (off size : Nat) (v : V) : Option (T V) := match cellsV v with
  | some (n, src) => cond (Nat.beq n size) (copyT src n 0 off c) none
  | none => none
def fillF (P : Program) (fields : Array Field) (tot : Nat) (a : EA) (l : List (Nat × Operand)) : T V → Option (T V) :=
  List.rec (motive := fun _ => T V → Option (T V)) (fun c => some c)
    (fun p _ ih c => match fields[p.1]? with
      | none => none
      | some f => match sizeT P f.type with
        | none => none
        | some size => cond (Nat.ble (Nat.add f.offset size) tot) (match fill1 c f.offset size (a.eval p.2) with | none => none | some c => ih c) none) l
def fillE (size tot : Nat) (a : EA) (l : List (Nat × Operand)) : T V → Option (T V) :=
  List.rec (motive := fun _ => T V → Option (T V)) (fun c => some c)
    (fun p _ ih c => cond (Nat.ble (Nat.add (Nat.mul p.1 size) size) tot) (match fill1 c (Nat.mul p.1 size) size (a.eval p.2) with | none => none | some c => ih c) none) l

/-! Operators -/
def bO (b : Bool) : Option V := some (.bool b)
def intBin (op : BinOp) (k : IntKind) (a b : Int) : Option V :=
  match op with
  | .add => vI k (Int.add a b)
  | .sub => vI k (Int.sub a b)
  | .mul => vI k (Int.mul a b)
  | .quo => cond (iEq b 0) none (vI k (Int.tdiv a b))
  | .rem => cond (iEq b 0) none (fI (Int.tmod a b) fun n => some (.int k n))
  | .eql => bO (iEq a b)
  | .neq => bO (not (iEq a b))
  | .lss => bO (not (iLe b a))
  | .leq => bO (iLe a b)
  | .gtr => bO (not (iLe a b))
  | .geq => bO (iLe b a)
  | _ => none
def shBin (op : BinOp) (k : IntKind) (a b : Int) : Option V :=
  match op with
  | .shl => cond (iLe 0 b) (fI (k.wrap (a * 2 ^ (min b.toNat k.bits))) fun n => some (.int k n)) none
  | .shr => cond (iLe 0 b) (fI (a.fdiv (2 ^ (min b.toNat k.bits))) fun n => some (.int k n)) none
  | _ => none
def sameK (a b : IntKind) : Bool := match a, b with
  | .i64, .i64 | .i32, .i32 | .i16, .i16 | .i8, .i8 | .u64, .u64 | .u32, .u32 | .u16, .u16 | .u8, .u8 => true
  | _, _ => false
def boolEq (a b : Bool) : Bool := match a, b with | true, true | false, false => true | _, _ => false
/-- what '==' may be asked of: numbers, bools, structs and arrays of these -/
inductive FK where
  | int | bool | no
def fk (P : Program) (t : TypeId) : FK := match P.underlying t with | some (.int _) => .int | some .bool => .bool | _ => .no
def eqK (k : FK) (x y : Option V) : Option Bool := match k, x, y with
  | .int, some (.int k a), some (.int k' b) => cond (sameK k k') (some (iEq a b)) none
  | .bool, some (.bool a), some (.bool b) => some (boolEq a b)
  | _, _, _ => none
def eqFs (P : Program) (l : List Field) (c d : T V) : Nat → Option Bool :=
  List.rec (motive := fun _ => Nat → Option Bool) (fun _ => some true)
    (fun f _ ih i => match eqK (fk P f.type) (c.get i) (d.get i) with | some true => ih (Nat.succ i) | r => r) l
def eqAr (k : FK) (c d : T V) (n : Nat) : Nat → Option Bool :=
  Nat.rec (motive := fun _ => Nat → Option Bool) (fun _ => some true)
    (fun _ ih i => match eqK k (c.get i) (d.get i) with | some true => ih (Nat.succ i) | r => r) n
def flat1 (P : Program) (t : TypeId) : Bool := match fk P t with | .no => false | _ => Nat.beq (P.cellsOf t) 1
def flatFs (P : Program) (l : List Field) : Nat → Bool :=
  List.rec (motive := fun _ => Nat → Bool) (fun _ => true)
    (fun f _ ih i => cond (flat1 P f.type) (cond (decide (f.name ≠ "_")) (cond (Nat.beq f.offset i) (ih (Nat.succ i)) false) false) false) l
def flatS (P : Program) (t : TypeId) (fs : Array Field) (n : Nat) : Bool := cond (Nat.beq fs.size n) (cond (flatFs P fs.toList 0) (not (P.stoodInHeld t)) false) false
def flatA (P : Program) (e : TypeId) (len n : Nat) : Bool := cond (Nat.beq len n) (flat1 P e) false
def eqAgg (P : Program) (t : TypeId) (n : Nat) (c d : T V) : Option Bool := match P.underlying t with
  | some (.struct fs) => cond (flatS P t fs n) (eqFs P fs.toList c d 0) none
  | some (.array len e) => cond (flatA P e len n) (eqAr (fk P e) c d n 0) none
  | _ => none
def eqV (op : BinOp) (r : Option Bool) : Option V := match r with
  | some r => (match op with | .eql => bO r | .neq => bO (not r) | _ => none)
  | none => none
def binI (op : BinOp) (k : IntKind) (a : Int) (k' : IntKind) (b : Int) : Option V :=
  match op with
  | .shl => shBin .shl k a b
  | .shr => shBin .shr k a b
  | op => cond (sameK k k') (intBin op k a b) none
inductive NK where
  | sl | mp | pt | fn | no
def nilK (P : Program) (t : TypeId) : NK := match P.underlying t with
  | some (.slice _) => .sl
  | some (.map _ _) => .mp
  | some (.pointer _) => .pt
  | some (.func _ _ _) => .fn
  | _ => .no
def eqNil (k : NK) (x y : V) : Option Bool := match k, x, y with
  | .sl, .nilSlice, .nilSlice => some true
  | .sl, .nilSlice, .slice _ _ _ _ => some false
  | .sl, .slice _ _ _ _, .nilSlice => some false
  | .mp, .nilMap, .nilMap => some true
  | .mp, .nilMap, .map _ => some false
  | .mp, .map _, .nilMap => some false
  | .pt, .nilPtr, .nilPtr => some true
  | .pt, .nilPtr, .ptr _ _ => some false
  | .pt, .ptr _ _, .nilPtr => some false
  | .fn, .nilFunc, .nilFunc => some true
  | .fn, .nilFunc, .func _ _ _ => some false
  | .fn, .func _ _ _, .nilFunc => some false
  | _, _, _ => none
def isB (P : Program) (t : TypeId) : Bool := match P.underlying t with | some .bool => true | _ => false
def binV (P : Program) (op : BinOp) (t : TypeId) (x y : V) : Option V :=
  match x, y with
  | .int k a, .int k' b => binI op k a k' b
  | .bool a, .bool b => cond (isB P t) (eqV op (some (boolEq a b))) none
  | .agg n c, .agg n' d => cond (Nat.beq n n') (cond (P.eqGuardType P.depth t) none (eqV op (eqAgg P t n c d))) none
  | x, y => eqV op (eqNil (nilK P t) x y)

def partK (n : Nat) (c : T V) (off : Nat) (k : TK) : Option V := match k with
  | .agg m => cond (Nat.ble (Nat.add off m) n) (match subT c off m with | some c => some (.agg m c) | none => none) none
  | .one => cond (Nat.blt off n) (c.get off) none
  | .no => none

/-! append: a new version of the row; the versions of the same row that are longer than where it is written are killed -/
def clearAt (v : Nat) (m : Nat) : Nat → T Nat → T Nat :=
  Nat.rec (motive := fun _ => Nat → T Nat → T Nat) (fun _ at_ => at_) (fun _ ih i at_ => ih (Nat.succ i) (at_.set i v)) m
def grpOf (H : EH) (grp sz b : Nat) : Grp := match H.grps.get grp with | none => (sz, sz, T.set .lf sz b) | some g => g
def appG (g : Grp) (n sz' b : Nat) : Grp := match g with | (mn, _, at_) => (minN mn sz', sz', (clearAt b (Nat.sub sz' n) (Nat.succ n) at_))
def appV (H : EH) (e off len m : Nat) (c : T V) (grp n sz' : Nat) (g : Grp) : VO :=
  fN H.next fun b => some (.slice b off (Nat.add len m) e,
    ⟨H.objs.set b (.cells c off sz' grp), Nat.succ b, H.grps.set grp (appG g n sz' b), minN H.low grp⟩)
structure Cs where
  (c : T V) (off n m : Nat)
def sliceCells (H : EH) (e : Nat) (x : V) : Option Cs := match x with
  | .nilSlice => some ⟨.lf, 0, 0, 0⟩
  | .slice b off len e' => cond (Nat.beq e e') (match H.block b with
    | .mk c lo sz _ => cond (Nat.ble lo off) (cond (Nat.ble (Nat.add off (Nat.mul len e)) sz) (some ⟨c, off, Nat.mul len e, len⟩) none) none
    | .no => none) none
  | _ => none
def appB (H : EH) (e b off len : Nat) (xs : Cs) : VO :=
  match H.block b with
  | .mk c lo sz grp => fN (Nat.add off (Nat.mul len e)) fun n =>
    cond (Nat.ble lo off) (cond (Nat.ble n sz) (match copyT xs.c xs.n xs.off n c with
      | some c => appV H e off len xs.m c grp n (Nat.add n xs.n) (grpOf H grp sz b)
      | none => none) none) none
  | .no => none
def EH.appendV (H : EH) (e : Nat) (s : V) (xs : Cs) : VO :=
  cond (Nat.beq xs.m 0) (match s with | .nilSlice => some (s, H) | .slice _ _ _ _ => some (s, H) | _ => none) <|
  match s with
  | .nilSlice => match copyT xs.c xs.n xs.off 0 .lf with | some c => H.newRow xs.n c xs.m e | none => none
  | .slice b off len e' => cond (Nat.beq e e') (appB H e b off len xs) none
  | _ => none

/-! Maps: their keys are numbers, bools, or structs of these -/
def keyEq (P : Program) (t : TypeId) (k k' : V) : Option Bool := match k, k' with
  | .agg n c, .agg n' d => cond (Nat.beq n n') (eqAgg P t n c d) none
  | k, k' => eqK (fk P t) (some k) (some k')
def findK (P : Program) (t : TypeId) (k : V) (l : List (V × V × Nat)) : Nat → Option (Option (Nat × V)) :=
  List.rec (motive := fun _ => Nat → Option (Option (Nat × V))) (fun _ => some none)
    (fun e _ ih i => match keyEq P t k e.1 with | some true => some (some (i, e.2.1)) | some false => ih (Nat.succ i) | none => none) l
def setE (k v : V) (l : List (V × V × Nat)) : Nat → List (V × V × Nat) :=
  List.rec (motive := fun _ => Nat → List (V × V × Nat)) (fun _ => [])
    (fun e es ih i => match i with | 0 => (k, v, e.2.2) :: es | i + 1 => e :: ih i) l
def snocE (l : List (V × V × Nat)) (e : V × V × Nat) : List (V × V × Nat) :=
  List.rec (motive := fun _ => List (V × V × Nat)) [e] (fun x _ ih => x :: ih) l
def lenE (l : List (V × V × Nat)) : Nat := List.rec (motive := fun _ => Nat) 0 (fun _ _ ih => Nat.succ ih) l
def keyS (P : Program) (t : TypeId) (n : Nat) : Bool := match P.underlying t with | some (.struct fs) => flatS P t fs n | _ => false
def keyT (P : Program) (t : TypeId) (k : V) : Bool := match k, fk P t with
  | .int _ _, .int => true
  | .bool _, .bool => true
  | .agg n _, _ => keyS P t n
  | _, _ => false

def sliceB (x : Option V) (dflt y : Nat) : Option Nat :=
  match x with
  | none => some dflt
  | some (.int _ (.ofNat i)) => cond (Nat.ble i y) (some i) none
  | some _ => none

inductive Res where
  | v (v : V) (H : EH)
  | normal (a : EA) (H : EH)
  | exit (id : Nat) (a : EA) (H : EH)
  | ret (a : EA) (H : EH)
inductive Task where
  | call (f : FuncId) (args : List V) (H : EH)
  | callV (fn : V) (args : List V) (H : EH)
  | code (ro : Option Nat) (c : Code) (a : EA) (H : EH)

/-! The operations -/
def withH (H : EH) (v : Option V) : VO := match v with | some v => some (v, H) | none => none
def evPick (c x y : V) (H : EH) : VO := match c with | .bool true => some (x, H) | .bool false => some (y, H) | _ => none
def evAlloc (P : Program) (t : TypeId) (H : EH) : VO := match zeroT P t with | some z => H.newVar z | none => none
def aggOf (n : Nat) (c : Option (T V)) (H : EH) : VO := match c with | some c => some (.agg n c, H) | none => none
def rowOf (n len e : Nat) (c : Option (T V)) (H : EH) : VO := match c with | some c => H.newRow n c len e | none => none
def hasInfo (P : Program) (t : TypeId) : Bool := match P.info? t with | some _ => true | none => false
def allInfo (P : Program) (l : List Field) : Bool := List.rec (motive := fun _ => Bool) true (fun f _ ih => cond (hasInfo P f.type) ih false) l
def evBuild (P : Program) (t : TypeId) (parts : Array (Nat × Operand)) (a : EA) (H : EH) : VO :=
  match P.underlying t, zeroT P t with
  | some (.struct fields), some (.agg n z) => cond (allInfo P fields.toList) (aggOf n (fillF P fields n a parts.toList z) H) none
  | some (.array _ elem), some (.agg n z) => match sizeT P elem with
    | some size => aggOf n (fillE size n a parts.toList z) H
    | none => none
  | _, _ => none
def repT (n : Nat) (z : T V) (m : Nat) : Nat → T V → Option (T V) :=
  Nat.rec (motive := fun _ => Nat → T V → Option (T V)) (fun _ c => some c)
    (fun _ ih i c => match copyT z n 0 i c with | some c => ih (Nat.add i n) c | none => none) m
def rowZ (z : V) (len : Nat) (k : Nat → T V → VO) : VO := match cellsV z with
  | some (n, z) => match repT n z len 0 .lf with | some c => k n c | none => none
  | none => none
def evBuildSlice (P : Program) (t : TypeId) (len : Nat) (parts : Array (Nat × Operand)) (a : EA) (H : EH) : VO :=
  match P.underlying t with
  | some (.slice elem) => match sizeT P elem, zeroT P elem with
    | some size, some z => rowZ z len fun n c => cond (Nat.beq n size) (cond (Nat.ble (Nat.mul len size) 65536) (rowOf (Nat.mul len size) len size (fillE size (Nat.mul len size) a parts.toList c) H) none) none
    | _, _ => none
  | _ => none
def evLoad (P : Program) (t : TypeId) (x : V) (H : EH) : VO := match x with
  | .ptr b off => withH H (H.loadVar P t b off)
  | _ => none
def stO (r : Option EH) : VO := match r with | some H => some (.bad, H) | none => none
def evStore (P : Program) (t : TypeId) (x y : V) (H : EH) : VO := match x with
  | .ptr b off => match sizeT P t, cellsV y with
    | some n, some (m, c) => cond (Nat.beq n m) (stO (H.storeN b off n c)) none
    | _, _ => none
  | _ => none
def evNilCheck (x : V) (H : EH) : VO := match x with
  | .ptr b off => some (.ptr b off, H)
  | .func f x y => some (.func f x y, H)
  | .yld l => some (.yld l, H)
  | .slice b o l e => some (.slice b o l e, H)
  | .map r => some (.map r, H)
  | _ => none
def evUn (op : UnOp) (x : V) (H : EH) : VO := match op, x with
  | .not, .bool b => some (.bool (not b), H)
  | .neg, .int k n => withH H (vI k (Int.sub 0 n))
  | _, _ => none
def evConv (P : Program) (src dst : TypeId) (x : V) (H : EH) : VO := match P.underlying src, P.underlying dst, x with
  | some _, some (.int k), .int _ n => withH H (fI (k.wrap n) fun n => some (.int k n))
  | _, _, _ => none
def mapO (a : EA) (l : List Operand) : List V := List.rec (motive := fun _ => List V) [] (fun x _ ih => a.eval x :: ih) l
def evMakeFunc (fn : Fn) (first captured : List V) (H : EH) : VO := match fn with
  | .func f => some (.func f first captured, H)
  | _ => none
def evMakeMap (H : EH) : VO := fN H.next fun b => some (.map b, ⟨H.objs.set b (.map [] 0), Nat.succ b, H.grps, H.low⟩)
def bytesOk (P : Program) (t : TypeId) (m : Nat) : Bool := match P.info? t with | some i => Nat.ble (Nat.mul i.bytes m) 281474976710656 | none => false
def evMakeSlice (P : Program) (t : TypeId) (l c : V) (H : EH) : VO := match P.underlying t, l, c with
  | some (.slice elem), .int _ (.ofNat n), .int _ (.ofNat m) => match sizeT P elem, zeroT P elem with
    | some size, some z => cond (Nat.ble n m) (cond (Nat.ble m 65536) (cond (bytesOk P elem m) (rowZ z m fun k c => cond (Nat.beq k size) (H.newRow (Nat.mul m size) c n size) none) none) none) none
    | _, _ => none
  | _, _, _ => none
def evSlice (P : Program) (t : TypeId) (x : V) (lo hi : Option V) (H : EH) : VO := match P.underlying t with
  | some (.slice elem) => match sizeT P elem, x with
    | some e, .slice b off len e' => cond (Nat.beq e e') (match sliceB hi len len with
      | some h => match sliceB lo 0 h with
        | some l => some (.slice b (Nat.add off (Nat.mul l e)) (Nat.sub h l) e, H)
        | none => none
      | none => none) none
    | some _, .nilSlice => match sliceB hi 0 0 with
      | some h => match sliceB lo 0 h with
        | some _ => some (.nilSlice, H)
        | none => none
      | none => none
    | _, _ => none
  | _ => none
def ptrO (b off n : Nat) (H : EH) : VO := fN (Nat.add off n) fun off => some (.ptr b off, H)
def fldO (b off : Nat) (fd : Field) (s : Option Nat) (H : EH) : VO := match s with
  | some (_ + 1) => ptrO b off fd.offset H
  | _ => none
def evFieldAddr (P : Program) (s : TypeId) (x : V) (f : Nat) (H : EH) : VO := match P.underlying s, x with
  | some (.struct fields), .ptr b off => match fields[f]? with
    | some fd => fldO b off fd (sizeT P fd.type) H
    | none => none
  | _, _ => none
def evField (P : Program) (s : TypeId) (x : V) (f : Nat) (H : EH) : VO := match P.underlying s, x with
  | some (.struct fields), .agg n c => match fields[f]? with
    | some fd => withH H (partK n c fd.offset (kindT P fd.type))
    | none => none
  | _, _ => none
def inN (k : Int) (len : Nat) : Option Nat := match k with | .ofNat n => cond (Nat.blt n len) (some n) none | .negSucc _ => none
def ixO (b off : Nat) (e : Option Nat) (i : Option Nat) (H : EH) : VO := match e, i with
  | some e, some n => ptrO b off (Nat.mul n e) H
  | _, _ => none
def evIndexAddr (P : Program) (t : TypeId) (x i : V) (H : EH) : VO := match P.underlying t, x, i with
  | some (.slice elem), .slice b off len _, .int _ k => ixO b off (sizeT P elem) (inN k len) H
  | some (.array len elem), .ptr b off, .int _ k => ixO b off (sizeT P elem) (inN k len) H
  | _, _, _ => none
def evIndex (P : Program) (t : TypeId) (x i : V) (H : EH) : VO := match P.underlying t, x, i with
  | some (.array len elem), .agg n c, .int _ k => match sizeT P elem, inN k len with
    | some e, some i => withH H (partK n c (Nat.mul i e) (kindT P elem))
    | _, _ => none
  | _, _, _ => none
def okV (ok : Bool) (v : V) (b : Bool) : V := cond ok (.tup [v, .bool b]) v
def foundV (z : V) (ok : Bool) (H : EH) (r : Option (Option (Nat × V))) : VO := match r with
  | some (some (_, v)) => some (okV ok v true, H)
  | some none => some (okV ok z false, H)
  | none => none
def evLookup (P : Program) (t : TypeId) (x i : V) (ok : Bool) (H : EH) : VO := match P.underlying t, x with
  | some (.map key elem), .map r => match H.objs.get r, zeroT P elem with
    | some (.map es _), some z => cond (keyT P key i) (foundV z ok H (findK P key i es 0)) none
    | _, _ => none
  | _, _ => none
def updV (r : Nat) (k x : V) (es : List (V × V × Nat)) (clock : Nat) (H : EH) (p : Option (Option (Nat × V))) : VO := match p with
  | some (some (i, _)) => some (.bad, ⟨H.objs.set r (.map (setE k x es i) clock), H.next, H.grps, minN H.low r⟩)
  | some none => some (.bad, ⟨H.objs.set r (.map (snocE es (k, x, clock)) (Nat.succ clock)), H.next, H.grps, minN H.low r⟩)
  | none => none
def evMapUpdate (P : Program) (t : TypeId) (m k x : V) (H : EH) : VO := match P.underlying t, m with
  | some (.map key _), .map r => match H.objs.get r with
    | some (.map es clock) => cond (keyT P key k) (updV r k x es clock H (findK P key k es 0)) none
    | _ => none
  | _, _ => none
def nthV (l : List V) : Nat → Option V := List.rec (motive := fun _ => Nat → Option V) (fun _ => none) (fun x _ ih i => match i with | 0 => some x | i + 1 => ih i) l
def evExtract (t : V) (i : Nat) (H : EH) : VO := match t with | .tup l => withH H (nthV l i) | _ => none
def lenK (P : Program) (t : TypeId) : NK := nilK P t
def evLen (k : NK) (x : V) (H : EH) : VO := match k, x with
  | .sl, .slice _ _ n _ => some (.int .i64 (.ofNat n), H)
  | .sl, .nilSlice => some (.int .i64 (.ofNat 0), H)
  | .mp, .nilMap => some (.int .i64 (.ofNat 0), H)
  | .mp, .map r => match H.objs.get r with | some (.map es _) => some (.int .i64 (.ofNat (lenE es)), H) | _ => none
  | _, _ => none
/-- an append that no bound of the model's meets -/
def appOk (P : Program) (elem : TypeId) (e need : Nat) : Bool := match P.info? elem with
  | some i => cond (Nat.blt 0 e) (cond (Nat.ble (Nat.mul (Nat.add (Nat.mul 2 need) 200) i.bytes) 281474976710656) (cond (Nat.ble need 281474976710656) (match i.zero with
    | some z => (match cellsV (ofC z) with | some (n, _) => Nat.beq n e | none => false)
    | none => false) false) false) false
  | none => false
def lenS (s : V) : Nat := match s with | .slice _ _ len _ => len | _ => 0
def evAppend (P : Program) (st xt : TypeId) (s x : V) (H : EH) : VO := match P.underlying st, P.underlying xt with
  | some (.slice elem), some (.slice _) => match sizeT P elem with
    | some e => match sliceCells H e x with
      | some xs => cond (appOk P elem e (Nat.add (lenS s) xs.m)) (H.appendV e s xs) none
      | none => none
    | none => none
  | _, _ => none
def evMin (x y : V) (H : EH) : VO := match x, y with
  | .int k x, .int _ y => some (.int k (cond (iLe x y) x y), H)
  | _, _ => none
def evMax (x y : V) (H : EH) : VO := match x, y with
  | .int k x, .int _ y => some (.int k (cond (iLe y x) x y), H)
  | _, _ => none
def evBuiltin (P : Program) (b : Builtin) (ts : List TypeId) (args : List V) (H : EH) : VO := match b, ts, args with
  | .len, t :: _, x :: _ => evLen (lenK P t) x H
  | .append, st :: xt :: _, s :: x :: _ => evAppend P st xt s x H
  | .min, _, [x, y] => evMin x y H
  | .max, _, [x, y] => evMax x y H
  | _, _, _ => none
def optO (a : EA) (x : Option Operand) : Option V := match x with | some x => some (a.eval x) | none => none

abbrev Alt := Program → EA → EH → VO
def aMove (x : Operand) : Alt := fun _ a H => some (a.eval x, H)
def aPick (c x y : Operand) : Alt := fun _ a H => evPick (a.eval c) (a.eval x) (a.eval y) H
def aAlloc (t : TypeId) : Alt := fun P _ H => evAlloc P t H
def aBox (_ : TypeId) (x : Operand) : Alt := fun _ a H => H.newVar (a.eval x)
def aBuild (t : TypeId) (parts : Array (Nat × Operand)) : Alt := fun P a H => evBuild P t parts a H
def aBuildSlice (t : TypeId) (len : Nat) (parts : Array (Nat × Operand)) : Alt := fun P a H => evBuildSlice P t len parts a H
def aLoad (t : TypeId) (x : Operand) : Alt := fun P a H => evLoad P t (a.eval x) H
def aStore (t : TypeId) (x y : Operand) : Alt := fun P a H => evStore P t (a.eval x) (a.eval y) H
def aNilCheck (x : Operand) : Alt := fun _ a H => evNilCheck (a.eval x) H
def aBin (op : BinOp) (t : TypeId) (x y : Operand) : Alt := fun P a H => withH H (binV P op t (a.eval x) (a.eval y))
def aUn (op : UnOp) (x : Operand) : Alt := fun _ a H => evUn op (a.eval x) H
def aConv (src dst : TypeId) (x : Operand) : Alt := fun P a H => evConv P src dst (a.eval x) H
def aMakeFunc (fn : Fn) (first captured : Array Operand) : Alt := fun _ a H => evMakeFunc fn (mapO a first.toList) (mapO a captured.toList) H
def aMakeMap (r : Option Operand) : Alt := match r with | none => fun _ _ H => evMakeMap H | some _ => fun _ _ _ => none
def aMakeSlice (t : TypeId) (l c : Operand) : Alt := fun P a H => evMakeSlice P t (a.eval l) (a.eval c) H
def aSlice (t : TypeId) (x : Operand) (lo hi mx : Option Operand) : Alt := match mx with | none => fun P a H => evSlice P t (a.eval x) (optO a lo) (optO a hi) H | some _ => fun _ _ _ => none
def aFieldAddr (s : TypeId) (x : Operand) (f : Nat) : Alt := fun P a H => evFieldAddr P s (a.eval x) f H
def aField (s : TypeId) (x : Operand) (f : Nat) : Alt := fun P a H => evField P s (a.eval x) f H
def aIndexAddr (t : TypeId) (x i : Operand) : Alt := fun P a H => evIndexAddr P t (a.eval x) (a.eval i) H
def aIndex (t : TypeId) (x i : Operand) : Alt := fun P a H => evIndex P t (a.eval x) (a.eval i) H
def aLookup (t : TypeId) (x i : Operand) (ok : Bool) : Alt := fun P a H => evLookup P t (a.eval x) (a.eval i) ok H
def aMapUpdate (t : TypeId) (m k x : Operand) : Alt := fun P a H => evMapUpdate P t (a.eval m) (a.eval k) (a.eval x) H
def aRange (t : TypeId) (x : Operand) : Alt := fun P a H => evRange P t (a.eval x) H
def aExtract (t : Operand) (i : Nat) : Alt := fun _ a H => evExtract (a.eval t) i H
def aNo : Alt := fun _ _ _ => none
def aCallC (args : Array Operand) (ts : Array TypeId) (c : Callee) : Alt := match c with | .builtin b => fun P a H => evBuiltin P b ts.toList (mapO a args.toList) H | _ => aNo
def aCall (c : Call) : Alt := aCallC c.args c.argTypes c.callee
inductive AltB where
  | mk (f : Alt)
def evLightB (op : Op) : AltB :=
  match op with
  | .move x => .mk (aMove x)
  | .assign x => .mk (aMove x)
  | .pick c x y => .mk (aPick c x y)
  | .alloc t => .mk (aAlloc t)
  | .box t x => .mk (aBox t x)
  | .build t parts => .mk (aBuild t parts)
  | .buildSlice t len parts => .mk (aBuildSlice t len parts)
  | .load t x => .mk (aLoad t x)
  | .store t x y => .mk (aStore t x y)
  | .nilCheck x => .mk (aNilCheck x)
  | .binOp op t x y _ => .mk (aBin op t x y)
  | .unOp op _ x => .mk (aUn op x)
  | .convert src dst x => .mk (aConv src dst x)
  | .makeFunc fn first captured => .mk (aMakeFunc fn first captured)
  | .makeMap _ r => .mk (aMakeMap r)
  | .makeSlice t l c => .mk (aMakeSlice t l c)
  | .slice t x lo hi mx => .mk (aSlice t x lo hi mx)
  | .fieldAddr s x f => .mk (aFieldAddr s x f)
  | .field s x f => .mk (aField s x f)
  | .indexAddr t x i => .mk (aIndexAddr t x i)
  | .index t x i => .mk (aIndex t x i)
  | .lookup t x i ok => .mk (aLookup t x i ok)
  | .mapUpdate t m k x => .mk (aMapUpdate t m k x)
  | .insert t m k x => .mk (aMapUpdate t m k x)
  | .extract t i => .mk (aExtract t i)
  | .range t x => .mk (aRange t x)
  | .call c => .mk (aCall c)
  | _ => .mk (aNo)
def runB (b : AltB) : Alt := match b with | .mk f => f
def evLight (op : Op) : Alt := runB (evLightB op)
def callR (r : Option Res) : VO := match r with | some (.v v H) => some (v, H) | _ => none
inductive OpK where
  | light
  | heavy (g : Operand) (args : Array Operand)
def opKC (c : Call) : OpK := match c.callee with | .value g => .heavy g c.args | _ => .light
def opK (op : Op) : OpK := match op with | .call c => opKC c | _ => .light
def evOpK (op : Op) (P : Program) (f : Task → Option Res) (a : EA) (H : EH) (k : OpK) : VO := match k with
  | .light => evLight op P a H
  | .heavy g args => callR (f (.callV (a.eval g) (mapO a args.toList) H))
def evOp (P : Program) (f : Task → Option Res) (a : EA) (H : EH) (op : Op) : VO := evOpK op P f a H (opK op)

def bitIs (v : V) (want : Bool) : Bool := match v with | .bool b => boolEq b want | _ => false
/-- whether a guarded operation is carried out: its guard must be a bool that is known -/
def isBoolV (v : V) : Bool := match v with | .bool _ => true | _ => false
inductive W3 where
  | yes | no | unk
def w3 (v : V) (want : Bool) : W3 := match v with | .bool b => cond (boolEq b want) .yes .no | .bad => .unk | _ => .no
def wantedE (ops : Array Oper) (a : EA) (g : Option (Nat × Bool)) : W3 :=
  match g with
  | none => .yes
  | some (j, want) => match ops[j]? with
    | some o' => match o'.dst with
      | some d => w3 (a.get d) want
      | none => .unk
    | none => .unk

/-! What an operation touches: for regions whose order is open -/
structure FP where
  lo : Nat
  hi : Nat
  rd : List Nat
  wrs : List Nat
  hv : Nat
def grpB (H : EH) (b : Nat) : List Nat := match H.objs.get b with
  | some (.cells _ _ _ g) => [g]
  | some _ => [b]
  | none => []
def grpV (H : EH) (v : V) : List Nat := match v with
  | .ptr b _ => grpB H b
  | .slice b _ _ _ => grpB H b
  | .map r => [r]
  | _ => []
inductive TouchK where
  | none
  | rd (x : Operand)
  | wr (x : Operand)
  | app (s x : Operand)
def touchC (b : Builtin) (l : List Operand) : TouchK := match b, l with
  | .len, x :: _ => .rd x
  | .append, s :: x :: _ => .app s x
  | _, _ => .none
def touchCall (c : Call) : TouchK := match c.callee with | .builtin b => touchC b c.args.toList | _ => .none
def touch (op : Op) : TouchK := match op with
  | .load _ x => .rd x
  | .store _ x _ => .wr x
  | .lookup _ x _ _ => .rd x
  | .mapUpdate _ m _ _ => .wr m
  | .insert _ m _ _ => .wr m
  | .range _ x => .rd x
  | .call c => touchCall c
  | _ => .none
def fpL (a : EA) (H H' : EH) (k : TouchK) : FP := match k with
  | .none => ⟨H.next, H'.next, [], [], 0⟩
  | .rd x => ⟨H.next, H'.next, grpV H (a.eval x), [], 0⟩
  | .wr x => ⟨H.next, H'.next, [], grpV H (a.eval x), 0⟩
  | .app s x => ⟨H.next, H'.next, grpV H (a.eval x), grpV H (a.eval s), 0⟩
def fpH (H H' : EH) : FP := ⟨H.next, H'.next, [], [], cond (Nat.ble H.next H'.low) 1 2⟩
def fpOf (op : Op) (a : EA) (H H' : EH) (k : OpK) : FP := match k with
  | .light => fpL a H H' (touch op)
  | .heavy _ _ => fpH H H'
def isNilL (l : List Nat) : Bool := match l with | [] => true | _ :: _ => false
def memL (x : Nat) (l : List Nat) : Bool := List.rec (motive := fun _ => Bool) false (fun y _ ih => cond (Nat.beq x y) true ih) l
def disj (l m : List Nat) : Bool := List.rec (motive := fun _ => Bool) true (fun x _ ih => cond (memL x m) false ih) l
def outL (lo hi : Nat) (l : List Nat) : Bool := List.rec (motive := fun _ => Bool) true (fun x _ ih => cond (Nat.ble lo x) (cond (Nat.blt x hi) false ih) ih) l
/-- f's writes are nothing that g touches -/
def clear1 (f g : FP) : Bool := cond (disj f.wrs g.rd) (cond (disj f.wrs g.wrs) (outL g.lo g.hi f.wrs) false) false
def idle (f : FP) : Bool := cond (Nat.beq f.hv 0) (cond (Nat.beq f.lo f.hi) (cond (isNilL f.rd) (isNilL f.wrs) false) false) false
def compat (f g : FP) : Bool := match f.hv, g.hv with
  | 0, 0 => cond (clear1 f g) (clear1 g f) false
  | 0, 1 => isNilL f.wrs
  | 1, 0 => isNilL g.wrs
  | 1, 1 => true
  | 0, _ => idle f
  | _, 0 => idle g
  | _, _ => false

def evOps1 (k : EA → EH → Option Res) (dst : Option Tmp) (a : EA) (r : VO) : Option Res := match r with | some (v, H) => k (a.put dst v) H | none => none
def evOps (P : Program) (f : Task → Option Res) (ops : Array Oper) (l : List Oper) : EA → EH → Option Res :=
  List.rec (motive := fun _ => EA → EH → Option Res) (fun a H => some (.normal a H))
    (fun o _ ih a H => match wantedE ops a o.guard with
      | .yes => evOps1 ih o.dst a (evOp P f a H o.op)
      | .no => ih (a.put o.dst .bad) H
      | .unk => none) l

/-- a region whose order is open: in the order of the text, what each operation touches gathered; 'low' is that of one operation -/
structure RR where
  a : EA
  H : EH
  fps : List FP
def big : Nat := 0xffffffffffffffffffffffff
def lowTo (H : EH) (n : Nat) : EH := ⟨H.objs, H.next, H.grps, n⟩
def evOpsD1 (k : EA → EH → Option RR) (o : Oper) (a : EA) (H : EH) (r : VO) : Option RR := match r with
  | some (v, H') => match k (a.put o.dst v) (lowTo H' (minN H.low H'.low)) with
    | some r => some ⟨r.a, r.H, fpOf o.op a H H' (opK o.op) :: r.fps⟩
    | none => none
  | none => none
def evOpsD0 (r : Option RR) : Option RR := match r with | some r => some ⟨r.a, r.H, ⟨0, 0, [], [], 0⟩ :: r.fps⟩ | none => none
def evOpsD (P : Program) (f : Task → Option Res) (ops : Array Oper) (l : List Oper) : EA → EH → Option RR :=
  List.rec (motive := fun _ => EA → EH → Option RR) (fun a H => some ⟨a, H, []⟩)
    (fun o _ ih a H => match wantedE ops a o.guard with
      | .yes => evOpsD1 ih o a H (evOp P f a (lowTo H big) o.op)
      | .no => evOpsD0 (ih (a.put o.dst .bad) H)
      | .unk => none) l
/-- the operations that may come before and behind operation i -/
def openOf (ops : Array Oper) (i : Nat) : List Nat :=
  let bf := Region.before ops
  (List.range ops.size).filter fun j => if j < i then !(bf.getD i 0).testBit j else if i < j then !(bf.getD j 0).testBit i else false
def nthF (l : List FP) : Nat → FP := List.rec (motive := fun _ => Nat → FP) (fun _ => ⟨0, 0, [], [], 3⟩) (fun x _ ih i => match i with | 0 => x | i + 1 => ih i) l
def noisy (f : FP) : Bool := cond (Nat.ble f.hv 1) (not (isNilL f.wrs)) true
def allCompat (fps : List FP) (f : FP) (l : List Nat) : Bool := List.rec (motive := fun _ => Bool) true (fun j _ ih => cond (compat f (nthF fps j)) ih false) l
def pairsOk (ops : Array Oper) (fps : List FP) (l : List FP) : Nat → Bool :=
  List.rec (motive := fun _ => Nat → Bool) (fun _ => true) (fun f _ ih i => cond (noisy f) (cond (allCompat fps f (openOf ops i)) (ih (Nat.succ i)) false) (ih (Nat.succ i))) l
/-- the temporaries that an operation, with its guard, reads -/
def tmpsOf (ops : Array Oper) (o : Oper) : List Tmp :=
  (o.op.operands.toList.filterMap fun | .tmp t => some t | _ => none) ++ (match o.guard with | some (j, _) => ((ops[j]?).bind (·.dst)).toList | none => [])
/-- the order is open, but each temporary is written before it is read, and edges lead back -/
def shapeOk (ops : Array Oper) : Bool :=
  let bf := Region.before ops
  ((List.range ops.size).all fun j => match ops[j]? with
    | none => false
    | some o => (o.after.all fun e => !Region.binds .any e || decide (e.on < j)) &&
      (match o.guard with | some (g, _) => decide (g < ops.size) | none => true) &&
      (List.range ops.size).all fun i => match ops[i]? with
        | none => false
        | some o' => match o'.dst with
          | none => true
          | some d => if i = j then true else
            (if (tmpsOf ops o).contains d || o.dst == some d then (if i < j then (bf.getD j 0).testBit i else (bf.getD i 0).testBit j) else true))
def doneD (ops : Array Oper) (r : Option RR) : Option Res := match r with
  | some r => cond (pairsOk ops r.fps r.fps 0) (some (.normal r.a r.H)) none
  | none => none

/-! Functions, loops, rounds -/
def evRes1 (P : Program) (a : EA) (H : EH) (r : ResultVar) : Option V := match r with
  | .tmp t => some (a.get t)
  | .cell d t => match a.get d with
    | .ptr b off => H.loadVar P t b off
    | _ => none
def evResults (P : Program) (a : EA) (H : EH) (l : List ResultVar) : Option (List V) :=
  List.rec (motive := fun _ => Option (List V)) (some [])
    (fun r _ ih => match evRes1 P a H r with
      | some v => match ih with | some l => some (v :: l) | none => none
      | none => none) l
def closeD (l : List Nat) : EH → Option EH :=
  List.rec (motive := fun _ => EH → Option EH) (fun H => some H)
    (fun r _ ih H => match H.objs.get r with
      | some (.dfr true) => ih ⟨H.objs.set r (.dfr false), H.next, H.grps, minN H.low r⟩
      | _ => none) l
def putArgs (n : Nat) (ps : List Tmp) : List V → T V → Option (T V) :=
  List.rec (motive := fun _ => List V → T V → Option (T V)) (fun l tm => match l with | [] => some tm | _ => none)
    (fun p _ ih l tm => match l with | v :: vs => cond (Nat.blt p n) (ih vs (tm.set p v)) none | [] => none) ps
def resV (l : List V) : V := match l with | [v] => v | l => .tup l
def leave (P : Program) (fn : Func) (a : EA) (H : EH) : Option Res :=
  match closeD a.df H with
  | some H' => match evResults P a H' fn.results.toList with
    | some l => some (.v (resV l) H')
    | none => none
  | none => none
def afterBody (P : Program) (fn : Func) (r : Option Res) : Option Res := match r with
  | some (.normal a H) => leave P fn a H
  | some (.ret a H) => leave P fn a H
  | _ => none
def evFn (P : Program) (f : Task → Option Res) (fn : Func) (args : List V) (H : EH) : Option Res :=
  match fn.body with
  | some c => cond (Nat.ble (lenV args) fn.ntmps) (afterBody P fn (f (.code none c ⟨T.setL .lf 0 args, fn.ntmps, []⟩ H))) none
  | none => none
def evCall (P : Program) (f : Task → Option Res) (g : FuncId) (args : List V) (H : EH) : Option Res :=
  match P.funcs[g]? with
  | some fn => cond (decide (fn.name = "runtime.NumGoroutine")) none (evFn P f fn args H)
  | none => none
def setLoop (H : EH) (l : Nat) (st : LoopState) (pend : Option Code) (tm : T V) (n : Nat) (ps : Array Tmp) (as bd : Code) (df : Nat) : EH :=
  ⟨H.objs.set l (.loop st pend tm n ps as bd df), H.next, H.grps, minN H.low l⟩
def endR (l : Nat) (jump : Option Code) (b : Bool) (H : EH) : Option Res := match H.objs.get l with
  | some (.loop _ _ tm n ps as bd df) => some (.v (.bool b) (setLoop H l (cond b .ready .done) jump tm n ps as bd df))
  | _ => none
def afterRound (l : Nat) (r : Option Res) : Option Res := match r with
  | some (.normal _ H) => endR l none true H
  | some (.ret _ H) => endR l (some .ret) false H
  | some (.exit id _ H) => endR l (some (.exit id)) false H
  | _ => none
def roundB (f : Task → Option Res) (l : Nat) (bd : Code) (r : Option Res) : Option Res := match r with
  | some (.normal a H) => match H.objs.get l with
    | some (.loop .ready pend tm n ps as bd' df) => afterRound l (f (.code (some l) bd a (setLoop H l .busy pend tm n ps as bd' df)))
    | _ => none
  | _ => none
def evRound (f : Task → Option Res) (l : Nat) (args : List V) (H : EH) : Option Res :=
  match H.objs.get l with
  | some (.loop _ _ tm n ps as bd _) => match putArgs n ps.toList args tm with
    | some tm' => roundB f l bd (f (.code (some l) as ⟨tm', n, []⟩ H))
    | none => none
  | _ => none
def app3 (a b c : List V) : List V := List.append a (List.append b c)
def evCallV (f : Task → Option Res) (fv : V) (args : List V) (H : EH) : Option Res :=
  match fv with
  | .func g first captured => f (.call g (app3 first args captured) H)
  | .yld l => evRound f l args H
  | _ => none
def pendO (f : Task → Option Res) (ro : Option Nat) (a1 : EA) (H : EH) (pend : Option Code) : Option Res := match pend with
  | none => some (.normal a1 H)
  | some c => f (.code ro c a1 H)
def notBusy (s : LoopState) : Bool := match s with | .busy => false | _ => true
def afterLoop (f : Task → Option Res) (ro : Option Nat) (l : Nat) (a1 : EA) (r : Option Res) : Option Res := match r with
  | some (.v _ H) => match H.objs.get l with
    | some (.loop st pend tm n ps as bd df) => cond (notBusy st) (pendO f ro a1 (setLoop H l .exhausted pend tm n ps as bd df) pend) none
    | _ => none
  | _ => none
/-- a function value that is ranged over: one of the text's own functions -/
def funcR (f : Task → Option Res) (g : V) (args : List V) (H : EH) : Option Res := match g with
  | .func g first captured => f (.call g (app3 first args captured) H)
  | _ => none
def evRangeF (f : Task → Option Res) (ro : Option Nat) (g : V) (ps : Array Tmp) (as bd : Code) (a a1 : EA) (d : Nat) (H : EH) : Option Res :=
  fN H.next fun l => afterLoop f ro l a1 (funcR f g [.yld l] ⟨H.objs.set l (.loop .ready none a.tm a.n ps as bd d), Nat.succ l, H.grps, H.low⟩)
def evRangeFunc (f : Task → Option Res) (ro : Option Nat) (g : Operand) (ps : Array Tmp) (as bd : Code) (a : EA) (H : EH) : Option Res :=
  match ro with
  | some l0 => match H.objs.get l0 with
    | some (.loop _ _ _ _ _ _ _ df) => evRangeF f ro (a.eval g) ps as bd a a df H
    | _ => none
  | none => fN H.next fun l0 => evRangeF f ro (a.eval g) ps as bd a ⟨a.tm, a.n, l0 :: a.df⟩ l0 ⟨H.objs.set l0 (.dfr true), Nat.succ l0, H.grps, H.low⟩
def evSeq (f : Task → Option Res) (ro : Option Nat) (y : Code) (r : Option Res) : Option Res := match r with
  | some (.normal a H) => f (.code ro y a H)
  | r => r
def evCond (f : Task → Option Res) (ro : Option Nat) (x y : Code) (a : EA) (H : EH) (v : V) : Option Res := match v with
  | .bool true => f (.code ro x a H)
  | .bool false => f (.code ro y a H)
  | _ => none
def evBlock (id : Nat) (r : Option Res) : Option Res := match r with
  | some (.exit id' a H) => cond (Nat.beq id' id) (some (.normal a H)) (some (.exit id' a H))
  | r => r
abbrev CAlt := Program → (Task → Option Res) → Option Nat → EA → EH → Option Res
def cSkip : CAlt := fun _ _ _ a H => some (.normal a H)
def cRegion (ops : Array Oper) (d : Bool) : CAlt := match d with
  | false => fun P f _ a H => evOps P f ops ops.toList a H
  | true => fun P f _ a H => cond (shapeOk ops) (doneD ops (evOpsD P f ops ops.toList a H)) none
def cSeq (x y : Code) : CAlt := fun _ f ro a H => evSeq f ro y (f (.code ro x a H))
def cCond (c : Operand) (x y : Code) : CAlt := fun _ f ro a H => evCond f ro x y a H (a.eval c)
def cBlock (id : Nat) (c : Code) : CAlt := fun _ f ro a H => evBlock id (f (.code ro c a H))
/-! Loops over a map: the rounds are carried out from each state that can be met, whichever entry comes next; where any two of them may change places, the order does not matter -/
def isTmp (x : Operand) (t : Nat) : Bool := match x with | .tmp u => Nat.beq u t | _ => false
def isNoneG (g : Option (Nat × Bool)) : Bool := match g with | none => true | some _ => false
structure ML where
  (it t1 t2 : Tmp) (ops1 : Array Oper) (o2 : Oper) (id cid : Nat) (t3 : Tmp) (ops : Array Oper) (tl : List Oper) (rest : Code)
def nextOf (o : Oper) : Option (Tmp × Tmp) := match o.op with
  | .next (.tmp it) false => cond (isNoneG o.guard) (match o.dst with | some t => some (it, t) | none => none) none
  | _ => none
def extrOf (o : Oper) (t1 : Tmp) : Option Tmp := match o.op with
  | .extract x 0 => cond (isTmp x t1) (cond (isNoneG o.guard) o.dst none) none
  | _ => none
def entryOf (o : Oper) (it : Tmp) : Option Tmp := match o.op with
  | .entry x => cond (isTmp x it) (cond (isNoneG o.guard) o.dst none) none
  | _ => none
inductive HeadR where
  | no
  | mk (ops : Array Oper) (rest : Code)
def headR (c : Code) : HeadR := match c with
  | .seq (.region _ ops false) rest => .mk ops rest
  | _ => .no
def mapLoop3 (it t1 t2 : Tmp) (ops1 : Array Oper) (o2 : Oper) (id cid : Nat) (ops : Array Oper) (rest : Code) : Option ML := match ops.toList with
  | o3 :: tl => match entryOf o3 it with | some t3 => some ⟨it, t1, t2, ops1, o2, id, cid, t3, ops, tl, rest⟩ | none => none
  | _ => none
def mapLoop2 (it t1 t2 : Tmp) (ops1 : Array Oper) (o2 : Oper) (c : Code) : Option ML := match c with
  | .seq (.cond x .skip (.exit id)) (.block cid c) => cond (isTmp x t2) (match headR c with | .mk ops rest => mapLoop3 it t1 t2 ops1 o2 id cid ops rest | .no => none) none
  | _ => none
def mapLoop1 (ops1 : Array Oper) (c : Code) : Option ML := match ops1.toList with
  | [o1, o2] => match nextOf o1 with
    | some (it, t1) => match extrOf o2 t1 with
      | some t2 => mapLoop2 it t1 t2 ops1 o2 c
      | none => none
    | none => none
  | _ => none
def mapLoop (body : Code) : Option ML := match body with
  | .seq (.region _ ops1 false) c => mapLoop1 ops1 c
  | _ => none

structure St where
  tm : T V
  dl : List (Option EO)
def setR (dl : List (Option EO)) : Nat → T EO → T EO :=
  List.rec (motive := fun _ => Nat → T EO → T EO) (fun _ t => t) (fun o _ ih i t => ih (Nat.succ i) (match o with | some o => t.set i o | none => t)) dl
def old0 (n : Nat) (v : V) : Bool := match v with
  | .bool _ => true
  | .int _ _ => true
  | .str _ => true
  | .nilPtr => true
  | .nilSlice => true
  | .nilMap => true
  | .nilFunc => true
  | .nilIface => true
  | .ptr b _ => Nat.blt b n
  | .slice b _ _ _ => Nat.blt b n
  | .map b => Nat.blt b n
  | .yld b => Nat.blt b n
  | _ => false
def old0L (n : Nat) (l : List V) : Bool := List.rec (motive := fun _ => Bool) true (fun x _ ih => cond (old0 n x) ih false) l
def old1 (n : Nat) (v : V) : Bool := match v with
  | .func _ l m => cond (old0L n l) (old0L n m) false
  | v => old0 n v
def old1T (n : Nat) (c : T V) (k : Nat) : Nat → Bool :=
  Nat.rec (motive := fun _ => Nat → Bool) (fun _ => true) (fun _ ih i => match c.get i with | some v => cond (old1 n v) (ih (Nat.succ i)) false | none => false) k
def oldV (n : Nat) (v : V) : Bool := match v with
  | .agg k c => old1T n c k 0
  | v => old1 n v
def oldE (n : Nat) (l : List (V × V × Nat)) : Bool := List.rec (motive := fun _ => Bool) true (fun e _ ih => cond (oldV n e.1) (cond (oldV n e.2.1) ih false) false) l
def oldO (n : Nat) (o : EO) : Bool := match o with
  | .cells c lo sz _ => old1T n c (Nat.sub sz lo) lo
  | .map es _ => oldE n es
  | .dfr _ => true
  | .iter none => true
  | .iter (some (m, _)) => Nat.blt m n
  | .loop _ _ _ _ _ _ _ _ => false
def cleanV (n : Nat) (v0 v : V) : V := match v0 with | .bad => .bad | _ => cond (oldV n v) v .bad
def cleanT (n : Nat) (base tm : T V) (k : Nat) : T V := Nat.rec (motive := fun _ => T V) .lf (fun i ih => ih.set i (cleanV n (getD' base i) (getD' tm i))) k
def collR (n : Nat) (objs : T EO) (k : Nat) : Nat → Option (List (Option EO)) :=
  Nat.rec (motive := fun _ => Nat → Option (List (Option EO))) (fun _ => some []) (fun _ ih b => match ih (Nat.succ b) with
    | none => none
    | some l => match objs.get b with
      | none => some (none :: l)
      | some o => cond (oldO n o) (some (some o :: l)) none) k
/-! the same -/
def eqNL (l : List Nat) : List Nat → Bool := List.rec (motive := fun _ => List Nat → Bool) (fun m => match m with | [] => true | _ => false) (fun x _ ih m => match m with | y :: m => cond (Nat.beq x y) (ih m) false | [] => false) l
def eqOpt {α : Type} (e : α → α → Bool) (v w : Option α) : Bool := match v, w with | some v, some w => e v w | none, none => true | _, _ => false
def eqT {α : Type} (e : α → α → Bool) (a : T α) : T α → Bool := T.rec (motive := fun _ => T α → Bool)
  (fun b => match b with | .lf => true | _ => false)
  (fun v _ _ ihl ihr b => match b with | .nd w l r => cond (eqOpt e v w) (cond (ihl l) (ihr r) false) false | .lf => false) a
def eq0 (a b : V) : Bool := match a, b with
  | .bad, .bad => true
  | .bool x, .bool y => boolEq x y
  | .int k x, .int k' y => cond (sameK k k') (iEq x y) false
  | .nilPtr, .nilPtr => true
  | .nilSlice, .nilSlice => true
  | .nilMap, .nilMap => true
  | .nilFunc, .nilFunc => true
  | .nilIface, .nilIface => true
  | .ptr x o, .ptr y p => cond (Nat.beq x y) (Nat.beq o p) false
  | .slice x o l e, .slice y p m f => cond (Nat.beq x y) (cond (Nat.beq o p) (cond (Nat.beq l m) (Nat.beq e f) false) false) false
  | .map x, .map y => Nat.beq x y
  | .yld x, .yld y => Nat.beq x y
  | _, _ => false
def eq0L (l : List V) : List V → Bool := List.rec (motive := fun _ => List V → Bool) (fun m => match m with | [] => true | _ => false) (fun x _ ih m => match m with | y :: m => cond (eq0 x y) (ih m) false | [] => false) l
def eq1 (a b : V) : Bool := match a, b with
  | .func f l m, .func f' l' m' => cond (Nat.beq f f') (cond (eq0L l l') (eq0L m m') false) false
  | a, b => eq0 a b
def eqVV (a b : V) : Bool := match a, b with
  | .agg n c, .agg n' c' => cond (Nat.beq n n') (eqT eq1 c c') false
  | a, b => eq1 a b
def eqE (l : List (V × V × Nat)) : List (V × V × Nat) → Bool := List.rec (motive := fun _ => List (V × V × Nat) → Bool) (fun m => match m with | [] => true | _ => false)
  (fun x _ ih m => match m with | y :: m => cond (eqVV x.1 y.1) (cond (eqVV x.2.1 y.2.1) (cond (Nat.beq x.2.2 y.2.2) (ih m) false) false) false | [] => false) l
def eqO (a b : EO) : Bool := match a, b with
  | .cells c lo sz g, .cells c' lo' sz' g' => cond (Nat.beq lo lo') (cond (Nat.beq sz sz') (cond (Nat.beq g g') (eqT eqVV c c') false) false) false
  | .map es c, .map es' c' => cond (Nat.beq c c') (eqE es es') false
  | .dfr x, .dfr y => boolEq x y
  | .iter none, .iter none => true
  | .iter (some (m, c)), .iter (some (m', c')) => cond (Nat.beq m m') (Nat.beq c c') false
  | _, _ => false
def eqOO (a b : Option EO) : Bool := match a, b with | none, none => true | some a, some b => eqO a b | _, _ => false
def eqDl (l : List (Option EO)) : List (Option EO) → Bool := List.rec (motive := fun _ => List (Option EO) → Bool) (fun m => match m with | [] => true | _ => false) (fun x _ ih m => match m with | y :: m => cond (eqOO x y) (ih m) false | [] => false) l
def eqSt (a b : St) : Bool := cond (eqT eqVV a.tm b.tm) (eqDl a.dl b.dl) false
def eqG (a b : Option Grp) : Bool := match a, b with
  | none, none => true
  | some (m, n, t), some (m', n', t') => cond (Nat.beq m m') (cond (Nat.beq n n') (eqT Nat.beq t t') false) false
  | _, _ => false
def eqGR (g h : T Grp) (k : Nat) : Nat → Bool := Nat.rec (motive := fun _ => Nat → Bool) (fun _ => true) (fun _ ih b => cond (eqG (g.get b) (h.get b)) (ih (Nat.succ b)) false) k
/-! the states, and which state an entry leads to from which -/
def findSt (s : St) (l : List St) : Nat → Option Nat := List.rec (motive := fun _ => Nat → Option Nat) (fun _ => none) (fun x _ ih i => cond (eqSt s x) (some i) (ih (Nat.succ i))) l
def lenS' {α : Type} (l : List α) : Nat := List.rec (motive := fun _ => Nat) 0 (fun _ _ ih => Nat.succ ih) l
def nth' {α : Type} (l : List α) : Nat → Option α := List.rec (motive := fun _ => Nat → Option α) (fun _ => none) (fun x _ ih i => match i with | 0 => some x | i + 1 => ih i) l
def snoc' {α : Type} (l : List α) (x : α) : List α := List.rec (motive := fun _ => List α) [x] (fun y _ ih => y :: ih) l
def consR (j : Nat) (r : Option (List St × List Nat)) : Option (List St × List Nat) := match r with | some (st, l) => some (st, j :: l) | none => none
def rowGo (step : V → V → Option St) (es : List (V × V × Nat)) : List St → Option (List St × List Nat) :=
  List.rec (motive := fun _ => List St → Option (List St × List Nat)) (fun st => some (st, []))
    (fun e _ ih st => match step e.1 e.2.1 with
      | none => none
      | some s' => match findSt s' st 0 with
        | some j => consR j (ih st)
        | none => consR (lenS' st) (ih (snoc' st s'))) es
def consT (row : List Nat) (r : Option (List St × List (List Nat))) : Option (List St × List (List Nat)) := match r with | some (st, t) => some (st, row :: t) | none => none
def bfs (step : St → V → V → Option St) (es : List (V × V × Nat)) (fuel : Nat) : Nat → List St → Option (List St × List (List Nat)) :=
  Nat.rec (motive := fun _ => Nat → List St → Option (List St × List (List Nat))) (fun _ _ => none)
    (fun _ ih i st => match nth' st i with
      | none => some (st, [])
      | some s => match rowGo (step s) es st with
        | none => none
        | some (st', row) => consT row (ih (Nat.succ i) st')) fuel
def tabf (tab : List (List Nat)) (i j : Nat) : Nat := match nth' tab i with | some row => (match nth' row j with | some x => x | none => 0) | none => 0
def allN (p : Nat → Bool) (n : Nat) : Bool := Nat.rec (motive := fun _ => Bool) true (fun i ih => cond (p i) ih false) n
def commOk (tab : List (List Nat)) (n k : Nat) : Bool := allN (fun i => allN (fun j => allN (fun l => Nat.beq (tabf tab (tabf tab i j) l) (tabf tab (tabf tab i l) j)) j) k) n
def endOf (tab : List (List Nat)) (k : Nat) : Nat := Nat.rec (motive := fun _ => Nat → Nat → Nat) (fun i _ => i) (fun _ ih i j => ih (tabf tab i j) (Nat.succ j)) k 0 0
def bornsOk (clk : Nat) (l : List (V × V × Nat)) : Nat → Bool := List.rec (motive := fun _ => Nat → Bool) (fun b => Nat.ble b clk) (fun e _ ih b => cond (Nat.ble b e.2.2) (ih (Nat.succ e.2.2)) false) l
def normR (r : Option Res) : Option (EA × EH) := match r with | some (.normal a H) => some (a, H) | _ => none
def roundM (P : Program) (f : Task → Option Res) (ro : Option Nat) (ml : ML) (a : EA) (H : EH) (k v : V) : Option (EA × EH) :=
  match normR (evOps P f ml.ops ml.tl (((a.put (some ml.t1) (.tup [.bool true, k, v])).put (some ml.t2) (.bool true)).put (some ml.t3) (.tup [k, v])) H) with
  | some (a, H) => normR (evBlock ml.cid (f (.code ro ml.rest a H)))
  | none => none
/-- what a loop over a map goes by: its heap without the iterator, the names from which on it writes, the map's entries -/
structure MC where
  (objs : T EO) (next : Nat) (grps : T Grp) (n : Nat) (df : List Nat) (base : T V) (m clk : Nat) (es : List (V × V × Nat)) (it itn nx : Nat) (lo : Nat)
def MC.heap (c : MC) (s : St) : EH := ⟨setR s.dl c.lo c.objs, c.next, c.grps, big⟩
def MC.act (c : MC) (s : St) : EA := ⟨s.tm, c.n, c.df⟩
def mapSame (c : MC) (H : EH) : Bool := cond (Nat.blt c.m c.lo) true (match H.objs.get c.m with | some o => eqO o (.map c.es c.clk) | none => false)
def ptrIs (v : V) (b : Nat) : Bool := match v with | .ptr b' 0 => Nat.beq b' b | _ => false
def mkSt1 (c : MC) (tm : T V) (dl : List (Option EO)) : Option St := cond (ptrIs (getD' tm c.it) c.itn) (some ⟨tm, dl⟩) none
def mkSt (c : MC) (a : EA) (H : EH) : Option St :=
  cond (Nat.beq a.n c.n) (cond (eqNL a.df c.df) (cond (Nat.ble c.lo H.low) (cond (eqGR c.grps H.grps (Nat.sub c.next c.lo) c.lo) (cond (mapSame c H) (cond (Nat.ble H.next c.nx)
    (match collR c.next H.objs (Nat.sub c.next c.lo) c.lo with | some dl => mkSt1 c (cleanT c.next c.base a.tm c.n) dl | none => none) none) none) none) none) none) none
def mkStO (c : MC) (r : Option (EA × EH)) : Option St := match r with | some (a, H) => mkSt c a H | none => none
def stepM (P : Program) (f : Task → Option Res) (ro : Option Nat) (ml : ML) (c : MC) (s : St) (k v : V) : Option St := mkStO c (roundM P f ro ml (c.act s) (c.heap s) k v)
def badT (l : List Oper) (tm : T V) : T V := List.rec (motive := fun _ => T V) tm (fun o _ ih => match o.dst with | some t => ih.set t .bad | none => ih) l
def lowM (P : Program) (f : Task → Option Res) (ro : Option Nat) (ml : ML) (a : EA) (H : EH) (l : List (V × V × Nat)) : Nat :=
  List.rec (motive := fun _ => Nat) H.next (fun e _ ih => match roundM P f ro ml a H e.1 e.2.1 with | some (_, H') => minN H'.low ih | none => ih) l
def endM (ml : ML) (c : MC) (low itn : Nat) (s : Option St) : Option Res := match s with
  | some s => some (.exit ml.id (((c.act s).put (some ml.t1) (.tup [.bool false])).put (some ml.t2) (.bool false)) ⟨(setR s.dl c.lo c.objs).set itn (.iter none), c.nx, c.grps, minN low (minN c.lo itn)⟩)
  | none => none
def afterBfs (ml : ML) (c : MC) (low itn : Nat) (r : Option (List St × List (List Nat))) : Option Res := match r with
  | some (st, tab) => cond (commOk tab (lenS' st) (lenE c.es)) (endM ml c low itn (nth' st (endOf tab (lenE c.es)))) none
  | none => none
def evMap2 (P : Program) (f : Task → Option Res) (ro : Option Nat) (ml : ML) (c : MC) (low itn : Nat) (s : Option St) : Option Res := match s with
  | some s => afterBfs ml c low itn (bfs (stepM P f ro ml c) c.es 200 0 [s])
  | none => none
def evMap1 (P : Program) (f : Task → Option Res) (ro : Option Nat) (ml : ML) (a : EA) (H : EH) (itn m clk : Nat) (es : List (V × V × Nat)) (base : T V) (objs : T EO) : Option Res :=
  fN (lowM P f ro ml ⟨base, a.n, a.df⟩ ⟨objs, H.next, H.grps, big⟩ es) fun lo =>
    evMap2 P f ro ml ⟨objs, H.next, H.grps, a.n, a.df, base, m, clk, es, ml.it, itn, Nat.add H.next 4096, lo⟩ H.low itn (mkSt ⟨objs, H.next, H.grps, a.n, a.df, base, m, clk, es, ml.it, itn, Nat.add H.next 4096, lo⟩ ⟨base, a.n, a.df⟩ ⟨objs, H.next, H.grps, big⟩)
def tmOk (n : Nat) (ml : ML) : Bool := cond (Nat.blt ml.t1 n) (cond (Nat.blt ml.t2 n) (cond (Nat.blt ml.t3 n) (cond (Nat.beq ml.t1 ml.t2) false (cond (Nat.beq ml.it ml.t1) false (cond (Nat.beq ml.it ml.t2) false true))) false) false) false
def ltL (n : Nat) (l : List Nat) : Bool := List.rec (motive := fun _ => Bool) true (fun x _ ih => cond (Nat.blt x n) ih false) l
def roOk (n : Nat) (ro : Option Nat) : Bool := match ro with | none => true | some l => Nat.blt l n
def evMapLoop (P : Program) (f : Task → Option Res) (ro : Option Nat) (ml : ML) (a : EA) (H : EH) : Option Res :=
  cond (tmOk a.n ml) (match a.get ml.it with
  | .ptr itn 0 => match H.objs.get itn with
    | some (.iter (some (m, c))) => match H.objs.get m with
      | some (.map es clk) => cond (Nat.beq c clk) (cond (bornsOk clk es 0) (cond (Nat.beq m itn) none (cond (ltL H.next a.df) (cond (roOk H.next ro)
          (evMap1 P f ro ml a H itn m clk es (badT ml.tl (((a.tm.set ml.t1 .bad).set ml.t2 .bad).set ml.t3 .bad)) (H.objs.del itn)) none) none)) none) none
      | _ => none
    | _ => none
  | _ => none) none
def cLoop0 (body : Code) : CAlt := fun _ f ro a H => evSeq f ro (.loop body) (f (.code ro body a H))
def cLoop (body : Code) : CAlt := match mapLoop body with
  | some ml => fun P f ro a H => evMapLoop P f ro ml a H
  | none => cLoop0 body
def cScope (c : Code) : CAlt := fun _ f ro a H => f (.code ro c a H)
def cExit (id : Nat) : CAlt := fun _ _ _ a H => some (.exit id a H)
def cRet : CAlt := fun _ _ _ a H => some (.ret a H)
def cRange (g : Operand) (ps : Array Tmp) (as bd : Code) : CAlt := fun _ f ro a H => evRangeFunc f ro g ps as bd a H
def cNo : CAlt := fun _ _ _ _ _ => none
inductive CAltB where
  | mk (f : CAlt)
def evCodeB (c : Code) : CAltB :=
  match c with
  | .skip => .mk (cSkip)
  | .label _ => .mk (cSkip)
  | .region _ ops d => .mk (cRegion ops d)
  | .seq x y => .mk (cSeq x y)
  | .cond c x y => .mk (cCond c x y)
  | .block id c => .mk (cBlock id c)
  | .loop body => .mk (cLoop body)
  | .exit id => .mk (cExit id)
  | .ret => .mk (cRet)
  | .rangeFunc g ps as bd => .mk (cRange g ps as bd)
  | .scope c => .mk (cScope c)
  | _ => .mk (cNo)
def runC (b : CAltB) : CAlt := match b with | .mk f => f
def evCode (c : Code) : CAlt := runC (evCodeB c)

/-- Ext: what is known of some calls by other means: the value; the heap stays as it was -/
abbrev Ext := FuncId → Option (List V → EH → Option V)
def extR (P : Program) (f : Task → Option Res) (g : FuncId) (args : List V) (H : EH) (v : Option V) : Option Res := match v with | some v => some (.v v H) | none => evCall P f g args H
def stepCall (P : Program) (f : Task → Option Res) (g : FuncId) (args : List V) (H : EH) (x : Option (List V → EH → Option V)) : Option Res := match x with
  | none => evCall P f g args H
  | some x => extR P f g args H (x args H)
def step (P : Program) (X : Ext) (f : Task → Option Res) (t : Task) : Option Res := match t with
  | .call g args H => stepCall P f g args H (X g)
  | .callV fv args H => evCallV f fv args H
  | .code ro c a H => evCode c P f ro a H
def ev (P : Program) (X : Ext) (n : Nat) : Task → Option Res := Nat.rec (fun _ => none) (fun _ ih => step P X ih) n

def noExt : Ext := fun _ => none
def emptyH : EH := ⟨.lf, 0, .lf, big⟩
def runV (P : Program) (X : Ext) (n : Nat) (f : FuncId) (args : List V) : Option V :=
  match ev P X n (.call f args emptyH) with
  | some (.v v _) => some v
  | _ => none
def isTrue (o : Option V) : Bool := match o with | some (.bool b) => b | _ => false
def isSome' (o : Option V) : Bool := match o with | some _ => true | _ => false
end
end Go.Ev
