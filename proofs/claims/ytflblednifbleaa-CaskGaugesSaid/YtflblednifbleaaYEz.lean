/- A pure evaluator for the part of the model that the program uses: one goroutine, no panic, an abstract heap. What it answers is shown to be what the machine does in XEvSound. -/
import Derived.Control
import Derived.KernelRfl
import Derived.RangeFuncLeaves
import Derived.Below
import Derived.Laws.Sem
import Derived.Laws.Cells
set_option linter.all false
set_option linter.unusedSimpArgs false
set_option linter.unusedVariables false
namespace Go.Ev
open Go
noncomputable section
inductive T (α:Type) where
 | lf
 | nd (v:Option α) (l r:T α)
 | fn (f:Nat→Option α)
namespace T
variable {α:Type}
def get (t:T α):Nat→Option α :=
 T.rec (motive:=fun _=>Nat→Option α) (fun _=>none)
  (fun v _ _ ihl ihr k=>Bool.rec (motive:=fun _=>Option α) (Bool.rec (motive:=fun _=>Option α) (ihr (Nat.div (Nat.sub k 2) 2)) (ihl (Nat.div (Nat.sub k 1) 2)) (Nat.beq (Nat.mod k 2) 1)) v (Nat.beq k 0))
  (fun f k=>f k) t
def sing (v:α) (n:Nat):Nat→T α :=
 Nat.rec (motive:=fun _=>Nat→T α) (fun _ => .lf)
  (fun _ ih k=>Bool.rec (motive:=fun _=>T α) (Bool.rec (motive:=fun _=>T α) (.nd none .lf (ih (Nat.div (Nat.sub k 2) 2))) (.nd none (ih (Nat.div (Nat.sub k 1) 2)) .lf) (Nat.beq (Nat.mod k 2) 1)) (.nd (some v) .lf .lf) (Nat.beq k 0)) n
def set (t:T α):Nat→α→T α :=
 T.rec (motive:=fun _=>Nat→α→T α) (fun k v=>sing v (Nat.succ k) k)
  (fun x l r ihl ihr k v=>Bool.rec (motive:=fun _=>T α) (Bool.rec (motive:=fun _=>T α) (.nd x l (ihr (Nat.div (Nat.sub k 2) 2) v)) (.nd x (ihl (Nat.div (Nat.sub k 1) 2) v) r) (Nat.beq (Nat.mod k 2) 1)) (.nd (some v) l r) (Nat.beq k 0))
  (fun f k v => .fn (fun i=>cond (Nat.beq i k) (some v) (f i))) t
def del (t:T α):Nat→T α :=
 T.rec (motive:=fun _=>Nat→T α) (fun _ => .lf)
  (fun x l r ihl ihr k=>Bool.rec (motive:=fun _=>T α) (Bool.rec (motive:=fun _=>T α) (.nd x l (ihr (Nat.div (Nat.sub k 2) 2))) (.nd x (ihl (Nat.div (Nat.sub k 1) 2)) r) (Nat.beq (Nat.mod k 2) 1)) (.nd none l r) (Nat.beq k 0))
  (fun f k => .fn (fun i=>cond (Nat.beq i k) none (f i))) t
def setL (t:T α) (i:Nat) (l:List α):T α :=
 List.rec (motive:=fun _=>Nat→T α→T α) (fun _ t=>t) (fun x _ ih i t=>ih (Nat.succ i) (t.set i x)) l i t
end T
inductive V where
 | bad
 | bool (b:Bool)
 | int (k:IntKind) (n:Int)
 | str (s:ByteArray)
 | nilPtr
 | ptr (b off:Nat)
 | nilSlice
 | slice (b off len e:Nat)
 | nilMap
 | map (r:Nat)
 | nilFunc
 | func (f:FuncId) (first captured:List V)
 | yld (l:Nat)
 | nilIface
 | agg (n:Nat) (c:T V)
 | tup (l:List V)
 | fz (k:Bool) (a:Nat) (c:Nat→Nat→V) (len e:Nat)
 | fp (a:Nat) (g:Nat→V) (e j:Nat)
inductive EO where
 | cells (c:T V) (lo sz grp:Nat)
 | map (es:List (V×V×Nat)) (clock:Nat)
 | loop (st:LoopState) (pending:Option Code) (tm:T V) (n:Nat) (ps:Array Tmp) (assign body:Code) (df:Nat)
 | dfr (o:Bool)
 | iter (o:Option (Nat×Nat))
abbrev qo:=Nat×Nat×T Nat
structure EH where
 objs:T EO
 next:Nat
 grps:T qo
 low:Nat
structure EA where
 tm:T V
 n:Nat
 df:List Nat
def ofC1 (v:Value):V:=match v with
 | .bool b => .bool b
 | .int k n => .int k n
 | .string s => .str s
 | .pointer none => .nilPtr
 | .slice none 0 0 => .nilSlice
 | .map none => .nilMap
 | .nilFunc => .nilFunc
 | .nilIface => .nilIface
 | _ => .bad
def dE (v:V):Bool:=match v with
 | .bad=>false
 | .agg _ _=>false
 | .tup _=>false
 | _=>true
def pJ (l:List V):Bool:=List.rec (motive:=fun _=>Bool) true (fun x _ ih=>cond (dE x) ih false) l
def Ru (l:List Value):List V:=List.rec (motive:=fun _=>List V) [] (fun x _ ih=>ofC1 x::ih) l
def lenV (l:List V):Nat:=List.rec (motive:=fun _=>Nat) 0 (fun _ _ ih=>Nat.succ ih) l
def Ya (l:List V):V:=cond (pJ l) (.agg (lenV l) (T.setL .lf 0 l)) .bad
def ofC (v:Value):V:=match v with
 | .agg cs=>Ya (Ru cs.toList)
 | v=>ofC1 v
def getD' (t:T V) (k:Nat):V:=match t.get k with | some v=>v | none => .bad
def EA.get (a:EA) (t:Nat):V:=getD' a.tm t
def EA.put (a:EA) (d:Option Tmp) (v:V):EA:=match d with | none=>a | some t=>cond (Nat.blt t a.n) ⟨a.tm.set t v,a.n,a.df⟩ a
def EA.eval (a:EA) (x:Operand):V:=match x with
 | .tmp t=>a.get t
 | .const v=>ofC v
 | .global _ => .bad
 | .func f => .func f [] []
def fN {β:Type} (n:Nat) (k:Nat→β):β:=match n with | 0=>k 0 | m+1=>k (Nat.succ m)
def fI {β:Type} (n:Int) (k:Int→β):β:=match n with | .ofNat a=>fN a fun a=>k (.ofNat a) | .negSucc a=>fN a fun a=>k (.negSucc a)
def ai (a b:Int):Bool:=match a,b with | .ofNat m,.ofNat n=>Nat.ble m n | .negSucc m,.negSucc n=>Nat.ble n m | .negSucc _,.ofNat _=>true | .ofNat _,.negSucc _=>false
def aK (a b:Int):Bool:=match a,b with | .ofNat m,.ofNat n=>Nat.beq m n | .negSucc m,.negSucc n=>Nat.beq m n | .negSucc _,.ofNat _=>false | .ofNat _,.negSucc _=>false
def small (n:Int):Bool:=match n with | .ofNat a=>Nat.ble a 9223372036854775807 | .negSucc a=>Nat.ble a 9223372036854775807
def wr (k:IntKind) (n:Int):Int:=match k with | .i64=>cond (small n) n (IntKind.wrap .i64 n) | k=>k.wrap n
def vI (k:IntKind) (n:Int):Option V:=fI (wr k n) fun n=>some (.int k n)
def Qp (o:Option Nat) (b:Nat):Bool:=match o with | some b'=>Nat.beq b b' | none=>false
def BZ (mn mx:Nat) (at_:T Nat) (sz b:Nat):Bool:=cond (Nat.ble mn sz) (cond (Nat.ble sz mx) (Qp (at_.get sz) b) false) false
def Ql (mn mx:Nat) (at_:T Nat) (sz b:Nat):Bool:=match at_ with | .fn f=>Qp (f 0) b | .lf=>BZ mn mx .lf sz b | .nd x l r=>BZ mn mx (.nd x l r) sz b
def EH.valid (H:EH) (b sz grp:Nat):Bool :=
 match H.grps.get grp with
 | none=>true
 | some (mn,mx,at_)=>Ql mn mx at_ sz b
inductive Blk where
 | no
 | mk (c:T V) (lo sz grp:Nat)
def EH.block (H:EH) (b:Nat):Blk :=
 match H.objs.get b with
 | some (.cells c lo sz grp)=>cond (H.valid b sz grp) (.mk c lo sz grp) .no
 | _ => .no
def gQ (src:T V) (n:Nat):Nat→Nat→T V→Option (T V) :=
 Nat.rec (motive:=fun _=>Nat→Nat→T V→Option (T V)) (fun _ _ dst=>some dst)
  (fun _ ih i j dst=>match src.get i with | some v=>ih (Nat.succ i) (Nat.succ j) (dst.set j v) | none=>none) n
def Np (c:T V) (off n:Nat):Option (T V):=cond (Nat.beq off 0) (some c) (gQ c n off 0 .lf)
def WG (dst:T V) (off sz n:Nat) (src:T V):Option (T V):=cond (Nat.beq off 0) (cond (Nat.beq n sz) (some src) (gQ src n 0 off dst)) (gQ src n 0 off dst)
def EH.loadN (H:EH) (b off n:Nat):Option V :=
 match H.block b with
 | .mk c lo sz _=>cond (Nat.ble lo off) (cond (Nat.ble (Nat.add off n) sz) (match Np c off n with | some c=>some (.agg n c) | none=>none) none) none
 | .no=>none
def EH.load1 (H:EH) (b off:Nat):Option V :=
 match H.block b with
 | .mk c lo sz _=>cond (Nat.ble lo off) (cond (Nat.blt off sz) (c.get off) none) none
 | .no=>none
def bW (a b:Nat):Nat:=cond (Nat.ble a b) a b
def sU (P:Program) (t:TypeId) (x:V) (H:EH):Option (V×EH):=match P.underlying t,x with
 | some (.map _ _),.map r=>match H.objs.get r with
  | some (.map _ clock)=>fN H.next fun b=>some (.ptr b 0,⟨H.objs.set b (.iter (some (r,clock))),Nat.succ b,H.grps,H.low⟩)
  | _=>none
 | _,_=>none
def lq (grps:T qo) (grp sz:Nat):T qo :=
 match grps.get grp with | none=>grps | some (_,_,at_)=>grps.set grp (sz,sz,at_)
def EH.storeIn (H:EH) (b lo sz grp:Nat) (c:Option (T V)):Option EH :=
 match c with
 | some c=>some ⟨H.objs.set b (.cells c lo sz grp),H.next,lq H.grps grp sz,bW H.low grp⟩
 | none=>none
def EH.storeN (H:EH) (b off n:Nat) (src:T V):Option EH :=
 match H.block b with
 | .mk c lo sz grp=>cond (Nat.ble lo off) (cond (Nat.ble (Nat.add off n) sz) (H.storeIn b lo sz grp (WG c off sz n src)) none) none
 | .no=>none
inductive TK where
 | agg (n:Nat)
 | one
 | no
def qy (P:Program) (t:TypeId):TK :=
 match P.underlying t,P.info? t with
 | some (.struct _),some i => .agg i.size
 | some (.array _ _),some i => .agg i.size
 | some _,some i=>cond (Nat.beq i.size 1) .one .no
 | _,_ => .no
def dm (P:Program) (t:TypeId):Option Nat:=match P.info? t with | some i=>some i.size | none=>none
def lY (P:Program) (t:TypeId):Option V:=match P.info? t with | some i=>(match i.zero with | some z=>some (ofC z) | none=>none) | none=>none
def gB (v:V):Option (Nat×T V):=match v with
 | .agg n c=>some (n,c)
 | v=>cond (dE v) (some (1,T.nd (some v) .lf .lf)) none
abbrev VO:=Option (V×EH)
def EH.new (H:EH) (n:Nat) (c:T V) (k:Nat→EH→VO):VO :=
 fN H.next fun b=>k b ⟨H.objs.set b (.cells c 0 n b),Nat.succ b,H.grps,H.low⟩
def EH.newVar (H:EH) (v:V):VO:=match gB v with
 | some (n,c)=>H.new n c fun b H=>some (.ptr b 0,H)
 | none=>none
def EH.newRow (H:EH) (n:Nat) (c:T V) (len e:Nat):VO:=H.new n c fun b H=>some (.slice b 0 len e,H)
def EH.loadK (H:EH) (b off:Nat) (k:TK):Option V:=match k with
 | .agg n=>H.loadN b off n
 | .one=>H.load1 b off
 | .no=>none
def EH.loadVar (P:Program) (H:EH) (t:TypeId) (b off:Nat):Option V:=H.loadK b off (qy P t)
def fzT (g:Nat→V) (n:Nat):Nat→Nat→T V→T V :=
 Nat.rec (motive:=fun _=>Nat→Nat→T V→T V) (fun _ _ t=>t) (fun _ ih i j t=>ih (Nat.succ i) (Nat.succ j) (t.set i (g j))) n
def IE (P:Program) (t:TypeId) (g:Nat→V) (e j:Nat):Option V:=match qy P t with
 | .agg n=>cond (Nat.ble (Nat.add j n) e) (some (.agg n (fzT g n 0 j .lf))) none
 | .one=>cond (Nat.blt j e) (some (g j)) none
 | .no=>none
def rJ (c:T V) (off size:Nat) (v:V):Option (T V):=match gB v with
 | some (n,src)=>cond (Nat.beq n size) (gQ src n 0 off c) none
 | none=>none
def Q8 (P:Program) (fields:Array Field) (tot:Nat) (a:EA) (l:List (Nat×Operand)):T V→Option (T V) :=
 List.rec (motive:=fun _=>T V→Option (T V)) (fun c=>some c)
  (fun p _ ih c=>match fields[p.1]? with
   | none=>none
   | some f=>match dm P f.type with
    | none=>none
    | some size=>cond (Nat.ble (Nat.add f.offset size) tot) (match rJ c f.offset size (a.eval p.2) with | none=>none | some c=>ih c) none) l
def EI (size tot:Nat) (a:EA) (l:List (Nat×Operand)):T V→Option (T V) :=
 List.rec (motive:=fun _=>T V→Option (T V)) (fun c=>some c)
  (fun p _ ih c=>cond (Nat.ble (Nat.add (Nat.mul p.1 size) size) tot) (match rJ c (Nat.mul p.1 size) size (a.eval p.2) with | none=>none | some c=>ih c) none) l
def bO (b:Bool):Option V:=some (.bool b)
def nM (op:BinOp) (k:IntKind) (a b:Int):Option V :=
 match op with
 | .add=>vI k (Int.add a b)
 | .sub=>vI k (Int.sub a b)
 | .mul=>vI k (Int.mul a b)
 | .quo=>cond (aK b 0) none (vI k (Int.tdiv a b))
 | .rem=>cond (aK b 0) none (fI (Int.tmod a b) fun n=>some (.int k n))
 | .eql=>bO (aK a b)
 | .neq=>bO (not (aK a b))
 | .lss=>bO (not (ai b a))
 | .leq=>bO (ai a b)
 | .gtr=>bO (not (ai a b))
 | .geq=>bO (ai b a)
 | .and=>fI (k.wrap (BitVec.ofInt k.bits a &&& BitVec.ofInt k.bits b).toNat) fun n=>some (.int k n)
 | .or=>fI (k.wrap (BitVec.ofInt k.bits a ||| BitVec.ofInt k.bits b).toNat) fun n=>some (.int k n)
 | .xor=>fI (k.wrap (BitVec.ofInt k.bits a ^^^ BitVec.ofInt k.bits b).toNat) fun n=>some (.int k n)
 | .andNot=>fI (k.wrap (BitVec.ofInt k.bits a &&& ~~~BitVec.ofInt k.bits b).toNat) fun n=>some (.int k n)
 | _=>none
def Ak (op:BinOp) (k:IntKind) (a b:Int):Option V :=
 match op with
 | .shl=>cond (ai 0 b) (fI (k.wrap (a*2^(min b.toNat k.bits))) fun n=>some (.int k n)) none
 | .shr=>cond (ai 0 b) (fI (a.fdiv (2^(min b.toNat k.bits))) fun n=>some (.int k n)) none
 | _=>none
def gz (a b:IntKind):Bool:=match a,b with
 | .i64,.i64 | .i32,.i32 | .i16,.i16 | .i8,.i8 | .u64,.u64 | .u32,.u32 | .u16,.u16 | .u8,.u8=>true
 | _,_=>false
def iq (a b:Bool):Bool:=match a,b with | true,true | false,false=>true | _,_=>false
inductive FK where
 | int | bool | no
def fk (P:Program) (t:TypeId):FK:=match P.underlying t with | some (.int _) => .int | some .bool => .bool | _ => .no
def eqK (k:FK) (x y:Option V):Option Bool:=match k,x,y with
 | .int,some (.int k a),some (.int k' b)=>cond (gz k k') (some (aK a b)) none
 | .bool,some (.bool a),some (.bool b)=>some (iq a b)
 | _,_,_=>none
def yN (P:Program) (l:List Field) (c d:T V):Nat→Option Bool :=
 List.rec (motive:=fun _=>Nat→Option Bool) (fun _=>some true)
  (fun f _ ih i=>match eqK (fk P f.type) (c.get i) (d.get i) with | some true=>ih (Nat.succ i) | r=>r) l
def CB (k:FK) (c d:T V) (n:Nat):Nat→Option Bool :=
 Nat.rec (motive:=fun _=>Nat→Option Bool) (fun _=>some true)
  (fun _ ih i=>match eqK k (c.get i) (d.get i) with | some true=>ih (Nat.succ i) | r=>r) n
def iJ (P:Program) (t:TypeId):Bool:=match fk P t with | .no=>false | _=>Nat.beq (P.cellsOf t) 1
def oV (P:Program) (l:List Field):Nat→Bool :=
  List.rec (motive:=fun _=>Nat→Bool) (fun _=>true)
    (fun f _ ih i => cond (iJ P f.type) (cond (decide (f.name ≠ "_")) (cond (Nat.beq f.offset i) (ih (Nat.succ i)) false) false) false) l
def qA (P:Program) (t:TypeId) (fs:Array Field) (n:Nat):Bool:=cond (Nat.beq fs.size n) (cond (oV P fs.toList 0) (not (P.stoodInHeld t)) false) false
def Bg (P:Program) (e:TypeId) (len n:Nat):Bool:=cond (Nat.beq len n) (iJ P e) false
def wu (f:TypeId→Bool) (P:Program) (l:List Field):Nat→Option Nat :=
  List.rec (motive := fun _ => Nat → Option Nat) (fun i => some i) (fun x _ ih i => cond (decide (x.name ≠ "_")) (cond (Nat.beq x.offset i) (cond (f x.type) (ih (Nat.add i (P.cellsOf x.type))) none) none) none) l
def PO (P:Program) (t:TypeId):Bool:=match P.info? t with | some _=>true | none=>false
def mg (P:Program) (m:Nat):TypeId→Bool:=Nat.rec (motive:=fun _=>TypeId→Bool) (fun _=>false) (fun _ ih t=>match P.underlying t with
 | some (.struct fs)=>cond (P.stoodInHeld t) false (match wu ih P fs.toList 0 with | some n=>Nat.beq n (P.cellsOf t) | none=>false)
 | some (.array len e)=>cond (ih e) (cond (Nat.beq (Nat.mul len (P.cellsOf e)) (P.cellsOf t)) (PO P e) false) false
 | _=>iJ P t) m
def JB (g:TypeId→Nat→Option Bool) (off:Nat) (l:List Field):Option Bool:=List.rec (motive:=fun _=>Option Bool) (some true) (fun x _ ih=>match g x.type (Nat.add off x.offset) with | some true=>ih | r=>r) l
def JC (g:Nat→Option Bool) (s k:Nat):Nat→Option Bool:=Nat.rec (motive:=fun _=>Nat→Option Bool) (fun _=>some true) (fun _ ih off=>match g off with | some true=>ih (Nat.add off s) | r=>r) k
def vP (P:Program) (c d:T V) (m:Nat):TypeId→Nat→Option Bool:=Nat.rec (motive:=fun _=>TypeId→Nat→Option Bool) (fun _ _=>none) (fun _ ih t off=>match P.underlying t with
 | some (.struct fs)=>JB ih off fs.toList
 | some (.array len e)=>JC (ih e) (P.cellsOf e) len off
 | _=>eqK (fk P t) (c.get off) (d.get off)) m
def iM (P:Program) (t:TypeId) (n:Nat):Bool:=cond (Nat.beq (P.cellsOf t) n) (mg P 4 t) false
def jq (P:Program) (t:TypeId) (n:Nat) (c d:T V):Option Bool:=match P.underlying t with
 | some (.struct fs)=>cond (qA P t fs n) (yN P fs.toList c d 0) (cond (iM P t n) (vP P c d 4 t 0) none)
 | some (.array len e)=>cond (Bg P e len n) (CB (fk P e) c d n 0) (cond (iM P t n) (vP P c d 4 t 0) none)
 | _=>none
def Yc (P:Program) (l:List Field):FK:=match l with | f::_=>fk P f.type | [] => .no
def MQ (P:Program) (t:TypeId) (n:Nat):FK:=match P.underlying t with
 | some (.struct fs)=>cond (qA P t fs n) (Yc P fs.toList) .no
 | _ => .no
def uS (P:Program) (t:TypeId) (n:Nat) (c d:T V):Option Bool:=match MQ P t n with
 | .int=>(match eqK .int (c.get 0) (d.get 0) with | some false=>some false | _=>jq P t n c d)
 | _=>jq P t n c d
def eqV (op:BinOp) (r:Option Bool):Option V:=match r with
 | some r=>(match op with | .eql=>bO r | .neq=>bO (not r) | _=>none)
 | none=>none
def U0 (op:BinOp) (k:IntKind) (a:Int) (k':IntKind) (b:Int):Option V :=
 match op with
 | .shl=>Ak .shl k a b
 | .shr=>Ak .shr k a b
 | op=>cond (gz k k') (nM op k a b) none
inductive NK where
 | sl | mp | pt | fn | no
def FV (P:Program) (t:TypeId):NK:=match P.underlying t with
 | some (.slice _) => .sl
 | some (.map _ _) => .mp
 | some (.pointer _) => .pt
 | some (.func _ _ _) => .fn
 | _ => .no
def Q7 (k:NK) (x y:V):Option Bool:=match k,x,y with
 | .sl,.nilSlice,.nilSlice=>some true
 | .sl,.nilSlice,.slice _ _ _ _=>some false
 | .sl,.slice _ _ _ _,.nilSlice=>some false
 | .mp,.nilMap,.nilMap=>some true
 | .mp,.nilMap,.map _=>some false
 | .mp,.map _,.nilMap=>some false
 | .pt,.nilPtr,.nilPtr=>some true
 | .pt,.nilPtr,.ptr _ _=>some false
 | .pt,.ptr _ _,.nilPtr=>some false
 | .fn,.nilFunc,.nilFunc=>some true
 | .fn,.nilFunc,.func _ _ _=>some false
 | .fn,.func _ _ _,.nilFunc=>some false
 | _,_,_=>none
def isB (P:Program) (t:TypeId):Bool:=match P.underlying t with | some .bool=>true | _=>false
def BL (P:Program) (op:BinOp) (t:TypeId) (x y:V):Option V :=
 match x,y with
 | .int k a,.int k' b=>U0 op k a k' b
 | .bool a,.bool b=>cond (isB P t) (eqV op (some (iq a b))) none
 | .agg n c,.agg n' d=>cond (Nat.beq n n') (cond (P.eqGuardType P.depth t) none (eqV op (jq P t n c d))) none
 | x,y=>eqV op (Q7 (FV P t) x y)
def zL (n:Nat) (c:T V) (off:Nat) (k:TK):Option V:=match k with
 | .agg m=>cond (Nat.ble (Nat.add off m) n) (match Np c off m with | some c=>some (.agg m c) | none=>none) none
 | .one=>cond (Nat.blt off n) (c.get off) none
 | .no=>none
def jf (v:Nat) (m:Nat):Nat→T Nat→T Nat :=
 Nat.rec (motive:=fun _=>Nat→T Nat→T Nat) (fun _ at_=>at_) (fun _ ih i at_=>ih (Nat.succ i) (at_.set i v)) m
def iO (H:EH) (grp sz b:Nat):qo:=match H.grps.get grp with | none=>(sz,sz,T.set .lf sz b) | some g=>g
def GR (b:Nat):qo:=(0,0,.fn fun _=>some b)
def U9 (mn:Nat) (at_:T Nat) (n sz' b:Nat):qo:=(bW mn sz',sz',(jf b (Nat.sub sz' n) (Nat.succ n) at_))
def XL (mn:Nat) (at_:T Nat) (n sz' b:Nat):qo:=match at_ with | .fn _=>GR b | .lf=>U9 mn .lf n sz' b | .nd x l r=>U9 mn (.nd x l r) n sz' b
def appG (gs:T qo) (g:qo) (n sz' b:Nat):qo:=match gs with | .fn _=>GR b | _=>(match g with | (mn,_,at_)=>XL mn at_ n sz' b)
def PW (H:EH) (e off len m:Nat) (c:T V) (grp n sz':Nat) (g:qo):VO :=
 fN H.next fun b=>some (.slice b off (Nat.add len m) e,
  ⟨H.objs.set b (.cells c off sz' grp),Nat.succ b,H.grps.set grp (appG H.grps g n sz' b),bW H.low grp⟩)
structure Cs where
 (c:T V) (off n m:Nat)
def fH (H:EH) (e:Nat) (x:V):Option Cs:=match x with
 | .nilSlice=>some ⟨.lf,0,0,0⟩
 | .slice b off len e'=>cond (Nat.beq e e') (match H.block b with
  | .mk c lo sz _=>cond (Nat.ble lo off) (cond (Nat.ble (Nat.add off (Nat.mul len e)) sz) (some ⟨c,off,Nat.mul len e,len⟩) none) none
  | .no=>none) none
 | .fz _ _ c len e'=>cond (Nat.beq e e') (some ⟨.fn (fun k=>some (c (Nat.div k e) (Nat.mod k e))),0,Nat.mul len e,len⟩) none
 | _=>none
def Gz (H:EH) (e b off len:Nat) (xs:Cs):VO :=
 match H.block b with
 | .mk c lo sz grp=>fN (Nat.add off (Nat.mul len e)) fun n =>
  cond (Nat.ble lo off) (cond (Nat.ble n sz) (match gQ xs.c xs.n xs.off n c with
   | some c=>PW H e off len xs.m c grp n (Nat.add n xs.n) (iO H grp sz b)
   | none=>none) none) none
 | .no=>none
def isE (s:V):Bool:=match s with | .nilSlice=>true | .fz false _ _ 0 0=>true | _=>false
def Io (H:EH) (e:Nat) (xs:Cs):VO:=match gQ xs.c xs.n xs.off 0 .lf with | some c=>H.newRow xs.n c xs.m e | none=>none
def EH.appendV (H:EH) (e:Nat) (s:V) (xs:Cs):VO:=match s with
 | .slice b off len e'=>cond (Nat.beq xs.m 0) (some (.slice b off len e',H)) (cond (Nat.beq e e') (Gz H e b off len xs) none)
 | s=>cond (isE s) (cond (Nat.beq xs.m 0) (some (s,H)) (Io H e xs)) none
def fC (P:Program) (t:TypeId) (k k':V):Option Bool:=match k,k' with
 | .agg n c,.agg n' d=>cond (Nat.beq n n') (uS P t n c d) none
 | k,k'=>eqK (fk P t) (some k) (some k')
def kZ (P:Program) (t:TypeId) (k:V) (l:List (V×V×Nat)):Bool:=List.rec (motive:=fun _=>Bool) true (fun e _ ih=>match fC P t k e.1 with | some false=>ih | _=>false) l
def yU (P:Program) (t:TypeId) (k:V) (l:List (V×V×Nat)):Nat→Option (Option (Nat×V)) :=
 List.rec (motive:=fun _=>Nat→Option (Option (Nat×V))) (fun _=>some none)
  (fun e es ih i=>match fC P t k e.1 with | some true=>cond (kZ P t k es) (some (some (i,e.2.1))) none | some false=>ih (Nat.succ i) | none=>none) l
def q2 (P:Program) (t:TypeId) (n:Nat) (c:T V) (kk:IntKind) (a:Int) (d:T V) (o:Option V):Option Bool:=match o with
 | some (.int k2 b)=>Bool.rec (motive:=fun _=>Option Bool) (jq P t n c d) (Bool.rec (motive:=fun _=>Option Bool) (some false) (jq P t n c d) (aK a b)) (gz kk k2)
 | _=>jq P t n c d
def q1 (P:Program) (t:TypeId) (n:Nat) (c:T V) (kk:IntKind) (a:Int) (k':V):Option Bool:=match k' with
 | .agg n' d=>Bool.rec (motive:=fun _=>Option Bool) none (q2 P t n c kk a d (d.get 0)) (Nat.beq n n')
 | k'=>fC P t (.agg n c) k'
def OE (P:Program) (t:TypeId) (n:Nat) (c:T V) (kk:IntKind) (a:Int) (l:List (V×V×Nat)):Nat→Option (Option (Nat×V)) :=
 List.rec (motive:=fun _=>Nat→Option (Option (Nat×V))) (fun _=>some none)
  (fun e es ih i=>match q1 P t n c kk a e.1 with | some true=>cond (kZ P t (.agg n c) es) (some (some (i,e.2.1))) none | some false=>ih (Nat.succ i) | none=>none) l
def QI (P:Program) (t:TypeId) (n:Nat) (c:T V) (f:FK) (o:Option V) (l:List (V×V×Nat)) (i:Nat):Option (Option (Nat×V)):=match f,o with
 | .int,some (.int kk a)=>fI a fun a=>OE P t n c kk a l i
 | _,_=>yU P t (.agg n c) l i
def gu (P:Program) (t:TypeId) (k:V) (l:List (V×V×Nat)) (i:Nat):Option (Option (Nat×V)):=match k with
 | .agg n c=>QI P t n c (MQ P t n) (c.get 0) l i
 | k=>yU P t k l i
def JJ (k v:V) (l:List (V×V×Nat)):Nat→List (V×V×Nat) :=
 List.rec (motive:=fun _=>Nat→List (V×V×Nat)) (fun _=>[])
  (fun e es ih i=>match i with | 0=>(k,v,e.2.2)::es | i+1=>e::ih i) l
def Vg (l:List (V×V×Nat)) (e:V×V×Nat):List (V×V×Nat):=e::l
def FQ (l:List (V×V×Nat)):Nat:=List.rec (motive:=fun _=>Nat) 0 (fun _ _ ih=>Nat.succ ih) l
def keyS (P:Program) (t:TypeId) (n:Nat):Bool:=match P.underlying t with | some (.struct fs)=>cond (qA P t fs n) true (iM P t n) | some (.array _ _)=>iM P t n | _=>false
def wC (P:Program) (t:TypeId) (k:V):Bool:=match k,fk P t with
 | .int _ _,.int=>true
 | .bool _,.bool=>true
 | .agg n _,_=>keyS P t n
 | _,_=>false
def sliceB (x:Option V) (dflt y:Nat):Option Nat :=
 match x with
 | none=>some dflt
 | some (.int _ (.ofNat i))=>cond (Nat.ble i y) (some i) none
 | some _=>none
inductive Res where
 | v (v:V) (H:EH)
 | normal (a:EA) (H:EH)
 | exit (id:Nat) (a:EA) (H:EH)
 | ret (a:EA) (H:EH)
inductive Task where
 | call (f:FuncId) (args:List V) (H:EH)
 | callV (fn:V) (args:List V) (H:EH)
 | code (ro:Option Nat) (c:Code) (a:EA) (H:EH)
def iI (H:EH) (v:Option V):VO:=match v with | some v=>some (v,H) | none=>none
def oO (c x y:V) (H:EH):VO:=match c with | .bool true=>some (x,H) | .bool false=>some (y,H) | _=>none
def rP (P:Program) (t:TypeId) (H:EH):VO:=match lY P t with | some z=>H.newVar z | none=>none
def zM (n:Nat) (c:Option (T V)) (H:EH):VO:=match c with | some c=>some (.agg n c,H) | none=>none
def rowOf (n len e:Nat) (c:Option (T V)) (H:EH):VO:=match c with | some c=>H.newRow n c len e | none=>none
def tV (P:Program) (t:TypeId):Bool:=match P.info? t with | some _=>true | none=>false
def wU (P:Program) (l:List Field):Bool:=List.rec (motive:=fun _=>Bool) true (fun f _ ih=>cond (tV P f.type) ih false) l
def ry (P:Program) (t:TypeId) (parts:Array (Nat×Operand)) (a:EA) (H:EH):VO :=
 match P.underlying t,lY P t with
 | some (.struct fields),some (.agg n z)=>cond (wU P fields.toList) (zM n (Q8 P fields n a parts.toList z) H) none
 | some (.array _ elem),some (.agg n z)=>match dm P elem with
  | some size=>zM n (EI size n a parts.toList z) H
  | none=>none
 | _,_=>none
def He (n:Nat) (z:T V) (m:Nat):Nat→T V→Option (T V) :=
 Nat.rec (motive:=fun _=>Nat→T V→Option (T V)) (fun _ c=>some c)
  (fun _ ih i c=>match gQ z n 0 i c with | some c=>ih (Nat.add i n) c | none=>none) m
def Dz (z:V) (len:Nat) (k:Nat→T V→VO):VO:=match gB z with
 | some (n,z)=>match He n z len 0 .lf with | some c=>k n c | none=>none
 | none=>none
def iT (P:Program) (t:TypeId) (len:Nat) (parts:Array (Nat×Operand)) (a:EA) (H:EH):VO :=
 match P.underlying t with
 | some (.slice elem)=>cond (Nat.beq len 0) (cond (Nat.beq parts.size 0) (match dm P elem with | some _=>(match lY P elem with | some _=>fN H.next fun b=>some (.fz false b (fun _ _ => .bad) 0 0,⟨H.objs,Nat.succ b,H.grps,H.low⟩) | none=>none) | none=>none) none)<|match dm P elem,lY P elem with
  | some size,some z=>Dz z len fun n c=>cond (Nat.beq n size) (cond (Nat.ble (Nat.mul len size) 65536) (rowOf (Nat.mul len size) len size (EI size (Nat.mul len size) a parts.toList c) H) none) none
  | _,_=>none
 | _=>none
def uI (P:Program) (t:TypeId) (x:V) (H:EH):VO:=match x with
 | .ptr b off=>iI H (H.loadVar P t b off)
 | .fp _ g e j=>iI H (IE P t g e j)
 | _=>none
def stO (r:Option EH):VO:=match r with | some H=>some (.bad,H) | none=>none
def rE (P:Program) (t:TypeId) (x y:V) (H:EH):VO:=match x with
 | .ptr b off=>match dm P t,gB y with
  | some n,some (m,c)=>cond (Nat.beq n m) (stO (H.storeN b off n c)) none
  | _,_=>none
 | _=>none
def ja (x:V) (H:EH):VO:=match x with
 | .ptr b off=>some (.ptr b off,H)
 | .fp a g e j=>some (.fp a g e j,H)
 | .func f x y=>some (.func f x y,H)
 | .yld l=>some (.yld l,H)
 | .slice b o l e=>some (.slice b o l e,H)
 | .map r=>some (.map r,H)
 | _=>none
def FT (op:UnOp) (x:V) (H:EH):VO:=match op,x with
 | .not,.bool b=>some (.bool (not b),H)
 | .neg,.int k n=>iI H (vI k (Int.sub 0 n))
 | _,_=>none
def qL (P:Program) (src dst:TypeId) (x:V) (H:EH):VO:=match P.underlying src,P.underlying dst,x with
 | some _,some (.int k),.int _ n=>iI H (fI (k.wrap n) fun n=>some (.int k n))
 | _,_,_=>none
def mapO (a:EA) (l:List Operand):List V:=List.rec (motive:=fun _=>List V) [] (fun x _ ih=>a.eval x::ih) l
def kJ (fn:Fn) (first captured:List V) (H:EH):VO:=match fn with
 | .func f=>some (.func f first captured,H)
 | _=>none
def iY (H:EH):VO:=fN H.next fun b=>some (.map b,⟨H.objs.set b (.map [] 0),Nat.succ b,H.grps,H.low⟩)
def kU (P:Program) (t:TypeId) (x:V) (H:EH):VO:=match P.underlying t,x with
 | some (.map _ _),.int _ _=>iY H
 | _,_=>none
def wR (P:Program) (t:TypeId) (m:Nat):Bool:=match P.info? t with | some i=>Nat.ble (Nat.mul i.bytes m) 281474976710656 | none=>false
def jo (P:Program) (t:TypeId) (l c:V) (H:EH):VO:=match P.underlying t,l,c with
 | some (.slice elem),.int _ (.ofNat n),.int _ (.ofNat m)=>match dm P elem,lY P elem with
  | some size,some z=>cond (Nat.ble n m) (cond (Nat.ble m 65536) (cond (wR P elem m) (Dz z m fun k c=>cond (Nat.beq k size) (H.newRow (Nat.mul m size) c n size) none) none) none) none
  | _,_=>none
 | _,_,_=>none
def lU (P:Program) (t:TypeId) (x:V) (lo hi mx:Option V) (H:EH):VO:=match P.underlying t with
 | some (.slice elem)=>match dm P elem,x,hi,mx with
  | some e,.slice b off len e',some hi,some mx=>cond (Nat.beq e e') (match sliceB (some mx) 0 len with
   | some m=>match sliceB (some hi) 0 m with
    | some h=>match sliceB lo 0 h with
     | some l=>some (.slice b (Nat.add off (Nat.mul l e)) (Nat.sub h l) e,H)
     | none=>none
    | none=>none
   | none=>none) none
  | _,_,_,_=>none
 | _=>none
def pX (P:Program) (t:TypeId) (x:V) (lo hi:Option V) (H:EH):VO:=match P.underlying t with
 | some (.slice elem)=>match dm P elem,x with
  | some e,.slice b off len e'=>cond (Nat.beq e e') (match sliceB hi len len with
   | some h=>match sliceB lo 0 h with
    | some l=>some (.slice b (Nat.add off (Nat.mul l e)) (Nat.sub h l) e,H)
    | none=>none
   | none=>none) none
  | some _,.nilSlice=>match sliceB hi 0 0 with
   | some h=>match sliceB lo 0 h with
    | some _=>some (.nilSlice,H)
    | none=>none
   | none=>none
  | some e,.fz k a c len e'=>cond (Nat.beq e e') (match sliceB hi len len with
   | some h=>match sliceB lo 0 h with
    | some l=>some (.fz k a (fun i=>c (Nat.add l i)) (Nat.sub h l) e,H)
    | none=>none
   | none=>none) none
  | _,_=>none
 | some (.array n elem)=>match dm P elem,x with
  | some e,.ptr b off=>match H.block b with
   | .mk _ lo0 sz _=>cond (Nat.ble lo0 off) (cond (Nat.ble (Nat.add off (Nat.mul n e)) sz) (cond (Nat.blt 0 (Nat.mul n e)) (match sliceB hi n n with
    | some h=>match sliceB lo 0 h with
     | some l=>fN (Nat.add off (Nat.mul l e)) fun o=>some (.slice b o (Nat.sub h l) e,H)
     | none=>none
    | none=>none) none) none) none
   | .no=>none
  | _,_=>none
 | _=>none
def Ny (b off n:Nat) (H:EH):VO:=fN (Nat.add off n) fun off=>some (.ptr b off,H)
def Uh (b off:Nat) (fd:Field) (s:Option Nat) (H:EH):VO:=match s with
 | some (_+1)=>Ny b off fd.offset H
 | _=>none
def fpO (a:Nat) (g:Nat→V) (e j n:Nat) (H:EH):VO:=fN (Nat.add j n) fun j=>some (.fp a g e j,H)
def UL (a:Nat) (g:Nat→V) (e j:Nat) (fd:Field) (s:Option Nat) (H:EH):VO:=match s with
 | some (_+1)=>fpO a g e j fd.offset H
 | _=>none
def jr (P:Program) (s:TypeId) (x:V) (f:Nat) (H:EH):VO:=match P.underlying s,x with
 | some (.struct fields),.ptr b off=>match fields[f]? with
  | some fd=>Uh b off fd (dm P fd.type) H
  | none=>none
 | some (.struct fields),.fp a g e j=>match fields[f]? with
  | some fd=>UL a g e j fd (dm P fd.type) H
  | none=>none
 | _,_=>none
def sS (P:Program) (s:TypeId) (x:V) (f:Nat) (H:EH):VO:=match P.underlying s,x with
 | some (.struct fields),.agg n c=>match fields[f]? with
  | some fd=>iI H (zL n c fd.offset (qy P fd.type))
  | none=>none
 | _,_=>none
def inN (k:Int) (len:Nat):Option Nat:=match k with | .ofNat n=>cond (Nat.blt n len) (some n) none | .negSucc _=>none
def cZ (k:Int) (len:Nat):Bool:=match k with | .ofNat n=>Nat.blt n len | .negSucc _=>false
def ixF (a:Nat) (c:Nat→Nat→V) (len e:Nat) (s:Option Nat) (k:Int) (H:EH):VO:=match s with
 | some e'=>cond (Nat.beq e e') (cond (cZ k len) (some (.fp a (c k.toNat) e 0,H)) none) none
 | none=>none
def ixO (b off:Nat) (e:Option Nat) (i:Option Nat) (H:EH):VO:=match e,i with
 | some e,some n=>Ny b off (Nat.mul n e) H
 | _,_=>none
def dG (P:Program) (t:TypeId) (x i:V) (H:EH):VO:=match P.underlying t,x,i with
 | some (.slice elem),.slice b off len _,.int _ k=>ixO b off (dm P elem) (inN k len) H
 | some (.array len elem),.ptr b off,.int _ k=>ixO b off (dm P elem) (inN k len) H
 | some (.slice elem),.fz _ a c len e,.int _ k=>ixF a c len e (dm P elem) k H
 | _,_,_=>none
def fU (P:Program) (t:TypeId) (x i:V) (H:EH):VO:=match P.underlying t,x,i with
 | some (.array len elem),.agg n c,.int _ k=>match dm P elem,inN k len with
  | some e,some i=>iI H (zL n c (Nat.mul i e) (qy P elem))
  | _,_=>none
 | some .string,.str s,.int _ (.ofNat n)=>match s[n]? with
  | some b=>fN b.toNat fun m=>some (.int .u8 (.ofNat m),H)
  | none=>none
 | _,_,_=>none
def okV (ok:Bool) (v:V) (b:Bool):V:=cond ok (.tup [v,.bool b]) v
def mX (z:V) (ok:Bool) (H:EH) (r:Option (Option (Nat×V))):VO:=match r with
 | some (some (_,v))=>some (okV ok v true,H)
 | some none=>some (okV ok z false,H)
 | none=>none
def dF (P:Program) (t:TypeId) (x i:V) (ok:Bool) (H:EH):VO:=match P.underlying t,x with
 | some (.map key elem),.map r=>match H.objs.get r,lY P elem with
  | some (.map es _),some z=>cond (wC P key i) (mX z ok H (gu P key i es 0)) none
  | _,_=>none
 | _,_=>none
def fE {β:Type} (l:List (V×V×Nat)):(List (V×V×Nat)→β)→β:=List.rec (motive:=fun _=>(List (V×V×Nat)→β)→β) (fun k=>k []) (fun x _ ih k=>ih (fun l=>k (x::l))) l
def VH (r:Nat) (k x:V) (es:List (V×V×Nat)) (clock:Nat) (H:EH) (p:Option (Option (Nat×V))):VO:=match p with
 | some (some (i,_))=>fE (JJ k x es i) fun l=>some (.bad,⟨H.objs.set r (.map l clock),H.next,H.grps,bW H.low r⟩)
 | some none=>fN (Nat.succ clock) fun c=>some (.bad,⟨H.objs.set r (.map ((k,x,clock)::es) c),H.next,H.grps,bW H.low r⟩)
 | none=>none
def OT (r:Nat) (k x:V) (es:List (V×V×Nat)) (clock:Nat) (H:EH) (p:Option (Option (Nat×V))):VO:=match p with
 | some (some (i,_))=>some (.bad,⟨H.objs.set r (.map (JJ k x es i) clock),H.next,H.grps,bW H.low r⟩)
 | some none=>some (.bad,⟨H.objs.set r (.map (Vg es (k,x,clock)) (Nat.succ clock)),H.next,H.grps,bW H.low r⟩)
 | none=>none
def fQ (P:Program) (t:TypeId) (m k x:V) (H:EH):VO:=match P.underlying t,m with
 | some (.map key _),.map r=>match H.objs.get r with
  | some (.map es clock)=>cond (wC P key k) (VH r k x es clock H (gu P key k es 0)) none
  | _=>none
 | _,_=>none
def Ja (_:Program) (_:TypeId) (_ _:V) (_:EH):VO:=none
def BU (_ _ _:V) (_:EH):VO:=none
def Td (r:Option EH):VO:=match r with | some H=>some (.tup [],H) | none=>none
def rF (P:Program) (t:TypeId) (x:V) (H:EH):VO:=match P.underlying t,x with
 | some (.slice elem),.slice b off len e=>match dm P elem,lY P elem with
  | some size,some z=>cond (Nat.beq size e) (cond (Nat.beq len 0) (some (.tup [],H)) (Dz z len fun n c=>cond (Nat.beq n e) (Td (H.storeN b off (Nat.mul len n) c)) none)) none
  | _,_=>none
 | some (.slice _),.nilSlice=>some (.tup [],H)
 | _,_=>none
def Uw (l:List V):Nat→Option V:=List.rec (motive:=fun _=>Nat→Option V) (fun _=>none) (fun x _ ih i=>match i with | 0=>some x | i+1=>ih i) l
def lV (t:V) (i:Nat) (H:EH):VO:=match t with | .tup l=>iI H (Uw l i) | _=>none
def MG (P:Program) (t:TypeId):NK:=FV P t
def Gv (k:NK) (x:V) (H:EH):VO:=match k,x with
 | .sl,.slice _ _ n _=>some (.int .i64 (.ofNat n),H)
 | .sl,.nilSlice=>some (.int .i64 (.ofNat 0),H)
 | .sl,.fz _ _ _ n _=>some (.int .i64 (.ofNat n),H)
 | .mp,.nilMap=>some (.int .i64 (.ofNat 0),H)
 | .mp,.map r=>match H.objs.get r with | some (.map es _)=>some (.int .i64 (.ofNat (FQ es)),H) | _=>none
 | _,_=>none
def l9 (P:Program) (elem:TypeId) (e need:Nat):Bool:=match P.info? elem with
 | some i=>cond (Nat.blt 0 e) (cond (Nat.ble (Nat.mul (Nat.add (Nat.mul 2 need) 200) i.bytes) 281474976710656) (cond (Nat.ble need 281474976710656) (match i.zero with
  | some z=>(match gB (ofC z) with | some (n,_)=>Nat.beq n e | none=>false)
  | none=>false) false) false) false
 | none=>false
def O9 (s:V):Nat:=match s with | .slice _ _ len _=>len | _=>0
def Ce (c:Nat→Nat→V) (len e:Nat) (H:EH):VO:=fN H.next fun b=>some (.fz true b c len e,⟨H.objs,Nat.succ b,H.grps,H.low⟩)
def Sm (P:Program) (elem:TypeId) (e e':Nat) (s:V):Bool:=cond (Nat.beq e e') (cond (isE s) (l9 P elem e 1048576) false) false
def Zp (x:V):Bool:=match x with | .fz k _ _ _ _=>k | _=>false
def qP (x:V):Nat:=match x with | .fz _ _ _ n _=>n | _=>0
def Uk (s:V):Bool:=match s with | .fz false _ _ 0 0=>true | _=>false
def Tj (e:Nat) (s x:V):Bool:=cond (Zp x) (cond (isE s) (cond (Nat.beq e 1) true (not (Uk s))) false) false
def I9 (P:Program) (elem:TypeId) (e:Nat) (s x:V) (H:EH):VO:=match x with
 | .fz _ a c len e'=>cond (Sm P elem e e' s) (cond (Nat.ble a H.next) (Ce c len e H) none) none
 | _=>none
def IW (P:Program) (elem:TypeId) (e:Nat) (s x:V) (H:EH):VO:=match fH H e x with
 | some xs=>cond (l9 P elem e (Nat.add (O9 s) xs.m)) (H.appendV e s xs) none
 | none=>none
def jH (P:Program) (st xt:TypeId) (s x:V) (H:EH):VO:=match P.underlying st,P.underlying xt with
 | some (.slice elem),some (.slice _)=>match dm P elem with
  | some e=>cond (Tj e s x) (cond (Nat.ble (qP x) 1048576) (I9 P elem e s x H) none) (IW P elem e s x H)
  | none=>none
 | _,_=>none
def J4 (x y:V) (H:EH):VO:=match x,y with
 | .int k x,.int _ y=>some (.int k (cond (ai x y) x y),H)
 | _,_=>none
def KL (x y:V) (H:EH):VO:=match x,y with
 | .int k x,.int _ y=>some (.int k (cond (ai y x) x y),H)
 | _,_=>none
def cpO (m:Nat) (r:Option EH):VO:=match r with | some H=>some (.int .i64 (.ofNat m),H) | none=>none
def xA (P:Program) (t:TypeId) (s x:V) (H:EH):VO:=match P.underlying t with
 | some (.slice elem)=>match dm P elem,s with
  | some e,.slice b off len e'=>cond (Nat.beq e e') (match fH H e x with
   | some xs=>cond (Nat.ble xs.m len) (cond (Nat.beq xs.m 0) (some (.int .i64 (.ofNat 0),H)) (match gQ xs.c xs.n xs.off 0 .lf with
    | some c=>cpO xs.m (H.storeN b off xs.n c)
    | none=>none)) none
   | none=>none) none
  | _,_=>none
 | _=>none
def KG (k:NK) (x:V) (H:EH):VO:=match k,x with
 | .sl,.nilSlice=>some (.int .i64 (.ofNat 0),H)
 | _,_=>none
def Nj (P:Program) (st:TypeId) (s x:V) (H:EH):VO:=match P.underlying st,s,x with
 | some (.slice elem),.nilSlice,.int _ (.ofNat m)=>match dm P elem,lY P elem with
  | some size,some z=>cond (Nat.blt 0 m) (cond (Nat.ble m 65536) (cond (l9 P elem size m) (Dz z m fun k c=>cond (Nat.beq k size) (H.newRow (Nat.mul m size) c m size) none) none) none) none
  | _,_=>none
 | _,_,_=>none
def qJ (u:Option TypeDesc):Bool:=match u with | some (.int _)=>true | _=>false
def uN (P:Program) (st xt:TypeId) (s x:V) (H:EH):VO:=cond (qJ (P.underlying xt)) (Nj P st s x H) (jH P st xt s x H)
def iy (P:Program) (b:Builtin) (ts:List TypeId) (args:List V) (H:EH):VO:=match b,ts,args with
 | .len,t::_,x::_=>Gv (MG P t) x H
 | .append,st::xt::_,s::x::_=>uN P st xt s x H
 | .cap,t::_,x::_=>KG (MG P t) x H
 | .min,_,[x,y]=>J4 x y H
 | .max,_,[x,y]=>KL x y H
 | .clear,t::_,x::_=>rF P t x H
 | .copy,t::_,s::x::_=>xA P t s x H
 | _,_,_=>none
def uh (a:EA) (x:Option Operand):Option V:=match x with | some x=>some (a.eval x) | none=>none
abbrev qx:=Program→EA→EH→VO
def Vm (x:Operand):qx:=fun _ a H=>some (a.eval x,H)
def W9 (c x y:Operand):qx:=fun _ a H=>oO (a.eval c) (a.eval x) (a.eval y) H
def V6 (t:TypeId):qx:=fun P _ H=>rP P t H
def Yg (_:TypeId) (x:Operand):qx:=fun _ a H=>H.newVar (a.eval x)
def VT (t:TypeId) (parts:Array (Nat×Operand)):qx:=fun P a H=>ry P t parts a H
def EU (t:TypeId) (len:Nat) (parts:Array (Nat×Operand)):qx:=fun P a H=>iT P t len parts a H
def XH (t:TypeId) (x:Operand):qx:=fun P a H=>uI P t (a.eval x) H
def VG (t:TypeId) (x y:Operand):qx:=fun P a H=>rE P t (a.eval x) (a.eval y) H
def Oe (x:Operand):qx:=fun _ a H=>ja (a.eval x) H
def YZ (op:BinOp) (t:TypeId) (x y:Operand):qx:=fun P a H=>iI H (BL P op t (a.eval x) (a.eval y))
def aUn (op:UnOp) (x:Operand):qx:=fun _ a H=>FT op (a.eval x) H
def XW (src dst:TypeId) (x:Operand):qx:=fun P a H=>qL P src dst (a.eval x) H
def N8 (fn:Fn) (first captured:Array Operand):qx:=fun _ a H=>kJ fn (mapO a first.toList) (mapO a captured.toList) H
def RQ (t:TypeId) (r:Option Operand):qx:=match r with | none=>fun _ _ H=>iY H | some r=>fun P a H=>kU P t (a.eval r) H
def Ik (t:TypeId) (l c:Operand):qx:=fun P a H=>jo P t (a.eval l) (a.eval c) H
def VI (t:TypeId) (x:Operand) (lo hi mx:Option Operand):qx:=match mx with | none=>fun P a H=>pX P t (a.eval x) (uh a lo) (uh a hi) H | some m=>fun P a H=>lU P t (a.eval x) (uh a lo) (uh a hi) (some (a.eval m)) H
def Jy (s:TypeId) (x:Operand) (f:Nat):qx:=fun P a H=>jr P s (a.eval x) f H
def Wi (s:TypeId) (x:Operand) (f:Nat):qx:=fun P a H=>sS P s (a.eval x) f H
def IU (t:TypeId) (x i:Operand):qx:=fun P a H=>dG P t (a.eval x) (a.eval i) H
def WB (t:TypeId) (x i:Operand):qx:=fun P a H=>fU P t (a.eval x) (a.eval i) H
def SY (t:TypeId) (x i:Operand) (ok:Bool):qx:=fun P a H=>dF P t (a.eval x) (a.eval i) ok H
def yA (t:TypeId) (m k x:Operand):qx:=fun P a H=>fQ P t (a.eval m) (a.eval k) (a.eval x) H
def WM (t:TypeId) (x:Operand):qx:=fun P a H=>sU P t (a.eval x) H
def LJ (t:TypeId) (m k:Operand):qx:=fun P a H=>Ja P t (a.eval m) (a.eval k) H
def F5 (m s x:Operand):qx:=fun _ a H=>BU (a.eval m) (a.eval s) (a.eval x) H
def QJ (t:Operand) (i:Nat):qx:=fun _ a H=>lV (a.eval t) i H
def aNo:qx:=fun _ _ _=>none
def Ot (args:Array Operand) (ts:Array TypeId) (c:Callee):qx:=match c with | .builtin b=>fun P a H=>iy P b ts.toList (mapO a args.toList) H | _=>aNo
def WV (c:Call):qx:=Ot c.args c.argTypes c.callee
inductive AltB where
 | mk (f:qx)
def P8 (op:Op):AltB :=
 match op with
 | .move x => .mk (Vm x)
 | .assign x => .mk (Vm x)
 | .pick c x y => .mk (W9 c x y)
 | .alloc t => .mk (V6 t)
 | .box t x => .mk (Yg t x)
 | .build t parts => .mk (VT t parts)
 | .buildSlice t len parts => .mk (EU t len parts)
 | .load t x => .mk (XH t x)
 | .store t x y => .mk (VG t x y)
 | .nilCheck x => .mk (Oe x)
 | .binOp op t x y _ => .mk (YZ op t x y)
 | .unOp op _ x => .mk (aUn op x)
 | .convert src dst x => .mk (XW src dst x)
 | .makeFunc fn first captured => .mk (N8 fn first captured)
 | .makeMap t r => .mk (RQ t r)
 | .makeSlice t l c => .mk (Ik t l c)
 | .slice t x lo hi mx => .mk (VI t x lo hi mx)
 | .fieldAddr s x f => .mk (Jy s x f)
 | .field s x f => .mk (Wi s x f)
 | .indexAddr t x i => .mk (IU t x i)
 | .index t x i => .mk (WB t x i)
 | .lookup t x i ok => .mk (SY t x i ok)
 | .mapUpdate t m k x => .mk (yA t m k x)
 | .insert t m k x => .mk (yA t m k x)
 | .extract t i => .mk (QJ t i)
 | .range t x => .mk (WM t x)
 | .mapEntry t m k => .mk (LJ t m k)
 | .entryStore _ m s x => .mk (F5 m s x)
 | .call c => .mk (WV c)
 | _ => .mk (aNo)
def Zk (b:AltB):qx:=match b with | .mk f=>f
def je (op:Op):qx:=Zk (P8 op)
def JP (r:Option Res):VO:=match r with | some (.v v H)=>some (v,H) | _=>none
inductive OpK where
 | light
 | heavy (g:Operand) (args:Array Operand)
def YJ (c:Call):OpK:=match c.callee with | .value g => .heavy g c.args | _ => .light
def qi (op:Op):OpK:=match op with | .call c=>YJ c | _ => .light
def JM (op:Op) (P:Program) (f:Task→Option Res) (a:EA) (H:EH) (k:OpK):VO:=match k with
 | .light=>je op P a H
 | .heavy g args=>JP (f (.callV (a.eval g) (mapO a args.toList) H))
def mV (P:Program) (f:Task→Option Res) (a:EA) (H:EH) (op:Op):VO:=JM op P f a H (qi op)
inductive W3 where
 | yes | no | unk
def skp:V := .tup []
def w3 (v:V) (want:Bool):W3:=match v with | .bool b=>cond (iq b want) .yes .no | .bad => .unk | _ => .no
def dH (ops:Array Oper) (a:EA) (g:Option (Nat×Bool)):W3 :=
 match g with
 | none => .yes
 | some (j,want)=>match ops[j]? with
  | some o'=>match o'.dst with
   | some d=>w3 (a.get d) want
   | none => .unk
  | none => .unk
structure FP where
 lo:Nat
 hi:Nat
 rd:List Nat
 wrs:List Nat
 hv:Nat
def mf (H:EH) (b:Nat):List Nat:=match H.objs.get b with
 | some (.cells _ _ _ g)=>[g]
 | some _=>[b]
 | none=>[]
def dM (H:EH) (v:V):List Nat:=match v with
 | .ptr b _=>mf H b
 | .slice b _ _ _=>mf H b
 | .map r=>[r]
 | _=>[]
def Xy (H:EH) (v:V):List Nat:=match v with
 | .ptr b _=>mf H b
 | _=>[]
inductive TouchK where
 | none
 | rd (x:Operand)
 | rdp (x:Operand)
 | wr (x:Operand)
 | app (s x:Operand)
def DU (b:Builtin) (l:List Operand):TouchK:=match b,l with
 | .len,x::_ => .rd x
 | .append,s::x::_ => .app s x
 | .clear,x::_ => .wr x
 | .copy,s::x::_ => .app s x
 | _,_ => .none
def Oi (c:Call):TouchK:=match c.callee with | .builtin b=>DU b c.args.toList | _ => .none
def touch (op:Op):TouchK:=match op with
 | .load _ x => .rd x
 | .slice _ x _ _ _ => .rdp x
 | .store _ x _ => .wr x
 | .lookup _ x _ _ => .rd x
 | .mapUpdate _ m _ _ => .wr m
 | .insert _ m _ _ => .wr m
 | .range _ x => .rd x
 | .mapEntry _ m _ => .wr m
 | .entryStore _ m _ _ => .wr m
 | .call c=>Oi c
 | _ => .none
def fpL (a:EA) (H H':EH) (k:TouchK):FP:=match k with
 | .none=>⟨H.next,H'.next,[],[],0⟩
 | .rd x=>⟨H.next,H'.next,dM H (a.eval x),[],0⟩
 | .rdp x=>⟨H.next,H'.next,Xy H (a.eval x),[],0⟩
 | .wr x=>⟨H.next,H'.next,[],dM H (a.eval x),0⟩
 | .app s x=>⟨H.next,H'.next,dM H (a.eval x),dM H (a.eval s),0⟩
def fpH (H H':EH):FP:=⟨H.next,H'.next,[],[],cond (Nat.ble H.next H'.low) 1 2⟩
def nR (op:Op) (a:EA) (H H':EH) (k:OpK):FP:=match k with
 | .light=>fpL a H H' (touch op)
 | .heavy _ _=>fpH H H'
def lS (l:List Nat):Bool:=match l with | []=>true | _::_=>false
def MX (x:Nat) (l:List Nat):Bool:=List.rec (motive:=fun _=>Bool) false (fun y _ ih=>cond (Nat.beq x y) true ih) l
def Fb (l m:List Nat):Bool:=List.rec (motive:=fun _=>Bool) true (fun x _ ih=>cond (MX x m) false ih) l
def PS (lo hi:Nat) (l:List Nat):Bool:=List.rec (motive:=fun _=>Bool) true (fun x _ ih=>cond (Nat.ble lo x) (cond (Nat.blt x hi) false ih) ih) l
def yF (f g:FP):Bool:=cond (Fb f.wrs g.rd) (cond (Fb f.wrs g.wrs) (PS g.lo g.hi f.wrs) false) false
def idle (f k:FP):Bool:=cond (Nat.beq f.hv 0) (cond (cond (Nat.beq f.lo f.hi) true (Nat.ble k.lo f.lo)) (cond (lS f.rd) (lS f.wrs) false) false) false
def ig (f g:FP):Bool:=match f.hv,g.hv with
 | 0,0=>cond (yF f g) (yF g f) false
 | 0,1=>lS f.wrs
 | 1,0=>lS g.wrs
 | 1,1=>true
 | 0,_=>idle f g
 | _,0=>idle g f
 | _,_=>false
def Ju (k:EA→EH→Option Res) (dst:Option Tmp) (a:EA) (r:VO):Option Res:=match r with | some (v,H)=>k (a.put dst v) H | none=>none
def qw (P:Program) (f:Task→Option Res) (ops:Array Oper) (l:List Oper):EA→EH→Option Res :=
 List.rec (motive:=fun _=>EA→EH→Option Res) (fun a H=>some (.normal a H))
  (fun o _ ih a H=>match dH ops a o.guard with
   | .yes=>Ju ih o.dst a (mV P f a H o.op)
   | .no=>ih (a.put o.dst skp) H
   | .unk=>none) l
structure RR where
 a:EA
 H:EH
 fps:List FP
 st:List (EA×EH)
def big:Nat:=0xffffffffffffffffffffffff
def lowTo (H:EH) (n:Nat):EH:=⟨H.objs,H.next,H.grps,n⟩
def Lp (k:EA→EH→Option RR) (o:Oper) (a:EA) (H:EH) (r:VO):Option RR:=match r with
 | some (v,H')=>match k (a.put o.dst v) (lowTo H' (bW H.low H'.low)) with
  | some r=>some ⟨r.a,r.H,nR o.op a H H' (qi o.op)::r.fps,(a,H)::r.st⟩
  | none=>none
 | none=>none
def CX (a:EA) (H:EH) (r:Option RR):Option RR:=match r with | some r=>some ⟨r.a,r.H,⟨0,0,[],[],0⟩::r.fps,(a,H)::r.st⟩ | none=>none
def eX (P:Program) (f:Task→Option Res) (ops:Array Oper) (l:List Oper):EA→EH→Option RR :=
 List.rec (motive:=fun _=>EA→EH→Option RR) (fun a H=>some ⟨a,H,[],[(a,H)]⟩)
  (fun o _ ih a H=>match dH ops a o.guard with
   | .yes=>Lp ih o a H (mV P f a (lowTo H big) o.op)
   | .no=>CX a H (ih (a.put o.dst skp) H)
   | .unk=>none) l
def qR (ops:Array Oper) (i:Nat):List Nat :=
 let bf:=Region.before ops
 (List.range ops.size).filter fun j=>if j<i then !(bf.getD i 0).testBit j else if i<j then !(bf.getD j 0).testBit i else false
def iZ (l:List FP):Nat→FP:=List.rec (motive:=fun _=>Nat→FP) (fun _=>⟨0,0,[],[],3⟩) (fun x _ ih i=>match i with | 0=>x | i+1=>ih i) l
def lT (f:FP):Bool:=cond (Nat.ble f.hv 1) (not (lS f.wrs)) true
def jY (fps:List FP) (f:FP) (l:List Nat):Bool:=List.rec (motive:=fun _=>Bool) true (fun j _ ih=>cond (ig f (iZ fps j)) ih false) l
def jP (ops:Array Oper) (fps:List FP) (l:List FP):Nat→Bool :=
 List.rec (motive:=fun _=>Nat→Bool) (fun _=>true) (fun f _ ih i=>cond (lT f) (cond (jY fps f (qR ops i)) (ih (Nat.succ i)) false) (ih (Nat.succ i))) l
def tmpsOf (ops:Array Oper) (o:Oper):List Tmp :=
 (o.op.operands.toList.filterMap fun | .tmp t=>some t | _=>none)++(match o.guard with | some (j,_)=>((ops[j]?).bind (·.dst)).toList | none=>[])
def jh (ops:Array Oper):Bool :=
 let bf:=Region.before ops
 ((List.range ops.size).all fun j=>match ops[j]? with
  | none=>false
  | some o=>(o.after.all fun e => !Region.binds .any e||decide (e.on<j)) &&
   (match o.guard with | some (g,_)=>decide (g<ops.size) | none=>true) &&
   (List.range ops.size).all fun i=>match ops[i]? with
    | none=>false
    | some o'=>match o'.dst with
     | none=>true
     | some d=>if i=j then true else
      (if (tmpsOf ops o).contains d||o.dst==some d then (if i<j then (bf.getD j 0).testBit i else (bf.getD i 0).testBit j) else true))
def JE (P:Program) (a:EA) (H:EH) (r:ResultVar):Option V:=match r with
 | .tmp t=>some (a.get t)
 | .cell d t=>match a.get d with
  | .ptr b off=>H.loadVar P t b off
  | _=>none
def lW (P:Program) (a:EA) (H:EH) (l:List ResultVar):Option (List V) :=
 List.rec (motive:=fun _=>Option (List V)) (some [])
  (fun r _ ih=>match JE P a H r with
   | some v=>match ih with | some l=>some (v::l) | none=>none
   | none=>none) l
def closeD (l:List Nat):EH→Option EH :=
 List.rec (motive:=fun _=>EH→Option EH) (fun H=>some H)
  (fun r _ ih H=>match H.objs.get r with
   | some (.dfr true)=>ih ⟨H.objs.set r (.dfr false),H.next,H.grps,bW H.low r⟩
   | _=>none) l
def mW (n:Nat) (ps:List Tmp):List V→T V→Option (T V) :=
 List.rec (motive:=fun _=>List V→T V→Option (T V)) (fun l tm=>match l with | []=>some tm | _=>none)
  (fun p _ ih l tm=>match l with | v::vs=>cond (Nat.blt p n) (ih vs (tm.set p v)) none | []=>none) ps
def resV (l:List V):V:=match l with | [v]=>v | l => .tup l
def leave (P:Program) (fn:Func) (a:EA) (H:EH):Option Res :=
 match closeD a.df H with
 | some H'=>match lW P a H' fn.results.toList with
  | some l=>some (.v (resV l) H')
  | none=>none
 | none=>none
def dW (P:Program) (fn:Func) (r:Option Res):Option Res:=match r with
 | some (.normal a H)=>leave P fn a H
 | some (.ret a H)=>leave P fn a H
 | _=>none
def gJ (s:Bool) (args:List V):T V:=cond s (.fn (Uw args)) (T.setL .lf 0 args)
def Pv (P:Program) (s:Bool) (f:Task→Option Res) (fn:Func) (args:List V) (H:EH):Option Res :=
 match fn.body with
 | some c=>cond (Nat.ble (lenV args) fn.ntmps) (dW P fn (f (.code none c ⟨gJ s args,fn.ntmps,[]⟩ H))) none
 | none=>none
def mY (P:Program) (s:Bool) (f:Task→Option Res) (g:FuncId) (args:List V) (H:EH):Option Res :=
  match P.funcs[g]? with
  | some fn => cond (decide (fn.name = "runtime.NumGoroutine")) none (Pv P s f fn args H)
  | none=>none
def dZ (H:EH) (l:Nat) (st:LoopState) (pend:Option Code) (tm:T V) (n:Nat) (ps:Array Tmp) (as bd:Code) (df:Nat):EH :=
 ⟨H.objs.set l (.loop st pend tm n ps as bd df),H.next,H.grps,bW H.low l⟩
def Nz (l:Nat) (jump:Option Code) (b:Bool) (H:EH):Option Res:=match H.objs.get l with
 | some (.loop _ _ tm n ps as bd df)=>some (.v (.bool b) (dZ H l (cond b .ready .done) jump tm n ps as bd df))
 | _=>none
def fM (l:Nat) (r:Option Res):Option Res:=match r with
 | some (.normal _ H)=>Nz l none true H
 | some (.ret _ H)=>Nz l (some .ret) false H
 | some (.exit id _ H)=>Nz l (some (.exit id)) false H
 | _=>none
def P7 (f:Task→Option Res) (l:Nat) (bd:Code) (r:Option Res):Option Res:=match r with
 | some (.normal a H)=>match H.objs.get l with
  | some (.loop .ready pend tm n ps as bd' df)=>fM l (f (.code (some l) bd a (dZ H l .busy pend tm n ps as bd' df)))
  | _=>none
 | _=>none
def rQ (f:Task→Option Res) (l:Nat) (args:List V) (H:EH):Option Res :=
 match H.objs.get l with
 | some (.loop _ _ tm n ps as bd _)=>match mW n ps.toList args tm with
  | some tm'=>P7 f l bd (f (.code (some l) as ⟨tm',n,[]⟩ H))
  | none=>none
 | _=>none
def app3 (a b c:List V):List V:=List.append a (List.append b c)
def wM (f:Task→Option Res) (fv:V) (args:List V) (H:EH):Option Res :=
 match fv with
 | .func g first captured=>f (.call g (app3 first args captured) H)
 | .yld l=>rQ f l args H
 | _=>none
def Fq (f:Task→Option Res) (ro:Option Nat) (a1:EA) (H:EH) (pend:Option Code):Option Res:=match pend with
 | none=>some (.normal a1 H)
 | some c=>f (.code ro c a1 H)
def nK (s:LoopState):Bool:=match s with | .busy=>false | _=>true
def afterLoop (f:Task→Option Res) (ro:Option Nat) (l:Nat) (a1:EA) (r:Option Res):Option Res:=match r with
 | some (.v _ H)=>match H.objs.get l with
  | some (.loop st pend tm n ps as bd df)=>cond (nK st) (Fq f ro a1 (dZ H l .exhausted pend tm n ps as bd df) pend) none
  | _=>none
 | _=>none
def XQ (f:Task→Option Res) (g:V) (args:List V) (H:EH):Option Res:=match g with
 | .func g first captured=>f (.call g (app3 first args captured) H)
 | _=>none
def lX (f:Task→Option Res) (ro:Option Nat) (g:V) (ps:Array Tmp) (as bd:Code) (a a1:EA) (d:Nat) (H:EH):Option Res :=
 fN H.next fun l=>afterLoop f ro l a1 (XQ f g [.yld l] ⟨H.objs.set l (.loop .ready none a.tm a.n ps as bd d),Nat.succ l,H.grps,H.low⟩)
def jy (f:Task→Option Res) (ro:Option Nat) (g:Operand) (ps:Array Tmp) (as bd:Code) (a:EA) (H:EH):Option Res :=
 match ro with
 | some l0=>match H.objs.get l0 with
  | some (.loop _ _ _ _ _ _ _ df)=>lX f ro (a.eval g) ps as bd a a df H
  | _=>none
 | none=>fN H.next fun l0=>lX f ro (a.eval g) ps as bd a ⟨a.tm,a.n,l0::a.df⟩ l0 ⟨H.objs.set l0 (.dfr true),Nat.succ l0,H.grps,H.low⟩
def zT (f:Task→Option Res) (ro:Option Nat) (y:Code) (r:Option Res):Option Res:=match r with
 | some (.normal a H)=>f (.code ro y a H)
 | r=>r
def nX (f:Task→Option Res) (ro:Option Nat) (x y:Code) (a:EA) (H:EH) (v:V):Option Res:=match v with
 | .bool true=>f (.code ro x a H)
 | .bool false=>f (.code ro y a H)
 | _=>none
def gU (id:Nat) (r:Option Res):Option Res:=match r with
 | some (.exit id' a H)=>cond (Nat.beq id' id) (some (.normal a H)) (some (.exit id' a H))
 | r=>r
abbrev qC:=Program→(Task→Option Res)→Option Nat→EA→EH→Option Res
def U6:qC:=fun _ _ _ a H=>some (.normal a H)
def YD (x y:Code):qC:=fun _ f ro a H=>zT f ro y (f (.code ro x a H))
def XR (c:Operand) (x y:Code):qC:=fun _ f ro a H=>nX f ro x y a H (a.eval c)
def VB (id:Nat) (c:Code):qC:=fun _ f ro a H=>gU id (f (.code ro c a H))
def y7 (x:Operand) (t:Nat):Bool:=match x with | .tmp u=>Nat.beq u t | _=>false
def jT (g:Option (Nat×Bool)):Bool:=match g with | none=>true | some _=>false
structure ML where
 (it t1 t2:Tmp) (ops1:Array Oper) (o2:Oper) (id cid:Nat) (t3:Tmp) (ops:Array Oper) (tl:List Oper) (rest:Code)
def Hl (o:Oper):Option (Tmp×Tmp):=match o.op with
 | .next (.tmp it) false=>cond (jT o.guard) (match o.dst with | some t=>some (it,t) | none=>none) none
 | _=>none
def Jq (o:Oper) (t1:Tmp):Option Tmp:=match o.op with
 | .extract x 0=>cond (y7 x t1) (cond (jT o.guard) o.dst none) none
 | _=>none
def entryOf (o:Oper) (it:Tmp):Option Tmp:=match o.op with
 | .entry x=>cond (y7 x it) (cond (jT o.guard) o.dst none) none
 | _=>none
inductive HeadR where
 | no
 | mk (ops:Array Oper) (rest:Code)
def QK (c:Code):HeadR:=match c with
 | .seq (.region _ ops false) rest => .mk ops rest
 | _ => .no
def zg (it t1 t2:Tmp) (ops1:Array Oper) (o2:Oper) (id cid:Nat) (ops:Array Oper) (rest:Code):Option ML:=match ops.toList with
 | o3::tl=>match entryOf o3 it with | some t3=>some ⟨it,t1,t2,ops1,o2,id,cid,t3,ops,tl,rest⟩ | none=>none
 | _=>none
def ET (it t1 t2:Tmp) (ops1:Array Oper) (o2:Oper) (c:Code):Option ML:=match c with
 | .seq (.cond x .skip (.exit id)) (.block cid c)=>cond (y7 x t2) (match QK c with | .mk ops rest=>zg it t1 t2 ops1 o2 id cid ops rest | .no=>none) none
 | _=>none
def EF (ops1:Array Oper) (c:Code):Option ML:=match ops1.toList with
 | [o1,o2]=>match Hl o1 with
  | some (it,t1)=>match Jq o2 t1 with
   | some t2=>ET it t1 t2 ops1 o2 c
   | none=>none
  | none=>none
 | _=>none
def kW (body:Code):Option ML:=match body with
 | .seq (.region _ ops1 false) c=>EF ops1 c
 | _=>none
structure St where
 tm:T V
 dl:List (Option EO)
def Dw (dl:List (Option EO)):Nat→T EO→T EO :=
 List.rec (motive:=fun _=>Nat→T EO→T EO) (fun _ t=>t) (fun o _ ih i t=>ih (Nat.succ i) (match o with | some o=>t.set i o | none=>t)) dl
def o9 (n:Nat) (v:V):Bool:=match v with
 | .bool _=>true
 | .int _ _=>true
 | .str _=>true
 | .nilPtr=>true
 | .nilSlice=>true
 | .nilMap=>true
 | .nilFunc=>true
 | .nilIface=>true
 | .ptr b _=>Nat.blt b n
 | .slice b _ _ _=>Nat.blt b n
 | .map b=>Nat.blt b n
 | .yld b=>Nat.blt b n
 | .fz _ a _ _ _=>Nat.blt a n
 | .fp a _ _ _=>Nat.blt a n
 | _=>false
def KE (n:Nat) (l:List V):Bool:=List.rec (motive:=fun _=>Bool) true (fun x _ ih=>cond (o9 n x) ih false) l
def Lc (n:Nat) (c:T V) (k:Nat):Nat→Bool :=
 Nat.rec (motive:=fun _=>Nat→Bool) (fun _=>true) (fun _ ih i=>match c.get i with | some v=>cond (o9 n v) (ih (Nat.succ i)) false | none=>false) k
def Eu (n:Nat) (v:V):Bool:=match v with | .agg k c=>Lc n c k 0 | v=>o9 n v
def yx (n:Nat) (l:List V):Bool:=List.rec (motive:=fun _=>Bool) true (fun x _ ih=>cond (Eu n x) ih false) l
def uz (n:Nat) (v:V):Bool:=match v with
 | .func _ l m=>cond (yx n l) (KE n m) false
 | v=>o9 n v
def Au (n:Nat) (c:T V) (k:Nat):Nat→Bool :=
 Nat.rec (motive:=fun _=>Nat→Bool) (fun _=>true) (fun _ ih i=>match c.get i with | some v=>cond (uz n v) (ih (Nat.succ i)) false | none=>false) k
def nH (n:Nat) (v:V):Bool:=match v with
 | .agg k c=>Au n c k 0
 | v=>uz n v
def Ur (n:Nat) (l:List (V×V×Nat)):Bool:=List.rec (motive:=fun _=>Bool) true (fun e _ ih=>cond (nH n e.1) (cond (nH n e.2.1) ih false) false) l
def DD (n:Nat) (o:EO):Bool:=match o with
 | .cells c lo sz _=>Au n c (Nat.sub sz lo) lo
 | .map es _=>Ur n es
 | .dfr _=>true
 | .iter none=>true
 | .iter (some (m,_))=>Nat.blt m n
 | .loop _ _ _ _ _ _ _ _=>false
def qX (n:Nat) (v0 v:V):V:=match v0 with | .bad => .bad | _=>cond (nH n v) v .bad
def oZ (n:Nat) (base tm:T V) (k:Nat):T V:=Nat.rec (motive:=fun _=>T V) .lf (fun i ih=>ih.set i (qX n (getD' base i) (getD' tm i))) k
def cmp0 (a b:V):Nat:=match a,b with
 | .int _ x,.int _ y=>cond (aK x y) 1 (cond (ai x y) 0 2)
 | .bool x,.bool y=>cond (iq x y) 1 (cond x 2 0)
 | _,_=>1
def Zx (c d:T V) (n:Nat):Nat→Nat:=Nat.rec (motive:=fun _=>Nat→Nat) (fun _=>1) (fun _ ih i=>match cmp0 (getD' c i) (getD' d i) with | 0=>0 | 1=>ih (Nat.succ i) | _=>2) n
def XU (a b:V):Nat:=match a,b with | .agg n c,.agg _ d=>Zx c d n 0 | a,b=>cmp0 a b
def Ui (e:V×V×Nat) (l:List (V×V×Nat)):List (V×V×Nat):=List.rec (motive:=fun _=>List (V×V×Nat)) [e] (fun x l ih=>match XU e.1 x.1 with | 2=>x::ih | _=>e::x::l) l
def GH (l:List (V×V×Nat)):List (V×V×Nat):=List.rec (motive:=fun _=>List (V×V×Nat)) [] (fun e _ ih=>Ui (e.1,e.2.1,0) ih) l
def iQ (o:EO):EO:=match o with | .map es c => .map (GH es) c | o=>o
def fO {β:Type} (o:EO) (k:EO→β):β:=match o with | .map es c=>fE (GH es) fun l=>k (.map l c) | o=>k o
def yY (n:Nat) (objs:T EO) (k:Nat):Nat→Option (List (Option EO)) :=
 Nat.rec (motive:=fun _=>Nat→Option (List (Option EO))) (fun _=>some []) (fun _ ih b=>match ih (Nat.succ b) with
  | none=>none
  | some l=>match objs.get b with
   | none=>some (none::l)
   | some o=>cond (DD n o) (fO o fun o=>some (some o::l)) none) k
def BX (l:List Nat):List Nat→Bool:=List.rec (motive:=fun _=>List Nat→Bool) (fun m=>match m with | []=>true | _=>false) (fun x _ ih m=>match m with | y::m=>cond (Nat.beq x y) (ih m) false | []=>false) l
def Am {α:Type} (e:α→α→Bool) (v w:Option α):Bool:=match v,w with | some v,some w=>e v w | none,none=>true | _,_=>false
def eqT {α:Type} (e:α→α→Bool) (a:T α):T α→Bool:=T.rec (motive:=fun _=>T α→Bool)
 (fun b=>match b with | .lf=>true | _=>false)
 (fun v _ _ ihl ihr b=>match b with | .nd w l r=>cond (Am e v w) (cond (ihl l) (ihr r) false) false | _=>false)
 (fun _ _=>false) a
def eq0 (a b:V):Bool:=match a,b with
 | .bad,.bad=>true
 | .bool x,.bool y=>iq x y
 | .int k x,.int k' y=>cond (gz k k') (aK x y) false
 | .nilPtr,.nilPtr=>true
 | .nilSlice,.nilSlice=>true
 | .nilMap,.nilMap=>true
 | .nilFunc,.nilFunc=>true
 | .nilIface,.nilIface=>true
 | .ptr x o,.ptr y p=>cond (Nat.beq x y) (Nat.beq o p) false
 | .slice x o l e,.slice y p m f=>cond (Nat.beq x y) (cond (Nat.beq o p) (cond (Nat.beq l m) (Nat.beq e f) false) false) false
 | .map x,.map y=>Nat.beq x y
 | .yld x,.yld y=>Nat.beq x y
 | _,_=>false
def UA (l:List V):List V→Bool:=List.rec (motive:=fun _=>List V→Bool) (fun m=>match m with | []=>true | _=>false) (fun x _ ih m=>match m with | y::m=>cond (eq0 x y) (ih m) false | []=>false) l
def eq1 (a b:V):Bool:=match a,b with
 | .func f l m,.func f' l' m'=>cond (Nat.beq f f') (cond (UA l l') (UA m m') false) false
 | a,b=>eq0 a b
def mO (a b:V):Bool:=match a,b with
 | .agg n c,.agg n' c'=>cond (Nat.beq n n') (eqT eq1 c c') false
 | a,b=>eq1 a b
def eqE (l:List (V×V×Nat)):List (V×V×Nat)→Bool:=List.rec (motive:=fun _=>List (V×V×Nat)→Bool) (fun m=>match m with | []=>true | _=>false)
 (fun x _ ih m=>match m with | y::m=>cond (mO x.1 y.1) (cond (mO x.2.1 y.2.1) (cond (Nat.beq x.2.2 y.2.2) (ih m) false) false) false | []=>false) l
def eqO (a b:EO):Bool:=match a,b with
 | .cells c lo sz g,.cells c' lo' sz' g'=>cond (Nat.beq lo lo') (cond (Nat.beq sz sz') (cond (Nat.beq g g') (eqT mO c c') false) false) false
 | .map es c,.map es' c'=>cond (Nat.beq c c') (eqE es es') false
 | .dfr x,.dfr y=>iq x y
 | .iter none,.iter none=>true
 | .iter (some (m,c)),.iter (some (m',c'))=>cond (Nat.beq m m') (Nat.beq c c') false
 | _,_=>false
def Vx (a b:Option EO):Bool:=match a,b with | none,none=>true | some a,some b=>eqO a b | _,_=>false
def Il (l:List (Option EO)):List (Option EO)→Bool:=List.rec (motive:=fun _=>List (Option EO)→Bool) (fun m=>match m with | []=>true | _=>false) (fun x _ ih m=>match m with | y::m=>cond (Vx x y) (ih m) false | []=>false) l
def Me (a b:St):Bool:=cond (eqT mO a.tm b.tm) (Il a.dl b.dl) false
def eqG (a b:Option qo):Bool:=match a,b with
 | none,none=>true
 | some (m,n,t),some (m',n',t')=>cond (Nat.beq m m') (cond (Nat.beq n n') (eqT Nat.beq t t') false) false
 | _,_=>false
def S9 (g h:T qo) (k:Nat):Nat→Bool:=Nat.rec (motive:=fun _=>Nat→Bool) (fun _=>true) (fun _ ih b=>cond (eqG (g.get b) (h.get b)) (ih (Nat.succ b)) false) k
def yI (s:St) (l:List St):Nat→Option Nat:=List.rec (motive:=fun _=>Nat→Option Nat) (fun _=>none) (fun x _ ih i=>cond (Me s x) (some i) (ih (Nat.succ i))) l
def eY {α:Type} (l:List α):Nat:=List.rec (motive:=fun _=>Nat) 0 (fun _ _ ih=>Nat.succ ih) l
def lM {α:Type} (l:List α):Nat→Option α:=List.rec (motive:=fun _=>Nat→Option α) (fun _=>none) (fun x _ ih i=>match i with | 0=>some x | i+1=>ih i) l
def Kt {α:Type} (l:List α) (x:α):List α:=List.rec (motive:=fun _=>List α) [x] (fun y _ ih=>y::ih) l
def F7 (j:Nat) (r:Option (List St×List Nat)):Option (List St×List Nat):=match r with | some (st,l)=>some (st,j::l) | none=>none
def vH (step:V→V→Option St) (es:List (V×V×Nat)):List St→Option (List St×List Nat) :=
 List.rec (motive:=fun _=>List St→Option (List St×List Nat)) (fun st=>some (st,[]))
  (fun e _ ih st=>match step e.1 e.2.1 with
   | none=>none
   | some s'=>match yI s' st 0 with
    | some j=>F7 j (ih st)
    | none=>F7 (eY st) (ih (Kt st s'))) es
def Vu (row:List Nat) (r:Option (List St×List (List Nat))):Option (List St×List (List Nat)):=match r with | some (st,t)=>some (st,row::t) | none=>none
def bfs (step:St→V→V→Option St) (es:List (V×V×Nat)) (fuel:Nat):Nat→List St→Option (List St×List (List Nat)) :=
 Nat.rec (motive:=fun _=>Nat→List St→Option (List St×List (List Nat))) (fun _ _=>none)
  (fun _ ih i st=>match lM st i with
   | none=>some (st,[])
   | some s=>match vH (step s) es st with
    | none=>none
    | some (st',row)=>Vu row (ih (Nat.succ i) st')) fuel
def jR (tab:List (List Nat)) (i j:Nat):Nat:=match lM tab i with | some row=>(match lM row j with | some x=>x | none=>0) | none=>0
def dP (p:Nat→Bool) (n:Nat):Bool:=Nat.rec (motive:=fun _=>Bool) true (fun i ih=>cond (p i) ih false) n
def zk (tab:List (List Nat)) (n k:Nat):Bool:=dP (fun i=>dP (fun j=>dP (fun l=>Nat.beq (jR tab (jR tab i j) l) (jR tab (jR tab i l) j)) j) k) n
def endOf (tab:List (List Nat)) (k:Nat):Nat:=Nat.rec (motive:=fun _=>Nat→Nat→Nat) (fun i _=>i) (fun _ ih i j=>ih (jR tab i j) (Nat.succ j)) k 0 0
def VX (r:Nat) (f:FP):Bool:=match f.hv with | 0=>MX r f.wrs | 1=>Nat.ble f.lo r | _=>true
def wB (ops:Array Oper) (i j:Nat):Bool:=((Region.before ops).getD j 0).testBit i
def wX (ops:Array Oper) (fps:List FP) (i j r:Nat):Bool:=cond (Nat.beq i j) false (cond (Nat.blt j ops.size) (dP (fun k=>cond (Nat.beq k j) true (cond (VX r (iZ fps k)) (cond (Nat.blt k i) (cond (Nat.blt k j) (wB ops k i) false) (cond (Nat.blt j k) (cond (Nat.blt i k) (wB ops i k) false) false)) true)) ops.size) false)
def lL (i j:Nat):Nat:=cond (Nat.blt i j) (Nat.succ j) j
def lkV (r:VO):Option V:=match r with | some (v,_)=>some v | none=>none
def Uz (a b:Option V):Bool:=match a,b with | some a,some b=>mO a b | _,_=>false
def JR (P:Program) (t:TypeId) (k:V) (r:V) (H:EH) (s:Option (EA×EH)):Bool:=match s with
 | some (_,Hj)=>Uz (lkV (dF P t r k false H)) (lkV (dF P t r k false Hj))
 | none=>false
def Vf (P:Program) (ops:Array Oper) (fps:List FP) (st:List (EA×EH)) (i:Nat) (t:TypeId) (k m:V) (r:Nat) (H:EH) (j:Nat):Bool:=cond (wX ops fps i j r) (JR P t k m H (lM st (lL i j))) false
def Ue (p:Nat→Bool) (n:Nat):Bool:=Nat.rec (motive:=fun _=>Bool) false (fun i ih=>cond (p i) true ih) n
def Vr (P:Program) (ops:Array Oper) (fps:List FP) (st:List (EA×EH)) (i:Nat) (t:TypeId) (k:V) (m:V) (H:EH):Bool:=match m with
 | .map r=>Ue (Vf P ops fps st i t k m r H) ops.size
 | _=>false
def isG (H:EH) (b g:Nat):Bool:=match mf H b with | [x]=>Nat.beq x g | _=>false
def FD (P:Program) (t:TypeId) (b off g:Nat) (H:EH) (s:Option (EA×EH)):Bool:=match s with
 | some (_,Hj)=>cond (Uz (H.loadVar P t b off) (Hj.loadVar P t b off)) (cond (isG H b g) (isG Hj b g) false) false
 | none=>false
def RV (P:Program) (ops:Array Oper) (fps:List FP) (st:List (EA×EH)) (i:Nat) (t:TypeId) (b off g:Nat) (H:EH) (j:Nat):Bool:=cond (wX ops fps i j g) (FD P t b off g H (lM st (lL i j))) false
def Vq (P:Program) (ops:Array Oper) (fps:List FP) (st:List (EA×EH)) (i:Nat) (t:TypeId) (b off:Nat) (H:EH) (l:List Nat):Bool:=match l with
 | [g]=>Ue (RV P ops fps st i t b off g H) ops.size
 | _=>false
def Vt (P:Program) (ops:Array Oper) (fps:List FP) (st:List (EA×EH)) (i:Nat) (t:TypeId) (x:V) (H:EH):Bool:=match x with
 | .ptr b off=>Vq P ops fps st i t b off H (mf H b)
 | _=>false
def ve (P:Program) (ops:Array Oper) (fps:List FP) (st:List (EA×EH)) (i:Nat) (o:Option Oper) (s:Option (EA×EH)):Bool:=match o,s with
 | some o,some (a,H)=>(match o.op with
  | .lookup t x k false=>cond (jT o.guard) (Vr P ops fps st i t (a.eval k) (a.eval x) H) false
  | .load t x=>cond (jT o.guard) (Vt P ops fps st i t (a.eval x) H) false
  | _=>false)
 | _,_=>false
def jS (P:Program) (ops:Array Oper) (fps:List FP) (st:List (EA×EH)) (l:List FP):Nat→List FP :=
 List.rec (motive:=fun _=>Nat→List FP) (fun _=>[]) (fun f _ ih i=>(cond (ve P ops fps st i ops[i]? (lM st i)) ⟨f.lo,f.hi,[],f.wrs,f.hv⟩ f)::ih (Nat.succ i)) l
def Jp (ops:Array Oper) (r:RR) (fps:List FP):Option Res:=cond (jP ops fps fps 0) (some (.normal r.a r.H)) none
def doneD (P:Program) (ops:Array Oper) (r:Option RR):Option Res:=match r with
 | some r=>cond (jP ops r.fps r.fps 0) (some (.normal r.a r.H)) (Jp ops r (jS P ops r.fps r.st r.fps 0))
 | none=>none
def QL (r:Option Res):Option (EA×EH):=match r with | some (.normal a H)=>some (a,H) | _=>none
def dY (P:Program) (f:Task→Option Res) (ro:Option Nat) (ml:ML) (a:EA) (H:EH) (k v:V):Option Res :=
 match QL (qw P f ml.ops ml.tl (((a.put (some ml.t1) (.tup [.bool true,k,v])).put (some ml.t2) (.bool true)).put (some ml.t3) (.tup [k,v])) H) with
 | some (a,H)=>gU ml.cid (f (.code ro ml.rest a H))
 | none=>none
structure MC where
 (objs:T EO) (next:Nat) (grps:T qo) (n:Nat) (df:List Nat) (base:T V) (m clk:Nat) (es:List (V×V×Nat)) (it itn nx:Nat) (lo:Nat) (rl:List (Nat×EO))
def MC.heap (c:MC) (s:St):EH:=⟨Dw s.dl c.lo c.objs,c.next,c.grps,big⟩
def MC.act (c:MC) (s:St):EA:=⟨s.tm,c.n,c.df⟩
def xH (v:V) (b:Nat):Bool:=match v with | .ptr b' 0=>Nat.beq b' b | _=>false
def XZ (c:MC) (tm:T V) (dl:List (Option EO)):Option St:=cond (xH (getD' tm c.it) c.itn) (some ⟨tm,dl⟩) none
def lD (c:MC) (a:EA) (H:EH):Option St :=
 cond (Nat.beq a.n c.n) (cond (BX a.df c.df) (cond (Nat.ble c.lo H.low) (cond (S9 c.grps H.grps (Nat.sub c.next c.lo) c.lo) (cond (Nat.ble H.next c.nx)
  (match yY c.next H.objs (Nat.sub c.next c.lo) c.lo with | some dl=>XZ c (oZ c.next c.base a.tm c.n) dl | none=>none) none) none) none) none) none
def U7 (c:MC) (r:Option Res):Option St:=match r with | some (.normal a H)=>lD c a H | _=>none
def stepM (P:Program) (f:Task→Option Res) (ro:Option Nat) (ml:ML) (c:MC) (s:St) (k v:V):Option St:=U7 c (dY P f ro ml (c.act s) (c.heap s) k v)
def G7 (l:List Oper) (tm:T V):T V:=List.rec (motive:=fun _=>T V) tm (fun o _ ih=>match o.dst with | some t=>ih.set t .bad | none=>ih) l
def Yq (a b:Nat):Nat:=cond (Nat.ble a b) b a
structure LN where
 (lo nx:Nat)
def Wl (H:EH) (n:LN):LN:=match n with | .mk l x=>fN (bW H.low l) fun l=>fN (Yq H.next x) fun x => .mk l x
def Zt (r:Option Res) (n:LN):LN:=match r with | some (.normal _ H)=>Wl H n | some (.ret _ H)=>Wl H n | some (.exit _ _ H)=>Wl H n | _=>n
def Yl (P:Program) (f:Task→Option Res) (ro:Option Nat) (ml:ML) (a:EA) (H:EH) (l:List (V×V×Nat)):LN :=
 List.rec (motive:=fun _=>LN) ⟨H.next,H.next⟩ (fun e _ ih=>Zt (dY P f ro ml a H e.1 e.2.1) ih) l
def A8 (rl:List (Nat×EO)) (t:T EO):T EO:=List.rec (motive:=fun _=>T EO) t (fun p _ ih=>ih.set p.1 p.2) rl
def xX (rl:List (Nat×EO)) (t:T EO):T EO:=List.rec (motive:=fun _=>T EO) t (fun p _ ih=>ih.del p.1) rl
def nU (objs:T EO) (k:Nat):Nat→List (Nat×EO):=Nat.rec (motive:=fun _=>Nat→List (Nat×EO)) (fun _=>[]) (fun _ ih b=>match objs.get b with
 | some (.loop st pd tm n ps as bd df)=>fN b fun b=>(b,.loop st pd tm n ps as bd df)::ih (Nat.succ b)
 | _=>ih (Nat.succ b)) k
def MC.out (c:MC) (s:St) (low itn:Nat):EH:=⟨A8 c.rl ((Dw s.dl c.lo c.objs).set itn (.iter none)),c.nx,c.grps,bW low (bW c.lo itn)⟩
def Xh (ml:ML) (c:MC) (low itn:Nat) (s:Option St):Option Res:=match s with
 | some s=>some (.exit ml.id (((c.act s).put (some ml.t1) (.tup [.bool false])).put (some ml.t2) (.bool false)) (c.out s low itn))
 | none=>none
def MC.wb (c:MC) (b:T V):MC:=⟨c.objs,c.next,c.grps,c.n,c.df,b,c.m,c.clk,c.es,c.it,c.itn,c.nx,c.lo,c.rl⟩
abbrev XA:=Option (Option Nat×St)
def Qm (k:Option Nat) (s:Option St):XA:=match s with | some s=>some (k,s) | none=>none
def xOf (c:MC) (r:Option Res):XA:=match r with
 | some (.ret a H)=>Qm none (lD (c.wb a.tm) a H)
 | some (.exit id a H)=>Qm (some id) (lD (c.wb a.tm) a H)
 | _=>none
def sO (t u:T V) (n:Nat):T V:=Nat.rec (motive:=fun _=>T V) .lf (fun i ih=>ih.set i (cond (mO (getD' t i) (getD' u i)) (getD' t i) .bad)) n
def Xl (n:Nat) (k:Option Nat) (s:St) (acc:XA):Option XA:=match acc with
 | none=>some (some (k,s))
 | some (k0,s0)=>cond (Am Nat.beq k k0) (cond (Il s.dl s0.dl) (some (some (k0,⟨sO s0.tm s.tm n,s0.dl⟩))) none) none
def Jf (n:Nat) (x:XA) (acc:XA):Option XA:=match x with | some (k,s)=>Xl n k s acc | none=>none
def JS (c:MC) (s:St) (r:Option Res) (acc:XA):Option XA:=match r with
 | some (.normal a H)=>(match lD c a H with | some s'=>cond (Me s' s) (some acc) none | none=>none)
 | r=>Jf c.n (xOf c r) acc
def xGo (P:Program) (f:Task→Option Res) (ro:Option Nat) (ml:ML) (c:MC) (s:St) (l:List (V×V×Nat)):Option XA :=
 List.rec (motive:=fun _=>Option XA) (some none) (fun e _ ih=>match ih with | some acc=>JS c s (dY P f ro ml (c.act s) (c.heap s) e.1 e.2.1) acc | none=>none) l
def Yu (c:MC) (low itn:Nat) (x:Option XA):Option Res:=match x with
 | some (some (none,s))=>some (.ret (c.act s) (c.out s low itn))
 | some (some (some id,s))=>some (.exit id (c.act s) (c.out s low itn))
 | _=>none
def Hz (P:Program) (f:Task→Option Res) (ro:Option Nat) (ml:ML) (c:MC) (low itn:Nat) (s:St):Option Res:=Yu c low itn (xGo P f ro ml c s c.es)
def xB (ml:ML) (c:MC) (low itn:Nat) (r:Option (List St×List (List Nat))) (x:Option Res):Option Res:=match r with
 | some (st,tab)=>cond (zk tab (eY st) (FQ c.es)) (Xh ml c low itn (lM st (endOf tab (FQ c.es)))) none
 | none=>x
def Vw (P:Program) (f:Task→Option Res) (ro:Option Nat) (ml:ML) (c:MC) (low itn:Nat) (s:Option St):Option Res:=match s with
 | some s=>xB ml c low itn (bfs (stepM P f ro ml c) c.es 200 0 [s]) (Hz P f ro ml c low itn s)
 | none=>none
abbrev UG (β:Type):=MC→Nat→Nat→Option St→Option β
def DI {β:Type} (fin:UG β) (ml:ML) (a:EA) (H:EH) (itn m clk:Nat) (es:List (V×V×Nat)) (base:T V) (objs:T EO) (lo d:Nat) (rl:List (Nat×EO)):Option β :=
 fin ⟨objs,H.next,H.grps,a.n,a.df,base,m,clk,es,ml.it,itn,Nat.add H.next d,lo,rl⟩ H.low itn (lD ⟨objs,H.next,H.grps,a.n,a.df,base,m,clk,es,ml.it,itn,Nat.add H.next d,lo,rl⟩ ⟨base,a.n,a.df⟩ ⟨objs,H.next,H.grps,big⟩)
def OW {β:Type} (fin:UG β) (P:Program) (f:Task→Option Res) (ro:Option Nat) (ml:ML) (a:EA) (H:EH) (itn m clk:Nat) (es:List (V×V×Nat)) (base:T V) (objs:T EO):Option β :=
 match Yl P f ro ml ⟨base,a.n,a.df⟩ ⟨objs,H.next,H.grps,big⟩ es with
 | .mk lo nx=>fN (Nat.add (Nat.sub nx H.next) 32) fun d =>
  cond (Nat.blt m lo) (DI fin ml a H itn m clk es base (xX (nU objs (Nat.sub H.next lo) lo) objs) lo d ((m,.map es clk)::nU objs (Nat.sub H.next lo) lo))
   (DI fin ml a H itn m clk es base (xX ((m,.map es clk)::nU objs (Nat.sub H.next lo) lo) objs) lo d ((m,.map es clk)::nU objs (Nat.sub H.next lo) lo))
def Tq (n:Nat) (ml:ML):Bool:=cond (Nat.blt ml.t1 n) (cond (Nat.blt ml.t2 n) (cond (Nat.blt ml.t3 n) (cond (Nat.beq ml.t1 ml.t2) false (cond (Nat.beq ml.it ml.t1) false (cond (Nat.beq ml.it ml.t2) false true))) false) false) false
def ltL (n:Nat) (l:List Nat):Bool:=List.rec (motive:=fun _=>Bool) true (fun x _ ih=>cond (Nat.blt x n) ih false) l
def X3 (n:Nat) (ro:Option Nat):Bool:=match ro with | none=>true | some l=>Nat.blt l n
def I8 {β:Type} (fin:UG β) (P:Program) (f:Task→Option Res) (ro:Option Nat) (ml:ML) (a:EA) (H:EH):Option β :=
 cond (Tq a.n ml) (match a.get ml.it with
 | .ptr itn 0=>match H.objs.get itn with
  | some (.iter (some (m,c)))=>match H.objs.get m with
   | some (.map es clk)=>cond (Nat.beq c clk) (cond (Nat.beq m itn) none (cond (ltL H.next a.df) (cond (X3 H.next ro)
    (OW fin P f ro ml a H itn m clk es (G7 ml.tl (((a.tm.set ml.t1 .bad).set ml.t2 .bad).set ml.t3 .bad)) (H.objs.del itn)) none) none)) none
   | _=>none
  | _=>none
 | _=>none) none
def mr (P:Program) (f:Task→Option Res) (ro:Option Nat) (ml:ML) (a:EA) (H:EH):Option Res:=I8 (Vw P f ro ml) P f ro ml a H
def fG {β:Type} (t:T qo) (k:T qo→β):β:=match t with | .lf=>k .lf | .nd v l r=>k (.nd v l r) | .fn f=>k (.fn f)
def nrm {β:Type} (a:EA) (H:EH) (k:EA→EH→β):β:=fG H.grps fun g=>fN H.low fun lo=>fN a.n fun n=>k ⟨a.tm,n,a.df⟩ ⟨H.objs,H.next,g,lo⟩
theorem Qz {β:Type} (a:EA) (H:EH) (k:EA→EH→β):nrm a H k=k a H:=by
 have e1:∀ {γ:Type} (t:T qo) (k:T qo→γ),fG t k=k t:=fun t k=>by cases t<;>rfl
 have e2:∀ {γ:Type} (n:Nat) (k:Nat→γ),fN n k=k n:=fun n k=>by cases n<;>rfl
 unfold nrm
 rw [e1,e2,e2]
def Uj (ops:Array Oper) (d:Bool):qC:=match d with
 | false=>fun P f _ a H=>nrm a H fun a H=>qw P f ops ops.toList a H
 | true=>fun P f _ a H=>cond (jh ops) (doneD P ops (eX P f ops ops.toList a H)) none
def QH (body:Code):qC:=fun _ f ro a H=>zT f ro (.loop body) (f (.code ro body a H))
def vX (body:Code):qC:=match kW body with
 | some ml=>fun P f ro a H=>mr P f ro ml a H
 | none=>QH body
def Vy (c:Code):qC:=fun _ f ro a H=>f (.code ro c a H)
def Xp (id:Nat):qC:=fun _ _ _ a H=>some (.exit id a H)
def YT:qC:=fun _ _ _ a H=>some (.ret a H)
def VF (g:Operand) (ps:Array Tmp) (as bd:Code):qC:=fun _ f ro a H=>jy f ro g ps as bd a H
def cNo:qC:=fun _ _ _ _ _=>none
inductive CAltB where
 | mk (f:qC)
def Ut (c:Code):CAltB :=
 match c with
 | .skip => .mk (U6)
 | .label _ => .mk (U6)
 | .region _ ops d => .mk (Uj ops d)
 | .seq x y => .mk (YD x y)
 | .cond c x y => .mk (XR c x y)
 | .block id c => .mk (VB id c)
 | .loop body => .mk (vX body)
 | .exit id => .mk (Xp id)
 | .ret => .mk (YT)
 | .rangeFunc g ps as bd => .mk (VF g ps as bd)
 | .scope c => .mk (Vy c)
 | _ => .mk (cNo)
def Zw (b:CAltB):qC:=match b with | .mk f=>f
def zf (c:Code):qC:=Zw (Ut c)
structure Ext where
 f:FuncId→Option (List V→EH→Option (Bool×V))
 sym:Bool
instance:CoeFun Ext (fun _=>FuncId→Option (List V→EH→Option (Bool×V))):=⟨Ext.f⟩
def AA (H:EH):EH:=fN H.next fun n=>⟨H.objs,Nat.succ n,H.grps,H.low⟩
def V7 (P:Program) (s:Bool) (f:Task→Option Res) (g:FuncId) (args:List V) (H:EH) (v:Option (Bool×V)):Option Res:=match v with | some (b,v)=>cond b (some (.v v (AA H))) (mY P s f g args H) | none=>mY P s f g args H
def rW (P:Program) (s:Bool) (f:Task→Option Res) (g:FuncId) (args:List V) (H:EH) (x:Option (List V→EH→Option (Bool×V))):Option Res:=match x with
 | none=>mY P s f g args H
 | some x=>V7 P s f g args H (x args H)
def step (P:Program) (X:Ext) (f:Task→Option Res) (t:Task):Option Res:=match t with
 | .call g args H=>rW P X.sym f g args H (X g)
 | .callV fv args H=>wM f fv args H
 | .code ro c a H=>zf c P f ro a H
def ev (P:Program) (X:Ext) (n:Nat):Task→Option Res:=Nat.rec (fun _=>none) (fun _ ih=>step P X ih) n
def aA:Ext:=⟨fun _=>none,false⟩
def Qn:EH:=⟨.lf,0,.lf,big⟩
end
end Go.Ev
/- The evaluator's tries: reading behind writing. -/
namespace Go.Ev
open Go
theorem rY (a b:Nat):Nat.beq a b=decide (a=b):=by
 by_cases h:a=b
 ·subst h;simp
 ·rw [decide_eq_false h];cases e:Nat.beq a b with | false=>rfl | true=>exact absurd (Nat.eq_of_beq_eq_true e) h
theorem aH {β:Type} (a b:Nat) (x y:β):cond (Nat.beq a b) x y=if a=b then x else y:=by rw [rY];by_cases h:a=b<;>simp [h]
theorem bg {β:Type} (a b:Nat) (x y:β):cond (Nat.ble a b) x y=if a≤b then x else y:=by
 by_cases h:a≤b
 ·rw [Nat.ble_eq_true_of_le h,if_pos h];rfl
 ·have:Nat.ble a b=false:=by cases e:Nat.ble a b with | false=>rfl | true=>exact absurd (Nat.le_of_ble_eq_true e) h
  rw [this,if_neg h];rfl
theorem dB {β:Type} (a b:Nat) (x y:β):cond (Nat.blt a b) x y=if a<b then x else y:=bg (a+1) b x y
theorem lg {β:Type} (a b:Nat) (x y:β):(Bool.rec (motive:=fun _=>β) y x (Nat.beq a b):β)=if a=b then x else y:=by rw [rY];by_cases h:a=b<;>simp [h]
namespace T
variable {α:Type}
@[simp] theorem Yy (k : Nat) : (T.lf : T α).get k = none := rfl
@[simp] theorem ZJ (f : Nat → Option α) (k : Nat) : (T.fn f).get k = f k := rfl
theorem get_nd (v:Option α) (l r:T α) (k:Nat):(T.nd v l r).get k=if k=0 then v else if k%2=1 then l.get ((k-1)/2) else r.get ((k-2)/2):=by
 show Bool.rec (motive:=fun _=>Option α) (Bool.rec (motive:=fun _=>Option α) (r.get ((k-2)/2)) (l.get ((k-1)/2)) (Nat.beq (Nat.mod k 2) 1)) v (Nat.beq k 0)=_
 rw [lg,lg];rfl
theorem sing_succ (v:α) (n k:Nat):T.sing v (n+1) k=if k=0 then .nd (some v) .lf .lf else if k%2=1 then .nd none (T.sing v n ((k-1)/2)) .lf else .nd none .lf (T.sing v n ((k-2)/2)):=by
 show Bool.rec (motive:=fun _=>T α) (Bool.rec (motive:=fun _=>T α) _ _ (Nat.beq (Nat.mod k 2) 1)) _ (Nat.beq k 0)=_
 rw [lg,lg];rfl
theorem PX (v:α):∀ (n k j:Nat),k<n→(T.sing v n k).get j=if j=k then some v else none:=by
 intro n
 induction n with
 | zero=>intro k j h;omega
 | succ n ih =>
  intro k j h
  rw [sing_succ]
  by_cases h0:k=0
  ·rw [if_pos h0,get_nd];subst h0
   by_cases hj:j=0
   ·simp [hj]
   ·simp [hj]
  ·rw [if_neg h0]
   by_cases h1:k%2=1
   ·rw [if_pos h1,get_nd]
    by_cases hj:j=0
    ·have:j≠k:=by omega
     simp [hj];omega
    ·rw [if_neg hj]
     by_cases hj1:j%2=1
     ·rw [if_pos hj1,ih _ _ (by omega)]
      by_cases e:j=k
      ·subst e;simp
      ·rw [if_neg e,if_neg (by omega)]
     ·rw [if_neg hj1,if_neg (by omega)];rfl
   ·rw [if_neg h1,get_nd]
    by_cases hj:j=0
    ·simp [hj];omega
    ·rw [if_neg hj]
     by_cases hj1:j%2=1
     ·rw [if_pos hj1,if_neg (by omega)];rfl
     ·rw [if_neg hj1,ih _ _ (by omega)]
      by_cases e:j=k
      ·subst e;simp
      ·rw [if_neg e,if_neg (by omega)]
theorem VW (k:Nat) (v:α):(T.lf:T α).set k v=T.sing v (k+1) k:=rfl
theorem set_nd (x:Option α) (l r:T α) (k:Nat) (v:α):(T.nd x l r).set k v=if k=0 then .nd (some v) l r else if k%2=1 then .nd x (l.set ((k-1)/2) v) r else .nd x l (r.set ((k-2)/2) v):=by
 show Bool.rec (motive:=fun _=>T α) (Bool.rec (motive:=fun _=>T α) _ _ (Nat.beq (Nat.mod k 2) 1)) _ (Nat.beq k 0)=_
 rw [lg,lg];rfl
theorem get_set (t:T α):∀ (k j:Nat) (v:α),(t.set k v).get j=if j=k then some v else t.get j:=by
 induction t with
 | lf=>intro k j v;rw [VW,PX _ _ _ _ (by omega)];rfl
 | nd x l r ihl ihr =>
  intro k j v
  rw [set_nd,get_nd x l r]
  by_cases h0:k=0
  ·rw [if_pos h0,get_nd];subst h0
   by_cases hj:j=0
   ·simp [hj]
   ·simp [hj]
  ·rw [if_neg h0]
   by_cases h1:k%2=1
   ·rw [if_pos h1,get_nd]
    by_cases hj:j=0
    ·rw [if_pos hj,if_neg (by omega),if_pos hj]
    ·rw [if_neg hj]
     by_cases hj1:j%2=1
     ·rw [if_pos hj1,ihl]
      by_cases e:j=k
      ·subst e;simp
      ·rw [if_neg e,if_neg (by omega),if_neg hj,if_pos hj1]
     ·rw [if_neg hj1,if_neg (by omega),if_neg hj,if_neg hj1]
   ·rw [if_neg h1,get_nd]
    by_cases hj:j=0
    ·rw [if_pos hj,if_neg (by omega),if_pos hj]
    ·rw [if_neg hj]
     by_cases hj1:j%2=1
     ·rw [if_pos hj1,if_neg (by omega),if_neg hj,if_pos hj1]
     ·rw [if_neg hj1,ihr]
      by_cases e:j=k
      ·subst e;simp
      ·rw [if_neg e,if_neg (by omega),if_neg hj,if_neg hj1]
 | fn f =>
  intro k j v
  show cond (Nat.beq j k) (some v) (f j)=if j=k then some v else f j
  rw [aH]
theorem VZ (x:Option α) (l r:T α) (k:Nat):(T.nd x l r).del k=if k=0 then .nd none l r else if k%2=1 then .nd x (l.del ((k-1)/2)) r else .nd x l (r.del ((k-2)/2)):=by
 show Bool.rec (motive:=fun _=>T α) (Bool.rec (motive:=fun _=>T α) _ _ (Nat.beq (Nat.mod k 2) 1)) _ (Nat.beq k 0)=_
 rw [lg,lg];rfl
theorem get_del (t:T α):∀ (k j:Nat),(t.del k).get j=if j=k then none else t.get j:=by
 induction t with
 | lf=>intro k j;show none=_;by_cases h:j=k<;>simp [h]
 | nd x l r ihl ihr =>
  intro k j
  rw [VZ,get_nd x l r]
  by_cases h0:k=0
  ·rw [if_pos h0,get_nd];subst h0
   by_cases hj:j=0
   ·simp [hj]
   ·simp [hj]
  ·rw [if_neg h0]
   by_cases h1:k%2=1
   ·rw [if_pos h1,get_nd]
    by_cases hj:j=0
    ·rw [if_pos hj,if_neg (by omega),if_pos hj]
    ·rw [if_neg hj]
     by_cases hj1:j%2=1
     ·rw [if_pos hj1,ihl]
      by_cases e:j=k
      ·subst e;simp
      ·rw [if_neg e,if_neg (by omega),if_neg hj,if_pos hj1]
     ·rw [if_neg hj1,if_neg (by omega),if_neg hj,if_neg hj1]
   ·rw [if_neg h1,get_nd]
    by_cases hj:j=0
    ·rw [if_pos hj,if_neg (by omega),if_pos hj]
    ·rw [if_neg hj]
     by_cases hj1:j%2=1
     ·rw [if_pos hj1,if_neg (by omega),if_neg hj,if_pos hj1]
     ·rw [if_neg hj1,ihr]
      by_cases e:j=k
      ·subst e;simp
      ·rw [if_neg e,if_neg (by omega),if_neg hj,if_neg hj1]
 | fn f =>
  intro k j
  show cond (Nat.beq j k) none (f j)=if j=k then none else f j
  rw [aH]
theorem get_set_eq (t:T α) (k:Nat) (v:α):(t.set k v).get k=some v:=by rw [get_set,if_pos rfl]
theorem get_set_ne (t:T α) {k j:Nat} (v:α) (h:j≠k):(t.set k v).get j=t.get j:=by rw [get_set,if_neg h]
theorem OA (t:T α) (i:Nat):t.setL i []=t:=rfl
theorem MM (t:T α) (i:Nat) (x:α) (l:List α):t.setL i (x::l)=(t.set i x).setL (i+1) l:=rfl
theorem get_setL (l:List α):∀ (t:T α) (i j:Nat),(t.setL i l).get j=if i≤j∧j<i+l.length then l[j-i]? else t.get j:=by
 induction l with
 | nil=>intro t i j;rw [OA,if_neg (by simp)]
 | cons x l ih =>
  intro t i j
  rw [MM,ih,get_set]
  simp only [List.length_cons]
  by_cases h:i+1≤j∧j<i+1+l.length
  ·rw [if_pos h,if_pos (by omega)]
   obtain ⟨d,rfl⟩:∃ d,j=i+1+d:=⟨j-(i+1),by omega⟩
   rw [show i+1+d-(i+1)=d by omega,show i+1+d-i=d+1 by omega];rfl
  ·rw [if_neg h]
   by_cases e:j=i
   ·subst e;rw [if_pos rfl,if_pos (by omega)];simp
   ·rw [if_neg e,if_neg (by omega)]
end T
theorem Js (src:T V) (n i j:Nat) (d:T V):gQ src (n+1) i j d=(match src.get i with | some v=>gQ src n (i+1) (j+1) (d.set j v) | none=>none):=rfl
theorem ku (src:T V):∀ (n i j:Nat) (d d':T V),gQ src n i j d=some d' →
 (∀ k,k<n→∃ v,src.get (i+k)=some v∧d'.get (j+k)=some v)∧(∀ k,k<j∨j+n≤k→d'.get k=d.get k):=by
 intro n
 induction n with
 | zero=>intro i j d d' h;cases h;exact ⟨fun k hk=>by omega,fun _ _=>rfl⟩
 | succ n ih =>
  intro i j d d' h
  rw [Js] at h
  cases hs:src.get i with
  | none=>rw [hs] at h;cases h
  | some v =>
   rw [hs] at h
   obtain ⟨h1,h2⟩:=ih _ _ _ _ h
   refine ⟨fun k hk=>?_,fun k hk=>?_⟩
   ·cases k with
    | zero=>exact ⟨v,hs,by rw [Nat.add_zero,h2 j (by omega),T.get_set_eq]⟩
    | succ k=>obtain ⟨x,e1,e2⟩:=h1 k (by omega);exact ⟨x,by rw [show i+(k+1)=i+1+k by omega];exact e1,by rw [show j+(k+1)=j+1+k by omega];exact e2⟩
   ·rw [h2 k (by omega),T.get_set_ne _ _ (by omega)]
end Go.Ev
/- What it is that an abstract value, an abstract heap and a machine's world agree: the relations, and what they keep. -/
namespace Go.Ev
open Go
structure Ren where
 bm:Nat→Option (Nat×Nat)
 zs:Nat→Nat
 cz:Nat→Nat→Option (Array Value)
inductive Aged (a:Nat):V→Prop where
 | bool (b:Bool):Aged a (.bool b)
 | int (k:IntKind) (n:Int):Aged a (.int k n)
 | str (s:ByteArray):Aged a (.str s)
 | nilPtr:Aged a .nilPtr
 | nilSlice:Aged a .nilSlice
 | nilMap:Aged a .nilMap
 | nilFunc:Aged a .nilFunc
 | nilIface:Aged a .nilIface
 | fz (k:Bool) {b:Nat} {c:Nat→Nat→V} {len e:Nat} (hb:b≤a) (h:∀ i j,i<len→j<e→Aged a (c i j)):Aged a (.fz k b c len e)
theorem Aged.mono {a b:Nat} (hab:a≤b) {v:V} (h:Aged a v):Aged b v:=by
 induction h with
 | fz k hb _ ih=>exact .fz k (Nat.le_trans hb hab) ih
 | _=>constructor
inductive VR (R:Ren):V→Value→Prop where
 | bad (v:Value):VR R .bad v
 | bool (b:Bool):VR R (.bool b) (.bool b)
 | int (k:IntKind) (n:Int):VR R (.int k n) (.int k n)
 | str (s:ByteArray):VR R (.str s) (.string s)
 | nilPtr:VR R .nilPtr (.pointer none)
 | ptr {b off r d o:Nat} (h:R.bm b=some (r,d)) (e:o+d=off):VR R (.ptr b off) (.pointer (some ⟨r,o,none⟩))
 | nilSlice:VR R .nilSlice (.slice none 0 0)
 | slice {b off len e r d o cap:Nat} (h:R.bm b=some (r,d)) (ho:cap≠0→o+d=off) (hl:len≤cap) (hz:o+cap*e≤R.zs r):VR R (.slice b off len e) (.slice (some ⟨r,o,none⟩) len cap)
 | nilMap:VR R .nilMap (.map none)
 | map {b r:Nat} (h:R.bm b=some (r,0)):VR R (.map b) (.map (some r))
 | nilFunc:VR R .nilFunc .nilFunc
 | func {f:FuncId} {l m:List V} {l' m':Array Value} (hl:l.length=l'.size) (h:∀ i (h1:i<l.length) (h2:i<l'.size),VR R l[i] l'[i])
  (hm:m.length=m'.size) (h':∀ i (h1:i<m.length) (h2:i<m'.size),VR R m[i] m'[i]):VR R (.func f l m) (.func (.func f) l' m')
 | yld {b r:Nat} (h:R.bm b=some (r,0)):VR R (.yld b) (.func (.yield r) #[] #[])
 | nilIface:VR R .nilIface .nilIface
 | agg {n:Nat} {c:T V} {cs:Array Value} (g:Nat→V) (hn:cs.size=n) (hg:∀ i,i<n→c.get i=some (g i)) (hs:∀ i,i<n→dE (g i)=true)
  (h:∀ i (h1:i<cs.size),VR R (g i) cs[i]):VR R (.agg n c) (.agg cs)
 | tup {l:List V} {vs:Array Value} (hl:l.length=vs.size) (h:∀ i (h1:i<l.length) (h2:i<vs.size),VR R l[i] vs[i]):VR R (.tup l) (.tuple vs)
 | fzN {k:Bool} {a:Nat} {c:Nat→Nat→V} {e:Nat}:VR R (.fz k a c 0 e) (.slice none 0 0)
 | fzE {k:Bool} {a:Nat} {c:Nat→Nat→V} {e r o cap:Nat} {sp:Option Nat} (h0:k=false→e=0→cap=0):VR R (.fz k a c 0 e) (.slice (some ⟨r,o,sp⟩) 0 cap)
 | fz {k:Bool} {a:Nat} {c:Nat→Nat→V} {len e r o cap:Nat} {cs:Array Value} (y:Nat→Nat→Value) (hc:R.cz a r=some cs) (hl:len≤cap) (hy:∀ i j,i<len→j<e→cs[o+(i*e+j)]?=some (y i j))
  (hs:∀ i j,i<len→j<e→dE (c i j)=true) (ha:∀ i j,i<len→j<e→Aged a (c i j)) (h:∀ i j,i<len→j<e→VR R (c i j) (y i j)) (h0:k=false→e=0→cap=0:=by first | (intro q;cases q;done) | assumption):VR R (.fz k a c len e) (.slice (some ⟨r,o,none⟩) len cap)
 | fp {a:Nat} {g:Nat→V} {e j r o:Nat} {cs:Array Value} (y:Nat→Value) (hc:R.cz a r=some cs) (hy:∀ i,i<e→cs[o+i]?=some (y i))
  (hs:∀ i,i<e→dE (g i)=true) (ha:∀ i,i<e→Aged a (g i)) (h:∀ i,i<e→VR R (g i) (y i)):VR R (.fp a g e j) (.pointer (some ⟨r,o+j,none⟩))
theorem VR.skp (R:Ren):VR R skp undef := .tup rfl (fun i h _=>by simp at h)
def AL (R:Ren) (l:List V) (vs:Array Value):Prop:=l.length=vs.size∧∀ i (h1:i<l.length) (h2:i<vs.size),VR R l[i] vs[i]
structure Ren.le (R R':Ren):Prop where
 bm:∀ b x,R.bm b=some x→R'.bm b=some x
 zs:∀ b r d,R.bm b=some (r,d)→R'.zs r=R.zs r
 cz:∀ a r cs,R.cz a r=some cs→R'.cz a r=some cs
theorem Ren.le.refl (R:Ren):R.le R:=⟨fun _ _ h=>h,fun _ _ _ _=>rfl,fun _ _ _ h=>h⟩
theorem Ren.le.trans {A B C:Ren} (h:A.le B) (k:B.le C):A.le C:=⟨fun b x e=>k.bm b x (h.bm b x e),fun b r d e=>(k.zs b r d (h.bm _ _ e)).trans (h.zs b r d e),fun a r cs e=>k.cz a r cs (h.cz a r cs e)⟩
theorem VR.mono {R R':Ren} (hle:R.le R') {v:V} {x:Value} (h:VR R v x):VR R' v x:=by
 induction h with
 | bad v=>exact .bad v
 | bool b=>exact .bool b
 | int k n=>exact .int k n
 | str s=>exact .str s
 | nilPtr=>exact .nilPtr
 | ptr h e=>exact .ptr (hle.bm _ _ h) e
 | nilSlice=>exact .nilSlice
 | slice h ho hl hz=>exact .slice (hle.bm _ _ h) ho hl (by rw [hle.zs _ _ _ h];exact hz)
 | nilMap=>exact .nilMap
 | map h=>exact .map (hle.bm _ _ h)
 | nilFunc=>exact .nilFunc
 | func hl _ hm _ ih ih'=>exact .func hl ih hm ih'
 | yld h=>exact .yld (hle.bm _ _ h)
 | nilIface=>exact .nilIface
 | agg g hn hg hs _ ih=>exact .agg g hn hg hs ih
 | tup hl _ ih=>exact .tup hl ih
 | fzN=>exact .fzN
 | fzE h0=>exact .fzE h0
 | fz y hc hl hy hs ha _ h0 ih=>exact .fz y (hle.cz _ _ _ hc) hl hy hs ha ih
 | fp y hc hy hs ha _ ih=>exact .fp y (hle.cz _ _ _ hc) hy hs ha ih
theorem AL.mono {R R':Ren} (hle:R.le R') {l:List V} {vs:Array Value} (h:AL R l vs):AL R' l vs:=⟨h.1,fun i h1 h2=>(h.2 i h1 h2).mono hle⟩
theorem AL.nil (R:Ren):AL R [] #[]:=⟨rfl,fun i h _=>by simp at h⟩
theorem AL.one {R:Ren} {v:V} {x:Value} (h:VR R v x):AL R [v] #[x]:=⟨rfl,fun i h1 h2=>by
 have:i=0:=by simp at h1;exact h1
 subst this;exact h⟩
theorem AL.append {R:Ren} {l m:List V} {a b:Array Value} (h:AL R l a) (k:AL R m b):AL R (l++m) (a++b):=by
 refine ⟨by simp [h.1,k.1],fun i h1 h2=>?_⟩
 by_cases hi:i<l.length
 ·have ha:i<a.size:=by rw [← h.1];exact hi
  rw [List.getElem_append_left hi,Array.getElem_append_left ha];exact h.2 i hi ha
 ·have ha:¬ i<a.size:=by rw [← h.1];exact hi
  rw [List.getElem_append_right (by omega),Array.getElem_append_right (by omega)]
  have e:i-l.length=i-a.size:=by rw [h.1]
  have h1':i-l.length<m.length:=by simp at h1;omega
  have h2':i-l.length<b.size:=by rw [← k.1];exact h1'
  have:=k.2 (i-l.length) h1' h2'
  simpa [e] using this
theorem AL.get? {R:Ren} {l:List V} {vs:Array Value} (h:AL R l vs) {i:Nat} {v:V} (hv:l[i]?=some v):∃ x,vs[i]?=some x∧VR R v x:=by
 obtain ⟨h1,rfl⟩:=List.getElem?_eq_some_iff.1 hv
 have h2:i<vs.size:=by rw [← h.1];exact h1
 exact ⟨vs[i],Array.getElem?_eq_some_iff.2 ⟨h2,rfl⟩,h.2 i h1 h2⟩
structure TR (R:Ren) (tm:T V) (n:Nat) (tmps:Array Value):Prop where
 size:tmps.size=n
 out:∀ i,n≤i→tm.get i=none
 val:∀ i,VR R (getD' tm i) (tmps.getD i undef)
theorem TR.mono {R R':Ren} (hle:R.le R') {tm:T V} {n:Nat} {tmps:Array Value} (h:TR R tm n tmps):TR R' tm n tmps:=⟨h.size,h.out,fun i=>(h.val i).mono hle⟩
theorem uO (tm:T V) (t i:Nat) (v:V):getD' (tm.set t v) i=if i=t then v else getD' tm i:=by
 unfold getD';rw [T.get_set];by_cases h:i=t<;>simp [h]
theorem TR.set {R:Ren} {tm:T V} {n:Nat} {tmps:Array Value} (h:TR R tm n tmps) {t:Nat} (ht:t<n) {v:V} {x:Value} (hv:VR R v x):TR R (tm.set t v) n (tmps.setIfInBounds t x):=by
 refine ⟨by simp [h.size],fun i hi=>by rw [T.get_set_ne _ _ (by omega)];exact h.out i hi,fun i=>?_⟩
 rw [uO]
 by_cases e:i=t
 ·subst e
  rw [if_pos rfl]
  have:(tmps.setIfInBounds i x).getD i undef=x:=by
   simp [Array.getD,h.size,ht]
  rw [this];exact hv
 ·rw [if_neg e]
  have:(tmps.setIfInBounds t x).getD i undef=tmps.getD i undef:=by
   simp only [Array.getD,Array.size_setIfInBounds]
   split
   ·rename_i hi
    exact Array.getElem_setIfInBounds_ne _ (by omega)
   ·rfl
  rw [this];exact h.val i
def I7 (r:Nat):Deferred:={ target := .collected r,args:=#[] }
def DR (R:Ren):List Nat→List Deferred→Prop
 | [],[]=>True
 | b::bs,d::ds=>(∃ r,R.bm b=some (r,0)∧d=I7 r)∧DR R bs ds
 | _,_=>False
theorem DR.mono {R R':Ren} (hle:R.le R'):∀ {l:List Nat} {ds:List Deferred},DR R l ds→DR R' l ds
 | [],[],_=>trivial
 | _::_,_::_,⟨⟨r,h,e⟩,k⟩=>⟨⟨r,hle.bm _ _ h,e⟩,DR.mono hle k⟩
structure AR (R:Ren) (a:EA) (a':Act):Prop where
 tm:TR R a.tm a.n a'.tmps
 df:DR R a.df a'.defers
theorem AR.mono {R R':Ren} (hle:R.le R') {a:EA} {a':Act} (h:AR R a a'):AR R' a a':=⟨h.tm.mono hle,h.df.mono hle⟩
theorem AR.put {R:Ren} {a:EA} {a':Act} (h:AR R a a') (d:Option Tmp) {v:V} {x:Value} (hv:VR R v x):AR R (a.put d v) (a'.put d x):=by
 cases d with
 | none=>exact h
 | some t =>
  show AR R (cond (Nat.blt t a.n) _ _) _
  rw [dB]
  by_cases ht:t<a.n
  ·rw [if_pos ht];exact ⟨h.tm.set ht hv,h.df⟩
  ·rw [if_neg ht]
   have:(a'.put (some t) x)=a':=by
    show ({ a' with tmps:=a'.tmps.setIfInBounds t x }:Act)=a'
    have e:a'.tmps.setIfInBounds t x=a'.tmps:=Array.setIfInBounds_eq_of_size_le (by rw [h.tm.size];exact Nat.le_of_not_lt ht)
    rw [e]
   rw [this];exact h
theorem DW (x:V) (l:List V):pJ (x::l)=cond (dE x) (pJ l) false:=rfl
theorem N7 (x:Value) (l:List Value):Ru (x::l)=ofC1 x::Ru l:=rfl
theorem Cc (l:List V):lenV l=l.length:=by
 induction l with
 | nil=>rfl
 | cons x l ih=>show Nat.succ (lenV l)=_;rw [ih];rfl
theorem JY (l:List Value):Ru l=l.map ofC1:=by
 induction l with
 | nil=>rfl
 | cons x l ih=>rw [N7,ih];rfl
theorem Ee {l:List V} (h:pJ l=true):∀ i (hi:i<l.length),dE l[i]=true:=by
 induction l with
 | nil=>intro i hi;simp at hi
 | cons x l ih =>
  rw [DW] at h
  cases hx:dE x with
  | false=>rw [hx] at h;cases h
  | true =>
   rw [hx] at h
   intro i hi
   cases i with
   | zero=>exact hx
   | succ i=>exact ih h i (by simpa using hi)
theorem VR.ofC1 (R:Ren) (v:Value):VR R (ofC1 v) v:=by
 unfold Ev.ofC1
 split<;>first | exact .bool _ | exact .int _ _ | exact .str _ | exact .nilPtr | exact .nilSlice | exact .nilMap | exact .nilFunc | exact .nilIface | exact .bad _
theorem VR.ofC (R:Ren) (v:Value):VR R (ofC v) v:=by
 unfold Ev.ofC
 split
 ·rename_i cs
  unfold Ya
  cases hs:pJ (Ru cs.toList) with
  | false=>exact .bad _
  | true =>
   show VR R (.agg _ _) _
   rw [Cc,JY]
   rw [JY] at hs
   refine .agg (fun i=>Ev.ofC1 (cs.getD i undef)) (by simp) (fun i hi=>?_) (fun i hi=>?_) (fun i hi=>?_)
   ·have hi':i<cs.size:=by simpa using hi
    rw [T.get_setL,if_pos (by simpa using hi)]
    simp [Array.getD,hi']
   ·have hi':i<cs.size:=by simpa using hi
    have:=Ee hs i hi
    simpa [Array.getD,hi'] using this
   ·have e:cs.getD i undef=cs[i]:=by simp [Array.getD,hi]
    show VR R (Ev.ofC1 (cs.getD i undef)) cs[i]
    rw [e];exact VR.ofC1 R _
 ·exact VR.ofC1 R v
theorem AR.eval {R:Ren} {a:EA} {a':Act} (h:AR R a a') (x:Operand):VR R (a.eval x) (a'.eval x):=by
 cases x with
 | tmp t=>exact h.tm.val t
 | const v=>exact VR.ofC R v
 | global g=>exact .bad _
 | func f=>exact .func rfl (fun i h1 _=>by simp at h1) rfl (fun i h1 _=>by simp at h1)
end Go.Ev
/- Abstract heap and machine's world: the relation, what a step keeps, and the four ways to change both: a new object, a store, an append, a change of an object that is no row of cells. -/
namespace Go.Ev
open Go
def aG (b:Nat) (o:EO):Nat:=match o with
 | .cells _ _ _ g=>g
 | _=>b
def bn (o:EO):Nat:=match o with
 | .cells _ _ _ _=>0
 | .map _ _=>1
 | .loop _ _ _ _ _ _ _ _=>2
 | .dfr _=>3
 | .iter _=>4
noncomputable def EH.vd (H:EH) (b:Nat) (o:EO):Bool:=match o with
 | .cells _ _ sz g=>H.valid b sz g
 | _=>true
def ER (R:Ren):List (V×V×Nat)→List MapEntry→Prop
 | [],[]=>True
 | e::es,e'::es'=>(VR R e.1 e'.key∧VR R e.2.1 e'.val)∧ER R es es'
 | _,_=>False
abbrev EE:=(V×V×Nat)×MapEntry
def EOk (R:Ren) (p:EE):Prop:=VR R p.1.1 p.2.key∧VR R p.1.2.1 p.2.val
structure MR (R:Ren) (es:List (V×V×Nat)) (es':List MapEntry) (clk:Nat):Prop where
 ex:∃ z:List EE,z.map Prod.fst=es∧(z.map Prod.snd).Perm es'∧∀ p,p∈z→EOk R p
 nd:(es'.map (·.born)).Nodup
 lt:∀ x,x∈es'→x.born<clk
theorem MR.mono {R R':Ren} (hle:R.le R') {l:List (V×V×Nat)} {l':List MapEntry} {clk:Nat} (h:MR R l l' clk):MR R' l l' clk :=
 let ⟨⟨z,h1,h2,h3⟩,h4,h5⟩:=h
 ⟨⟨z,h1,h2,fun p hp=>⟨(h3 p hp).1.mono hle,(h3 p hp).2.mono hle⟩⟩,h4,h5⟩
theorem Bv {α β:Type} {f:α→β} {l l2:List β} (h:l.Perm l2):∀ z:List α,z.map f=l→∃ z2:List α,z.Perm z2∧z2.map f=l2:=by
 induction h with
 | nil=>intro z e;exact ⟨z,.refl z,e⟩
 | cons x _ ih =>
  intro z e
  cases z with
  | nil=>cases e
  | cons a z =>
   simp only [List.map_cons,List.cons.injEq] at e
   obtain ⟨z2,h1,h2⟩:=ih z e.2
   exact ⟨a::z2,h1.cons a,by simp [e.1,h2]⟩
 | swap x y l =>
  intro z e
  match z,e with
  | a::b::z,e =>
   simp only [List.map_cons,List.cons.injEq] at e
   exact ⟨b::a::z,.swap b a z,by simp [e.1,e.2.1,e.2.2]⟩
 | trans _ _ ih1 ih2 =>
  intro z e
  obtain ⟨z2,h1,h2⟩:=ih1 z e
  obtain ⟨z3,h3,h4⟩:=ih2 z2 h2
  exact ⟨z3,h1.trans h3,h4⟩
theorem ER.of {R:Ren}:∀ z:List EE,(∀ p,p∈z→EOk R p)→ER R (z.map Prod.fst) (z.map Prod.snd)
 | [],_=>trivial
 | p::z,h=>⟨h p (by simp),ER.of z fun q hq=>h q (by simp [hq])⟩
theorem MR.length {R:Ren} {l:List (V×V×Nat)} {l':List MapEntry} {clk:Nat} (h:MR R l l' clk):l.length=l'.length:=by
 obtain ⟨⟨z,h1,h2,_⟩,_,_⟩:=h
 rw [← h1,← h2.length_eq];simp
theorem MR.here {R:Ren} {l:List (V×V×Nat)} {l':List MapEntry} {clk:Nat} (h:MR R l l' clk):∃ z z2:List EE,z.map Prod.fst=l∧z.Perm z2∧z2.map Prod.snd=l'∧(∀ p,p∈z→EOk R p)∧ER R (z2.map Prod.fst) l':=by
 obtain ⟨⟨z,h1,h2,h3⟩,_,_⟩:=h
 obtain ⟨z2,h4,h5⟩:=Bv h2 z rfl
 exact ⟨z,z2,h1,h4,h5,h3,h5▸ER.of z2 fun p hp=>h3 p (h4.mem_iff.2 hp)⟩
def OR (R:Ren) (s:Prop) (vd:Bool) (o:EO) (r d:Nat) (w:World):Prop:=match o with
 | .cells c lo sz _=>∃ cs t fz,w.heap[r]?=some (.cells cs t fz)∧cs.size=R.zs r∧(∀ i,¬ (fz.1≤i∧i<fz.2)) ∧
  (s→vd=true→∀ i,lo≤i→i<sz→d≤i∧∃ x y,c.get i=some x∧dE x=true∧cs[i-d]?=some y∧VR R x y)
 | .map es clk=>d=0∧∃ es' clk',w.heap[r]?=some (.map es' clk')∧(s→clk'=clk∧MR R es es'.toList clk)
 | .loop st pend tm n ps as bd df=>d=0∧∃ L,w.heap[r]?=some (.loop L)∧(s→L.state=st∧L.pending=pend∧L.params=ps∧L.assign=as∧L.body=bd∧TR R tm n L.tmps∧R.bm df=some (L.defers,0))
 | .dfr o=>d=0∧∃ x,w.heap[r]?=some (.deferred x)∧(s→x=if o then some [] else none)
 | .iter o=>d=0∧∃ a since seen last,w.heap[r]?=some (.mapIter a since seen last)∧(s→match o with
  | some (m,c)=>since=c∧seen=#[]∧last=c∧∃ rm,a=some rm∧R.bm m=some (rm,0)
  | none=>True)
def Frz (R:Ren) (w:World):Prop:=∀ a r cs,R.cz a r=some cs→(∃ t fz,w.heap[r]?=some (.cells cs t fz))∧∀ b d,R.bm b≠some (r,d)
structure Rel (R:Ren) (S:Nat→Prop) (H:EH) (w:World):Prop where
 img:∀ b r d,R.bm b=some (r,d)→r<w.heap.size
 obj:∀ b o r d,H.objs.get b=some o→R.bm b=some (r,d)→OR R (S (aG b o)) (H.vd b o) o r d w
 inj:∀ b b' o o' r d d',H.objs.get b=some o→H.objs.get b'=some o'→R.bm b=some (r,d)→R.bm b'=some (r,d') →
  b=b'∨(d=d'∧bn o=0∧bn o'=0∧aG b o=aG b' o')
 frz:Frz R w
structure WF (H:EH):Prop where
 lt:∀ b o,H.objs.get b=some o→b<H.next
 root:∀ b o,H.objs.get b=some o→aG b o≤b
 uniq:∀ g,H.grps.get g=none→∀ b b' o o',H.objs.get b=some o→H.objs.get b'=some o'→aG b o=g→aG b' o'=g→b=b'
 gdom:∀ g x,H.grps.get g=some x→g<H.next
structure ES (H H':EH) (W:Nat→Prop):Prop where
 next:H.next≤H'.next
 low:H'.low≤H.low
 old:∀ b o,H.objs.get b=some o→∃ o',H'.objs.get b=some o'∧aG b o'=aG b o∧bn o'=bn o
 keep:∀ b o,H.objs.get b=some o→¬ W (aG b o)→H'.objs.get b=some o∧H'.grps.get (aG b o)=H.grps.get (aG b o)
 back:∀ b o',H'.objs.get b=some o'→b<H.next→∃ o,H.objs.get b=some o
 wf:WF H'
 wr:∀ g,W g→H'.low≤g
 neu:∀ b o',H'.objs.get b=some o'→H.next≤b→H.next≤aG b o'∨W (aG b o')
structure RX (R R':Ren) (H H':EH) (w:World):Prop where
 same:∀ b,¬ (H.next≤b∧b<H'.next)→R'.bm b=R.bm b
 zs:∀ r,r<w.heap.size→R'.zs r=R.zs r
 neu:∀ b r d,H.next≤b→b<H'.next→R'.bm b=some (r,d)→w.heap.size≤r ∨
  ∃ b0 o0 o,H.objs.get b0=some o0∧R.bm b0=some (r,d)∧H'.objs.get b=some o∧bn o0=0∧bn o=0∧aG b0 o0=aG b o
 cz:∀ a,¬ (H.next≤a∧a<H'.next)→R'.cz a=R.cz a
 czn:∀ a r cs,R'.cz a r=some cs→R.cz a r=some cs∨w.heap.size≤r
structure Fr (R:Ren) (H:EH) (W:Nat→Prop) (w w':World):Prop where
 os:w'.os=w.os
 tape:w'.tape=w.tape
 output:w'.output=w.output
 size:w.heap.size≤w'.heap.size
 keep:∀ r,r<w.heap.size→(∀ b o d,H.objs.get b=some o→R.bm b=some (r,d)→¬ W (aG b o))→w'.heap[r]?=w.heap[r]?
def Free (R:Ren) (H H':EH):Prop:=∀ b,H.next≤b→b<H'.next→R.bm b=none∧∀ r,R.cz b r=none
def Up (S:Nat→Prop) (n:Nat):Nat→Prop:=fun g=>S g∨n≤g
theorem RX.le {R R':Ren} {H H':EH} {w:World} (h:RX R R' H H' w) (hf:Free R H H') (himg:∀ b r d,R.bm b=some (r,d)→r<w.heap.size):R.le R':=by
 refine ⟨fun b x e=>?_,fun b r d e=>h.zs r (himg b r d e),fun a r cs e=>?_⟩
 ·by_cases hb:H.next≤b∧b<H'.next
  ·rw [(hf b hb.1 hb.2).1] at e;cases e
  ·rw [h.same b hb];exact e
 ·by_cases hb:H.next≤a∧a<H'.next
  ·rw [(hf a hb.1 hb.2).2 r] at e;cases e
  ·rw [h.cz a hb];exact e
theorem Frz.lt {R:Ren} {w:World} (h:Frz R w) {a r:Nat} {cs:Array Value} (e:R.cz a r=some cs):r<w.heap.size:=by
 obtain ⟨⟨t,fz,h1⟩,_⟩:=h a r cs e
 rcases Nat.lt_or_ge r w.heap.size with h' | h'
 ·exact h'
 ·rw [Array.getElem?_eq_none h'] at h1;cases h1
theorem Frz.step {R R':Ren} {w w':World} (h:Frz R w) (hz:R'.cz=R.cz) (hw:∀ r,r<w.heap.size→(∀ b d,R.bm b≠some (r,d))→w'.heap[r]?=w.heap[r]?)
 (hn:∀ b r d,R'.bm b=some (r,d)→w.heap.size≤r∨∃ b0 d0,R.bm b0=some (r,d0)):Frz R' w':=fun a r cs e=>by
 rw [hz] at e
 have hlt:=h.lt e
 obtain ⟨⟨t,fz,h1⟩,h2⟩:=h a r cs e
 refine ⟨⟨t,fz,(hw r hlt h2).trans h1⟩,fun b d e'=>?_⟩
 rcases hn b r d e' with q | ⟨b0,d0,q⟩
 ·omega
 ·exact h2 b0 d0 q
theorem OR.mono {R R':Ren} {s s':Prop} {vd vd':Bool} {o:EO} {b r d:Nat} {w w':World} (h:OR R s vd o r d w) (hle:R.le R') (hb:R.bm b=some (r,d))
 (hw:w'.heap[r]?=w.heap[r]?) (hs:s'→s) (hv:vd'=true→vd=true):OR R' s' vd' o r d w':=by
 cases o with
 | cells c lo sz g =>
  obtain ⟨cs,t,fz,h1,h2,h3,h4⟩:=h
  exact ⟨cs,t,fz,hw.trans h1,by rw [hle.zs _ _ _ hb];exact h2,h3,fun a v i hi hj=>let ⟨q,x,y,e1,e2,e3,e4⟩:=h4 (hs a) (hv v) i hi hj;⟨q,x,y,e1,e2,e3,e4.mono hle⟩⟩
 | map es clk=>obtain ⟨e,es',clk',h1,h2⟩:=h;exact ⟨e,es',clk',hw.trans h1,fun a=>let ⟨p,q⟩:=h2 (hs a);⟨p,q.mono hle⟩⟩
 | loop st pend tm n ps as bd df =>
  obtain ⟨e,L,h1,h2⟩:=h
  exact ⟨e,L,hw.trans h1,fun a=>let ⟨p1,p2,p3,p4,p5,p6,p7⟩:=h2 (hs a);⟨p1,p2,p3,p4,p5,p6.mono hle,hle.bm _ _ p7⟩⟩
 | dfr o=>obtain ⟨e,x,h1,h2⟩:=h;exact ⟨e,x,hw.trans h1,fun a=>h2 (hs a)⟩
 | iter o =>
  obtain ⟨e,x,y,z,u,h1,h2⟩:=h
  refine ⟨e,x,y,z,u,hw.trans h1,fun a=>?_⟩
  have:=h2 (hs a)
  cases o with
  | none=>trivial
  | some p=>obtain ⟨q1,q2,q3,rm,q4,q5⟩:=this;exact ⟨q1,q2,q3,rm,q4,hle.bm _ _ q5⟩
theorem Rel.weak {R:Ren} {S S':Nat→Prop} {H:EH} {w:World} (h:Rel R S H w) (hs:∀ g,S' g→S g):Rel R S' H w :=
 ⟨h.img,fun b o r d ho hb=>(h.obj b o r d ho hb).mono (.refl R) hb rfl (hs _) id,h.inj,h.frz⟩
theorem ES.refl {H:EH} (h:WF H):ES H H (fun _=>False) :=
 ⟨Nat.le_refl _,Nat.le_refl _,fun _ o ho=>⟨o,ho,rfl,rfl⟩,fun _ _ ho _=>⟨ho,rfl⟩,fun _ o ho _=>⟨o,ho⟩,h,fun _ h=>h.elim,fun b o ho hb=>absurd (h.lt b o ho) (by omega)⟩
theorem ES.trans {A B C:EH} {W W':Nat→Prop} (h:ES A B W) (k:ES B C W'):ES A C (fun g=>W g∨W' g):=by
 refine ⟨Nat.le_trans h.next k.next,Nat.le_trans k.low h.low,fun b o ho=>?_,fun b o ho hn=>?_,fun b o' ho hb=>?_,k.wf,fun g hg=>?_,fun b o' ho hb=>?_⟩
 ·obtain ⟨o1,h1,e1,q1⟩:=h.old b o ho
  obtain ⟨o2,h2,e2,q2⟩:=k.old b o1 h1
  exact ⟨o2,h2,e2.trans e1,q2.trans q1⟩
 ·obtain ⟨h1,e1⟩:=h.keep b o ho (fun x=>hn (.inl x))
  obtain ⟨h2,e2⟩:=k.keep b o h1 (fun x=>hn (.inr x))
  exact ⟨h2,e2.trans e1⟩
 ·obtain ⟨o1,h1⟩:=k.back b o' ho (Nat.lt_of_lt_of_le hb h.next)
  exact h.back b o1 h1 hb
 ·rcases hg with hg | hg
  ·exact Nat.le_trans k.low (h.wr g hg)
  ·exact k.wr g hg
 ·by_cases hb':b<B.next
  ·obtain ⟨o1,h1⟩:=k.back b o' ho hb'
   obtain ⟨o2,h2,e2,_⟩:=k.old b o1 h1
   rw [ho] at h2;cases h2
   rcases h.neu b o1 h1 hb with q | q
   ·exact .inl (by rw [e2];exact q)
   ·exact .inr (.inl (by rw [e2];exact q))
  ·rcases k.neu b o' ho (by omega) with q | q
   ·exact .inl (Nat.le_trans h.next q)
   ·exact .inr (.inr q)
theorem RX.refl (R:Ren) (H:EH) (w:World):RX R R H H w:=⟨fun _ _=>rfl,fun _ _=>rfl,fun b _ _ h1 h2 _=>absurd h1 (by omega),fun _ _=>rfl,fun _ _ _ e => .inl e⟩
theorem RX.trans {R R1 R2:Ren} {A B C:EH} {w w1:World} {W W':Nat→Prop} (h:RX R R1 A B w) (k:RX R1 R2 B C w1) (ha:ES A B W) (hb:ES B C W') (hsz:w.heap.size≤w1.heap.size):RX R R2 A C w:=by
 refine ⟨fun b hn=>?_,fun r hr=>(k.zs r (by omega)).trans (h.zs r hr),fun b r d h1 h2 e=>?_,fun a hn=>?_,fun a r cs e=>(k.czn a r cs e).elim (fun e=>h.czn a r cs e) fun e => .inr (Nat.le_trans hsz e)⟩
 ·have:=ha.next;have:=hb.next
  rw [k.same b (by omega),h.same b (by omega)]
 ·by_cases hb':b<B.next
  ·rw [k.same b (by omega)] at e
   rcases h.neu b r d h1 hb' e with q | ⟨b0,o0,o,q1,q2,q3,q4,q5,q6⟩
   ·exact .inl q
   ·obtain ⟨o2,p1,p2,p3⟩:=hb.old b o q3
    exact .inr ⟨b0,o0,o2,q1,q2,p1,q4,by rw [p3];exact q5,by rw [p2];exact q6⟩
  ·rcases k.neu b r d (by omega) h2 e with q | ⟨b0,o0,o,q1,q2,q3,q4,q5,q6⟩
   ·exact .inl (by omega)
   ·by_cases hb0:A.next≤b0∧b0<B.next
    ·rcases h.neu b0 r d hb0.1 hb0.2 q2 with q | ⟨b1,o1,o',p1,p2,p3,p4,p5,p6⟩
     ·exact .inl q
     ·rw [q1] at p3;cases p3
      exact .inr ⟨b1,o1,o,p1,p2,q3,p4,q5,p6.trans q6⟩
    ·rw [h.same b0 hb0] at q2
     have hlt:=ha.wf.lt b0 o0 q1
     obtain ⟨o1,p1⟩:=ha.back b0 o0 q1 (by omega)
     obtain ⟨o2,p2,p3,p4⟩:=ha.old b0 o1 p1
     rw [q1] at p2;cases p2
     exact .inr ⟨b0,o1,o,p1,q2,q3,by rw [← p4];exact q4,q5,by rw [← p3];exact q6⟩
 ·have:=ha.next;have:=hb.next
  rw [k.cz a (by omega),h.cz a (by omega)]
theorem Fr.refl (R:Ren) (H:EH) (W:Nat→Prop) (w:World):Fr R H W w w:=⟨rfl,rfl,rfl,Nat.le_refl _,fun _ _ _=>rfl⟩
theorem Fr.trans {R R1:Ren} {A B:EH} {w w1 w2:World} {W W':Nat→Prop} (h:Fr R A W w w1) (k:Fr R1 B W' w1 w2) (hx:RX R R1 A B w) (ha:ES A B W) :
 Fr R A (fun g=>W g∨W' g) w w2:=by
 refine ⟨k.os.trans h.os,k.tape.trans h.tape,k.output.trans h.output,Nat.le_trans h.size k.size,fun r hr hn=>?_⟩
 rw [k.keep r (Nat.lt_of_lt_of_le hr h.size) ?_,h.keep r hr fun b o d ho hb hw=>hn b o d ho hb (.inl hw)]
 intro b o d ho hb hw
 by_cases hb':A.next≤b∧b<B.next
 ·rcases hx.neu b r d hb'.1 hb'.2 hb with q | ⟨b0,o0,o',q1,q2,q3,_,_,q6⟩
  ·omega
  ·rw [ho] at q3;cases q3
   exact hn b0 o0 d q1 q2 (.inr (by rw [q6];exact hw))
 ·rw [hx.same b hb'] at hb
  have hlt:=ha.wf.lt b o ho
  obtain ⟨o1,p1⟩:=ha.back b o ho (by omega)
  obtain ⟨o2,p2,p3,_⟩:=ha.old b o1 p1
  rw [ho] at p2;cases p2
  exact hn b o1 d p1 hb (.inr (by rw [← p3];exact hw))
end Go.Ev
/- The ways to change both heaps, each with what it keeps. -/
namespace Go.Ev
open Go
structure Sim (R R':Ren) (S:Nat→Prop) (H H':EH) (W:Nat→Prop) (w w':World):Prop where
 es:ES H H' W
 rx:RX R R' H H' w
 fr:Fr R H W w w'
 rel:Rel R' (Up S H.next) H' w'
theorem Sim.refl {R:Ren} {S:Nat→Prop} {H:EH} {w:World} (hw:WF H) (hr:Rel R S H w):Sim R R S H H (fun _=>False) w w :=
 ⟨.refl hw,.refl _ _ _,.refl _ _ _ _,⟨hr.img,fun b o r d ho hb=>(hr.obj b o r d ho hb).mono (.refl R) hb rfl (fun s=>s.elim id fun q=>absurd (hw.root b o ho) (by have:=hw.lt b o ho;omega)) id,hr.inj,hr.frz⟩⟩
theorem Sim.trans {R R1 R2:Ren} {S:Nat→Prop} {A B C:EH} {W W':Nat→Prop} {w w1 w2:World} (h:Sim R R1 S A B W w w1) (k:Sim R1 R2 (Up S A.next) B C W' w1 w2) :
 Sim R R2 S A C (fun g=>W g∨W' g) w w2 :=
 ⟨h.es.trans k.es,h.rx.trans k.rx h.es k.es h.fr.size,h.fr.trans k.fr h.rx h.es,k.rel.weak fun _ q => .inl q⟩
structure WA (w:World) (ob:Obj) (w':World):Prop where
 size:w'.heap.size=w.heap.size+1
 neu:w'.heap[w.heap.size]?=some ob
 old:∀ r,r<w.heap.size→w'.heap[r]?=w.heap[r]?
 os:w'.os=w.os
 tape:w'.tape=w.tape
 output:w'.output=w.output
structure WU (w:World) (r:Nat) (ob:Obj) (w':World):Prop where
 size:w'.heap.size=w.heap.size
 neu:w'.heap[r]?=some ob
 old:∀ r',r'≠r→w'.heap[r']?=w.heap[r']?
 os:w'.os=w.os
 tape:w'.tape=w.tape
 output:w'.output=w.output
theorem WA.push (w:World) (ob:Obj):WA w ob { w with heap:=w.heap.push ob } :=
 ⟨by simp,by simp,fun r hr=>by simp [Array.getElem?_push,Nat.ne_of_lt hr],rfl,rfl,rfl⟩
theorem WU.trans {w w1 w2:World} {r:Nat} {o1 o2:Obj} (h:WU w r o1 w1) (k:WU w1 r o2 w2):WU w r o2 w2 :=
 ⟨k.size.trans h.size,k.neu,fun r' e=>(k.old r' e).trans (h.old r' e),k.os.trans h.os,k.tape.trans h.tape,k.output.trans h.output⟩
theorem Va {β:Type}:∀ (l:List (V×V×Nat)) (k:List (V×V×Nat)→β),fE l k=k l
 | [],_=>rfl
 | x::l,k=>Va l (fun l=>k (x::l))
theorem dA {β:Type} (n:Nat) (k:Nat→β):fN n k=k n:=by cases n<;>rfl
theorem CU (r:Nat) (k x:V) (es:List (V×V×Nat)) (clock:Nat) (H:EH) (p:Option (Option (Nat×V))):VH r k x es clock H p=OT r k x es clock H p:=by
 unfold VH OT
 split
 ·rw [Va]
 ·rw [dA];rfl
 ·rfl
theorem gW (a b:Nat):bW a b=min a b:=by
 show cond (Nat.ble a b) a b=_;rw [bg];by_cases h:a≤b
 ·rw [if_pos h,Nat.min_eq_left h]
 ·rw [if_neg h,Nat.min_eq_right (by omega)]
theorem WO {H:EH} (hw:WF H) (o:EO) (ho:aG H.next o=H.next):ES H ⟨H.objs.set H.next o,H.next+1,H.grps,H.low⟩ (fun _=>False):=by
 have hne:∀ b o',H.objs.get b=some o'→b≠H.next:=fun b o' h=>by have:=hw.lt b o' h;omega
 have hg:H.grps.get H.next=none:=by
  cases e:H.grps.get H.next with
  | none=>rfl
  | some x=>have:=hw.gdom _ _ e;omega
 refine ⟨Nat.le_succ _,Nat.le_refl _,fun b o' h=>⟨o',by show (H.objs.set _ _).get b=_;rw [T.get_set_ne _ _ (hne b o' h)];exact h,rfl,rfl⟩,
  fun b o' h _=>⟨by show (H.objs.set _ _).get b=_;rw [T.get_set_ne _ _ (hne b o' h)];exact h,rfl⟩,fun b o' h hb=>?_,⟨fun b o' h=>?_,fun b o' h=>?_,fun g hgn b b' o1 o2 h1 h2 e1 e2=>?_,fun g x h=>?_⟩,fun _ h=>h.elim,fun b o' h hb=>?_⟩
 ·have h':(H.objs.set H.next o).get b=some o':=h
  rw [T.get_set_ne _ _ (by omega)] at h';exact ⟨o',h'⟩
 ·have h':(H.objs.set H.next o).get b=some o':=h
  by_cases e:b=H.next
  ·subst e;exact Nat.lt_succ_self _
  ·rw [T.get_set_ne _ _ e] at h';exact Nat.lt_succ_of_lt (hw.lt b o' h')
 ·have h':(H.objs.set H.next o).get b=some o':=h
  by_cases e:b=H.next
  ·subst e;rw [T.get_set_eq] at h';cases h';omega
  ·rw [T.get_set_ne _ _ e] at h';exact hw.root b o' h'
 ·have h1':(H.objs.set H.next o).get b=some o1:=h1
  have h2':(H.objs.set H.next o).get b'=some o2:=h2
  by_cases ea:b=H.next
  ·by_cases eb:b'=H.next
   ·rw [ea,eb]
   ·rw [T.get_set_ne _ _ eb] at h2'
    subst ea;rw [T.get_set_eq] at h1';cases h1'
    have:=hw.root b' o2 h2';have:=hw.lt b' o2 h2';omega
  ·rw [T.get_set_ne _ _ ea] at h1'
   by_cases eb:b'=H.next
   ·subst eb;rw [T.get_set_eq] at h2';cases h2'
    have:=hw.root b o1 h1';have:=hw.lt b o1 h1';omega
   ·rw [T.get_set_ne _ _ eb] at h2'
    exact hw.uniq g hgn b b' o1 o2 h1' h2' e1 e2
 ·exact Nat.lt_succ_of_lt (hw.gdom g x h)
 ·have h':(H.objs.set H.next o).get b=some o':=h
  by_cases e:b=H.next
  ·subst e;rw [T.get_set_eq] at h';cases h';exact .inl (by omega)
  ·rw [T.get_set_ne _ _ e] at h';exact absurd (hw.lt b o' h') (by omega)
theorem um {R:Ren} {S:Nat→Prop} {H:EH} {w w':World} (hr:Rel R S H w) (hw:WF H) (hf:R.bm H.next=none) (o:EO) (ho:aG H.next o=H.next) (ob:Obj) (z:Nat)
 (hor:∀ R',R.le R'→R'.bm H.next=some (w.heap.size,0)→R'.zs w.heap.size=z→OR R' True true o w.heap.size 0 w') (hWA:WA w ob w') :
 ∃ R',Sim R R' S H ⟨H.objs.set H.next o,H.next+1,H.grps,H.low⟩ (fun _=>False) w w'∧R'.bm H.next=some (w.heap.size,0)∧R'.zs w.heap.size=z:=by
 let R':Ren:=⟨fun b=>if b=H.next then some (w.heap.size,0) else R.bm b,fun r=>if r=w.heap.size then z else R.zs r,R.cz⟩
 have hle:R.le R':=⟨fun b x e=>by
  show (if b=H.next then _ else _)=_
  rw [if_neg (by intro h;rw [h,hf] at e;cases e)];exact e,
  fun b r d e=>by show (if r=w.heap.size then _ else _)=_;rw [if_neg (Nat.ne_of_lt (hr.img b r d e))],fun _ _ _ e=>e⟩
 have hb0:R'.bm H.next=some (w.heap.size,0):=if_pos rfl
 have hz0:R'.zs w.heap.size=z:=if_pos rfl
 have hbn:∀ b,b≠H.next→R'.bm b=R.bm b:=fun b e=>if_neg e
 have hlt:∀ b o',H.objs.get b=some o'→b≠H.next:=fun b o' h=>by have:=hw.lt b o' h;omega
 refine ⟨R',⟨WO hw o ho,⟨fun b h=>hbn b (by intro e;exact h ⟨by omega,by show b<H.next+1;omega⟩),fun r hr'=>if_neg (Nat.ne_of_lt hr'),fun b r d h1 h2 e=>?_,fun _ _=>rfl,fun _ _ _ e => .inl e⟩,
  ⟨hWA.os,hWA.tape,hWA.output,by rw [hWA.size];omega,fun r hr' _=>hWA.old r hr'⟩,⟨fun b r d e=>?_,fun b o' r d h e=>?_,fun b b' o1 o2 r d d' h1 h2 e1 e2=>?_,
   hr.frz.step rfl (fun r hr' _=>hWA.old r hr') fun b r d e=>by
    by_cases eb:b=H.next
    ·subst eb;rw [hb0] at e;cases e;exact .inl (Nat.le_refl _)
    ·rw [hbn b eb] at e;exact .inr ⟨b,d,e⟩⟩⟩,hb0,hz0⟩
 ·have:b=H.next:=by have h2':b<H.next+1:=h2;omega
  subst this;rw [hb0] at e;cases e;exact .inl (Nat.le_refl _)
 ·rw [hWA.size]
  by_cases eb:b=H.next
  ·subst eb;rw [hb0] at e;cases e;omega
  ·rw [hbn b eb] at e;have:=hr.img b r d e;omega
 ·have h':(H.objs.set H.next o).get b=some o':=h
  by_cases eb:b=H.next
  ·subst eb
   rw [T.get_set_eq] at h';cases h'
   rw [hb0] at e;cases e
   exact (hor R' hle hb0 hz0).mono (.refl _) hb0 rfl (fun _=>trivial) (fun _=>rfl)
  ·rw [T.get_set_ne _ _ eb] at h'
   rw [hbn b eb] at e
   refine (hr.obj b o' r d h' e).mono hle e (hWA.old r (hr.img b r d e)) (fun s=>s.elim id fun q=>absurd (hw.root b o' h') (by have:=hw.lt b o' h';omega)) (fun v=>?_)
   cases o'<;>exact v
 ·have h1':(H.objs.set H.next o).get b=some o1:=h1
  have h2':(H.objs.set H.next o).get b'=some o2:=h2
  by_cases ea:b=H.next
  ·by_cases eb:b'=H.next
   ·exact .inl (ea.trans eb.symm)
   ·rw [hbn b' eb] at e2
    rw [ea,hb0] at e1;cases e1
    have:=hr.img b' _ d' e2;omega
  ·rw [hbn b ea] at e1
   rw [T.get_set_ne _ _ ea] at h1'
   by_cases eb:b'=H.next
   ·rw [eb,hb0] at e2;cases e2
    have:=hr.img b _ d e1;omega
   ·rw [hbn b' eb] at e2
    rw [T.get_set_ne _ _ eb] at h2'
    exact hr.inj b b' o1 o2 r d d' h1' h2' e1 e2
def bump (H:EH):EH:=⟨H.objs,H.next+1,H.grps,H.low⟩
theorem Du {H:EH} (hw:WF H):WF (bump H):=⟨fun b o h=>Nat.lt_succ_of_lt (hw.lt b o h),hw.root,hw.uniq,fun g x h=>Nat.lt_succ_of_lt (hw.gdom g x h)⟩
theorem Lm {H:EH} (hw:WF H):ES H (bump H) (fun _=>False) :=
 ⟨Nat.le_succ _,Nat.le_refl _,fun b o h=>⟨o,h,rfl,rfl⟩,fun b o h _=>⟨h,rfl⟩,fun b o h _=>⟨o,h⟩,Du hw,fun _ h=>h.elim,fun b o h hb=>absurd (hw.lt b o h) (by omega)⟩
theorem Sv {R:Ren} {S:Nat→Prop} {H:EH} {w:World} (hr:Rel R S H w):Rel R S (bump H) w :=
 ⟨hr.img,fun b o r d ho hb=>(hr.obj b o r d ho hb).mono (.refl R) hb rfl id (fun v=>by cases o<;>exact v),hr.inj,hr.frz⟩
theorem xw {R:Ren} {S:Nat→Prop} {H:EH} {w:World} (hr:Rel R S H w) (hw:WF H) (hf:R.bm H.next=none):Sim R R S H (bump H) (fun _=>False) w w :=
 ⟨Lm hw,⟨fun _ _=>rfl,fun _ _=>rfl,fun b r d h1 h2 e=>(by
  have h2:b<H.next+1:=h2
  have:b=H.next:=by omega
  subst this
  rw [hf] at e;cases e),fun _ _=>rfl,fun _ _ _ e => .inl e⟩,.refl _ _ _ _,Sv (Sim.refl hw hr).rel⟩
theorem KF {R:Ren} {S:Nat→Prop} {H:EH} {w w':World} (hr:Rel R S H w) (hw:WF H) (hf:R.bm H.next=none∧∀ r,R.cz H.next r=none) {cs:Array Value} {t:TypeId} {fz:Nat×Nat} (hWA:WA w (.cells cs t fz) w') :
 ∃ R',Sim R R' S H (bump H) (fun _=>False) w w'∧R'.cz H.next w.heap.size=some cs∧R.le R':=by
 let R':Ren:=⟨R.bm,R.zs,fun a r=>if a=H.next∧r=w.heap.size then some cs else R.cz a r⟩
 have hle:R.le R':=⟨fun _ _ e=>e,fun _ _ _ _=>rfl,fun a r c e=>by
  show (if a=H.next∧r=w.heap.size then _ else _)=_
  rw [if_neg (fun q=>by rw [q.1,hf.2] at e;cases e)];exact e⟩
 refine ⟨R',⟨Lm hw,⟨fun _ _=>rfl,fun _ _=>rfl,fun b r d h1 h2 e=>?_,fun a ha=>?_,fun a r c e=>?_⟩,⟨hWA.os,hWA.tape,hWA.output,by rw [hWA.size];omega,fun r hr' _=>hWA.old r hr'⟩,
  ⟨fun b r d e=>by rw [hWA.size];exact Nat.lt_succ_of_lt (hr.img b r d e),fun b o r d ho hb=>(hr.obj b o r d ho hb).mono hle hb (hWA.old r (hr.img b r d hb)) (fun s=>s.elim id fun q=>absurd (hw.root b o ho) (by have:=hw.lt b o ho;omega)) (fun v=>by cases o<;>exact v),hr.inj,fun a r c e=>?_⟩⟩,if_pos ⟨rfl,rfl⟩,hle⟩
 ·have h2:b<H.next+1:=h2
  have:b=H.next:=by omega
  subst this
  have e:R.bm H.next=some (r,d):=e
  rw [hf.1] at e;cases e
 ·funext r
  show (if a=H.next∧r=w.heap.size then _ else _)=_
  rw [if_neg (fun q=>ha ⟨by omega,by show a<H.next+1;omega⟩)]
 ·have e:(if a=H.next∧r=w.heap.size then some cs else R.cz a r)=some c:=e
  split at e
  ·rename_i q;exact .inr (Nat.le_of_eq q.2.symm)
  ·exact .inl e
 ·have e:(if a=H.next∧r=w.heap.size then some cs else R.cz a r)=some c:=e
  split at e
  ·rename_i q
   cases e
   obtain ⟨rfl,rfl⟩:=q
   exact ⟨⟨t,fz,hWA.neu⟩,fun b d e=>Nat.lt_irrefl _ (hr.img b _ d e)⟩
  ·obtain ⟨⟨t',fz',h1⟩,h2⟩:=hr.frz a r c e
   exact ⟨⟨t',fz',(hWA.old r (hr.frz.lt e)).trans h1⟩,h2⟩
theorem wZ {R:Ren} {S:Nat→Prop} {H:EH} {w w':World} (hr:Rel R S H w) (hw:WF H) {b r:Nat} {o o':EO} (hb:H.objs.get b=some o) (hm:R.bm b=some (r,0)) (hk:bn o≠0) (hk':bn o'=bn o)
 (ob:Obj) (hor:OR R True true o' r 0 w') (hWU:WU w r ob w') :
 Sim R R S H ⟨H.objs.set b o',H.next,H.grps,bW H.low b⟩ (fun g=>g=b) w w':=by
 have hro:∀ o,bn o≠0→aG b o=b:=fun o h=>by cases o<;>first | rfl | exact absurd rfl h
 have hk2:bn o'≠0:=by rw [hk'];exact hk
 refine ⟨⟨Nat.le_refl _,by show bW H.low b≤_;rw [gW];omega,fun b2 o2 h=>?_,fun b2 o2 h hn=>?_,fun b2 o2 h hlt=>?_,⟨fun b2 o2 h=>?_,fun b2 o2 h=>?_,fun g hg b1 b2 o1 o2 h1 h2 e1 e2=>?_,hw.gdom⟩,fun g hg=>?_,fun b2 o2 h hge=>?_⟩,
  ⟨fun _ _=>rfl,fun _ _=>rfl,fun b _ _ h1 h2 _=>absurd h1 (by have h2':b<H.next:=h2;omega),fun _ _=>rfl,fun _ _ _ e => .inl e⟩,
  ⟨hWU.os,hWU.tape,hWU.output,by rw [hWU.size];exact Nat.le_refl _,fun r' hr' hn=>?_⟩,
  ⟨fun b2 r2 d2 e=>by rw [hWU.size];exact hr.img b2 r2 d2 e,fun b2 o2 r2 d2 h e=>?_,fun b1 b2 o1 o2 r2 d1 d2 h1 h2 e1 e2=>?_,
   hr.frz.step rfl (fun r' _ hn=>hWU.old r' fun e=>by subst e;exact hn b 0 hm) fun b r d e => .inr ⟨b,d,e⟩⟩⟩
 ·by_cases e:b2=b
  ·subst e;rw [hb] at h;cases h
   exact ⟨o',T.get_set_eq _ _ _,(hro o' hk2).trans (hro o hk).symm,hk'⟩
  ·exact ⟨o2,by show (H.objs.set b o').get b2=_;rw [T.get_set_ne _ _ e];exact h,rfl,rfl⟩
 ·by_cases e:b2=b
  ·subst e;rw [hb] at h;cases h;exact absurd (hro o hk) hn
  ·exact ⟨by show (H.objs.set b o').get b2=_;rw [T.get_set_ne _ _ e];exact h,rfl⟩
 ·by_cases e:b2=b
  ·subst e;exact ⟨o,hb⟩
  ·have h':(H.objs.set b o').get b2=some o2:=h
   rw [T.get_set_ne _ _ e] at h';exact ⟨o2,h'⟩
 ·by_cases e:b2=b
  ·subst e;exact hw.lt b2 o hb
  ·have h':(H.objs.set b o').get b2=some o2:=h
   rw [T.get_set_ne _ _ e] at h';exact hw.lt b2 o2 h'
 ·have h':(H.objs.set b o').get b2=some o2:=h
  by_cases e:b2=b
  ·subst e;rw [T.get_set_eq] at h';cases h';rw [hro o' hk2];exact Nat.le_refl _
  ·rw [T.get_set_ne _ _ e] at h';exact hw.root b2 o2 h'
 ·have h1':(H.objs.set b o').get b1=some o1:=h1
  have h2':(H.objs.set b o').get b2=some o2:=h2
  have f1:∃ q,H.objs.get b1=some q∧aG b1 q=aG b1 o1:=by
   by_cases e:b1=b
   ·subst e;rw [T.get_set_eq] at h1';cases h1';exact ⟨o,hb,(hro o hk).trans (hro o' hk2).symm⟩
   ·rw [T.get_set_ne _ _ e] at h1';exact ⟨o1,h1',rfl⟩
  have f2:∃ q,H.objs.get b2=some q∧aG b2 q=aG b2 o2:=by
   by_cases e:b2=b
   ·subst e;rw [T.get_set_eq] at h2';cases h2';exact ⟨o,hb,(hro o hk).trans (hro o' hk2).symm⟩
   ·rw [T.get_set_ne _ _ e] at h2';exact ⟨o2,h2',rfl⟩
  obtain ⟨q1,a1,a2⟩:=f1
  obtain ⟨q2,c1,c2⟩:=f2
  exact hw.uniq g hg b1 b2 q1 q2 a1 c1 (a2.trans e1) (c2.trans e2)
 ·subst hg;show bW H.low g≤g;rw [gW];omega
 ·by_cases e:b2=b
  ·subst e;exact absurd (hw.lt b2 o hb) (by omega)
  ·have h':(H.objs.set b o').get b2=some o2:=h
   rw [T.get_set_ne _ _ e] at h';exact absurd (hw.lt b2 o2 h') (by omega)
 ·refine hWU.old r' fun e=>?_
  subst e;exact hn b o 0 hb hm (hro o hk)
 ·have h':(H.objs.set b o').get b2=some o2:=h
  by_cases eb:b2=b
  ·subst eb;rw [T.get_set_eq] at h';cases h'
   rw [hm] at e;cases e
   exact hor.mono (.refl _) hm rfl (fun _=>trivial) (fun _=>rfl)
  ·rw [T.get_set_ne _ _ eb] at h'
   have hne:r2≠r:=fun er=>by
    subst er
    rcases hr.inj b2 b o2 o r2 d2 0 h' hb e hm with q | ⟨_,_,q,_⟩
    ·exact eb q
    ·exact hk q
   refine (hr.obj b2 o2 r2 d2 h' e).mono (.refl _) e (hWU.old r2 hne) (fun s=>s.elim id fun q=>absurd (hw.root b2 o2 h') (by have:=hw.lt b2 o2 h';omega)) (fun v=>?_)
   cases o2<;>exact v
 ·have f:∀ b1 o1,(H.objs.set b o').get b1=some o1→∃ q,H.objs.get b1=some q∧aG b1 q=aG b1 o1∧bn q=bn o1:=fun b1 o1 h1=>by
   by_cases e:b1=b
   ·subst e;rw [T.get_set_eq] at h1;cases h1;exact ⟨o,hb,(hro o hk).trans (hro o' hk2).symm,hk'.symm⟩
   ·rw [T.get_set_ne _ _ e] at h1;exact ⟨o1,h1,rfl,rfl⟩
  obtain ⟨q1,a1,a2,a3⟩:=f b1 o1 h1
  obtain ⟨q2,c1,c2,c3⟩:=f b2 o2 h2
  rcases hr.inj b1 b2 q1 q2 r2 d1 d2 a1 c1 e1 e2 with q | ⟨q,p1,p2,p3⟩
  ·exact .inl q
  ·exact .inr ⟨q,by rw [← a3];exact p1,by rw [← c3];exact p2,by rw [← a2,← c2];exact p3⟩
end Go.Ev
/- A store into a row, and an append: a new version of a row. -/
namespace Go.Ev
open Go
def Tm (mn mx:Nat) (at_:T Nat) (sz b:Nat):Prop:=match at_ with | .fn f=>f 0=some b | .lf=>mn≤sz∧sz≤mx∧(T.lf:T Nat).get sz=some b | .nd x l r=>mn≤sz∧sz≤mx∧(T.nd x l r).get sz=some b
theorem La {o:Option Nat} {b:Nat}:Qp o b=true↔o=some b:=by
 cases o with
 | none=>exact ⟨fun h=>(by cases h),fun h=>(by cases h)⟩
 | some b' =>
  show Nat.beq b b'=true↔_
  rw [rY,decide_eq_true_iff]
  exact ⟨fun h=>by rw [h],fun h=>by injection h with h;exact h.symm⟩
theorem F8 {mn mx:Nat} {at_:T Nat} {sz b:Nat}:BZ mn mx at_ sz b=true↔mn≤sz∧sz≤mx∧at_.get sz=some b:=by
 unfold BZ
 rw [bg,bg]
 by_cases h1:mn≤sz
 ·by_cases h2:sz≤mx
  ·rw [if_pos h1,if_pos h2,La]
   exact ⟨fun h=>⟨h1,h2,h⟩,fun h=>h.2.2⟩
  ·rw [if_pos h1,if_neg h2];simp [h2]
 ·rw [if_neg h1];simp [h1]
theorem gZ {H:EH} {b sz g mn mx:Nat} {at_:T Nat} (h:H.grps.get g=some (mn,mx,at_)):H.valid b sz g=true↔Tm mn mx at_ sz b:=by
 unfold EH.valid
 rw [h]
 show Ql mn mx at_ sz b=true↔_
 cases at_ with
 | lf=>exact F8
 | nd x l r=>exact F8
 | fn f=>exact La
theorem vY {H:EH} (hw:WF H) {b:Nat} {c:T V} {lo sz g:Nat} (hb:H.objs.get b=some (.cells c lo sz g)) (hv:H.valid b sz g=true) {H':EH} (hg:H'.grps=lq H.grps g sz)
 {b2 sz2:Nat} {c2:T V} {lo2:Nat} (hb2:H.objs.get b2=some (.cells c2 lo2 sz2 g)) (hv2:H'.valid b2 sz2 g=true):b2=b:=by
 cases e:H.grps.get g with
 | none=>exact hw.uniq g e b2 b _ _ hb2 hb rfl rfl
 | some x =>
  obtain ⟨mn,mx,at_⟩:=x
  have h1:=(gZ e).1 hv
  have e2:H'.grps.get g=some (sz,sz,at_):=by
   rw [hg];unfold lq;rw [e];exact T.get_set_eq _ _ _
  have h2:=(gZ e2).1 hv2
  cases at_ with
  | fn f=>have:=(show f 0=some b from h1).symm.trans (show f 0=some b2 from h2);injection this with this;exact this.symm
  | lf =>
   obtain ⟨a1,a2,a3⟩:=h2
   have:sz2=sz:=by omega
   subst this
   have:=h1.2.2.symm.trans a3;injection this with this;exact this.symm
  | nd x l r =>
   obtain ⟨a1,a2,a3⟩:=h2
   have:sz2=sz:=by omega
   subst this
   have:=h1.2.2.symm.trans a3;injection this with this;exact this.symm
theorem lu (grps:T qo) {g g2:Nat} (sz:Nat) (h:g2≠g):(lq grps g sz).get g2=grps.get g2:=by
 unfold lq
 cases grps.get g with
 | none=>rfl
 | some x=>exact T.get_set_ne _ _ h
theorem H8 (grps:T qo) {g g2:Nat} (sz:Nat):(lq grps g sz).get g2=none→grps.get g2=none:=by
 intro h
 by_cases e:g2=g
 ·subst e
  unfold lq at h
  cases q:grps.get g2 with
  | none=>rfl
  | some x=>rw [q] at h;obtain ⟨a,b,c⟩:=x;simp only [T.get_set_eq] at h;cases h
 ·rw [lu grps sz e] at h;exact h
theorem pF {R:Ren} {S:Nat→Prop} {H:EH} {w w':World} (hr:Rel R S H w) (hw:WF H) {b r d:Nat} {c c':T V} {lo sz g:Nat} (hb:H.objs.get b=some (.cells c lo sz g)) (hv:H.valid b sz g=true)
 (hm:R.bm b=some (r,d)) {cs':Array Value} {t:TypeId} {fz:Nat×Nat} (hsz:cs'.size=R.zs r) (hfz:∀ i,¬ (fz.1≤i∧i<fz.2))
 (hnew:∀ i,lo≤i→i<sz→d≤i∧∃ x y,c'.get i=some x∧dE x=true∧cs'[i-d]?=some y∧VR R x y) (hWU:WU w r (.cells cs' t fz) w') :
 Sim R R S H ⟨H.objs.set b (.cells c' lo sz g),H.next,lq H.grps g sz,bW H.low g⟩ (fun x=>x=g) w w':=by
 have f:∀ b1 o1,(H.objs.set b (.cells c' lo sz g)).get b1=some o1→∃ q,H.objs.get b1=some q∧aG b1 q=aG b1 o1∧bn q=bn o1:=fun b1 o1 h1=>by
  by_cases e:b1=b
  ·subst e;rw [T.get_set_eq] at h1;cases h1;exact ⟨_,hb,rfl,rfl⟩
  ·rw [T.get_set_ne _ _ e] at h1;exact ⟨o1,h1,rfl,rfl⟩
 refine ⟨⟨Nat.le_refl _,by show bW H.low g≤_;rw [gW];omega,fun b2 o2 h=>?_,fun b2 o2 h hn=>?_,fun b2 o2 h hlt=>?_,⟨fun b2 o2 h=>?_,fun b2 o2 h=>?_,fun g' hg b1 b2 o1 o2 h1 h2 e1 e2=>?_,fun g' x hg=>?_⟩,fun g' hg=>?_,fun b2 o2 h hge=>?_⟩,
  ⟨fun _ _=>rfl,fun _ _=>rfl,fun b _ _ h1 h2 _=>absurd h1 (by have h2':b<H.next:=h2;omega),fun _ _=>rfl,fun _ _ _ e => .inl e⟩,
  ⟨hWU.os,hWU.tape,hWU.output,by rw [hWU.size];exact Nat.le_refl _,fun r' hr' hn=>?_⟩,
  ⟨fun b2 r2 d2 e=>by rw [hWU.size];exact hr.img b2 r2 d2 e,fun b2 o2 r2 d2 h e=>?_,fun b1 b2 o1 o2 r2 d1 d2 h1 h2 e1 e2=>?_,
   hr.frz.step rfl (fun r' _ hn=>hWU.old r' fun e=>by subst e;exact hn b d hm) fun b r d e => .inr ⟨b,d,e⟩⟩⟩
 ·by_cases e:b2=b
  ·subst e;rw [hb] at h;cases h;exact ⟨_,T.get_set_eq _ _ _,rfl,rfl⟩
  ·exact ⟨o2,by show (H.objs.set b _).get b2=_;rw [T.get_set_ne _ _ e];exact h,rfl,rfl⟩
 ·by_cases e:b2=b
  ·subst e;rw [hb] at h;cases h;exact absurd rfl hn
  ·exact ⟨by show (H.objs.set b _).get b2=_;rw [T.get_set_ne _ _ e];exact h,lu _ _ hn⟩
 ·obtain ⟨q,a,_⟩:=f b2 o2 h;exact ⟨q,a⟩
 ·obtain ⟨q,a,_⟩:=f b2 o2 h;exact hw.lt b2 q a
 ·obtain ⟨q,a,e,_⟩:=f b2 o2 h;rw [← e];exact hw.root b2 q a
 ·obtain ⟨q1,a1,a2,a3⟩:=f b1 o1 h1
  obtain ⟨q2,c1,c2,c3⟩:=f b2 o2 h2
  exact hw.uniq g' (H8 _ _ hg) b1 b2 q1 q2 a1 c1 (a2.trans e1) (c2.trans e2)
 ·have hg':(lq H.grps g sz).get g'=some x:=hg
  by_cases e:g'=g
  ·subst e
   exact Nat.lt_of_le_of_lt (hw.root b _ hb) (hw.lt b _ hb)
  ·rw [lu _ _ e] at hg';exact hw.gdom g' x hg'
 ·subst hg;show bW H.low g'≤g';rw [gW];omega
 ·obtain ⟨q,a,_⟩:=f b2 o2 h;exact absurd (hw.lt b2 q a) (by omega)
 ·refine hWU.old r' fun e=>?_
  subst e;exact hn b _ d hb hm rfl
 ·have h':(H.objs.set b (.cells c' lo sz g)).get b2=some o2:=h
  by_cases eb:b2=b
  ·subst eb;rw [T.get_set_eq] at h';cases h'
   rw [hm] at e;cases e
   exact ⟨cs',t,fz,hWU.neu,hsz,hfz,fun _ _=>hnew⟩
  ·rw [T.get_set_ne _ _ eb] at h'
   by_cases er:r2=r
   ·subst er
    rcases hr.inj b2 b o2 _ r2 d2 d h' hb e hm with q | ⟨q,k1,_,k3⟩
    ·exact absurd q eb
    ·cases o2 with
     | cells c2 lo2 sz2 g2 =>
      have k3':g2=g:=k3
      subst k3'
      obtain ⟨cs,t2,fz2,p1,p2,p3,_⟩:=hr.obj b2 _ r2 d2 h' e
      refine ⟨cs',t,fz,hWU.neu,hsz,hfz,fun _ v=>?_⟩
      exact absurd (vY hw hb hv (H':=⟨H.objs.set b (.cells c' lo sz g2),H.next,lq H.grps g2 sz,bW H.low g2⟩) rfl h' v) eb
     | map es clk=>cases k1
     | loop=>cases k1
     | dfr=>cases k1
     | iter=>cases k1
   ·refine (hr.obj b2 o2 r2 d2 h' e).mono (.refl _) e (hWU.old r2 er) (fun s=>s.elim id fun q=>absurd (hw.root b2 o2 h') (by have:=hw.lt b2 o2 h';omega)) (fun v=>?_)
    cases o2 with
    | cells c2 lo2 sz2 g2 =>
     by_cases eg:g2=g
     ·subst eg
      exact absurd (vY hw hb hv (H':=⟨H.objs.set b (.cells c' lo sz g2),H.next,lq H.grps g2 sz,bW H.low g2⟩) rfl h' v) eb
     ·have e3:(lq H.grps g sz).get g2=H.grps.get g2:=lu _ _ eg
      have v':EH.valid ⟨H.objs.set b (.cells c' lo sz g),H.next,lq H.grps g sz,bW H.low g⟩ b2 sz2 g2=true:=v
      show H.valid b2 sz2 g2=true
      unfold EH.valid at v' ⊢
      rw [e3] at v'
      exact v'
    | map es clk=>rfl
    | loop=>rfl
    | dfr=>rfl
    | iter=>rfl
 ·obtain ⟨q1,a1,a2,a3⟩:=f b1 o1 h1
  obtain ⟨q2,c1,c2,c3⟩:=f b2 o2 h2
  rcases hr.inj b1 b2 q1 q2 r2 d1 d2 a1 c1 e1 e2 with q | ⟨q,p1,p2,p3⟩
  ·exact .inl q
  ·exact .inr ⟨q,by rw [← a3];exact p1,by rw [← c3];exact p2,by rw [← a2,← c2];exact p3⟩
theorem BP (v i:Nat) (at_:T Nat):jf v 0 i at_=at_:=rfl
theorem tK (v m i:Nat) (at_:T Nat):jf v (m+1) i at_=jf v m (i+1) (at_.set i v):=rfl
theorem Gx (v:Nat):∀ (m i:Nat) (at_:T Nat) (j:Nat),(jf v m i at_).get j=if i≤j∧j<i+m then some v else at_.get j:=by
 intro m
 induction m with
 | zero=>intro i at_ j;rw [BP,if_neg (by omega)]
 | succ m ih =>
  intro i at_ j
  rw [tK,ih,T.get_set]
  by_cases h:i+1≤j∧j<i+1+m
  ·rw [if_pos h,if_pos (by omega)]
  ·rw [if_neg h]
   by_cases e:j=i
   ·subst e;rw [if_pos rfl,if_pos (by omega)]
   ·rw [if_neg e,if_neg (by omega)]
theorem kQ {H:EH} (hw:WF H) {b:Nat} {c:T V} {lo sz g n sz':Nat} (hb:H.objs.get b=some (.cells c lo sz g)) (hv:H.valid b sz g=true) (hn:n≤sz) (hs:n<sz') {H':EH}
 (hg:H'.grps=H.grps.set g (appG H.grps (iO H g sz b) n sz' H.next)) {b2 sz2:Nat} {c2:T V} {lo2:Nat} (hb2:H.objs.get b2=some (.cells c2 lo2 sz2 g)) (hv2:H'.valid b2 sz2 g=true) :
 H.valid b2 sz2 g=true∧sz2≤n:=by
 have hlt:=hw.lt b2 _ hb2
 have only:∀ G,appG H.grps G n sz' H.next=GR H.next→H'.grps.get g=some (appG H.grps G n sz' H.next)→False:=fun G e1 e2=>by
  rw [e1] at e2
  have h2:(fun _=>some H.next:Nat→Option Nat) 0=some b2:=(gZ e2).1 hv2
  have h2:some H.next=some b2:=h2
  injection h2 with h2
  omega
 have key:∀ mn mx (at_:T Nat),(mn≤sz∧sz≤mx)→(bW mn sz'≤sz2∧sz2≤sz'∧(jf H.next (sz'-n) (n+1) at_).get sz2=some b2)→mn≤sz2∧sz2≤mx∧at_.get sz2=some b2∧sz2≤n:=by
  intro mn mx at_ h0 ⟨h1,h2,h3⟩
  rw [gW] at h1
  rw [Gx] at h3
  by_cases e:n+1≤sz2∧sz2<n+1+(sz'-n)
  ·rw [if_pos e] at h3;cases h3;omega
  ·rw [if_neg e] at h3;exact ⟨by omega,by omega,h3,by omega⟩
 have tree:∀ (m i v:Nat) (at_:T Nat),(∀ f,at_ ≠ .fn f)→∀ f,jf v m i at_ ≠ .fn f:=by
  intro m
  induction m with
  | zero=>intro i v at_ h;exact h
  | succ m ih =>
   intro i v at_ h
   rw [tK]
   refine ih _ _ _ fun f=>?_
   cases at_ with
   | fn g=>exact absurd rfl (h g)
   | lf =>
    show T.sing v (i+1) i≠_
    rw [T.sing_succ]
    split
    ·intro q;cases q
    ·split<;>(intro q;cases q)
   | nd x l r =>
    rw [T.set_nd]
    split
    ·intro q;cases q
    ·split<;>(intro q;cases q)
 have okT:∀ (mn mx:Nat) (at_:T Nat) (b:Nat),(∀ f,at_ ≠ .fn f)→Tm mn mx at_ sz2 b→mn≤sz2∧sz2≤mx∧at_.get sz2=some b:=fun mn mx at_ b h h2=>by
  cases at_ with
  | fn f=>exact absurd rfl (h f)
  | lf=>exact h2
  | nd x l r=>exact h2
 have okB:∀ (mn mx:Nat) (at_:T Nat) (b:Nat),(∀ f,at_ ≠ .fn f)→mn≤sz2∧sz2≤mx∧at_.get sz2=some b→Tm mn mx at_ sz2 b:=fun mn mx at_ b h h2=>by
  cases at_ with
  | fn f=>exact absurd rfl (h f)
  | lf=>exact h2
  | nd x l r=>exact h2
 have okS:∀ (mn mx:Nat) (at_:T Nat) (b:Nat),(∀ f,at_ ≠ .fn f)→Tm mn mx at_ sz b→mn≤sz∧sz≤mx:=fun mn mx at_ b h h2=>by
  cases at_ with
  | fn f=>exact absurd rfl (h f)
  | lf=>exact ⟨h2.1,h2.2.1⟩
  | nd x l r=>exact ⟨h2.1,h2.2.1⟩
 cases hgs:H.grps with
 | fn f =>
  exfalso
  refine only (iO H g sz b) ?_ ?_
  ·rw [hgs];rfl
  ·rw [hg,hgs];exact T.get_set_eq _ _ _
 | _ =>
  all_goals
   have happ:∀ mn mx at_,(∀ f,at_ ≠ .fn f)→appG H.grps (mn,mx,at_) n sz' H.next=(bW mn sz',sz',jf H.next (sz'-n) (n+1) at_):=fun mn mx at_ h=>by
    rw [hgs]
    cases at_ with
    | fn f=>exact absurd rfl (h f)
    | lf=>rfl
    | nd x l r=>rfl
   have happF:∀ mn mx f,appG H.grps (mn,mx,.fn f) n sz' H.next=GR H.next:=fun mn mx f=>by rw [hgs];rfl
   cases e:H.grps.get g with
   | none =>
    have eb:=hw.uniq g e b2 b _ _ hb2 hb rfl rfl
    subst eb
    rw [hb] at hb2;cases hb2
    have e0:iO H g sz b2=(sz,sz,T.set .lf sz b2):=by unfold iO;rw [e]
    have hnf:∀ f,(T.set .lf sz b2:T Nat) ≠ .fn f:=fun f=>by
     have:=tree 1 sz b2 .lf (fun f q=>by cases q) f
     exact this
    have e2:H'.grps.get g=some (bW sz sz',sz',jf H.next (sz'-n) (n+1) (T.set .lf sz b2)):=by rw [hg,T.get_set_eq,e0,happ _ _ _ hnf]
    obtain ⟨_,_,_,q⟩:=key _ _ _ ⟨Nat.le_refl _,Nat.le_refl _⟩ (okT _ _ _ _ (tree _ _ _ _ hnf) ((gZ e2).1 hv2))
    exact ⟨hv,q⟩
   | some x =>
    obtain ⟨mn,mx,at_⟩:=x
    have h1:=(gZ e).1 hv
    have e0:iO H g sz b=(mn,mx,at_):=by unfold iO;rw [e]
    by_cases hf:∃ f,at_ = .fn f
    ·obtain ⟨f,rfl⟩:=hf
     exfalso
     refine only (iO H g sz b) ?_ ?_
     ·rw [e0];exact happF _ _ _
     ·rw [hg];exact T.get_set_eq _ _ _
    ·have hnf:∀ f,at_ ≠ .fn f:=fun f q=>hf ⟨f,q⟩
     have e2:H'.grps.get g=some (bW mn sz',sz',jf H.next (sz'-n) (n+1) at_):=by rw [hg,T.get_set_eq,e0,happ _ _ _ hnf]
     obtain ⟨q1,q2,q3,q4⟩:=key _ _ _ (okS _ _ _ _ hnf h1) (okT _ _ _ _ (tree _ _ _ _ hnf) ((gZ e2).1 hv2))
     exact ⟨(gZ e).2 (okB _ _ _ _ hnf ⟨q1,q2,q3⟩),q4⟩
theorem xE {R:Ren} {S:Nat→Prop} {H:EH} {w w':World} (hr:Rel R S H w) (hw:WF H) (hf:R.bm H.next=none) {b r d:Nat} {c c':T V} {lo sz g n off sz':Nat} (hb:H.objs.get b=some (.cells c lo sz g)) (hv:H.valid b sz g=true)
 (hm:R.bm b=some (r,d)) (hn:n≤sz) (hs:n<sz') {r' d':Nat} {cs':Array Value} {t:TypeId} {fz:Nat×Nat} (hfz:∀ i,¬ (fz.1≤i∧i<fz.2))
 (hcase:(r'=w.heap.size∧w'.heap.size=w.heap.size+1∧∀ q,q<w.heap.size→w'.heap[q]?=w.heap[q]?) ∨
  (r'=r∧d'=d∧w'.heap.size=w.heap.size∧cs'.size=R.zs r∧(∀ q,q≠r→w'.heap[q]?=w.heap[q]?)∧∀ cs t2 fz2,w.heap[r]?=some (.cells cs t2 fz2)→∀ k,k+d<n→cs'[k]?=cs[k]?))
 (hneu:w'.heap[r']?=some (.cells cs' t fz)) (hos:w'.os=w.os) (htape:w'.tape=w.tape) (hout:w'.output=w.output)
 (hnew:∀ R',R.le R'→∀ i,off≤i→i<sz'→d'≤i∧∃ x y,c'.get i=some x∧dE x=true∧cs'[i-d']?=some y∧VR R' x y) :
 ∃ R',Sim R R' S H ⟨H.objs.set H.next (.cells c' off sz' g),H.next+1,H.grps.set g (appG H.grps (iO H g sz b) n sz' H.next),bW H.low g⟩ (fun x=>x=g) w w'∧R'.bm H.next=some (r',d')∧R'.zs r'=cs'.size:=by
 let R':Ren:=⟨fun x=>if x=H.next then some (r',d') else R.bm x,fun q=>if q=r' then cs'.size else R.zs q,R.cz⟩
 have hgl:g<H.next:=Nat.lt_of_le_of_lt (hw.root b _ hb) (hw.lt b _ hb)
 have hrl:=hr.img b r d hm
 have hzs:∀ q,q<w.heap.size→R'.zs q=R.zs q:=fun q hq=>by
  show (if q=r' then _ else _)=_
  by_cases e:q=r'
  ·rw [if_pos e]
   rcases hcase with ⟨a,_,_⟩ | ⟨a,_,_,z,_⟩
   ·omega
   ·rw [z,e,a]
  ·rw [if_neg e]
 have hle:R.le R':=⟨fun x y e=>by
  show (if x=H.next then _ else _)=_
  rw [if_neg (by intro h;rw [h,hf] at e;cases e)];exact e,
  fun x q y e=>hzs q (hr.img x q y e),fun _ _ _ e=>e⟩
 have hb0:R'.bm H.next=some (r',d'):=if_pos rfl
 have hz0:R'.zs r'=cs'.size:=if_pos rfl
 have hbn:∀ x,x≠H.next→R'.bm x=R.bm x:=fun x e=>if_neg e
 have hlt:∀ x o',H.objs.get x=some o'→x≠H.next:=fun x o' h=>by have:=hw.lt x o' h;omega
 have hsize:w.heap.size≤w'.heap.size:=by rcases hcase with ⟨_,a,_⟩ | ⟨_,_,a,_⟩<;>omega
 have hold:∀ q,q<w.heap.size→q≠r→w'.heap[q]?=w.heap[q]?:=fun q h1 h2=>by
  rcases hcase with ⟨_,_,a⟩ | ⟨_,_,_,_,a,_⟩
  ·exact a q h1
  ·exact a q h2
 have hobj:∀ x o',(H.objs.set H.next (.cells c' off sz' g)).get x=some o'→x≠H.next→H.objs.get x=some o':=fun x o' h e=>by rw [T.get_set_ne _ _ e] at h;exact h
 refine ⟨R',⟨⟨Nat.le_succ _,by show bW H.low g≤_;rw [gW];omega,fun x o' h=>⟨o',by show (H.objs.set _ _).get x=_;rw [T.get_set_ne _ _ (hlt x o' h)];exact h,rfl,rfl⟩,
  fun x o' h hn'=>⟨by show (H.objs.set _ _).get x=_;rw [T.get_set_ne _ _ (hlt x o' h)];exact h,T.get_set_ne _ _ hn'⟩,fun x o' h hx=>⟨o',hobj x o' h (by omega)⟩,
  ⟨fun x o' h=>?_,fun x o' h=>?_,fun g' hg x y o1 o2 h1 h2 e1 e2=>?_,fun g' x h=>?_⟩,fun g' hg=>?_,fun x o' h hx=>?_⟩,
  ⟨fun x h=>hbn x (by intro e;exact h ⟨by omega,by show x<H.next+1;omega⟩),hzs,fun x q y h1 h2 e=>?_,fun _ _=>rfl,fun _ _ _ e => .inl e⟩,
  ⟨hos,htape,hout,hsize,fun q hq hq'=>hold q hq fun e=>?_⟩,⟨fun x q y e=>?_,fun x o' q y h e=>?_,fun x x' o1 o2 q y y' h1 h2 e1 e2=>?_,
   hr.frz.step rfl (fun q hq hn=>hold q hq fun e=>by subst e;exact hn b d hm) fun x q y e=>by
    by_cases ex:x=H.next
    ·subst ex;rw [hb0] at e;cases e
     rcases hcase with ⟨a,_,_⟩ | ⟨a,_,_⟩
     ·exact .inl (by omega)
     ·subst a;exact .inr ⟨b,d,hm⟩
    ·rw [hbn x ex] at e;exact .inr ⟨x,y,e⟩⟩⟩,hb0,hz0⟩
 ·by_cases e:x=H.next
  ·subst e;exact Nat.lt_succ_self _
  ·exact Nat.lt_succ_of_lt (hw.lt x o' (hobj x o' h e))
 ·by_cases e:x=H.next
  ·subst e;have h':(H.objs.set H.next (.cells c' off sz' g)).get H.next=some o':=h
   rw [T.get_set_eq] at h';cases h';exact Nat.le_of_lt hgl
  ·exact hw.root x o' (hobj x o' h e)
 ·have hg':(H.grps.set g (appG H.grps (iO H g sz b) n sz' H.next)).get g'=none:=hg
  have hgn:g'≠g:=fun e=>by subst e;rw [T.get_set_eq] at hg';cases hg'
  rw [T.get_set_ne _ _ hgn] at hg'
  have nn:∀ x o,(H.objs.set H.next (.cells c' off sz' g)).get x=some o→aG x o=g'→x≠H.next:=fun x o h e q=>by
   subst q;rw [T.get_set_eq] at h;cases h;exact hgn e.symm
  exact hw.uniq g' hg' x y o1 o2 (hobj x o1 h1 (nn x o1 h1 e1)) (hobj y o2 h2 (nn y o2 h2 e2)) e1 e2
 ·have h':(H.grps.set g (appG H.grps (iO H g sz b) n sz' H.next)).get g'=some x:=h
  by_cases e:g'=g
  ·subst e;exact Nat.lt_succ_of_lt hgl
  ·rw [T.get_set_ne _ _ e] at h';exact Nat.lt_succ_of_lt (hw.gdom g' x h')
 ·subst hg;show bW H.low g'≤g';rw [gW];omega
 ·by_cases e:x=H.next
  ·subst e;have h':(H.objs.set H.next (.cells c' off sz' g)).get H.next=some o':=h
   rw [T.get_set_eq] at h';cases h';exact .inr rfl
  ·exact absurd (hw.lt x o' (hobj x o' h e)) (by omega)
 ·have:x=H.next:=by have h2':x<H.next+1:=h2;omega
  subst this;rw [hb0] at e;cases e
  rcases hcase with ⟨a,_,_⟩ | ⟨a,a2,_⟩
  ·exact .inl (by omega)
  ·exact .inr ⟨b,_,_,hb,by rw [a,a2];exact hm,T.get_set_eq _ _ _,rfl,rfl,rfl⟩
 ·subst e;exact hq' b _ d hb hm rfl
 ·by_cases ex:x=H.next
  ·subst ex;rw [hb0] at e;cases e
   rcases hcase with ⟨a,a2,_⟩ | ⟨a,_,a2,_⟩<;>omega
  ·rw [hbn x ex] at e;have:=hr.img x q y e;omega
 ·have h':(H.objs.set H.next (.cells c' off sz' g)).get x=some o':=h
  by_cases ex:x=H.next
  ·subst ex
   rw [T.get_set_eq] at h';cases h'
   rw [hb0] at e;cases e
   exact ⟨cs',t,fz,hneu,hz0.symm,hfz,fun _ _=>hnew R' hle⟩
  ·have h2:=hobj x o' h ex
   rw [hbn x ex] at e
   have hs':Up S H.next (aG x o')→S (aG x o'):=fun s=>s.elim id fun q=>absurd (hw.root x o' h2) (by have:=hw.lt x o' h2;omega)
   by_cases eq:q=r
   ·subst eq
    rcases hr.inj x b o' _ q y d h2 hb e hm with p | ⟨p,k1,_,k3⟩
    ·subst p
     rw [hb] at h2;cases h2
     rw [hm] at e;cases e
     obtain ⟨cs,t2,fz2,p1,p2,p3,p4⟩:=hr.obj x _ q d hb hm
     rcases hcase with ⟨_,_,a⟩ | ⟨a1,a2,a3,a4,a5,a6⟩
     ·refine ⟨cs,t2,fz2,(a q hrl).trans p1,by rw [hzs q hrl];exact p2,p3,fun s v i hi hj=>?_⟩
      obtain ⟨v1,v2⟩:=kQ hw hb hv hn hs (H':=⟨H.objs.set H.next (.cells c' off sz' g),H.next+1,H.grps.set g (appG H.grps (iO H g sz x) n sz' H.next),bW H.low g⟩) rfl hb v
      obtain ⟨z,x1,y1,z1,z2,z3,z4⟩:=p4 (hs' s) v1 i hi hj
      exact ⟨z,x1,y1,z1,z2,z3,z4.mono hle⟩
     ·subst a1
      refine ⟨cs',t,fz,hneu,by rw [hzs _ hrl];exact a4,hfz,fun s v i hi hj=>?_⟩
      obtain ⟨v1,v2⟩:=kQ hw hb hv hn hs (H':=⟨H.objs.set H.next (.cells c' off sz' g),H.next+1,H.grps.set g (appG H.grps (iO H g sz x) n sz' H.next),bW H.low g⟩) rfl hb v
      obtain ⟨z,x1,y1,z1,z2,z3,z4⟩:=p4 (hs' s) v1 i hi hj
      exact ⟨z,x1,y1,z1,z2,(a6 cs t2 fz2 p1 (i-d) (by omega)).trans z3,z4.mono hle⟩
    ·subst p
     cases o' with
     | cells c2 lo2 sz2 g2 =>
      have k3':g2=g:=k3
      subst k3'
      obtain ⟨cs,t2,fz2,p1,p2,p3,p4⟩:=hr.obj x _ q y h2 e
      rcases hcase with ⟨_,_,a⟩ | ⟨a1,a2,a3,a4,a5,a6⟩
      ·refine ⟨cs,t2,fz2,(a q hrl).trans p1,by rw [hzs q hrl];exact p2,p3,fun s v i hi hj=>?_⟩
       obtain ⟨v1,v2⟩:=kQ hw hb hv hn hs (H':=⟨H.objs.set H.next (.cells c' off sz' g2),H.next+1,H.grps.set g2 (appG H.grps (iO H g2 sz b) n sz' H.next),bW H.low g2⟩) rfl h2 v
       obtain ⟨z,x1,y1,z1,z2,z3,z4⟩:=p4 (hs' s) v1 i hi hj
       exact ⟨z,x1,y1,z1,z2,z3,z4.mono hle⟩
      ·subst a1
       refine ⟨cs',t,fz,hneu,by rw [hzs _ hrl];exact a4,hfz,fun s v i hi hj=>?_⟩
       obtain ⟨v1,v2⟩:=kQ hw hb hv hn hs (H':=⟨H.objs.set H.next (.cells c' off sz' g2),H.next+1,H.grps.set g2 (appG H.grps (iO H g2 sz b) n sz' H.next),bW H.low g2⟩) rfl h2 v
       obtain ⟨z,x1,y1,z1,z2,z3,z4⟩:=p4 (hs' s) v1 i hi hj
       exact ⟨z,x1,y1,z1,z2,(a6 cs t2 fz2 p1 (i-y) (by omega)).trans z3,z4.mono hle⟩
     | map es clk=>cases k1
     | loop=>cases k1
     | dfr=>cases k1
     | iter=>cases k1
   ·refine (hr.obj x o' q y h2 e).mono hle e (hold q (hr.img x q y e) eq) hs' (fun v=>?_)
    cases o' with
    | cells c2 lo2 sz2 g2 =>
     by_cases eg:g2=g
     ·subst eg
      exact (kQ hw hb hv hn hs (H':=⟨H.objs.set H.next (.cells c' off sz' g2),H.next+1,H.grps.set g2 (appG H.grps (iO H g2 sz b) n sz' H.next),bW H.low g2⟩) rfl h2 v).1
     ·have e3:(H.grps.set g (appG H.grps (iO H g sz b) n sz' H.next)).get g2=H.grps.get g2:=T.get_set_ne _ _ eg
      have v':EH.valid ⟨H.objs.set H.next (.cells c' off sz' g),H.next+1,H.grps.set g (appG H.grps (iO H g sz b) n sz' H.next),bW H.low g⟩ x sz2 g2=true:=v
      show H.valid x sz2 g2=true
      unfold EH.valid at v' ⊢
      rw [e3] at v'
      exact v'
    | map es clk=>rfl
    | loop=>rfl
    | dfr=>rfl
    | iter=>rfl
 ·have hrec:∀ x o,(H.objs.set H.next (.cells c' off sz' g)).get x=some o→∀ q y,R'.bm x=some (q,y)→(x=H.next∧bn o=0∧aG x o=g∧q=r'∧y=d')∨(x≠H.next∧H.objs.get x=some o∧R.bm x=some (q,y)):=fun x o h q y e=>by
   by_cases ex:x=H.next
   ·subst ex;rw [T.get_set_eq] at h;cases h;rw [hb0] at e;cases e;exact .inl ⟨rfl,rfl,rfl,rfl,rfl⟩
   ·rw [hbn x ex] at e;exact .inr ⟨ex,hobj x o h ex,e⟩
  rcases hrec x o1 h1 q y e1 with ⟨a1,a2,a3,a4,a5⟩ | ⟨a1,a2,a3⟩
  ·rcases hrec x' o2 h2 q y' e2 with ⟨c1,c2,c3,c4,c5⟩ | ⟨c1,c2,c3⟩
   ·exact .inl (a1.trans c1.symm)
   ·subst a4
    have:=hr.img x' _ y' c3
    rcases hcase with ⟨p,_,_⟩ | ⟨p1,p2,_⟩
    ·omega
    ·subst p1
     rcases hr.inj x' b o2 _ _ y' d c2 hb c3 hm with z | ⟨z1,z2,z3,z4⟩
     ·subst z;rw [hb] at c2;cases c2;rw [hm] at c3;cases c3
      exact .inr ⟨by omega,a2,rfl,a3⟩
     ·exact .inr ⟨by omega,a2,z2,a3.trans z4.symm⟩
  ·rcases hrec x' o2 h2 q y' e2 with ⟨c1,c2,c3,c4,c5⟩ | ⟨c1,c2,c3⟩
   ·subst c4
    have:=hr.img x _ y a3
    rcases hcase with ⟨p,_,_⟩ | ⟨p1,p2,_⟩
    ·omega
    ·subst p1
     rcases hr.inj x b o1 _ _ y d a2 hb a3 hm with z | ⟨z1,z2,z3,z4⟩
     ·subst z;rw [hb] at a2;cases a2;rw [hm] at a3;cases a3
      exact .inr ⟨by omega,rfl,c2,c3.symm⟩
     ·exact .inr ⟨by omega,z2,c2,z4.trans c3.symm⟩
   ·exact hr.inj x x' o1 o2 q y y' a2 c2 a3 c3
end Go.Ev
/- The machine's memory operations over related heaps: load, store, a new row. -/
namespace Go.Ev
open Go
variable {P:Program}
theorem run_bind_ok {α β:Type} {s:Sem α} {f:α→Sem β} {w w1:World} {a:α} (h:s.run P w = .ok a w1):(s >>= f).run P w=(f a).run P w1:=by
 rw [Sem.run_bind,h];rfl
def CR (R:Ren) (n:Nat) (c:T V) (cs:Array Value):Prop:=cs.size=n∧∀ i,i<n→∃ x y,c.get i=some x∧dE x=true∧cs[i]?=some y∧VR R x y
theorem CR.mono {R R':Ren} (hle:R.le R') {n:Nat} {c:T V} {cs:Array Value} (h:CR R n c cs):CR R' n c cs:=⟨h.1,fun i hi=>let ⟨x,y,a,b,c,d⟩:=h.2 i hi;⟨x,y,a,b,c,d.mono hle⟩⟩
theorem CR.agg {R:Ren} {n:Nat} {c:T V} {cs:Array Value} (h:CR R n c cs):VR R (.agg n c) (.agg cs):=by
 refine .agg (fun i=>getD' c i) h.1 (fun i hi=>?_) (fun i hi=>?_) (fun i hi=>?_)
 ·obtain ⟨x,y,a,_⟩:=h.2 i hi;rw [a];unfold getD';rw [a]
 ·obtain ⟨x,y,a,b,_⟩:=h.2 i hi;unfold getD';rw [a];exact b
 ·obtain ⟨x,y,a,b,d,e⟩:=h.2 i (by rw [← h.1];exact hi)
  have:cs[i]?=some cs[i]:=Array.getElem?_eq_some_iff.2 ⟨hi,rfl⟩
  rw [this] at d;cases d
  show VR R (getD' c i) _
  unfold getD';rw [a];exact e
theorem CR.of_agg {R:Ren} {n:Nat} {c:T V} {x:Value} (h:VR R (.agg n c) x):∃ cs,x = .agg cs∧CR R n c cs:=by
 cases h with
 | agg g hn hg hs h =>
  rename_i cs
  exact ⟨cs,rfl,hn,fun i hi=>⟨g i,cs[i]'(by omega),hg i hi,hs i hi,Array.getElem?_eq_some_iff.2 ⟨by omega,rfl⟩,h i (by omega)⟩⟩
theorem VR.oneCell {R:Ren} {x:V} {y:Value} (h:VR R x y) (hs:dE x=true):y.oneCell'=true:=by
 cases h<;>first | rfl | (cases hs)
theorem VR.cells1 {R:Ren} {x:V} {y:Value} (h:VR R x y) (hs:dE x=true):y.cells=#[y]:=by
 cases h<;>first | rfl | (cases hs)
theorem CR.of_cells {R:Ren} {v:V} {x:Value} (h:VR R v x) {n:Nat} {c:T V} (hc:gB v=some (n,c)):CR R n c x.cells:=by
 by_cases hs:dE v=true
 ·have e:gB v=some (1,T.nd (some v) .lf .lf):=by
   unfold gB
   split
   ·cases hs
   ·rw [hs];rfl
  rw [e] at hc;cases hc
  rw [h.cells1 hs]
  refine ⟨rfl,fun i hi=>?_⟩
  obtain rfl:i=0:=by omega
  exact ⟨v,x,rfl,hs,rfl,h⟩
 ·unfold gB at hc
  split at hc
  ·cases hc
   obtain ⟨cs,rfl,k⟩:=CR.of_agg h
   exact k
  ·have:dE v=false:=by simpa using hs
   rw [this] at hc;cases hc
theorem dN (r o n:Nat):(⟨r,o,none⟩:Addr).add n=⟨r,o+n,none⟩:=by unfold Addr.add;split<;>simp_all
theorem wL {w:World} {r o:Nat} {cs:Array Value} {t:TypeId} {fz:Nat×Nat} (h:w.heap[r]?=some (.cells cs t fz)):w.cell? ⟨r,o,none⟩=cs[o]?:=by
 unfold World.cell?;rw [h];rfl
theorem Oj {w:World} {r o:Nat} {cs:Array Value} {t:TypeId} {fz:Nat×Nat} (h:w.heap[r]?=some (.cells cs t fz)) (hfz:∀ i,¬ (fz.1≤i∧i<fz.2)):w.frozen? ⟨r,o,none⟩=false:=by
 obtain ⟨lo,hi⟩:=fz
 unfold World.frozen?;rw [h]
 have:=hfz o
 simp only at this
 show (decide (lo≤o)&&decide (o<hi))=false
 cases e:(decide (lo≤o)&&decide (o<hi)) with
 | false=>rfl
 | true=>simp at e;exact absurd e this
theorem WU.setCell {w:World} {r o:Nat} {cs:Array Value} {t:TypeId} {fz:Nat×Nat} (h:w.heap[r]?=some (.cells cs t fz)) (v:Value) :
 WU w r (.cells (cs.setIfInBounds o v) t fz) (w.setCell ⟨r,o,none⟩ v):=by
 obtain ⟨hlt,he⟩:=Array.getElem?_eq_some_iff.1 h
 refine ⟨by simp [World.setCell],?_,fun r' e=>?_,rfl,rfl,rfl⟩
 ·simp only [World.setCell]
  rw [Array.getElem?_modify,if_pos rfl,h];rfl
 ·simp only [World.setCell]
  rw [Array.getElem?_modify,if_neg (fun q=>e q.symm)]
theorem qN (g:Nat) (t:TypeId) (fz:Nat×Nat) (hfz:∀ i,¬ (fz.1≤i∧i<fz.2)):∀ (vs:List Value) (o i:Nat) (cur:Array Value) (w:World),w.heap[g]?=some (.cells cur t fz)→o+i+vs.length≤cur.size→(∀ v∈vs,v.oneCell'=true) →
 ∃ w' cs',(storeCells ⟨g,o,none⟩ vs i).run P w = .ok () w'∧WU w g (.cells cs' t fz) w'∧cs'.size=cur.size∧∀ k,cs'[k]?=if o+i≤k∧k<o+i+vs.length then vs[k-(o+i)]? else cur[k]?:=by
 intro vs
 induction vs with
 | nil=>intro o i cur w h _ _;exact ⟨w,cur,rfl,⟨rfl,h,fun _ _=>rfl,rfl,rfl,rfl⟩,rfl,fun k=>by rw [if_neg (by simp)]⟩
 | cons v rest ih =>
  intro o i cur w h hl h1
  simp only [List.length_cons] at hl
  have hst:(store ((⟨g,o,none⟩:Addr).add i) v).run P w = .ok () (w.setCell ⟨g,o+i,none⟩ v):=by
   rw [dN,run_store P w _ v _ (h1 v (by simp)),wL h,Array.getElem?_eq_getElem (by omega)]
   simp only [Oj h hfz];rfl
  have hu:=WU.setCell h (o:=o+i) v
  have hsz:(cur.setIfInBounds (o+i) v).size=cur.size:=by simp
  obtain ⟨w',cs',e1,e2,e3,e4⟩:=ih o (i+1) (cur.setIfInBounds (o+i) v) (w.setCell ⟨g,o+i,none⟩ v) hu.neu (by rw [hsz];omega) (fun x hx=>h1 x (by simp [hx]))
  refine ⟨w',cs',?_,hu.trans e2,by rw [e3];simp,fun k=>?_⟩
  ·show ((store ((⟨g,o,none⟩:Addr).add i) v) >>= fun _=>storeCells ⟨g,o,none⟩ rest (i+1)).run P w=_
   rw [run_bind_ok hst];exact e1
  ·rw [e4]
   simp only [List.length_cons]
   by_cases hk:o+(i+1)≤k∧k<o+(i+1)+rest.length
   ·rw [if_pos hk,if_pos (by omega)]
    obtain ⟨d,rfl⟩:∃ d,k=o+(i+1)+d:=⟨k-(o+(i+1)),by omega⟩
    rw [show o+(i+1)+d-(o+(i+1))=d by omega,show o+(i+1)+d-(o+i)=d+1 by omega];rfl
   ·rw [if_neg hk]
    by_cases e:k=o+i
    ·have hlt:k<cur.size:=by omega
     rw [if_pos (by omega),← e,Array.getElem?_setIfInBounds_self_of_lt hlt,Nat.sub_self];rfl
    ·rw [if_neg (by omega),Array.getElem?_setIfInBounds_ne (fun q=>e q.symm)]
theorem mF {r o n:Nat} {w:World} {cs:Array Value} {t:TypeId} {fz:Nat×Nat} (h:w.heap[r]?=some (.cells cs t fz)) (hn:o+n≤cs.size):(loadCells ⟨r,o,none⟩ n).run P w = .ok (cs.extract o (o+n)) w:=by
 have:=run_loadCells (P:=P) w ⟨r,o,none⟩ n (fun j=>cs.getD (o+j) undef) (fun j hj=>by rw [dN,wL h];simp [Array.getD,show o+j<cs.size by omega])
 rw [this]
 congr 1
 apply Array.ext
 ·simp;omega
 ·intro i h1 h2
  simp at h1 h2
  simp [Array.getD,show o+i<cs.size by omega]
theorem eP {t:TypeId} {i:TypeInfo} (h:P.info? t=some i) (w:World):(typeInfo t).run P w = .ok i w:=by
 unfold typeInfo
 rw [run_bind_ok (run_program P w)];rw [h];rfl
theorem jm {t:TypeId} {i:TypeInfo} (h:P.info? t=some i) (w:World):(sizeOf t).run P w = .ok i.size w:=by
 unfold sizeOf
 rw [run_bind_ok (eP h w)];rfl
theorem aB {t:TypeId} {d:TypeDesc} (h:P.underlying t=some d) (w:World):(underlying t).run P w = .ok d w:=by
 unfold underlying
 rw [run_bind_ok (run_program P w)];rw [h];rfl
theorem xR {t:TypeId} {n:Nat} (h:dm P t=some n):∃ i,P.info? t=some i∧i.size=n:=by
 unfold dm at h
 cases e:P.info? t with
 | none=>rw [e] at h;cases h
 | some i=>rw [e] at h;cases h;exact ⟨i,rfl,rfl⟩
theorem bQ {t:TypeId} {n:Nat} (h:dm P t=some n) (w:World):(sizeOf t).run P w = .ok n w:=by
 obtain ⟨i,h1,h2⟩:=xR h
 rw [jm h1,h2]
theorem ji {t:TypeId} {z:V} (h:lY P t=some z) (w:World):∃ z',(zeroValue t).run P w = .ok z' w∧∀ R,VR R z z':=by
 unfold lY at h
 cases e:P.info? t with
 | none=>rw [e] at h;cases h
 | some i =>
  rw [e] at h
  simp only at h
  cases ez:i.zero with
  | none=>rw [ez] at h;cases h
  | some z0 =>
   rw [ez] at h;cases h
   refine ⟨z0,?_,fun R=>VR.ofC R z0⟩
   unfold zeroValue
   rw [run_bind_ok (eP e w),ez];rfl
theorem kC {t:TypeId} {d:TypeDesc} (h:P.underlying t=some d) (w:World):(isAgg t).run P w = .ok (match d with | .struct _ | .array _ _=>true | _=>false) w:=by
 unfold isAgg
 rw [run_bind_ok (aB h w)]
 cases d<;>rfl
theorem uH {t:TypeId} {n:Nat} (h:qy P t = .agg n):(∀ w,(isAgg t).run P w = .ok true w)∧∀ w,(sizeOf t).run P w = .ok n w:=by
 unfold qy at h
 split at h
 ·rename_i h1 h2;cases h;exact ⟨fun w=>kC h1 w,fun w=>jm h2 w⟩
 ·rename_i h1 h2;cases h;exact ⟨fun w=>kC h1 w,fun w=>jm h2 w⟩
 ·rename_i h1 h2 h3;rw [aH] at h;split at h<;>cases h
 ·cases h
theorem uB {t:TypeId} (h:qy P t = .one):(∀ w,(isAgg t).run P w = .ok false w)∧∀ w,(sizeOf t).run P w = .ok 1 w:=by
 unfold qy at h
 split at h
 ·cases h
 ·cases h
 ·rename_i d i h1 h2 h3 h4
  rw [aH] at h
  split at h
  ·rename_i e
   refine ⟨fun w=>?_,fun w=>by rw [jm h4,e]⟩
   rw [kC h3]
   cases d<;>first | rfl | (exact (h1 _ rfl).elim) | (exact (h2 _ _ rfl).elim)
  ·cases h
 ·cases h
theorem aV {H:EH} {b:Nat} {c:T V} {lo sz g:Nat} (h:H.block b = .mk c lo sz g):H.objs.get b=some (.cells c lo sz g)∧H.valid b sz g=true:=by
 unfold EH.block at h
 split at h
 ·rename_i c' lo' sz' g' e
  cases hv:H.valid b sz' g' with
  | false=>rw [hv] at h;cases h
  | true=>rw [hv] at h;cases h;exact ⟨e,hv⟩
 ·cases h
theorem Rel.row {R:Ren} {S:Nat→Prop} {H:EH} {w:World} (hr:Rel R S H w) {b r d:Nat} {c:T V} {lo sz g:Nat} (h:H.block b = .mk c lo sz g) (hm:R.bm b=some (r,d)) (hs:S g) :
 ∃ cs t fz,w.heap[r]?=some (.cells cs t fz)∧cs.size=R.zs r∧(∀ i,¬ (fz.1≤i∧i<fz.2))∧∀ i,lo≤i→i<sz→d≤i∧∃ x y,c.get i=some x∧dE x=true∧cs[i-d]?=some y∧VR R x y:=by
 obtain ⟨h1,h2⟩:=aV h
 obtain ⟨cs,t,fz,a1,a2,a3,a4⟩:=hr.obj b _ r d h1 hm
 exact ⟨cs,t,fz,a1,a2,a3,a4 hs h2⟩
theorem Fp {c c':T V} {off n:Nat} (h:Np c off n=some c'):∀ i,i<n→∀ x,c.get (off+i)=some x→c'.get i=some x:=by
 intro i hi x hx
 unfold Np at h
 rw [aH] at h
 by_cases e:off=0
 ·rw [if_pos e] at h;cases h;subst e;rw [Nat.zero_add] at hx;exact hx
 ·rw [if_neg e] at h
  obtain ⟨v,e1,e2⟩:=(ku c n off 0 _ _ h).1 i hi
  rw [hx] at e1;cases e1
  rw [Nat.zero_add] at e2;exact e2
theorem CR.of_row {R:Ren} {c c':T V} {cs:Array Value} {lo sz d off o n:Nat} (hrow:∀ i,lo≤i→i<sz→d≤i∧∃ x y,c.get i=some x∧dE x=true∧cs[i-d]?=some y∧VR R x y)
 (h1:lo≤off) (h2:off+n≤sz) (ho:n≠0→o+d=off) (hc:∀ i,i<n→∀ x,c.get (off+i)=some x→c'.get i=some x):(n≠0→o+n≤cs.size)∧(o+n≤cs.size→CR R n c' (cs.extract o (o+n))):=by
 have key:∀ i,i<n→∃ x y,c.get (off+i)=some x∧dE x=true∧cs[o+i]?=some y∧VR R x y:=fun i hi=>by
  obtain ⟨p,x,y,e1,e2,e3,e4⟩:=hrow (off+i) (by omega) (by omega)
  have:=ho (by omega)
  rw [show off+i-d=o+i by omega] at e3
  exact ⟨x,y,e1,e2,e3,e4⟩
 refine ⟨fun hn=>?_,fun hle=>⟨by simp;omega,fun i hi=>?_⟩⟩
 ·obtain ⟨x,y,_,_,e3,_⟩:=key (n-1) (by omega)
  have:=(Array.getElem?_eq_some_iff.1 e3).1
  omega
 ·obtain ⟨x,y,e1,e2,e3,e4⟩:=key i hi
  refine ⟨x,y,hc i hi x e1,e2,?_,e4⟩
  rw [Array.getElem?_extract,if_pos (by omega)];exact e3
theorem oL {R:Ren} {S:Nat→Prop} {H:EH} {w:World} (hr:Rel R S H w) {t:TypeId} {b off:Nat} {v:V} (h:H.loadVar P t b off=some v) {r o d:Nat} (hm:R.bm b=some (r,d)) (ho:o+d=off)
 (hs:∀ x,x∈mf H b→S x):∃ x,(loadVar t ⟨r,o,none⟩).run P w = .ok x w∧VR R v x:=by
 have hS:∀ c lo sz g,H.block b = .mk c lo sz g→S g:=fun c lo sz g e=>hs g (by unfold mf;rw [(aV e).1];simp)
 unfold EH.loadVar EH.loadK at h
 split at h
 ·rename_i n hk
  obtain ⟨k1,k2⟩:=uH hk
  unfold EH.loadN at h
  cases hb:H.block b with
  | no=>rw [hb] at h;cases h
  | mk c lo sz g =>
   rw [hb] at h
   simp only [bg] at h
   split at h
   ·rename_i q1
    split at h
    ·rename_i q2
     cases hsb:Np c off n with
     | none=>rw [hsb] at h;cases h
     | some c' =>
      rw [hsb] at h;cases h
      obtain ⟨cs,t',fz,a1,a2,a3,a4⟩:=hr.row hb hm (hS _ _ _ _ hb)
      obtain ⟨p1,p2⟩:=CR.of_row a4 q1 q2 (fun _=>ho) (Fp hsb)
      have hrun:(loadVar t ⟨r,o,none⟩).run P w=(loadCells ⟨r,o,none⟩ n >>= fun x=>pure (Value.agg x)).run P w:=by
       unfold loadVar
       rw [run_bind_ok (k1 w)]
       show (sizeOf t >>= fun n=>loadCells ⟨r,o,none⟩ n >>= fun x=>pure (Value.agg x)).run P w=_
       rw [run_bind_ok (k2 w)]
      by_cases hn:n=0
      ·subst hn
       refine ⟨.agg #[],by rw [hrun];rfl,(CR.agg (cs:=#[]) ⟨rfl,fun i hi=>by omega⟩)⟩
      ·exact ⟨.agg (cs.extract o (o+n)),by rw [hrun,run_bind_ok (mF a1 (p1 hn))];rfl,(p2 (p1 hn)).agg⟩
    ·cases h
   ·cases h
 ·rename_i hk
  obtain ⟨k1,_⟩:=uB hk
  unfold EH.load1 at h
  cases hb:H.block b with
  | no=>rw [hb] at h;cases h
  | mk c lo sz g =>
   rw [hb] at h
   simp only [bg,dB] at h
   split at h
   ·rename_i q1
    split at h
    ·rename_i q2
     obtain ⟨cs,t',fz,a1,a2,a3,a4⟩:=hr.row hb hm (hS _ _ _ _ hb)
     obtain ⟨p,x,y,e1,e2,e3,e4⟩:=a4 off q1 q2
     rw [h] at e1;cases e1
     rw [show off-d=o by omega] at e3
     refine ⟨y,?_,e4⟩
     unfold loadVar
     rw [run_bind_ok (k1 w)]
     show (load ⟨r,o,none⟩).run P w=_
     rw [run_load,wL a1,e3]
    ·cases h
   ·cases h
 ·cases h
theorem TV (g:Nat→V):∀ (n i j:Nat) (t:T V) (k:Nat),(fzT g n i j t).get k=if i≤k∧k<i+n then some (g (j+(k-i))) else t.get k:=by
 intro n
 induction n with
 | zero=>intro i j t k;rw [if_neg (by omega)];rfl
 | succ n ih =>
  intro i j t k
  show (fzT g n (i+1) (j+1) (t.set i (g j))).get k=_
  rw [ih]
  by_cases h:i+1≤k∧k<i+1+n
  ·rw [if_pos h,if_pos (by omega),show j+1+(k-(i+1))=j+(k-i) by omega]
  ·rw [if_neg h,T.get_set]
   by_cases e:k=i
   ·subst e;rw [if_pos rfl,if_pos (by omega),Nat.sub_self,Nat.add_zero]
   ·rw [if_neg e,if_neg (by omega)]
theorem H5 {R:Ren} {S:Nat→Prop} {H:EH} {w:World} (hr:Rel R S H w) {t:TypeId} {a e j:Nat} {g:Nat→V} {v:V} (h:IE P t g e j=some v) {x':Value} (hx:VR R (.fp a g e j) x') :
 ∃ q x,x' = .pointer (some q)∧(loadVar t q).run P w = .ok x w∧VR R v x:=by
 cases hx with
 | fp y hc hy hs ha hv =>
  rename_i r o cs
  obtain ⟨⟨t',fz,hcell⟩,_⟩:=hr.frz a r cs hc
  unfold IE at h
  split at h
  ·rename_i n hk
   obtain ⟨k1,k2⟩:=uH hk
   rw [bg] at h
   split at h
   ·rename_i q1
    have q1:j+n≤e:=q1
    cases h
    have hrun:(loadVar t ⟨r,o+j,none⟩).run P w=(loadCells ⟨r,o+j,none⟩ n >>= fun x=>pure (Value.agg x)).run P w:=by
     unfold loadVar
     rw [run_bind_ok (k1 w)]
     show (sizeOf t >>= fun n=>loadCells ⟨r,o+j,none⟩ n >>= fun x=>pure (Value.agg x)).run P w=_
     rw [run_bind_ok (k2 w)]
    by_cases hn:n=0
    ·subst hn
     exact ⟨_,.agg #[],rfl,by rw [hrun];rfl,CR.agg (cs:=#[]) ⟨rfl,fun i hi=>by omega⟩⟩
    ·have hin:o+j+n≤cs.size:=by
      have:=(Array.getElem?_eq_some_iff.1 (hy (j+(n-1)) (by omega))).1
      omega
     refine ⟨_,.agg (cs.extract (o+j) (o+j+n)),rfl,by rw [hrun,run_bind_ok (mF hcell hin)];rfl,CR.agg ⟨by simp;omega,fun i hi=>?_⟩⟩
     refine ⟨g (j+i),y (j+i),?_,hs _ (by omega),?_,hv _ (by omega)⟩
     ·rw [TV,if_pos (by omega),Nat.sub_zero]
     ·rw [Array.getElem?_extract,if_pos (by omega),show o+j+i=o+(j+i) by omega]
      exact hy _ (by omega)
   ·cases h
  ·rename_i hk
   obtain ⟨k1,_⟩:=uB hk
   rw [dB] at h
   split at h
   ·rename_i q1
    cases h
    refine ⟨_,y j,rfl,?_,hv j q1⟩
    unfold loadVar
    rw [run_bind_ok (k1 w)]
    show (load ⟨r,o+j,none⟩).run P w=_
    rw [run_load,wL hcell,hy j q1]
   ·cases h
  ·cases h
end Go.Ev
