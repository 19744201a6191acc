/- The evaluator, its answers handed on: where a bool is asked that is no literal, both ways are gone. What it hands on is what the evaluator answers. -/
import Derived.DataReads
import GoSem.ClaimChange
import Derived.Below
import Derived.Carry
import Derived.ProofKit
import Derived.OpenShut
import Derived.Test.YtflblednifbleaaYEc
set_option linter.all false
set_option linter.unusedSimpArgs false
set_option linter.unusedVariables false
namespace Go.Ev
open Go
noncomputable section
variable {α:Type}
def aX {β:Type} (o:Option β) (z:α) (k:β→α):α:=match o with | some b=>k b | none=>z
structure KP (α:Type) where
 br:Bool→α→α→α
 num:Int→(Int→α)→α
 s:Bool
def yM (α:Type):KP α:=⟨fun c x y=>cond c x y,fun n k=>k n,false⟩
abbrev fJ (α:Type):=Task→(Res→α)→α
def aU (r:VO) (z:α) (k:V→EH→α):α:=match r with | some (v,H)=>k v H | none=>z
def Vs (b want:Bool) (yes no:α):α:=cond (iq b want) yes no
def AC (B:KP α) (ops:Array Oper) (a:EA) (g:Option (Nat×Bool)) (z:α) (yes no:EA→α):α:=match g with
 | none=>yes a
 | some (j,want)=>match ops[j]? with
  | some o'=>match o'.dst with
   | some d=>match a.get d with
    | .bool b=>B.br b (Vs true want (yes (a.put (some d) (.bool true))) (no (a.put (some d) (.bool true)))) (Vs false want (yes (a.put (some d) (.bool false))) (no (a.put (some d) (.bool false))))
    | .bad=>z
    | _=>no a
   | none=>z
  | none=>z
def Dl (b:Bool) (r:Option Bool):Option Bool:=match r with | some r=>some (cond b r false) | none=>(match b with | true=>none | false=>some false)
def SK (P:Program) (l:List Field) (c d:T V):Nat→Option Bool :=
 List.rec (motive:=fun _=>Nat→Option Bool) (fun _=>some true)
  (fun f _ ih i=>match eqK (fk P f.type) (c.get i) (d.get i) with | some b=>Dl b (ih (Nat.succ i)) | none=>none) l
def OI (k:FK) (c d:T V) (n:Nat):Nat→Option Bool :=
 Nat.rec (motive:=fun _=>Nat→Option Bool) (fun _=>some true)
  (fun _ ih i=>match eqK k (c.get i) (d.get i) with | some b=>Dl b (ih (Nat.succ i)) | none=>none) n
def HY (P:Program) (t:TypeId) (n:Nat) (c d:T V):Option Bool:=match P.underlying t with
 | some (.struct fs)=>cond (qA P t fs n) (SK P fs.toList c d 0) (cond (iM P t n) (vP P c d 4 t 0) none)
 | some (.array len e)=>cond (Bg P e len n) (OI (fk P e) c d n 0) (cond (iM P t n) (vP P c d 4 t 0) none)
 | _=>none
def xC (B:KP α) (kd:IntKind) (n:Int) (k:V→α):α:=match kd with | .i64=>B.br (small n) (k (.int .i64 n)) (k (.int .i64 (IntKind.wrap .i64 n))) | kd=>k (.int kd (kd.wrap n))
def Jj (B:KP α) (op:BinOp) (kd:IntKind) (a b:Int) (z:α) (k:V→α):α:=match op with
 | .add=>cond B.s (xC B kd (a+b) k) (k (.int kd (wr kd (Int.add a b))))
 | .sub=>cond B.s (xC B kd (a-b) k) (k (.int kd (wr kd (Int.sub a b))))
 | .mul=>cond B.s (xC B kd (a*b) k) (k (.int kd (wr kd (Int.mul a b))))
 | .quo=>B.br (aK b 0) z (cond B.s (xC B kd (Int.tdiv a b) k) (k (.int kd (wr kd (Int.tdiv a b)))))
 | .rem=>B.br (aK b 0) z (k (.int kd (Int.tmod a b)))
 | op=>aX (nM op kd a b) z k
def Xx (op:BinOp):Bool:=match op with | .shl=>true | .shr=>true | _=>false
def VU (P:Program) (B:KP α) (op:BinOp) (t:TypeId) (x y:V) (z:α) (k:V→α):α:=match x,y with
 | .int kd a,.int kd' b=>cond (Xx op) (aX (BL P op t (.int kd a) (.int kd' b)) z k) (cond (gz kd kd') (Jj B op kd a b z k) z)
 | .agg n c,.agg n' d=>cond (Nat.beq n n') (cond (P.eqGuardType P.depth t) z (aX (eqV op (HY P t n c d)) z k)) z
 | x,y=>aX (BL P op t x y) z k
def Rj (B:KP α) (c x y:V) (H:EH) (z:α) (k:V→EH→α):α:=match c with | .bool b=>B.br b (k x H) (k y H) | _=>z
def unK (B:KP α) (op:UnOp) (x:V) (H:EH) (z:α) (k:V→EH→α):α:=match op,x with
 | .neg,.int kd n=>cond B.s (xC B kd (0-n) (fun v=>k v H)) (k (.int kd (wr kd (Int.sub 0 n))) H)
 | op,x=>aU (FT op x H) z k
def Qr (P:Program) (B:KP α) (src dst:TypeId) (x:V) (H:EH) (z:α) (k:V→EH→α):α:=match P.underlying src,P.underlying dst,x with
 | some _,some (.int kd),.int _ n=>cond B.s (xC B kd n (fun v=>k v H)) (k (.int kd (kd.wrap n)) H)
 | _,_,_=>z
def Gw (B:KP α) (v:V) (k:V→α):α:=match v with | .int kd n=>B.num n (fun n=>k (.int kd n)) | v=>k v
def numO (B:KP α) (o:Option V) (k:Option V→α):α:=match o with | some v=>Gw B v (fun v=>k (some v)) | none=>k none
def ixK (P:Program) (B:KP α) (t:TypeId) (x i:V) (H:EH) (z:α) (k:V→EH→α):α:=match P.underlying t,x,i with
 | some (.slice elem),.fz _ ag c len e,.int _ n=>(match dm P elem with
  | some e'=>cond (Nat.beq e e') (B.br (cZ n len) (k (.fp ag (c n.toNat) e 0) H) z) z
  | none=>z)
 | _,x,i=>Gw B i fun i=>aU (dG P t x i H) z k
def Rk (l:List Int):Int→Int:=List.rec (motive:=fun _=>Int→Int) (fun _=>0) (fun x _ ih n=>cond (aK n 0) x (ih (Int.sub n 1))) l
def Vj (x:Int) (r:Option (List Int)):Option (List Int):=match r with | some l=>some (x::l) | none=>none
def LD (c:T V) (n:Nat):Nat→Option (List Int):=Nat.rec (motive:=fun _=>Nat→Option (List Int)) (fun _=>some []) (fun _ ih p=>match c.get p with | some (.int .i64 x)=>Vj x (ih (Nat.succ p)) | _=>none) n
def Xu (B:KP α) (len n:Nat) (s:Option Nat) (kd:TK) (l:Option (List Int)) (m:Int) (H:EH) (z:α) (k:V→EH→α) (gen:α):α:=match s,kd,l with
 | some 1,.one,some l=>cond (Nat.ble len n) (B.br (cZ m len) (k (.int .i64 (Rk l m)) H) z) gen
 | _,_,_=>gen
def V9 (P:Program) (B:KP α) (t:TypeId) (x i:V) (H:EH) (z:α) (k:V→EH→α):α:=match P.underlying t,x,i with
 | some (.array len elem),.agg n c,.int kd m=>Xu B len n (dm P elem) (qy P elem) (LD c len 0) m H z k (Gw B (.int kd m) fun i=>aU (fU P t (.agg n c) i H) z k)
 | _,x,i=>Gw B i fun i=>aU (fU P t x i H) z k
def mulS (len e:Nat):Nat:=match e with | 1=>len | e=>Nat.mul len e
def QC (off n:Nat):Nat:=match off with | 0=>n | off=>Nat.add off n
def Vo (H:EH) (e off len m:Nat) (c:T V) (grp n sz':Nat) (g:qo) (k:V→EH→α):α :=
 fN H.next fun b=>k (.slice b off (Nat.add len m) e) ⟨H.objs.set b (.cells c off sz' grp),Nat.succ b,H.grps.set grp (appG H.grps g n sz' b),bW H.low grp⟩
def Ph (B:KP α) (H:EH) (e b off len:Nat) (xs:Cs) (z:α) (k:V→EH→α):α:=match H.block b with
 | .mk c lo sz grp=>cond (Nat.ble lo off) (B.br (Nat.ble (QC off (mulS len e)) sz) (match gQ xs.c xs.n xs.off (QC off (mulS len e)) c with
  | some c=>Vo H e off len xs.m c grp (QC off (mulS len e)) (Nat.add (QC off (mulS len e)) xs.n) (iO H grp sz b) k
  | none=>z) z) z
 | .no=>z
def QD (P:Program) (B:KP α) (elem:TypeId) (e:Nat) (s x:V) (H:EH) (z:α) (k:V→EH→α):α:=match fH H e x with
 | some xs=>(match s with
  | .slice b off len e'=>B.br (l9 P elem e (Nat.add len xs.m)) (cond (Nat.beq xs.m 0) (k (.slice b off len e') H) (cond (Nat.beq e e') (Ph B H e b off len xs z k) z)) z
  | s=>aU (cond (l9 P elem e (Nat.add (O9 s) xs.m)) (H.appendV e s xs) none) z k)
 | none=>z
def Ko (P:Program) (B:KP α) (st xt:TypeId) (s x:V) (H:EH) (z:α) (k:V→EH→α):α:=match P.underlying st,P.underlying xt with
 | some (.slice elem),some (.slice _)=>(match dm P elem with
  | some e=>cond (Tj e s x) (B.br (Nat.ble (qP x) 1048576) (aU (I9 P elem e s x H) z k) z) (QD P B elem e s x H z k)
  | none=>z)
 | _,_=>z
def Ji (P:Program) (B:KP α) (c:Call) (a:EA) (H:EH) (z:α) (k:V→EH→α):α:=match c.callee with
 | .builtin .append=>(match c.argTypes.toList,mapO a c.args.toList with
  | st::xt::_,s::x::_=>cond (qJ (P.underlying xt)) (aU (Nj P st s x H) z k) (Ko P B st xt s x H z k)
  | _,_=>z)
 | _=>aU (je (.call c) P a H) z k
def I5 (P:Program) (B:KP α) (op:Op) (a:EA) (H:EH) (z:α) (k:V→EH→α):α:=match op with
 | .binOp op t x y _=>VU P B op t (a.eval x) (a.eval y) z (fun v=>k v H)
 | .pick c x y=>Rj B (a.eval c) (a.eval x) (a.eval y) H z k
 | .unOp op _ x=>unK B op (a.eval x) H z k
 | .convert src dst x=>Qr P B src dst (a.eval x) H z k
 | .slice t x lo hi none=>numO B (uh a lo) fun lo=>numO B (uh a hi) fun hi=>aU (pX P t (a.eval x) lo hi H) z k
 | .indexAddr t x i=>ixK P B t (a.eval x) (a.eval i) H z k
 | .call c=>Ji P B c a H z k
 | .index t x i=>V9 P B t (a.eval x) (a.eval i) H z k
 | op=>aU (je op P a H) z k
def Xn (z:α) (k:V→EH→α) (r:Res):α:=match r with | .v v H=>k v H | _=>z
def MF (P:Program) (B:KP α) (fK:fJ α) (op:Op) (a:EA) (H:EH) (z:α) (k:V→EH→α):α:=match qi op with
 | .light=>I5 P B op a H z k
 | .heavy g args=>fK (.callV (a.eval g) (mapO a args.toList) H) (Xn z k)
def UH (P:Program) (B:KP α) (fK:fJ α) (ops:Array Oper) (z:α) (l:List Oper):EA→EH→(Res→α)→α :=
 List.rec (motive:=fun _=>EA→EH→(Res→α)→α) (fun a H k=>k (.normal a H))
  (fun o _ ih a H k=>AC B ops a o.guard z (fun a=>MF P B fK o.op a H z (fun v H'=>ih (a.put o.dst v) H' k)) (fun a=>ih (a.put o.dst skp) H k)) l
def yH (P:Program) (B:KP α) (fK:fJ α) (ops:Array Oper) (z:α) (l:List Oper):EA→EH→(RR→α)→α :=
 List.rec (motive:=fun _=>EA→EH→(RR→α)→α) (fun a H k=>k ⟨a,H,[],[(a,H)]⟩)
  (fun o _ ih a H k=>AC B ops a o.guard z
   (fun a=>MF P B fK o.op a (lowTo H big) z (fun v H'=>ih (a.put o.dst v) (lowTo H' (bW H.low H'.low)) (fun r=>k ⟨r.a,r.H,nR o.op a H H' (qi o.op)::r.fps,(a,H)::r.st⟩)))
   (fun a=>ih (a.put o.dst skp) H (fun r=>k ⟨r.a,r.H,⟨0,0,[],[],0⟩::r.fps,(a,H)::r.st⟩))) l
def V4 (fK:fJ α) (ro:Option Nat) (y:Code) (k:Res→α) (r:Res):α:=match r with
 | .normal a H=>fK (.code ro y a H) k
 | r=>k r
def U1 (B:KP α) (fK:fJ α) (ro:Option Nat) (c:Operand) (x y:Code) (a:EA) (H:EH) (z:α) (k:Res→α):α:=match c with
 | .tmp t=>match a.get t with
  | .bool b=>B.br b (fK (.code ro x (a.put (some t) (.bool true)) H) k) (fK (.code ro y (a.put (some t) (.bool false)) H) k)
  | _=>z
 | c=>match a.eval c with
  | .bool b=>B.br b (fK (.code ro x a H) k) (fK (.code ro y a H) k)
  | _=>z
def OG (fK:fJ α) (ro:Option Nat) (a1:EA) (H:EH) (k:Res→α) (pend:Option Code):α:=match pend with
 | none=>k (.normal a1 H)
 | some c=>fK (.code ro c a1 H) k
def Jt (fK:fJ α) (ro:Option Nat) (l:Nat) (a1:EA) (z:α) (k:Res→α) (r:Res):α:=match r with
 | .v _ H=>match H.objs.get l with
  | some (.loop st pend tm n ps as bd df)=>cond (nK st) (OG fK ro a1 (dZ H l .exhausted pend tm n ps as bd df) k pend) z
  | _=>z
 | _=>z
def VQ (fK:fJ α) (g:V) (args:List V) (H:EH) (z:α) (k:Res→α):α:=match g with
 | .func g first captured=>fK (.call g (app3 first args captured) H) k
 | _=>z
def wY (fK:fJ α) (ro:Option Nat) (g:V) (ps:Array Tmp) (as bd:Code) (a a1:EA) (d:Nat) (H:EH) (z:α) (k:Res→α):α :=
 fN H.next fun l=>VQ fK g [.yld l] ⟨H.objs.set l (.loop .ready none a.tm a.n ps as bd d),Nat.succ l,H.grps,H.low⟩ z (Jt fK ro l a1 z k)
def Ig (fK:fJ α) (ro:Option Nat) (g:Operand) (ps:Array Tmp) (as bd:Code) (a:EA) (H:EH) (z:α) (k:Res→α):α :=
 match ro with
 | some l0=>match H.objs.get l0 with
  | some (.loop _ _ _ _ _ _ _ df)=>wY fK ro (a.eval g) ps as bd a a df H z k
  | _=>z
 | none=>fN H.next fun l0=>wY fK ro (a.eval g) ps as bd a ⟨a.tm,a.n,l0::a.df⟩ l0 ⟨H.objs.set l0 (.dfr true),Nat.succ l0,H.grps,H.low⟩ z k
def Qd (P:Program) (f:Task→Option Res) (fK:fJ α) (ro:Option Nat) (body:Code) (a:EA) (H:EH) (z:α) (k:Res→α):α:=match kW body with
 | some ml=>aX (mr P f ro ml a H) z k
 | none=>fK (.code ro body a H) (V4 fK ro (.loop body) k)
def Ve (P:Program) (B:KP α) (f:Task→Option Res) (fK:fJ α) (ro:Option Nat) (c:Code) (a:EA) (H:EH) (z:α) (k:Res→α):α:=match c with
 | .region _ ops false=>UH P B fK ops z ops.toList a H k
 | .region _ ops true=>cond (jh ops) (yH P B fK ops z ops.toList a H (fun r=>aX (doneD P ops (some r)) z k)) z
 | .seq x y=>fK (.code ro x a H) (V4 fK ro y k)
 | .cond c x y=>U1 B fK ro c x y a H z k
 | .block id c=>fK (.code ro c a H) (fun r=>aX (gU id (some r)) z k)
 | .loop body=>Qd P f fK ro body a H z k
 | .rangeFunc g ps as bd=>Ig fK ro g ps as bd a H z k
 | .scope c=>fK (.code ro c a H) k
 | c=>aX (zf c P f ro a H) z k
def fnK (P:Program) (s:Bool) (fK:fJ α) (fn:Func) (args:List V) (H:EH) (z:α) (k:Res→α):α:=match fn.body with
 | some c=>cond (Nat.ble (lenV args) fn.ntmps) (fK (.code none c ⟨gJ s args,fn.ntmps,[]⟩ H) (fun r=>aX (dW P fn (some r)) z k)) z
 | none=>z
def Az (P:Program) (s:Bool) (fK:fJ α) (g:FuncId) (args:List V) (H:EH) (z:α) (k:Res→α):α:=match P.funcs[g]? with
  | some fn => cond (decide (fn.name = "runtime.NumGoroutine")) z (fnK P s fK fn args H z k)
  | none=>z
def Tu (fK:fJ α) (l:Nat) (bd:Code) (z:α) (k:Res→α) (r:Res):α:=match r with
 | .normal a H=>match H.objs.get l with
  | some (.loop .ready pend tm n ps as bd' df)=>fK (.code (some l) bd a (dZ H l .busy pend tm n ps as bd' df)) (fun r=>aX (fM l (some r)) z k)
  | _=>z
 | _=>z
def Jo (fK:fJ α) (l:Nat) (args:List V) (H:EH) (z:α) (k:Res→α):α:=match H.objs.get l with
 | some (.loop _ _ tm n ps as bd _)=>match mW n ps.toList args tm with
  | some tm'=>fK (.code (some l) as ⟨tm',n,[]⟩ H) (Tu fK l bd z k)
  | none=>z
 | _=>z
def Qy (fK:fJ α) (fv:V) (args:List V) (H:EH) (z:α) (k:Res→α):α:=match fv with
 | .func g first captured=>fK (.call g (app3 first args captured) H) k
 | .yld l=>Jo fK l args H z k
 | _=>z
def Ye (P:Program) (B:KP α) (s:Bool) (fK:fJ α) (g:FuncId) (args:List V) (H:EH) (z:α) (k:Res→α) (v:Option (Bool×V)):α:=match v with | some (b,v)=>B.br b (k (.v v (AA H))) (Az P s fK g args H z k) | none=>Az P s fK g args H z k
def Aa (P:Program) (B:KP α) (s:Bool) (fK:fJ α) (g:FuncId) (args:List V) (H:EH) (z:α) (k:Res→α) (x:Option (List V→EH→Option (Bool×V))):α:=match x with
 | none=>Az P s fK g args H z k
 | some x=>Ye P B s fK g args H z k (x args H)
def Vk (P:Program) (B:KP α) (X:Ext) (f:Task→Option Res) (fK:fJ α) (z:α) (t:Task) (k:Res→α):α:=match t with
 | .call g args H=>Aa P B X.sym fK g args H z k (X g)
 | .callV fv args H=>Qy fK fv args H z k
 | .code ro c a H=>Ve P B f fK ro c a H z k
def evK (P:Program) (B:KP α) (X:Ext) (z:α) (n:Nat):fJ α:=Nat.rec (motive:=fun _=>fJ α) (fun _ _=>z) (fun n ih=>Vk P B X (ev P X n) ih z) n
theorem T.set_same {β:Type}:∀ (t:T β) (k:Nat) (v:β),t.get k=some v→t.set k v=t:=by
 intro t
 induction t with
 | lf=>intro k v h;cases h
 | nd x l r ihl ihr =>
  intro k v h
  rw [T.get_nd] at h
  rw [T.set_nd]
  by_cases h0:k=0
  ·rw [if_pos h0] at h ⊢;rw [h]
  ·rw [if_neg h0] at h ⊢
   by_cases h1:k%2=1
   ·rw [if_pos h1] at h ⊢;rw [ihl _ _ h]
   ·rw [if_neg h1] at h ⊢;rw [ihr _ _ h]
 | fn f =>
  intro k v h
  show T.fn _=T.fn f
  congr 1
  funext i
  rw [aH]
  by_cases e:i=k
  ·subst e;rw [if_pos rfl];exact h.symm
  ·rw [if_neg e]
theorem tq {a:EA} {d:Nat} {v:V} (h:a.get d=v) (hb:v ≠ .bad):a.put (some d) v=a:=by
 have h:getD' a.tm d=v:=h
 have hg:a.tm.get d=some v:=by
  unfold getD' at h
  split at h
  ·rename_i x e;rw [e,h]
  ·exact absurd h.symm hb
 show cond (Nat.blt d a.n) (⟨a.tm.set d v,a.n,a.df⟩:EA) a=a
 rw [T.set_same _ _ _ hg]
 cases Nat.blt d a.n<;>rfl
section
variable {β:Type} {B:KP α} {φ:α→β} (hφ:∀ c x y,φ (B.br c x y)=cond c (φ x) (φ y)) (hν:∀ n k,φ (B.num n k)=φ (k n))
omit hφ in
include hν in
theorem DJ (v:V) (k:V→α):φ (Gw B v k)=φ (k v):=by
 cases v<;>first | rfl | exact hν _ _
omit hφ in
include hν in
theorem KD (o:Option V) (k:Option V→α):φ (numO B o k)=φ (k o):=by
 cases o with
 | none=>rfl
 | some v=>exact DJ hν v (fun v=>k (some v))
include hφ
theorem En (ops:Array Oper) (a:EA) (g:Option (Nat×Bool)) (z:α) (yes no:EA→α):φ (AC B ops a g z yes no)=(match dH ops a g with | .yes=>φ (yes a) | .no=>φ (no a) | .unk=>φ z):=by
 unfold AC dH
 cases g with
 | none=>rfl
 | some p =>
  obtain ⟨j,want⟩:=p
  simp only
  cases ops[j]? with
  | none=>rfl
  | some o' =>
   simp only
   cases o'.dst with
   | none=>rfl
   | some d =>
    simp only
    cases hv:a.get d with
    | bool b =>
     simp only [w3]
     rw [hφ]
     cases b
     ·rw [tq hv (by intro e;cases e)]
      cases want<;>rfl
     ·rw [tq hv (by intro e;cases e)]
      cases want<;>rfl
    | _=>rfl
omit hφ in
theorem SQ (P:Program) (c d:T V):∀ (l:List Field) (i:Nat),SK P l c d i=yN P l c d i:=by
 intro l
 induction l with
 | nil=>intro i;rfl
 | cons f l ih =>
  intro i
  show (match eqK (fk P f.type) (c.get i) (d.get i) with | some b=>Dl b (SK P l c d (i+1)) | none=>none)=(match eqK (fk P f.type) (c.get i) (d.get i) with | some true=>yN P l c d (i+1) | r=>r)
  rw [ih]
  cases eqK (fk P f.type) (c.get i) (d.get i) with
  | none=>rfl
  | some b =>
   cases b<;>cases yN P l c d (i+1)<;>rfl
omit hφ in
theorem OB (k:FK) (c d:T V):∀ (n:Nat) (i:Nat),OI k c d n i=CB k c d n i:=by
 intro n
 induction n with
 | zero=>intro i;rfl
 | succ n ih =>
  intro i
  show (match eqK k (c.get i) (d.get i) with | some b=>Dl b (OI k c d n (i+1)) | none=>none)=(match eqK k (c.get i) (d.get i) with | some true=>CB k c d n (i+1) | r=>r)
  rw [ih]
  cases eqK k (c.get i) (d.get i) with
  | none=>rfl
  | some b =>
   cases b<;>cases CB k c d n (i+1)<;>rfl
omit hφ in
theorem MK (P:Program) (t:TypeId) (n:Nat) (c d:T V):HY P t n c d=jq P t n c d:=by
 unfold HY jq
 cases P.underlying t with
 | none=>rfl
 | some u=>cases u<;>first | rfl | (simp only [SQ];done) | (simp only [OB])
theorem Ls (kd:IntKind) (n:Int) (k:V→α):φ (xC B kd n k)=φ (k (.int kd (kd.wrap n))):=by
 cases kd with
 | i64 =>
  show φ (B.br (small n) (k (.int .i64 n)) (k (.int .i64 (IntKind.wrap .i64 n))))=_
  rw [hφ]
  have:=QA .i64 n
  have e:wr .i64 n=cond (small n) n (IntKind.wrap .i64 n):=rfl
  rw [e] at this
  cases h:small n with
  | true=>rw [h] at this;rw [← this];rfl
  | false=>rfl
 | _=>rfl
theorem yJ {z:α} (kd:IntKind) (n:Int) (k:V→α):φ (cond B.s (xC B kd n k) (k (.int kd (wr kd n))))=aX (vI kd n) (φ z) (fun v=>φ (k v)):=by
 rw [KT]
 cases B.s with
 | true=>exact Ls hφ kd n k
 | false=>show φ (k (.int kd (wr kd n)))=_;rw [QA];rfl
theorem NW (op:BinOp) (kd:IntKind) (a b:Int) (z:α) (k:V→α):φ (Jj B op kd a b z k)=aX (nM op kd a b) (φ z) (fun v=>φ (k v)):=by
 have els:∀ o:Option V,φ (aX o z k)=aX o (φ z) (fun v=>φ (k v)):=fun o=>by cases o<;>rfl
 have e:=els (nM op kd a b)
 clear els
 cases op with
 | add=>exact yJ hφ kd (a+b) k
 | sub=>exact yJ hφ kd (a-b) k
 | mul=>exact yJ hφ kd (a*b) k
 | quo =>
  show φ (B.br (aK b 0) z (cond B.s (xC B kd (Int.tdiv a b) k) (k (.int kd (wr kd (Int.tdiv a b))))))=aX (cond (aK b 0) none (vI kd (Int.tdiv a b))) (φ z) (fun v=>φ (k v))
  rw [hφ,yJ hφ (z:=z) kd (Int.tdiv a b) k]
  cases aK b 0<;>rfl
 | rem =>
  show φ (B.br (aK b 0) z (k (.int kd (Int.tmod a b))))=aX (cond (aK b 0) none (fI (Int.tmod a b) fun n=>some (.int kd n))) (φ z) (fun v=>φ (k v))
  rw [hφ,yh]
  cases aK b 0<;>rfl
 | _=>exact e
theorem Ux (P:Program) (op:BinOp) (t:TypeId) (x y:V) (z:α) (k:V→α):φ (VU P B op t x y z k)=aX (BL P op t x y) (φ z) (fun v=>φ (k v)):=by
 have els:∀ o:Option V,φ (aX o z k)=aX o (φ z) (fun v=>φ (k v)):=fun o=>by cases o<;>rfl
 unfold VU
 split
 ·rename_i kd a kd' b
  cases hs:Xx op with
  | true=>exact els _
  | false =>
   show φ (cond (gz kd kd') (Jj B op kd a b z k) z)=aX (U0 op kd a kd' b) (φ z) (fun v=>φ (k v))
   have:U0 op kd a kd' b=cond (gz kd kd') (nM op kd a b) none:=by cases op<;>first | rfl | cases hs
   rw [this]
   cases gz kd kd' with
   | true=>exact NW hφ op kd a b z k
   | false=>rfl
 ·rename_i n c n' d
  show _=aX (cond (Nat.beq n n') (cond (P.eqGuardType P.depth t) none (eqV op (jq P t n c d))) none) (φ z) (fun v=>φ (k v))
  rw [MK]
  cases Nat.beq n n' with
  | false=>rfl
  | true =>
   cases P.eqGuardType P.depth t with
   | true=>rfl
   | false=>exact els _
 ·exact els _
include hν in
theorem Wq (P:Program) (t:TypeId) (x i:V) (H:EH) (z:α) (k:V→EH→α):φ (ixK P B t x i H z k)=aU (dG P t x i H) (φ z) (fun v H=>φ (k v H)):=by
 have els:∀ o:VO,φ (aU o z k)=aU o (φ z) (fun v H=>φ (k v H)):=fun o=>by cases o<;>rfl
 have gen:φ (Gw B i fun i=>aU (dG P t x i H) z k)=aU (dG P t x i H) (φ z) (fun v H=>φ (k v H)):=by rw [DJ hν];exact els _
 unfold ixK
 split
 ·rename_i elem q ag c len e kd n hu
  have hev:dG P t (.fz q ag c len e) (.int kd n) H=ixF ag c len e (dm P elem) n H:=by unfold dG;rw [hu]
  rw [hev]
  unfold ixF
  cases dm P elem with
  | none=>rfl
  | some e' =>
   simp only
   cases Nat.beq e e' with
   | false=>rfl
   | true =>
    show φ (B.br (cZ n len) (k (.fp ag (c n.toNat) e 0) H) z)=aU (cond (cZ n len) (some (.fp ag (c n.toNat) e 0,H)) none) (φ z) (fun v H=>φ (k v H))
    rw [hφ]
    cases cZ n len<;>rfl
 ·exact gen
omit hφ in
theorem Oh {c:T V}:∀ {n p:Nat} {l:List Int},LD c n p=some l→∀ i,i<n→c.get (p+i)=some (.int .i64 (Rk l (Int.ofNat i))):=by
 intro n
 induction n with
 | zero=>intro p l _ i hi;omega
 | succ n ih =>
  intro p l h i hi
  have h:(match c.get p with | some (.int .i64 x)=>Vj x (LD c n (p+1)) | _=>none)=some l:=h
  split at h
  ·rename_i x hx
   cases hg:LD c n (p+1) with
   | none=>rw [hg] at h;cases h
   | some l' =>
    rw [hg] at h
    have h:some (x::l')=some l:=h
    cases h
    cases i with
    | zero=>rw [Nat.add_zero,hx];rfl
    | succ i =>
     have:=ih hg i (by omega)
     rw [show p+(i+1)=p+1+i by omega,this]
     show _=some (V.int .i64 (cond (aK (Int.ofNat (i+1)) 0) x (Rk l' (Int.sub (Int.ofNat (i+1)) 1))))
     have e1:aK (Int.ofNat (i+1)) 0=false:=rfl
     have e2:Int.sub (Int.ofNat (i+1)) 1=Int.ofNat i:=by
      show ((i+1:Nat):Int)-1=(i:Int)
      omega
     rw [e1,e2];rfl
  ·cases h
include hν in
theorem TB (P:Program) (t:TypeId) (x i:V) (H:EH) (z:α) (k:V→EH→α):φ (V9 P B t x i H z k)=aU (fU P t x i H) (φ z) (fun v H=>φ (k v H)):=by
 have els:∀ o:VO,φ (aU o z k)=aU o (φ z) (fun v H=>φ (k v H)):=fun o=>by cases o<;>rfl
 have gen:∀ x i,φ (Gw B i fun i=>aU (fU P t x i H) z k)=aU (fU P t x i H) (φ z) (fun v H=>φ (k v H)):=fun x i=>by rw [DJ hν];exact els _
 unfold V9
 split
 ·rename_i len elem n c kd m hu
  unfold Xu
  split
  ·rename_i l hs hk hg
   cases hle:Nat.ble len n with
   | false =>
    show φ (Gw B (.int kd m) fun i=>aU (fU P t (.agg n c) i H) z k)=_
    exact gen (.agg n c) (.int kd m)
   | true =>
    have hle:=Nat.le_of_ble_eq_true hle
    show φ (B.br (cZ m len) (k (.int .i64 (Rk l m)) H) z)=_
    rw [hφ]
    have hev:fU P t (.agg n c) (.int kd m) H=(match inN m len with | some i=>iI H (zL n c (Nat.mul i 1) .one) | none=>none):=by
     unfold fU
     rw [hu]
     simp only
     rw [hs,hk]
     cases inN m len<;>rfl
    rw [hev]
    cases m with
    | negSucc a=>rfl
    | ofNat a =>
     show cond (Nat.blt a len) _ _=aU (match cond (Nat.blt a len) (some a) none with | some i=>iI H (zL n c (Nat.mul i 1) .one) | none=>none) _ _
     cases hb:Nat.blt a len with
     | false=>rfl
     | true =>
      have hb:a<len:=Nat.le_of_ble_eq_true hb
      have hget:=Oh hg a hb
      rw [Nat.zero_add] at hget
      show φ (k (.int .i64 (Rk l (Int.ofNat a))) H)=aU (iI H (cond (Nat.blt (Nat.mul a 1) n) (c.get (Nat.mul a 1)) none)) _ _
      have e1:Nat.mul a 1=a:=Nat.mul_one a
      have e2:Nat.blt a n=true:=Nat.ble_eq_true_of_le (show a+1≤n by omega)
      rw [e1,e2,hget];rfl
  ·exact gen _ _
 ·exact gen _ _
omit hφ in
theorem UE (off n:Nat):QC off n=Nat.add off n:=by
 cases off with
 | zero=>exact (Nat.zero_add n).symm
 | succ m=>rfl
omit hφ in
theorem TC (len e:Nat):mulS len e=Nat.mul len e:=by
 unfold mulS
 split
 ·exact (Nat.mul_one len).symm
 ·rfl
theorem RZ (H:EH) (e b off len:Nat) (xs:Cs) (z:α) (k:V→EH→α):φ (Ph B H e b off len xs z k)=aU (Gz H e b off len xs) (φ z) (fun v H=>φ (k v H)):=by
 unfold Ph Gz
 cases H.block b with
 | no=>rfl
 | mk c lo sz grp =>
  simp only [UE,TC]
  rw [dA]
  cases Nat.ble lo off with
  | false=>rfl
  | true =>
   show φ (B.br (Nat.ble (Nat.add off (Nat.mul len e)) sz) _ z)=aU (cond (Nat.ble (Nat.add off (Nat.mul len e)) sz) _ none) _ _
   rw [hφ]
   cases Nat.ble (Nat.add off (Nat.mul len e)) sz with
   | false=>rfl
   | true =>
    simp only [cond_true]
    cases gQ xs.c xs.n xs.off (Nat.add off (Nat.mul len e)) c with
    | none=>rfl
    | some c' =>
     simp only
     unfold Vo PW
     rw [dA,dA];rfl
theorem Si (P:Program) (elem:TypeId) (e:Nat) (s x:V) (H:EH) (z:α) (k:V→EH→α):φ (QD P B elem e s x H z k)=aU (IW P elem e s x H) (φ z) (fun v H=>φ (k v H)):=by
 have els:∀ o:VO,φ (aU o z k)=aU o (φ z) (fun v H=>φ (k v H)):=fun o=>by cases o<;>rfl
 unfold QD IW
 cases fH H e x with
 | none=>rfl
 | some xs =>
  simp only
  cases s with
  | slice b off len e' =>
   simp only
   rw [hφ]
   show cond (l9 P elem e (Nat.add len xs.m)) _ _=aU (cond (l9 P elem e (Nat.add len xs.m)) _ none) _ _
   cases l9 P elem e (Nat.add len xs.m) with
   | false=>rfl
   | true =>
    show φ (cond (Nat.beq xs.m 0) _ _)=aU (cond (Nat.beq xs.m 0) (some (V.slice b off len e',H)) (cond (Nat.beq e e') (Gz H e b off len xs) none)) _ _
    cases Nat.beq xs.m 0 with
    | true=>rfl
    | false =>
     simp only [cond_false]
     cases Nat.beq e e' with
     | false=>rfl
     | true=>exact RZ hφ H e b off len xs z k
  | _=>exact els _
theorem OX (P:Program) (st xt:TypeId) (s x:V) (H:EH) (z:α) (k:V→EH→α):φ (Ko P B st xt s x H z k)=aU (jH P st xt s x H) (φ z) (fun v H=>φ (k v H)):=by
 have els:∀ o:VO,φ (aU o z k)=aU o (φ z) (fun v H=>φ (k v H)):=fun o=>by cases o<;>rfl
 unfold Ko jH
 split
 ·rename_i elem el2 h1 h2
  rw [h1,h2]
  simp only
  split
  ·rename_i e he
   rw [he]
   simp only
   cases Tj e s x with
   | false=>exact Si hφ P elem e s x H z k
   | true =>
    show φ (B.br (Nat.ble (qP x) 1048576) _ z)=aU (cond (Nat.ble (qP x) 1048576) _ none) (φ z) (fun v H=>φ (k v H))
    rw [hφ,els]
    cases Nat.ble (qP x) 1048576<;>rfl
  ·rename_i he
   rw [he];rfl
 ·rename_i hn
  generalize P.underlying st=u at hn
  generalize P.underlying xt=u2 at hn
  split
  ·exact (hn _ _ rfl rfl).elim
  ·rfl
theorem MP (P:Program) (c:Call) (a:EA) (H:EH) (z:α) (k:V→EH→α):φ (Ji P B c a H z k)=aU (je (.call c) P a H) (φ z) (fun v H=>φ (k v H)):=by
 have els:∀ o:VO,φ (aU o z k)=aU o (φ z) (fun v H=>φ (k v H)):=fun o=>by cases o<;>rfl
 unfold Ji
 split
 ·rename_i hc
  have hev:je (.call c) P a H=iy P .append c.argTypes.toList (mapO a c.args.toList) H:=by
   show Ot c.args c.argTypes c.callee P a H=_
   rw [hc];rfl
  rw [hev]
  split
  ·rename_i st xt _ s x _ h1 h2
   rw [h1,h2]
   show φ (cond (qJ (P.underlying xt)) (aU (Nj P st s x H) z k) (Ko P B st xt s x H z k))=aU (uN P st xt s x H) (φ z) (fun v H=>φ (k v H))
   unfold uN
   cases qJ (P.underlying xt) with
   | true=>exact els _
   | false=>exact OX hφ P st xt s x H z k
  ·rename_i hn
   have:iy P .append c.argTypes.toList (mapO a c.args.toList) H=none:=by
    generalize c.argTypes.toList=l at hn
    generalize mapO a c.args.toList=m at hn
    unfold iy
    split
    ·rename_i h;cases h
    ·exact (hn _ _ _ _ _ _ rfl rfl).elim
    ·rename_i h;cases h
    ·rename_i h;cases h
    ·rename_i h;cases h
    ·rename_i h;cases h
    ·rename_i h;cases h
    ·rfl
   rw [this];rfl
 ·exact els _
include hν in
theorem MS (P:Program) (op:Op) (a:EA) (H:EH) (z:α) (k:V→EH→α):φ (I5 P B op a H z k)=aU (je op P a H) (φ z) (fun v H=>φ (k v H)):=by
 have els:∀ o:VO,φ (aU o z k)=aU o (φ z) (fun v H=>φ (k v H)):=fun o=>by cases o<;>rfl
 unfold I5
 split
 ·rename_i op t x y u
  rw [Ux hφ]
  show _=aU (iI H (BL P op t (a.eval x) (a.eval y))) (φ z) (fun v H=>φ (k v H))
  cases BL P op t (a.eval x) (a.eval y)<;>rfl
 ·rename_i c x y
  show φ (Rj B _ _ _ _ _ _)=aU (oO (a.eval c) (a.eval x) (a.eval y) H) (φ z) (fun v H=>φ (k v H))
  unfold Rj oO
  cases a.eval c with
  | bool b=>simp only;rw [hφ];cases b<;>rfl
  | _=>rfl
 ·rename_i op t x
  show φ (unK B op (a.eval x) H z k)=aU (FT op (a.eval x) H) (φ z) (fun v H=>φ (k v H))
  generalize a.eval x=y
  have e:=els (FT op y H)
  clear els
  cases op with
  | neg =>
   cases y with
   | int kd n =>
    show φ (cond B.s (xC B kd (0-n) (fun v=>k v H)) (k (.int kd (wr kd (Int.sub 0 n))) H))=aU (iI H (vI kd (Int.sub 0 n))) (φ z) (fun v H=>φ (k v H))
    have:=yJ hφ (z:=z) kd (0-n) (fun v=>k v H)
    exact this.trans (by show aX (vI kd (Int.sub 0 n)) _ _=_;rw [KT];rfl)
   | _=>exact e
  | _=>exact e
 ·rename_i src dst x
  show φ (Qr P B src dst (a.eval x) H z k)=aU (qL P src dst (a.eval x) H) (φ z) (fun v H=>φ (k v H))
  unfold Qr qL
  generalize P.underlying src=u
  generalize P.underlying dst=v
  generalize a.eval x=y
  cases u with
  | none=>rfl
  | some u =>
   cases v with
   | none=>rfl
   | some v =>
    cases v with
    | int kd =>
     cases y with
     | int k0 n =>
      show φ (cond B.s (xC B kd n (fun v=>k v H)) (k (.int kd (kd.wrap n)) H))=aU (iI H (fI (kd.wrap n) fun n=>some (.int kd n))) (φ z) (fun v H=>φ (k v H))
      rw [yh]
      cases B.s with
      | true=>exact Ls hφ kd n (fun v=>k v H)
      | false=>rfl
     | _=>rfl
    | _=>rfl
 ·rw [KD hν,KD hν];exact els _
 ·exact Wq hφ hν P _ _ _ _ _ _
 ·exact MP hφ P _ _ _ _ _
 ·exact TB hφ hν P _ _ _ _ _ _
 ·exact els _
section
variable {P:Program} {f:Task→Option Res} {fK:fJ α} {z:α} (hf:∀ t k,φ (fK t k)=aX (f t) (φ z) (fun r=>φ (k r)))
include hf
include hν in
theorem J3 (op:Op) (a:EA) (H:EH) (k:V→EH→α):φ (MF P B fK op a H z k)=aU (mV P f a H op) (φ z) (fun v H=>φ (k v H)):=by
 unfold MF mV JM
 cases qi op with
 | light=>exact MS hφ hν P op a H z k
 | heavy g args =>
  show φ (fK (.callV (a.eval g) (mapO a args.toList) H) (Xn z k))=aU (JP (f (.callV (a.eval g) (mapO a args.toList) H))) (φ z) (fun v H=>φ (k v H))
  rw [hf]
  cases f (.callV (a.eval g) (mapO a args.toList) H) with
  | none=>rfl
  | some r=>cases r<;>rfl
include hν in
theorem Ul (ops:Array Oper):∀ (l:List Oper) (a:EA) (H:EH) (k:Res→α),φ (UH P B fK ops z l a H k)=aX (qw P f ops l a H) (φ z) (fun r=>φ (k r)):=by
 intro l
 induction l with
 | nil=>intro a H k;rfl
 | cons o l ih =>
  intro a H k
  show φ (AC B ops a o.guard z (fun a=>MF P B fK o.op a H z (fun v H'=>UH P B fK ops z l (a.put o.dst v) H' k)) (fun a=>UH P B fK ops z l (a.put o.dst skp) H k))=aX (match dH ops a o.guard with
   | .yes=>Ju (qw P f ops l) o.dst a (mV P f a H o.op)
   | .no=>qw P f ops l (a.put o.dst skp) H
   | .unk=>none) (φ z) (fun r=>φ (k r))
  rw [En hφ]
  cases dH ops a o.guard with
  | yes =>
   simp only
   rw [J3 hφ hν hf]
   cases mV P f a H o.op with
   | none=>rfl
   | some p=>exact ih _ _ _
  | no=>exact ih _ _ _
  | unk=>rfl
include hν in
theorem P9 (ops:Array Oper):∀ (l:List Oper) (a:EA) (H:EH) (k:RR→α),φ (yH P B fK ops z l a H k)=aX (eX P f ops l a H) (φ z) (fun r=>φ (k r)):=by
 intro l
 induction l with
 | nil=>intro a H k;rfl
 | cons o l ih =>
  intro a H k
  rw [vC]
  show φ (AC B ops a o.guard z
   (fun a=>MF P B fK o.op a (lowTo H big) z (fun v H'=>yH P B fK ops z l (a.put o.dst v) (lowTo H' (bW H.low H'.low)) (fun r=>k ⟨r.a,r.H,nR o.op a H H' (qi o.op)::r.fps,(a,H)::r.st⟩)))
   (fun a=>yH P B fK ops z l (a.put o.dst skp) H (fun r=>k ⟨r.a,r.H,⟨0,0,[],[],0⟩::r.fps,(a,H)::r.st⟩)))=_
  rw [En hφ]
  cases dH ops a o.guard with
  | yes =>
   simp only
   rw [J3 hφ hν hf]
   cases mV P f a (lowTo H big) o.op with
   | none=>rfl
   | some p =>
    obtain ⟨v,H'⟩:=p
    show φ (yH P B fK ops z l (a.put o.dst v) (lowTo H' (bW H.low H'.low)) _)=aX (match eX P f ops l (a.put o.dst v) (lowTo H' (bW H.low H'.low)) with
     | some r=>some (⟨r.a,r.H,nR o.op a H H' (qi o.op)::r.fps,(a,H)::r.st⟩:RR)
     | none=>none) (φ z) (fun r=>φ (k r))
    rw [ih]
    cases eX P f ops l (a.put o.dst v) (lowTo H' (bW H.low H'.low))<;>rfl
  | no =>
   simp only
   rw [ih]
   show _=aX (CX a H (eX P f ops l (a.put o.dst skp) H)) (φ z) (fun r=>φ (k r))
   cases eX P f ops l (a.put o.dst skp) H<;>rfl
  | unk=>rfl
omit hφ in
theorem Kz (ro:Option Nat) (x y:Code) (a:EA) (H:EH) (k:Res→α):φ (fK (.code ro x a H) (V4 fK ro y k))=aX (zT f ro y (f (.code ro x a H))) (φ z) (fun r=>φ (k r)):=by
 rw [hf]
 cases f (.code ro x a H) with
 | none=>rfl
 | some r=>cases r<;>first | rfl | exact hf _ _
omit hφ in
theorem Rf (ro:Option Nat) (a1:EA) (H:EH) (k:Res→α) (pend:Option Code):φ (OG fK ro a1 H k pend)=aX (Fq f ro a1 H pend) (φ z) (fun r=>φ (k r)):=by
 cases pend with
 | none=>rfl
 | some c=>exact hf _ _
omit hφ in
theorem xY (ro:Option Nat) (g:V) (ps:Array Tmp) (as bd:Code) (a a1:EA) (d:Nat) (H:EH) (k:Res→α):φ (wY fK ro g ps as bd a a1 d H z k)=aX (lX f ro g ps as bd a a1 d H) (φ z) (fun r=>φ (k r)):=by
 unfold wY lX
 rw [dA,dA]
 cases g with
 | func gi first captured =>
  show φ (fK (.call gi _ _) _)=aX (afterLoop f ro H.next a1 (f (.call gi _ _))) (φ z) (fun r=>φ (k r))
  rw [hf]
  generalize f _=r0
  cases r0 with
  | none=>rfl
  | some r =>
   cases r with
   | v v H2 =>
    show φ (match H2.objs.get H.next with
     | some (.loop st pend tm n ps as bd df)=>cond (nK st) (OG fK ro a1 (dZ H2 H.next .exhausted pend tm n ps as bd df) k pend) z
     | _=>z)=aX (match H2.objs.get H.next with
     | some (.loop st pend tm n ps as bd df)=>cond (nK st) (Fq f ro a1 (dZ H2 H.next .exhausted pend tm n ps as bd df) pend) none
     | _=>none) (φ z) (fun r=>φ (k r))
    cases H2.objs.get H.next with
    | none=>rfl
    | some o =>
     cases o with
     | loop st pend tm n ps as bd df =>
      simp only
      cases nK st with
      | true=>exact Rf hf _ _ _ _ _
      | false=>rfl
     | _=>rfl
   | _=>rfl
 | _=>rfl
include hν in
theorem OY (ro:Option Nat) (c:Code) (a:EA) (H:EH) (k:Res→α):φ (Ve P B f fK ro c a H z k)=aX (zf c P f ro a H) (φ z) (fun r=>φ (k r)):=by
 have els:∀ o:Option Res,φ (aX o z k)=aX o (φ z) (fun r=>φ (k r)):=fun o=>by cases o<;>rfl
 have e:=els (zf c P f ro a H)
 cases c with
 | region id ops d =>
  cases d with
  | false =>
   show _=aX (nrm a H (fun a H=>qw P f ops ops.toList a H)) (φ z) (fun r=>φ (k r))
   rw [Qz]
   exact Ul hφ hν hf ops _ _ _ _
  | true =>
   show φ (cond (jh ops) (yH P B fK ops z ops.toList a H (fun r=>aX (doneD P ops (some r)) z k)) z)=aX (cond (jh ops) (doneD P ops (eX P f ops ops.toList a H)) none) (φ z) (fun r=>φ (k r))
   cases jh ops with
   | false=>rfl
   | true =>
    show φ (yH P B fK ops z ops.toList a H (fun r=>aX (doneD P ops (some r)) z k))=aX (doneD P ops (eX P f ops ops.toList a H)) (φ z) (fun r=>φ (k r))
    rw [P9 hφ hν hf]
    cases eX P f ops ops.toList a H with
    | none=>rfl
    | some r=>exact els _
 | seq x y=>exact Kz hf ro x y a H k
 | cond c x y =>
  show φ (U1 B fK ro c x y a H z k)=aX (nX f ro x y a H (a.eval c)) (φ z) (fun r=>φ (k r))
  have other:∀ v,a.eval c=v→φ (match v with | .bool b=>B.br b (fK (.code ro x a H) k) (fK (.code ro y a H) k) | _=>z)=aX (nX f ro x y a H v) (φ z) (fun r=>φ (k r)):=fun v _=>by
   cases v with
   | bool b=>simp only;rw [hφ];cases b<;>exact hf _ _
   | _=>rfl
  cases c with
  | tmp t =>
   show φ (match a.get t with | .bool b=>B.br b (fK (.code ro x (a.put (some t) (.bool true)) H) k) (fK (.code ro y (a.put (some t) (.bool false)) H) k) | _=>z)=aX (nX f ro x y a H (a.get t)) (φ z) (fun r=>φ (k r))
   cases hv:a.get t with
   | bool b =>
    simp only
    rw [hφ]
    cases b
    ·show φ (fK (.code ro y (a.put (some t) (.bool false)) H) k)=_
     rw [tq hv (by intro e;cases e)];exact hf _ _
    ·show φ (fK (.code ro x (a.put (some t) (.bool true)) H) k)=_
     rw [tq hv (by intro e;cases e)];exact hf _ _
   | _=>rfl
  | const v=>exact other _ rfl
  | global g=>exact other _ rfl
  | func g=>exact other _ rfl
 | block id c =>
  show φ (fK (.code ro c a H) (fun r=>aX (gU id (some r)) z k))=aX (gU id (f (.code ro c a H))) (φ z) (fun r=>φ (k r))
  rw [hf]
  cases f (.code ro c a H) with
  | none=>rfl
  | some r=>exact els _
 | loop body =>
  show φ (Qd P f fK ro body a H z k)=aX (vX body P f ro a H) (φ z) (fun r=>φ (k r))
  unfold Qd vX
  cases kW body with
  | some ml=>exact els (mr P f ro ml a H)
  | none=>exact Kz hf ro body (.loop body) a H k
 | rangeFunc g ps as bd =>
  show φ (Ig fK ro g ps as bd a H z k)=aX (jy f ro g ps as bd a H) (φ z) (fun r=>φ (k r))
  unfold Ig jy
  cases ro with
  | some l0 =>
   simp only
   cases H.objs.get l0 with
   | none=>rfl
   | some o=>cases o<;>first | rfl | exact xY hf _ _ _ _ _ _ _ _ _ _
  | none =>
   simp only [dA]
   exact xY hf _ _ _ _ _ _ _ _ _ _
 | scope c=>exact hf _ _
 | _=>exact e
omit hφ in
theorem xg (s:Bool) (g:FuncId) (args:List V) (H:EH) (k:Res→α):φ (Az P s fK g args H z k)=aX (mY P s f g args H) (φ z) (fun r=>φ (k r)):=by
  unfold Az mY
  cases P.funcs[g]? with
  | none=>rfl
  | some fn =>
    simp only
    cases decide (fn.name = "runtime.NumGoroutine") with
    | true=>rfl
    | false =>
      show φ (fnK P s fK fn args H z k)=aX (Pv P s f fn args H) (φ z) (fun r=>φ (k r))
      unfold fnK Pv
      cases fn.body with
      | none=>rfl
      | some c =>
        simp only
        cases Nat.ble (lenV args) fn.ntmps with
        | false=>rfl
        | true =>
          show φ (fK (.code none c ⟨gJ s args,fn.ntmps,[]⟩ H) (fun r=>aX (dW P fn (some r)) z k))=aX (dW P fn (f (.code none c ⟨gJ s args,fn.ntmps,[]⟩ H))) (φ z) (fun r=>φ (k r))
          rw [hf]
          cases f (.code none c ⟨gJ s args,fn.ntmps,[]⟩ H) with
          | none=>rfl
          | some r =>
            show φ (aX (dW P fn (some r)) z k)=aX (dW P fn (some r)) (φ z) (fun r=>φ (k r))
            cases dW P fn (some r)<;>rfl
omit hφ in
theorem MB (fv:V) (args:List V) (H:EH) (k:Res→α):φ (Qy fK fv args H z k)=aX (wM f fv args H) (φ z) (fun r=>φ (k r)):=by
 cases fv with
 | func g first captured=>exact hf _ _
 | yld l =>
  show φ (Jo fK l args H z k)=aX (rQ f l args H) (φ z) (fun r=>φ (k r))
  unfold Jo rQ
  cases H.objs.get l with
  | none=>rfl
  | some o =>
   cases o with
   | loop st pend tm n ps as bd df =>
    simp only
    cases mW n ps.toList args tm with
    | none=>rfl
    | some tm' =>
     simp only
     rw [hf]
     cases f (.code (some l) as ⟨tm',n,[]⟩ H) with
     | none=>rfl
     | some r =>
      cases r with
      | normal a1 H1 =>
       show φ (match H1.objs.get l with
        | some (.loop .ready pend tm n ps as bd' df)=>fK (.code (some l) bd a1 (dZ H1 l .busy pend tm n ps as bd' df)) (fun r=>aX (fM l (some r)) z k)
        | _=>z)=aX (match H1.objs.get l with
        | some (.loop .ready pend tm n ps as bd' df)=>fM l (f (.code (some l) bd a1 (dZ H1 l .busy pend tm n ps as bd' df)))
        | _=>none) (φ z) (fun r=>φ (k r))
       split
       ·rw [hf]
        generalize f _=r1
        cases r1 with
        | none=>rfl
        | some r =>
         show φ (aX (fM l (some r)) z k)=aX (fM l (some r)) (φ z) (fun r=>φ (k r))
         cases fM l (some r)<;>rfl
       ·rfl
      | _=>rfl
   | _=>rfl
 | _=>rfl
include hν in
theorem Qk (X:Ext) (t:Task) (k:Res→α):φ (Vk P B X f fK z t k)=aX (step P X f t) (φ z) (fun r=>φ (k r)):=by
 cases t with
 | call g args H =>
  show φ (Aa P B X.sym fK g args H z k (X g))=aX (rW P X.sym f g args H (X g)) (φ z) (fun r=>φ (k r))
  cases X g with
  | none=>exact xg hf _ g args H k
  | some x =>
   show φ (Ye P B X.sym fK g args H z k (x args H))=aX (V7 P X.sym f g args H (x args H)) (φ z) (fun r=>φ (k r))
   cases x args H with
   | none=>exact xg hf _ g args H k
   | some p =>
    obtain ⟨b,v⟩:=p
    show φ (B.br b (k (.v v (AA H))) (Az P X.sym fK g args H z k))=_
    rw [hφ]
    cases b with
    | true=>rfl
    | false=>exact xg hf _ g args H k
 | callV fv args H=>exact MB hf fv args H k
 | code ro c a H=>exact OY hφ hν hf ro c a H k
end
include hν in
theorem lC (P:Program) (X:Ext) (z:α):∀ (n:Nat) (t:Task) (k:Res→α),φ (evK P B X z n t k)=aX (ev P X n t) (φ z) (fun r=>φ (k r))
 | 0,_,_=>rfl
 | n+1,t,k=>Qk hφ hν (lC P X z n) X t k
end
theorem OV (P:Program) (X:Ext) (z:α) (n:Nat) (t:Task) (k:Res→α):evK P (yM α) X z n t k=aX (ev P X n t) z k :=
 lC (B:=yM α) (φ:=id) (fun _ _ _=>rfl) (fun _ _=>rfl) P X z n t k
end
end Go.Ev
/- A call's contract: what it answers over the empty heap, with arguments that are frozen, said of each call in whatever heap. -/
namespace Go.Ev
open Go
noncomputable section
variable {P:Program}
def aY (k:Nat):EH:=⟨.lf,k,.lf,big⟩
theorem Es (k:Nat):WF (aY k):=⟨(fun b o h=>by cases h),(fun b o h=>by cases h),(fun g _ b b' o o' h=>by cases h),(fun g x h=>by cases h)⟩
def pq (R:Ren) (w:World) (k:Nat) (as:Nat→Nat):Ren:=⟨fun _=>none,R.zs,fun a r=>if a<k then R.cz (as a) r else if a=k then (match w.heap[r]? with | some (.cells cs _ _)=>some cs | _=>none) else none⟩
theorem KW {R:Ren} {w:World} {k:Nat} {as:Nat→Nat} {a r:Nat} (h:a<k):(pq R w k as).cz a r=R.cz (as a) r:=if_pos h
theorem uU {R:Ren} {w:World} {k:Nat} {as:Nat→Nat} {a r:Nat} {cs:Array Value} (h:(pq R w k as).cz a r=some cs):(a<k∧R.cz (as a) r=some cs)∨(a=k∧∃ t fz,w.heap[r]?=some (.cells cs t fz)):=by
 have h:(if a<k then R.cz (as a) r else if a=k then (match w.heap[r]? with | some (.cells cs _ _)=>some cs | _=>none) else none)=some cs:=h
 split at h
 ·rename_i e;exact .inl ⟨e,h⟩
 ·split at h
  ·rename_i e
   split at h
   ·rename_i c t fz hc;cases h;exact .inr ⟨e,t,fz,hc⟩
   ·cases h
  ·cases h
inductive Fr0 (H:EH) (k:Nat) (as:Nat→Nat) (new:Nat):V→V→Prop where
 | bool (b:Bool):Fr0 H k as new (.bool b) (.bool b)
 | int (kd:IntKind) (n:Int):Fr0 H k as new (.int kd n) (.int kd n)
 | nilSlice:Fr0 H k as new .nilSlice .nilSlice
 | nilS {q:Bool} {a:Nat} {c:Nat→Nat→V} {e:Nat}:Fr0 H k as new .nilSlice (.fz q a c 0 e)
 | fz {q:Bool} {a a':Nat} {c c':Nat→Nat→V} {len e:Nat} (h0:a≠k) (h1:a<k→a'=as a) (h2:k<a→a'=new) (hs:∀ i j,i<len→j<e→dE (c' i j)=true) (ha:∀ i j,i<len→j<e→Aged a' (c' i j))
  (h:∀ i j,i<len→j<e→Fr0 H k as new (c i j) (c' i j)):Fr0 H k as new (.fz q a c len e) (.fz true a' c' len e)
 | slice {b off len e lo sz g:Nat} {c:T V} {d c':Nat→Nat→V} (hb:H.block b = .mk c lo sz g) (hl:lo≤off) (hz:off+len*e≤sz) (hd:∀ i j,i<len→j<e→c.get (off+(i*e+j))=some (d i j))
  (hs:∀ i j,i<len→j<e→dE (c' i j)=true) (ha:∀ i j,i<len→j<e→Aged new (c' i j)) (h:∀ i j,i<len→j<e→Fr0 H k as new (d i j) (c' i j)):Fr0 H k as new (.slice b off len e) (.fz true new c' len e)
inductive Frz1 (H:EH) (k:Nat) (as:Nat→Nat) (new:Nat):V→V→Prop where
 | one {v v':V} (h:Fr0 H k as new v v'):Frz1 H k as new v v'
 | agg {n:Nat} {c c':T V} (d d':Nat→V) (h1:∀ i,i<n→c.get i=some (d i)) (h2:∀ i,i<n→c'.get i=some (d' i)) (hs:∀ i,i<n→dE (d' i)=true) (h:∀ i,i<n→Fr0 H k as new (d i) (d' i)):Frz1 H k as new (.agg n c) (.agg n c')
inductive FrV (H:EH) (k:Nat) (as:Nat→Nat) (new:Nat):V→V→Prop where
 | one {v v':V} (h:Frz1 H k as new v v'):FrV H k as new v v'
 | tup {l l':List V} (hl:l.length=l'.length) (h:∀ i (h1:i<l.length) (h2:i<l'.length),Frz1 H k as new l[i] l'[i]):FrV H k as new (.tup l) (.tup l')
section
variable {H':EH} {k new:Nat} {as:Nat→Nat} {R' R2:Ren} {w':World} (hr:Rel R' All H' w') (hold:∀ a r cs,a<k→R'.cz a r=some cs→R2.cz (as a) r=some cs)
 (hnew:∀ a r cs,k<a→R'.cz a r=some cs→R2.cz new r=some cs)
 (hobj:∀ b r d o,H'.objs.get b=some o→R'.bm b=some (r,d)→∀ cs t fz,w'.heap[r]?=some (.cells cs t fz)→R2.cz new r=some cs)
include hr hold hnew hobj
theorem OD {v v':V} (h:Fr0 H' k as new v v'):∀ {x:Value},VR R' v x→VR R2 v' x:=by
 induction h with
 | bool b=>intro x hx;cases hx;exact .bool b
 | int kd n=>intro x hx;cases hx;exact .int kd n
 | nilSlice=>intro x hx;cases hx;exact .nilSlice
 | nilS=>intro x hx;cases hx;exact .fzN
 | fz h0 h1 h2 hs ha _ ih =>
  rename_i q a a' c c' len e h
  intro x hx
  cases hx with
  | fzN=>exact .fzN
  | fzE h0=>exact .fzE (fun q=>by cases q)
  | fz y hc hl hy hs' ha' hv h0 =>
   refine .fz y ?_ hl hy hs ha fun i j hi hj=>ih i j hi hj (hv i j hi hj)
   by_cases hk:a<k
   ·rw [h1 hk];exact hold _ _ _ hk hc
   ·rw [h2 (by omega)];exact hnew _ _ _ (by omega) hc
 | slice hb hl hz hd hs ha _ ih =>
  rename_i b off len e lo sz g c d c' h
  intro x hx
  cases hx with
  | slice hm ho hle hzz =>
   rename_i r dd o cap
   obtain ⟨cs,t,fz,a1,a2,a3,a4⟩:=hr.row hb hm trivial
   have hcz:=hobj b r dd _ (aV hb).1 hm cs t fz a1
   by_cases h0:len=0
   ·subst h0;exact .fzE (fun q=>by cases q)
   ·have hcap:cap≠0:=by omega
    have ho':=ho hcap
    have key:∀ i j,i<len→j<e→∃ y,cs[o+(i*e+j)]?=some y∧VR R' (d i j) y:=fun i j hi hj=>by
     have hlt:i*e+j<len*e:=by
      have:(i+1)*e≤len*e:=Nat.mul_le_mul_right _ hi
      rw [Nat.add_mul] at this;omega
     obtain ⟨p,x,y,e1,e2,e3,e4⟩:=a4 (off+(i*e+j)) (by omega) (by omega)
     rw [hd i j hi hj] at e1;cases e1
     rw [show off+(i*e+j)-dd=o+(i*e+j) by omega] at e3
     exact ⟨y,e3,e4⟩
    refine .fz (fun i j=>if h:i<len∧j<e then (key i j h.1 h.2).choose else undef) hcz hle (fun i j hi hj=>?_) hs ha fun i j hi hj=>?_
    ·show _=some (if h:i<len∧j<e then (key i j h.1 h.2).choose else undef)
     rw [dif_pos ⟨hi,hj⟩];exact (key i j hi hj).choose_spec.1
    ·show VR R2 (c' i j) (if h:i<len∧j<e then (key i j h.1 h.2).choose else undef)
     rw [dif_pos ⟨hi,hj⟩];exact ih i j hi hj (key i j hi hj).choose_spec.2
theorem JZ {v v':V} (h:Frz1 H' k as new v v') {x:Value} (hx:VR R' v x):VR R2 v' x:=by
 cases h with
 | one h=>exact OD hr hold hnew hobj h hx
 | agg d d' h1 h2 hs h =>
  cases hx with
  | agg g hn hg hs' hv =>
   refine .agg d' hn h2 hs fun i hi=>OD hr hold hnew hobj (h i (by omega)) ?_
   have:=hv i hi
   have e:=hg i (by omega)
   rw [h1 i (by omega)] at e
   have e:=Option.some.inj e
   rw [e];exact this
theorem WC {v v':V} (h:FrV H' k as new v v') {x:Value} (hx:VR R' v x):VR R2 v' x:=by
 cases h with
 | one h=>exact JZ hr hold hnew hobj h hx
 | tup hl h =>
  cases hx with
  | tup hl' hv=>exact .tup (by omega) fun i h1 h2=>JZ hr hold hnew hobj (h i (by omega) h1) (hv i (by omega) h2)
end
theorem Ba {g:FuncId} {args0:List V} {k:Nat} {v:V} {H':EH} (hs:SpecCall P g args0 (aY (k+1)) v H') {args:List V} {H:EH} {as:Nat→Nat} (hal:∀ R w ys,Rel R All H w→AL R args ys→AL (pq R w k as) args0 ys)
 {v':V} (hF:FrV H' k as H.next v v'):SpecCall P g args H v' (bump H):=by
 obtain ⟨n1,hfn,hk⟩:=hs
 refine ⟨Nat.le_succ _,hfn,fun R w args' n hr hw hf ha=>?_⟩
 have hr0:Rel (pq R w k as) All (aY (k+1)) w:=by
  refine ⟨fun b r d h=>(by cases h),fun b o r d h=>(by cases h),fun b b' o o' r d d' h=>(by cases h),fun a r cs e=>?_⟩
  rcases uU e with ⟨_,e⟩ | ⟨_,e⟩
  ·exact ⟨(hr.frz _ _ _ e).1,fun b d q=>by cases q⟩
  ·exact ⟨e,fun b d q=>by cases q⟩
 have hfree:Free (pq R w k as) (aY (k+1)) H':=fun b h1 _=>⟨rfl,fun r=>by
  have h1:k+1≤b:=h1
  cases e:(pq R w k as).cz b r with
  | none=>rfl
  | some cs=>rcases uU e with ⟨q,_⟩ | ⟨q,_⟩<;>omega⟩
 refine CallsIn.mono (hk (pq R w k as) w args' n hr0 (Es (k+1)) hfree (hal R w args' hr ha)) fun en w' ⟨x,R',e1,e2,e3⟩=>?_
 have hkeep:∀ r,r<w.heap.size→w'.heap[r]?=w.heap[r]?:=fun r hr=>e3.fr.keep r hr fun b o d ho=>by cases ho
 have hfn0:=hf H.next (Nat.le_refl _) (Nat.lt_succ_self _)
 let R2:Ren:=⟨R.bm,R.zs,fun a r=>if a=H.next then (if w.heap.size≤r then (match w'.heap[r]? with | some (.cells cs _ _)=>some cs | _=>none) else none) else R.cz a r⟩
 have hR2:∀ r cs t fz,w.heap.size≤r→w'.heap[r]?=some (.cells cs t fz)→R2.cz H.next r=some cs:=fun r cs t fz h1 h2=>by
  show (if H.next=H.next then (if w.heap.size≤r then (match w'.heap[r]? with | some (.cells cs _ _)=>some cs | _=>none) else none) else R.cz H.next r)=some cs
  rw [if_pos rfl,if_pos h1,h2]
 have hcz:∀ a r cs,R2.cz a r=some cs→(a≠H.next∧R.cz a r=some cs)∨(a=H.next∧w.heap.size≤r∧∃ t fz,w'.heap[r]?=some (.cells cs t fz)):=fun a r cs e=>by
  have e:(if a=H.next then (if w.heap.size≤r then (match w'.heap[r]? with | some (.cells cs _ _)=>some cs | _=>none) else none) else R.cz a r)=some cs:=e
  split at e
  ·rename_i ea
   split at e
   ·rename_i hz
    split at e
    ·rename_i c t fz hc;cases e;exact .inr ⟨ea,hz,t,fz,hc⟩
    ·cases e
   ·cases e
  ·rename_i ea;exact .inl ⟨ea,e⟩
 have hrel':=SimA.rel e3
 have hv:VR R2 v' x:=by
  refine WC (R':=R') (R2:=R2) (w':=w') (k:=k) hrel' (fun a r cs ha q=>?_) (fun a r cs ha q=>?_) (fun b r d o ho hb cs t fz q=>?_) hF e2
  ·rw [e3.rx.cz a (by show ¬ (k+1≤a∧_);omega),KW ha] at q
   show (if as a=H.next then _ else R.cz (as a) r)=some cs
   rw [if_neg (fun e=>by rw [e,hfn0.2 r] at q;cases q)]
   exact q
  ·rcases e3.rx.czn a r cs q with z | z
   ·rcases uU z with ⟨z,_⟩ | ⟨z,_⟩<;>omega
   ·obtain ⟨⟨t,fz,hc⟩,_⟩:=hrel'.frz a r cs q
    exact hR2 r cs t fz z hc
  ·refine hR2 r cs t fz ?_ q
   have hlt:=e3.wf.lt b o ho
   by_cases hb0:k+1≤b
   ·rcases e3.rx.neu b r d hb0 hlt hb with z | ⟨_,_,_,z,_⟩
    ·exact z
    ·cases z
   ·rw [e3.rx.same b (by show ¬ (k+1≤b∧_);omega)] at hb
    cases hb
 refine ⟨x,R2,e1,hv,⟨⟨Nat.le_succ _,Nat.le_refl _,fun b o h=>⟨o,h,rfl,rfl⟩,fun b o h _=>⟨h,rfl⟩,fun b o h _=>⟨o,h⟩,Du hw,fun g h=>h,fun b o h hb=>absurd (hw.lt b o h) (by omega)⟩,
  ⟨fun _ _=>rfl,fun _ _=>rfl,fun b r d h1 h2 e=>?_,fun a ha=>?_,fun a r cs e=>?_⟩,⟨e3.fr.os,e3.fr.tape,e3.fr.output,e3.fr.size,fun r hr _=>hkeep r hr⟩,
  ⟨fun b r d hb=>Nat.lt_of_lt_of_le (hr.img b r d hb) e3.fr.size,fun b o r d ho hb=>(hr.obj b o r d ho hb).mono (R':=R2) ⟨fun _ _ e=>e,fun _ _ _ _=>rfl,fun a r cs e=>?_⟩ hb (hkeep r (hr.img b r d hb)) (fun _=>trivial) (fun v=>by cases o<;>exact v),hr.inj,fun a r cs e=>?_⟩⟩⟩
 ·have h2:b<H.next+1:=h2
  have:b=H.next:=by omega
  subst this
  have e:R.bm H.next=some (r,d):=e
  rw [hfn0.1] at e;cases e
 ·funext r
  show (if a=H.next then _ else R.cz a r)=R.cz a r
  rw [if_neg (fun q=>ha ⟨by omega,by show a<H.next+1;omega⟩)]
 ·rcases hcz a r cs e with ⟨_,q⟩ | ⟨_,q,_⟩
  ·exact .inl q
  ·exact .inr q
 ·show (if a=H.next then _ else R.cz a r)=some cs
  rw [if_neg (fun q=>by rw [q,hfn0.2 r] at e;cases e)];exact e
 ·rcases hcz a r cs e with ⟨_,q⟩ | ⟨_,q,t,fz,hc⟩
  ·obtain ⟨⟨t,fz,z1⟩,z2⟩:=hr.frz a r cs q
   exact ⟨⟨t,fz,(hkeep r (hr.frz.lt q)).trans z1⟩,z2⟩
  ·refine ⟨⟨t,fz,hc⟩,fun b d z=>?_⟩
   have:=hr.img b r d z
   omega
theorem Kr (hD:aN P) {X:Ext} (hX:dC P X) {n:Nat} {g:FuncId} {args:List V} {H H':EH} {v:V} (h:ev P X n (.call g args H)=some (.v v H')):SpecCall P g args H v H':=by
 obtain ⟨v1,H1,e,k⟩:=nY hD hX n _ _ h
 cases e;exact k
theorem VR.fz_as {R R0:Ren} {q:Bool} {a a' len e:Nat} {c c':Nat→Nat→V} {x:Value} (h:VR R (.fz q a c len e) x) (hcz:∀ r cs,R.cz a r=some cs→R0.cz a' r=some cs) (hs:∀ i j,i<len→j<e→dE (c' i j)=true) (ha:∀ i j,i<len→j<e→Aged a' (c' i j))
 (hv:∀ i j,i<len→j<e→∀ y,VR R (c i j) y→VR R0 (c' i j) y):VR R0 (.fz true a' c' len e) x:=by
 cases h with
 | fzN=>exact .fzN
 | fzE h0=>exact .fzE (fun q=>by cases q)
 | fz y hc hl hy hs' ha' hv' h0=>exact .fz y (hcz _ _ hc) hl hy hs ha fun i j hi hj=>hv i j hi hj _ (hv' i j hi hj)
theorem AL.cons {R:Ren} {v:V} {l:List V} {ys:Array Value}:AL R (v::l) ys↔∃ y t,ys=#[y]++t∧VR R v y∧AL R l t:=by
 constructor
 ·intro ⟨h1,h2⟩
  have hlen:0<ys.size:=by simp at h1;omega
  refine ⟨ys[0],ys.extract 1 ys.size,?_,h2 0 (by simp) hlen,by simp at h1 ⊢;omega,fun i a b=>?_⟩
  ·apply Array.ext
   ·simp;omega
   ·intro i h1 h2
    cases i with
    | zero=>simp
    | succ i=>simp [Nat.add_comm]
  ·have:=h2 (i+1) (by simpa using a) (by simp at b;omega)
   simpa [Nat.add_comm] using this
 ·rintro ⟨y,t,rfl,h1,h2,h3⟩
  refine ⟨by simp [h2];omega,fun i a b=>?_⟩
  cases i with
  | zero=>simpa using h1
  | succ i =>
   have:=h3 i (by simpa using a) (by simp at b;omega)
   simpa [Array.getElem_append] using this
theorem AL.cons_imp {R R0:Ren} {v v0:V} {l l0:List V} {ys:Array Value} (h:AL R (v::l) ys) (h1:∀ y,VR R v y→VR R0 v0 y) (h2:∀ t,AL R l t→AL R0 l0 t):AL R0 (v0::l0) ys:=by
 obtain ⟨y,t,rfl,a,b⟩:=AL.cons.1 h
 exact AL.cons.2 ⟨y,t,rfl,h1 y a,h2 t b⟩
theorem AL.nil_imp {R R0:Ren} {ys:Array Value} (h:AL R [] ys):AL R0 [] ys:=⟨h.1,fun i h1=>by simp at h1⟩
inductive Flat:V→Prop where
 | bool (b:Bool):Flat (.bool b)
 | int (k:IntKind) (n:Int):Flat (.int k n)
theorem VR.agg_as {R R0:Ren} {n:Nat} {c c':T V} {x:Value} (h:VR R (.agg n c) x) (d d':Nat→V) (h1:∀ i,i<n→c.get i=some (d i)) (h2:∀ i,i<n→c'.get i=some (d' i)) (hs:∀ i,i<n→dE (d' i)=true) (hv:∀ i,i<n→∀ y,VR R (d i) y→VR R0 (d' i) y):VR R0 (.agg n c') x:=by
 cases h with
 | agg g hn hg hs' hv' =>
  refine .agg d' hn h2 hs fun i hi=>hv i (by omega) _ ?_
  have e:=hg i (by omega)
  rw [h1 i (by omega)] at e
  have e:=Option.some.inj e
  rw [e];exact hv' i hi
abbrev CF:=List V→EH→Option (Bool×V)
def RD (l:List (FuncId×CF)) (g:FuncId):Option CF:=List.rec (motive:=fun _=>Option CF) none (fun p _ ih=>cond (Nat.beq p.1 g) (some p.2) ih) l
def zG (l:List (FuncId×CF)) (s:Bool):Ext:=⟨RD l,s⟩
def ui (P:Program) (p:FuncId×CF):Prop:=∀ args H v,p.2 args H=some (true,v)→SpecCall P p.1 args H v (bump H)
theorem OZ {l:List (FuncId×CF)} (h:∀ p∈l,ui P p) {g:FuncId} {x:CF} (hx:RD l g=some x):ui P (g,x):=by
 induction l with
 | nil=>cases hx
 | cons p l ih =>
  have hx:cond (Nat.beq p.1 g) (some p.2) (RD l g)=some x:=hx
  rw [aH] at hx
  by_cases e:p.1=g
  ·rw [if_pos e] at hx
   have hx:=Option.some.inj hx
   have:=h p (by simp)
   rw [← e,← hx];exact this
  ·rw [if_neg e] at hx
   exact ih (fun p hp=>h p (by simp [hp])) hx
theorem jL {l:List (FuncId×CF)} {s:Bool} (h:∀ p∈l,ui P p):dC P (zG l s):=fun _ _ args H v hx hv=>OZ h hx args H v hv
theorem eu:∀ p∈([]:List (FuncId×CF)),ui P p:=fun _ h=>by cases h
theorem aS {q:FuncId×CF} {l:List (FuncId×CF)} (h:ui P q) (k:∀ p∈l,ui P p):∀ p∈q::l,ui P p:=fun p hp=>by
 rcases List.mem_cons.1 hp with rfl | hp
 ·exact h
 ·exact k p hp
end
end Go.Ev
/- A run with free numbers as a tree of decisions; hints say which way is gone; what is left to show is read off the tree. -/
namespace Go.Ev
open Go
noncomputable section
theorem aW (a b:Int):(ai a b=true)=(a≤b):=by rw [oQ];simp
theorem nV (a b:Int):(ai a b=false)=(b<a):=by rw [oQ];simp
theorem dw (a b:Int):(aK a b=true)=(a=b):=by rw [Df];simp
theorem kY (a b:Int):(aK a b=false)=(¬ a=b):=by rw [Df];simp
theorem xu (a b:Nat):(Nat.ble a b=true)=(a≤b):=by simp
theorem tZ (a b:Nat):(Nat.ble a b=false)=(b<a):=by
 by_cases h:a≤b
 ·have:=Nat.ble_eq_true_of_le h;simp [this];omega
 ·have:Nat.ble a b=false:=by cases e:Nat.ble a b with | false=>rfl | true=>exact absurd (Nat.le_of_ble_eq_true e) h
  simp [this];omega
theorem GI (a b:Nat):(Nat.blt a b=true)=(a<b):=xu (a+1) b
theorem Lj (a b:Nat):(Nat.blt a b=false)=(b≤a):=by
 have:=tZ (a+1) b
 show (Nat.ble (a+1) b=false)=_
 rw [this];apply propext;omega
theorem Kw (a b:Nat):(Nat.beq a b=true)=(a=b):=by rw [rY];simp
theorem KQ (a b:Nat):(Nat.beq a b=false)=(¬ a=b):=by rw [rY];simp
theorem rO (n:Int):(small n=true)=(-9223372036854775808≤n∧n≤9223372036854775807):=by
 apply propext
 cases n with
 | ofNat a=>show Nat.ble a 9223372036854775807=true↔_;rw [xu,Int.ofNat_eq_natCast];omega
 | negSucc a=>show Nat.ble a 9223372036854775807=true↔_;rw [xu,Int.negSucc_eq];omega
theorem wO (n:Int):(small n=false)=(¬ (-9223372036854775808≤n∧n≤9223372036854775807)):=by
 rw [← rO];cases small n<;>simp
theorem Fj (k : Int) (n : Nat) : (cZ k n = true) = (0 ≤ k ∧ k < n) := by
  apply propext
  cases k with
  | ofNat a => show Nat.blt a n = true ↔ _; rw [GI, Int.ofNat_eq_natCast]; omega
  | negSucc a => show false = true ↔ _; constructor
                 · intro h; cases h
                 · intro h; exact absurd h.1 (by omega)
theorem KI (k:Int) (n:Nat):(cZ k n=false)=(¬ (0≤k∧k<n)):=by
 rw [← Fj];cases cZ k n<;>simp
theorem Ud (a b:Int):cond (ai a b) a b=min a b:=by rw [oQ];by_cases h:a≤b<;>simp [h]<;>omega
theorem UT (a b:Int):cond (ai b a) a b=max a b:=by rw [oQ];by_cases h:b≤a<;>simp [h]<;>omega
theorem BH (b:Bool):(not b=true)=(b=false):=by cases b<;>simp
theorem KR (b:Bool):(not b=false)=(b=true):=by cases b<;>simp
theorem rZ (a b:Bool):(iq a b=true)=((a=true)↔(b=true)):=by cases a<;>cases b<;>simp [iq]
theorem rU (a b:Bool):(iq a b=false)=¬ ((a=true)↔(b=true)):=by cases a<;>cases b<;>simp [iq]
inductive D where
 | leaf (p:Prop)
 | br (c:Bool) (a b:D)
 | num (n:Int) (k:Int→D)
def kD:KP D:=⟨.br,.num,true⟩
def den (d:D):Prop:=D.rec (motive:=fun _=>Prop) (fun p=>p) (fun c _ _ a b=>cond c a b) (fun n _ ih=>ih n) d
inductive HT where
 | nil
 | go (n:Nat) (r:HT)
 | sp (l r:HT)
 | cs (c:Int) (h:HT) (r:HT)
def Wj (n:Nat) (r:HT):HT:=cond (Nat.ble n 1) r (.go n r)
def Wn (n:Int) (h:HT):Prop:=HT.rec (motive:=fun _=>Prop) False (fun _ _ _=>False) (fun _ _ _ _=>False) (fun c _ _ _ ih=>n=c∨ih) h
def QE (n:Int) (f:Int→HT→Prop) (h:HT):Prop:=HT.rec (motive:=fun _=>Prop) True (fun _ _ _=>True) (fun _ _ _ _=>True) (fun c h _ _ ih=>(n=c→f c h)∧ih) h
def Xi (d:Nat) (c:Bool) (a b:HT→Prop) (h:HT):Prop:=match d with
 | 0=>cond c (a h) (b h)
 | 1=>c=true∧a h
 | _=>c=false∧b h
def vcB (c:Bool) (a b:HT→Prop) (h:HT):Prop:=match h with
 | .nil=>cond c (a .nil) (b .nil)
 | .go n r=>Xi (Nat.mod n 4) c a b (Wj (Nat.div n 4) r)
 | .sp l r=>(c=true→a l)∧(c=false→b r)
 | .cs _ _ _=>cond c (a h) (b h)
def vcN (n:Int) (k:Int→HT→Prop) (h:HT):Prop:=match h with
 | .nil=>k n .nil
 | .go m r=>k n (Wj (Nat.div m 4) r)
 | .sp l r=>k n (.sp l r)
 | .cs c h' r=>Wn n (.cs c h' r)∧QE n k (.cs c h' r)
def vc (d:D):HT→Prop:=D.rec (motive:=fun _=>HT→Prop) (fun p _=>p) (fun c _ _ a b h=>vcB c a b h) (fun n _ ih h=>vcN n ih h) d
theorem Gh {n:Int} {f:Int→HT→Prop}:∀ {h:HT},Wn n h→QE n f h→∃ h',f n h'
 | .nil,h,_=>h.elim
 | .go _ _,h,_=>h.elim
 | .sp _ _,h,_=>h.elim
 | .cs c h' r,h,k=>by
  have h:n=c∨Wn n r:=h
  have k:(n=c→f c h')∧QE n f r:=k
  rcases h with rfl | h
  ·exact ⟨h',k.1 rfl⟩
  ·exact Gh h k.2
theorem eU:∀ (d:D) (h:HT),vc d h→den d:=by
 intro d
 induction d with
 | leaf p=>intro h k;exact k
 | br c a b iha ihb =>
  intro h k
  have k:vcB c (vc a) (vc b) h:=k
  show cond c (den a) (den b)
  have one:∀ h,cond c (vc a h) (vc b h)→cond c (den a) (den b):=fun h k=>by
   cases c
   ·exact ihb _ k
   ·exact iha _ k
  cases h with
  | nil=>exact one _ k
  | go n r =>
   have k:Xi (Nat.mod n 4) c (vc a) (vc b) (Wj (Nat.div n 4) r):=k
   revert k
   generalize Nat.mod n 4=m
   intro k
   match m,k with
   | 0,k=>exact one _ k
   | 1,⟨k1,k2⟩=>subst k1;exact iha _ k2
   | _+2,⟨k1,k2⟩=>subst k1;exact ihb _ k2
  | sp l r =>
   obtain ⟨k1,k2⟩:=k
   cases c
   ·exact ihb _ (k2 rfl)
   ·exact iha _ (k1 rfl)
  | cs x y z=>exact one _ k
 | num n k ih =>
  intro h q
  have q:vcN n (fun x=>vc (k x)) h:=q
  show den (k n)
  cases h with
  | nil=>exact ih _ _ q
  | go m r=>exact ih _ _ q
  | sp l r=>exact ih _ _ q
  | cs c h' r =>
   obtain ⟨q1,q2⟩:=q
   obtain ⟨h',q⟩:=Gh q1 q2
   exact ih _ _ q
end
end Go.Ev
/- Code in pieces, and loops by their rounds: the state of a loop is a list of values in temporaries; what a round makes is forgotten at its end. -/
namespace Go.Ev
open Go
noncomputable section
variable {P:Program}
abbrev J (P:Program) (ro:Option Nat) (c:Code) (a:EA) (H:EH) (r:Res):Prop:=Spec P (.code ro c a H) r
open Classical in
def H6 (t:Task) (r:Res):Task→Option Res:=fun u=>if u=t then some r else none
theorem jb {t:Task} {r:Res} (h:Spec P t r):dQ P (H6 t r):=fun u q e=>by
 unfold H6 at e
 split at e
 ·rename_i hu;cases e;rw [hu];exact h
 ·cases e
theorem pY (t:Task) (r:Res):H6 t r t=some r:=if_pos rfl
theorem Um (hD:aN P) {X:Ext} (hX:dC P X) {n:Nat} {ro:Option Nat} {c:Code} {a:EA} {H:EH} {r:Res} (h:ev P X n (.code ro c a H)=some r):J P ro c a H r:=nY hD hX n _ _ h
theorem DL {ro:Option Nat} {x y:Code} {a a1:EA} {H H1:EH} {r:Res} (h1:J P ro x a H (.normal a1 H1)) (h2:J P ro y a1 H1 r):J P ro (.seq x y) a H r:=by
 obtain ⟨k1,k2,m,k3⟩:=h2
 obtain ⟨j1,j2,m1,j3⟩:=h1
 have j2:H.next≤H1.next:=j2
 refine ⟨k1,by omega,0,fun R w A n rr hr hw hf ha hro=>wpIn_seq (Go.wpIn_mono (wpM.wp (j3 R w A n rr hr hw (hf.less k2) ha hro)) fun e A1 w1 ⟨R1,s1,x1⟩=>?_)⟩
 cases e<;>try exact x1.elim
 exact wpM.wp ((k3 R1 w1 A1 n rr s1.rel s1.wf (s1.free hf) x1 (hro.mono (s1.le hr (hf.less k2)))).mono fun e A w' p=>PostC.trans s1 _ _ _ p)
theorem Ry (hD:aN P) {ro:Option Nat} {x y:Code} {a:EA} {H:EH} {r:Res} (h1:J P ro x a H r) (hr:∀ a1 H1,r ≠ .normal a1 H1):J P ro (.seq x y) a H r:=by
 refine jc hD (jb h1) ?_
 show zT _ ro y (H6 (.code ro x a H) r (.code ro x a H))=some r
 rw [pY]
 cases r with
 | normal a1 H1=>exact absurd rfl (hr a1 H1)
 | _=>rfl
theorem Tt (hD:aN P) {ro:Option Nat} {id:Nat} {c:Code} {a:EA} {H:EH} {r r':Res} (h:J P ro c a H r) (e:gU id (some r)=some r'):J P ro (.block id c) a H r':=by
 refine jc hD (jb h) ?_
 show gU id (H6 (.code ro c a H) r (.code ro c a H))=some r'
 rw [pY];exact e
theorem TM (hD:aN P) {ro:Option Nat} {c:Code} {a:EA} {H:EH} {r:Res} (h:J P ro c a H r):J P ro (.scope c) a H r:=by
 refine jc hD (jb h) ?_
 show H6 (.code ro c a H) r (.code ro c a H)=some r
 exact pY _ _
theorem UW (hD:aN P) {ro:Option Nat} {o:Operand} {x y:Code} {a:EA} {H:EH} {r:Res} (hc:a.eval o = .bool true) (h:J P ro x a H r):J P ro (.cond o x y) a H r:=by
 refine jc hD (jb h) ?_
 show nX _ ro x y a H (a.eval o)=some r
 rw [hc];exact pY _ _
theorem UQ (hD:aN P) {ro:Option Nat} {o:Operand} {x y:Code} {a:EA} {H:EH} {r:Res} (hc:a.eval o = .bool false) (h:J P ro y a H r):J P ro (.cond o x y) a H r:=by
 refine jc hD (jb h) ?_
 show nX _ ro x y a H (a.eval o)=some r
 rw [hc];exact pY _ _
theorem Xv {s : Bool} {g : FuncId} {fn : Func} {c : Code} {args : List V} {H H' : EH} {rb : Res} {v : V} (h1 : P.funcs[g]? = some fn) (h2 : decide (fn.name = "runtime.NumGoroutine") = false) (h3 : fn.body = some c) (h4 : Nat.ble (lenV args) fn.ntmps = true)
    (hJ:J P none c ⟨gJ s args,fn.ntmps,[]⟩ H rb) (h5:dW P fn (some rb)=some (.v v H')):SpecCall P g args H v H':=by
  have h:mY P s (H6 (.code none c ⟨gJ s args,fn.ntmps,[]⟩ H) rb) g args H=some (.v v H'):=by
    unfold mY
    rw [h1]
    simp only [h2,cond_false]
    unfold Pv
    rw [h3]
    simp only [h4,cond_true]
    rw [pY];exact h5
  obtain ⟨v1,H1,e,k⟩:=nD (jb hJ) h
  cases e;exact k
def sub (p:List Nat):Code→Code:=List.rec (motive:=fun _=>Code→Code) (fun c=>c)
 (fun k _ ih c=>match c with
  | .seq x y=>(match k with | 0=>ih x | _=>ih y)
  | .block _ x=>ih x
  | .scope x=>ih x
  | .loop x=>ih x
  | .cond _ x y=>(match k with | 0=>ih x | _=>ih y)
  | c=>c) p
def iU (l:List (Nat×V)):T V:=List.rec (motive:=fun _=>T V) .lf (fun p _ ih=>ih.set p.1 p.2) l
def lF (ts:List Nat):List V→List (Nat×V):=List.rec (motive:=fun _=>List V→List (Nat×V)) (fun _=>[]) (fun t _ ih l=>match l with | []=>[] | v::l=>(t,v)::ih l) ts
def gp (a:EA) (ts:List Nat):List V:=List.rec (motive:=fun _=>List V) [] (fun t _ ih=>a.get t::ih) ts
def QQ (B:Nat) (l:List V):Bool:=List.rec (motive:=fun _=>Bool) true (fun v _ ih=>cond (nH B v) ih false) l
theorem TR.clear {R R':Ren} {tm:T V} {n:Nat} {tmps:Array Value} (h:TR R tm n tmps):TR R' .lf n tmps:=⟨h.size,fun _ _=>rfl,fun _ => .bad _⟩
theorem TR.lay {R:Ren} {tm:T V} {n:Nat} {tmps:Array Value} (h:TR R tm n tmps) {t:Nat} (ht:t<n) {v:V} (hv:VR R v (tmps.getD t undef)):TR R (tm.set t v) n tmps:=by
 refine ⟨h.size,fun i hi=>by rw [T.get_set_ne _ _ (by omega)];exact h.out i hi,fun i=>?_⟩
 rw [uO]
 by_cases e:i=t
 ·subst e;rw [if_pos rfl];exact hv
 ·rw [if_neg e];exact h.val i
theorem TR.live {R R':Ren} {tm:T V} {n:Nat} {tmps:Array Value} (h:TR R tm n tmps):∀ (l:List (Nat×V)),(∀ p∈l,p.1<n∧VR R' p.2 (tmps.getD p.1 undef))→TR R' (iU l) n tmps
 | [],_=>h.clear
 | p::l,hl=>(TR.live h l fun q hq=>hl q (by simp [hq])).lay (hl p (by simp)).1 (hl p (by simp)).2
theorem ug {a:EA}:∀ (ts:List Nat) (p:Nat×V),p∈lF ts (gp a ts)→p.1∈ts∧p.2=a.get p.1∧p.2∈gp a ts
 | [],p,h=>by cases h
 | t::ts,p,h=>by
  have h:p∈(t,a.get t)::lF ts (gp a ts):=h
  have hm:gp a (t::ts)=a.get t::gp a ts:=rfl
  rcases List.mem_cons.1 h with rfl | h
  ·exact ⟨by simp,rfl,by rw [hm];simp⟩
  ·obtain ⟨h1,h2,h3⟩:=ug ts p h
   exact ⟨by simp [h1],h2,by rw [hm];simp [h3]⟩
theorem SH {B:Nat} {l:List V} (h:QQ B l=true):∀ v∈l,nH B v=true:=by
 induction l with
 | nil=>intro v hv;cases hv
 | cons x l ih =>
  have h:cond (nH B x) (QQ B l) false=true:=h
  obtain ⟨h1,h2⟩:=ax h
  intro v hv
  rcases List.mem_cons.1 hv with rfl | hv
  ·exact h1
  ·exact ih h2 v hv
structure LS where
 (l:List V) (rows:List (List V))
inductive Lv where
 | next (s:LS)
 | exit (id:Nat) (s:LS)
 | ret (s:LS)
structure LT where
 (ts xs rs:List Nat) (B:Nat)
def iC (n:Nat) (l:List Nat):Bool:=List.rec (motive:=fun _=>Bool) true (fun x _ ih=>cond (Nat.blt x n) ih false) l
theorem pU {n:Nat} {l:List Nat} (h:iC n l=true):∀ x∈l,x<n:=by
 induction l with
 | nil=>intro v hv;cases hv
 | cons x l ih =>
  have h:cond (Nat.blt x n) (iC n l) false=true:=h
  obtain ⟨h1,h2⟩:=ax h
  intro v hv
  rcases List.mem_cons.1 hv with rfl | hv
  ·exact dh h1
  ·exact ih h2 v hv
def rD {α:Type} (x:α) (r:Option (List α)):Option (List α):=match r with | some l=>some (x::l) | none=>none
theorem mZ {α:Type} {x:α} {r:Option (List α)} {l:List α} (h:rD x r=some l):∃ l',r=some l'∧l=x::l':=by
 cases r with
 | none=>cases h
 | some l'=>cases h;exact ⟨l',rfl,rfl⟩
def cellL (c:T V) (n:Nat):Nat→Option (List V):=Nat.rec (motive:=fun _=>Nat→Option (List V)) (fun _=>some []) (fun _ ih i=>match c.get i with | some v=>rD v (ih (Nat.succ i)) | none=>none) n
theorem uQ {c:T V}:∀ {n i:Nat} {l:List V},cellL c n i=some l→l.length=n∧∀ j,j<n→c.get (i+j)=l[j]?:=by
 intro n
 induction n with
 | zero=>intro i l h;cases h;exact ⟨rfl,fun j hj=>by omega⟩
 | succ n ih =>
  intro i l h
  have h:(match c.get i with | some v=>rD v (cellL c n (i+1)) | none=>none)=some l:=h
  cases h1:c.get i with
  | none=>rw [h1] at h;cases h
  | some v =>
   rw [h1] at h
   obtain ⟨l',h2,rfl⟩:=mZ h
   obtain ⟨e1,e2⟩:=ih h2
   refine ⟨by simp [e1],fun j hj=>?_⟩
   cases j with
   | zero=>rw [Nat.add_zero,h1];rfl
   | succ j=>rw [show i+(j+1)=i+1+j by omega,e2 j (by omega)];rfl
def J6 (n:Nat) (l:List V):Bool:=List.rec (motive:=fun _=>Bool) true (fun x _ ih=>cond (uz n x) ih false) l
theorem Ns {n:Nat} {l:List V} (h:J6 n l=true):∀ v∈l,uz n v=true:=by
 induction l with
 | nil=>intro v hv;cases hv
 | cons x l ih =>
  obtain ⟨h1,h2⟩:=ax (show cond (uz n x) (J6 n l) false=true from h)
  intro v hv
  rcases List.mem_cons.1 hv with rfl | hv
  ·exact h1
  ·exact ih h2 v hv
def oK (row:List V) (b:Nat):EO := .cells (T.setL .lf 0 row) 0 (lenV row) b
def setRows (rows:List (List V)):Nat→T EO→T EO:=List.rec (motive:=fun _=>Nat→T EO→T EO) (fun _ t=>t) (fun r _ ih b t=>ih (Nat.succ b) (t.set b (oK r b))) rows
def bH (base:EH) (B:Nat) (rows:List (List V)):EH:=⟨setRows rows B base.objs,base.next,base.grps,big⟩
theorem iF:∀ (rows:List (List V)) (b i:Nat) (t:T EO),(setRows rows b t).get i=if h:b≤i∧i<b+rows.length then some (oK (rows[i-b]'(by omega)) i) else t.get i
 | [],b,i,t=>by rw [dif_neg (by simp)];rfl
 | r::rows,b,i,t=>by
  show (setRows rows (b+1) (t.set b (oK r b))).get i=_
  rw [iF rows (b+1) i]
  by_cases e:i=b
  ·subst e
   rw [dif_neg (by omega),dif_pos (by simp),T.get_set_eq]
   simp
  ·by_cases h:b+1≤i∧i<b+1+rows.length
   ·rw [dif_pos h,dif_pos (by simp;omega)]
    obtain ⟨d,rfl⟩:∃ d,i=b+1+d:=⟨i-(b+1),by omega⟩
    simp only [show b+1+d-(b+1)=d by omega,show b+1+d-b=d+1 by omega,List.getElem_cons_succ]
   ·rw [dif_neg h,dif_neg (by simp;omega),T.get_set_ne _ _ e]
def AP (H:EH) (b:Nat):Bool:=match H.grps.get b with | none=>true | some _=>false
def rowAt (H:EH) (top b:Nat):Option (List V):=match H.objs.get b with
 | some (.cells c lo sz g)=>cond (Nat.beq lo 0) (cond (Nat.beq g b) (cond (AP H b) (match cellL c sz 0 with | some l=>cond (J6 top l) (some l) none | none=>none) none) none) none
 | _=>none
def rowsOf (H:EH) (top:Nat) (n:Nat):Nat→Option (List (List V)):=Nat.rec (motive:=fun _=>Nat→Option (List (List V))) (fun _=>some []) (fun _ ih b=>match rowAt H top b with | some l=>rD l (ih (Nat.succ b)) | none=>none) n
theorem qG {H:EH} {top b:Nat} {l:List V} (h:rowAt H top b=some l):∃ c sz,H.objs.get b=some (.cells c 0 sz b)∧H.grps.get b=none∧l.length=sz∧(∀ j,j<sz→c.get j=l[j]?)∧∀ v∈l,uz top v=true:=by
 unfold rowAt at h
 split at h
 ·rename_i c lo sz g ho
  cases h1:Nat.beq lo 0 with
  | false=>rw [h1] at h;cases h
  | true =>
   rw [h1] at h
   cases h2:Nat.beq g b with
   | false=>rw [h2] at h;cases h
   | true =>
    rw [h2] at h
    have e1:=nb h1
    have e2:=nb h2
    subst e1;subst e2
    cases h3:AP H g with
    | false=>rw [h3] at h;cases h
    | true =>
     rw [h3] at h
     simp only [cond_true] at h
     cases h4:cellL c sz 0 with
     | none=>rw [h4] at h;cases h
     | some l' =>
      rw [h4] at h
      simp only at h
      cases h5:J6 top l' with
      | false=>rw [h5] at h;cases h
      | true =>
       rw [h5] at h
       cases h
       obtain ⟨g1,g2⟩:=uQ h4
       refine ⟨c,sz,ho,?_,g1,fun j hj=>by have:=g2 j hj;rw [Nat.zero_add] at this;exact this,Ns h5⟩
       unfold AP at h3
       split at h3
       ·assumption
       ·cases h3
 ·cases h
theorem jl {H:EH} {top:Nat}:∀ {n b:Nat} {rows:List (List V)},rowsOf H top n b=some rows→rows.length=n∧∀ j (h:j<rows.length),rowAt H top (b+j)=some rows[j]:=by
 intro n
 induction n with
 | zero=>intro b rows h;cases h;exact ⟨rfl,fun j h=>by simp at h⟩
 | succ n ih =>
  intro b rows h
  have h:(match rowAt H top b with | some l=>rD l (rowsOf H top n (b+1)) | none=>none)=some rows:=h
  cases h1:rowAt H top b with
  | none=>rw [h1] at h;cases h
  | some l =>
   rw [h1] at h
   obtain ⟨l',h2,rfl⟩:=mZ h
   obtain ⟨e1,e2⟩:=ih h2
   refine ⟨by simp [e1],fun j hj=>?_⟩
   cases j with
   | zero=>exact h1
   | succ j=>rw [show b+(j+1)=b+1+j by omega];exact e2 j (by simpa using hj)
def Fa (f:LS→Lv) (l:List V) (r:Option (List (List V))):Option Lv:=match r with | some rows=>some (f ⟨l,rows⟩) | none=>none
def zK (base:EH) (B n M:Nat) (a:EA) (H:EH) (l:List V) (f:LS→Lv):Option Lv :=
 cond (Nat.beq a.n n) (cond (Nat.ble B H.low) (cond (Nat.ble H.next M) (cond (BX a.df []) (cond (QQ base.next l) (Fa f l (rowsOf H base.next (Nat.sub base.next B) B)) none) none) none) none) none
def KH (base:EH) (lt:LT) (n M:Nat) (r:Res):Option Lv:=match r with
 | .normal a H=>zK base lt.B n M a H (gp a lt.ts) .next
 | .exit id a H=>zK base lt.B n M a H (gp a lt.xs) (.exit id)
 | .ret a H=>zK base lt.B n M a H (gp a lt.rs) .ret
 | _=>none
def Lv.s:Lv→LS
 | .next s=>s
 | .exit _ s=>s
 | .ret s=>s
def Lv.res (lt:LT) (n:Nat) (H:EH):Lv→Res
 | .next s => .normal ⟨iU (lF lt.ts s.l),n,[]⟩ H
 | .exit id s => .exit id ⟨iU (lF lt.xs s.l),n,[]⟩ H
 | .ret s => .ret ⟨iU (lF lt.rs s.l),n,[]⟩ H
theorem mP {base:EH} {B n M:Nat} {a:EA} {H:EH} {l:List V} {f:LS→Lv} {lv:Lv} (h:zK base B n M a H l f=some lv):∃ rows,lv=f ⟨l,rows⟩∧rowsOf H base.next (base.next-B) B=some rows∧a.n=n∧B≤H.low∧H.next≤M∧a.df=[]∧QQ base.next l=true:=by
 unfold zK at h
 cases h1:Nat.beq a.n n with
 | false=>rw [h1] at h;cases h
 | true =>
  rw [h1] at h
  cases h2:Nat.ble B H.low with
  | false=>rw [h2] at h;cases h
  | true =>
   rw [h2] at h
   cases h3:Nat.ble H.next M with
   | false=>rw [h3] at h;cases h
   | true =>
    rw [h3] at h
    cases h4:BX a.df [] with
    | false=>rw [h4] at h;cases h
    | true =>
     rw [h4] at h
     cases h5:QQ base.next l with
     | false=>rw [h5] at h;cases h
     | true =>
      rw [h5] at h
      have h:Fa f l (rowsOf H base.next (base.next-B) B)=some lv:=h
      cases h6:rowsOf H base.next (base.next-B) B with
      | none=>rw [h6] at h;cases h
      | some rows=>rw [h6] at h;cases h;exact ⟨rows,rfl,rfl,nb h1,Nat.le_of_ble_eq_true h2,Nat.le_of_ble_eq_true h3,nJ h4,rfl⟩
structure Kept (R R2:Ren) (B:Nat) (H H2:EH) (w w':World):Prop where
 bm:R2.bm=R.bm
 cz:R2.cz=R.cz
 sim:SimA R R2 (lowTo H big) (lowTo H2 B) w w'
theorem UX {R R2:Ren} {H H2:EH} {x y L:Nat} {w w':World} (h:SimA R R2 (lowTo H x) (lowTo H2 L) w w') (hy:L≤y):SimA R R2 (lowTo H y) (lowTo H2 L) w w' :=
 ⟨⟨h.es.next,hy,h.es.old,h.es.keep,h.es.back,h.es.wf,h.es.wr,h.es.neu⟩,⟨h.rx.same,h.rx.zs,h.rx.neu,h.rx.cz,h.rx.czn⟩,⟨h.fr.os,h.fr.tape,h.fr.output,h.fr.size,h.fr.keep⟩,Rel.weak (SimA.rel h) fun _ _=>trivial⟩
theorem Kept.trans {R R1 R2:Ren} {B:Nat} {H H1 H2:EH} {w w1 w2:World} (h:Kept R R1 B H H1 w w1) (k:Kept R1 R2 B H1 H2 w1 w2):Kept R R2 B H H2 w w2:=⟨k.bm.trans h.bm,k.cz.trans h.cz,h.sim.trans (UX k.sim (Nat.le_refl B))⟩
theorem xO (l:List V):lenV l=l.length:=Cc l
theorem TY {base:EH} {B:Nat} {rows0 rows:List (List V)} {R R':Ren} {H':EH} {w w':World} (hB:B≤base.next) (hl0:rows0.length=base.next-B) (hrows:rowsOf H' base.next (base.next-B) B=some rows) (hr:Rel R All (bH base B rows0) w) (hw:WF (bH base B rows0))
 (hf:∀ x,base.next≤x→x<H'.next→R.bm x=none∧∀ r,R.cz x r=none) (s:SimA R R' (bH base B rows0) H' w w') (hl:B≤H'.low) (hbig:B≤big) :
 Kept R ⟨R.bm,R'.zs,R.cz⟩ B (bH base B rows0) (bH base B rows) w w'∧Dn base.next ⟨R.bm,R'.zs,R.cz⟩ R':=by
 obtain ⟨hrl,hrow⟩:=jl hrows
 have nx:(bH base B rows0).next=base.next:=rfl
 -- what lies below B, and from B on
 have getA:∀ (rws:List (List V)) b,rws.length=base.next-B→b<B→(bH base B rws).objs.get b=base.objs.get b:=fun rws b _ hb=>by
  show (setRows rws B base.objs).get b=_
  rw [iF,dif_neg (by omega)]
 have getB:∀ (rws:List (List V)) b,rws.length=base.next-B→(h1:B≤b)→(h2:b<base.next)→∃ (h:b-B<rws.length),(bH base B rws).objs.get b=some (oK rws[b-B] b):=fun rws b hlen h1 h2=>by
  refine ⟨by omega,?_⟩
  show (setRows rws B base.objs).get b=_
  rw [iF,dif_pos (by omega)]
 have hnone:∀ (rws:List (List V)) b o,rws.length=base.next-B→(bH base B rws).objs.get b=some o→b<base.next:=fun rws b o hlen ho=>by
  by_cases hb:b<base.next
  ·exact hb
  ·have:(bH base B rws).objs.get b=(bH base B rows0).objs.get b:=by
    show (setRows rws B base.objs).get b=(setRows rows0 B base.objs).get b
    rw [iF,iF,dif_neg (by omega),dif_neg (by omega)]
   rw [this] at ho
   exact hw.lt b o ho
 have rootB:∀ (rws:List (List V)) b o,rws.length=base.next-B→(bH base B rws).objs.get b=some o→B≤b→aG b o=b∧bn o=0:=fun rws b o hlen ho hb=>by
  obtain ⟨_,e⟩:=getB rws b hlen hb (hnone rws b o hlen ho)
  rw [e] at ho
  cases ho
  exact ⟨rfl,rfl⟩
 have rootA:∀ b o,base.objs.get b=some o→b<B→aG b o≤b:=fun b o ho hb=>hw.root b o (by rw [getA rows0 b hl0 hb];exact ho)
 have hle:R.le ⟨R.bm,R'.zs,R.cz⟩:=⟨fun _ _ e=>e,fun b r d e=>s.rx.zs r (hr.img b r d e),fun _ _ _ e=>e⟩
 have bmO:∀ b,b<base.next→R'.bm b=R.bm b:=fun b hb=>s.rx.same b (by rw [nx];omega)
 have keepA:∀ b o,base.objs.get b=some o→b<B→H'.objs.get b=some o∧H'.grps.get (aG b o)=base.grps.get (aG b o):=fun b o ho hb=>by
  refine s.es.keep b o (by rw [getA rows0 b hl0 hb];exact ho) fun q=>?_
  have q:H'.low≤aG b o:=q
  have:=rootA b o ho hb
  omega
 have wf2:WF (lowTo (bH base B rows) B):=by
  refine ⟨fun b o ho=>hnone rows b o hrl ho,fun b o ho=>?_,fun g hg b b' o o' ho ho' h1 h2=>?_,fun g x h=>hw.gdom g x h⟩
  ·by_cases hb:b<B
   ·have ho:(bH base B rows).objs.get b=some o:=ho
    rw [getA rows b hrl hb] at ho;exact rootA b o ho hb
   ·rw [(rootB rows b o hrl ho (by omega)).1];exact Nat.le_refl b
  ·have ho:(bH base B rows).objs.get b=some o:=ho
   have ho':(bH base B rows).objs.get b'=some o':=ho'
   by_cases hb:b<B
   ·rw [getA rows b hrl hb] at ho
    by_cases hb':b'<B
    ·rw [getA rows b' hrl hb'] at ho'
     exact hw.uniq g hg b b' o o' (by rw [getA rows0 b hl0 hb];exact ho) (by rw [getA rows0 b' hl0 hb'];exact ho') h1 h2
    ·have q:=(rootB rows b' o' hrl ho' (by omega)).1
     have:=rootA b o ho hb
     omega
   ·have q:=(rootB rows b o hrl ho (by omega)).1
    by_cases hb':b'<B
    ·rw [getA rows b' hrl hb'] at ho'
     have:=rootA b' o' ho' hb'
     omega
    ·have q':=(rootB rows b' o' hrl ho' (by omega)).1
     omega
 have es2:ES (lowTo (bH base B rows0) big) (lowTo (bH base B rows) B) (LW (lowTo (bH base B rows) B)):=by
  refine ⟨Nat.le_refl _,hbig,fun b o ho=>?_,fun b o ho hn=>?_,fun b o' ho hb=>?_,wf2,fun g h=>h,fun b o' ho hb=>absurd (hnone rows b o' hrl ho) (by have hb:base.next≤b:=hb;omega)⟩
  ·have ho:(bH base B rows0).objs.get b=some o:=ho
   by_cases hb:b<B
   ·rw [getA rows0 b hl0 hb] at ho
    exact ⟨o,by show (bH base B rows).objs.get b=_;rw [getA rows b hrl hb];exact ho,rfl,rfl⟩
   ·obtain ⟨_,e⟩:=getB rows b hrl (by omega) (hnone rows0 b o hl0 ho)
    obtain ⟨q1,q2⟩:=rootB rows0 b o hl0 ho (by omega)
    exact ⟨_,e,by rw [q1];rfl,by rw [q2];rfl⟩
  ·have ho:(bH base B rows0).objs.get b=some o:=ho
   have hn:¬ B≤aG b o:=hn
   have hb:b<B:=by
    rcases Nat.lt_or_ge b B with q | q
    ·exact q
    ·rw [(rootB rows0 b o hl0 ho q).1] at hn;omega
   rw [getA rows0 b hl0 hb] at ho
   exact ⟨by show (bH base B rows).objs.get b=_;rw [getA rows b hrl hb];exact ho,rfl⟩
  ·have ho:(bH base B rows).objs.get b=some o':=ho
   by_cases hb':b<B
   ·rw [getA rows b hrl hb'] at ho
    exact ⟨o',by show (bH base B rows0).objs.get b=_;rw [getA rows0 b hl0 hb'];exact ho⟩
   ·obtain ⟨_,e⟩:=getB rows0 b hl0 (by omega) hb
    exact ⟨_,e⟩
 have hrel':=SimA.rel s
 have rel2:Rel ⟨R.bm,R'.zs,R.cz⟩ All (bH base B rows) w':=by
  refine ⟨fun b r d hb=>Nat.lt_of_lt_of_le (hr.img b r d hb) s.fr.size,fun b o r d ho hb=>?_,fun b b' o o' r d d' ho ho' hb hb'=>?_,fun a r cs e=>?_⟩
  ·by_cases hbB:b<B
   ·rw [getA rows b hrl hbB] at ho
    have ho0:(bH base B rows0).objs.get b=some o:=by rw [getA rows0 b hl0 hbB];exact ho
    refine (hr.obj b o r d ho0 hb).mono hle hb (s.fr.keep r (hr.img b r d hb) fun b2 o2 d2 h2 hb2 q=>?_) (fun _=>trivial) (fun v=>by cases o<;>exact v)
    have q:H'.low≤aG b2 o2:=q
    have:=rootA b o ho hbB
    rcases hr.inj b b2 o o2 r d d2 ho0 h2 hb hb2 with e | ⟨_,_,_,e⟩
    ·subst e
     rw [ho0] at h2;cases h2
     omega
    ·omega
   ·obtain ⟨hi,e⟩:=getB rows b hrl (by omega) (hnone rows b o hrl ho)
    rw [e] at ho
    cases ho
    obtain ⟨c,sz,h1,h2,h3,h4,h5⟩:=qG (hrow (b-B) hi)
    rw [show B+(b-B)=b by omega] at h1 h2
    have hbm:R'.bm b=some (r,d):=by rw [bmO b (by omega)];exact hb
    obtain ⟨cs,t,fz,g1,g2,g3,g4⟩:=hrel'.obj b _ r d h1 hbm
    refine ⟨cs,t,fz,g1,g2,g3,fun _ _ i hi1 hi2=>?_⟩
    have hi2:i<lenV rows[b-B]:=hi2
    rw [xO,h3] at hi2
    obtain ⟨q,x,y,e1,e2,e3,e4⟩:=g4 trivial (by show H'.valid b sz b=true;unfold EH.valid;rw [h2]) i (Nat.zero_le _) hi2
    have hd:Dn base.next ⟨R.bm,R'.zs,R.cz⟩ R':=⟨fun b hb=>bmO b hb,fun b r d hb e=>rfl,fun a ha=>s.rx.cz a (by rw [nx];omega)⟩
    rw [h4 i hi2] at e1
    refine ⟨q,x,y,?_,e2,e3,e4.down1 hd (h5 x (List.mem_of_getElem? e1))⟩
    show (T.setL .lf 0 rows[b-B]).get i=some x
    rw [T.get_setL,if_pos (by omega),Nat.sub_zero];exact e1
  ·have hb1:=hnone rows b o hrl ho
   have hb2:=hnone rows b' o' hrl ho'
   have lift:∀ b o,(bH base B rows).objs.get b=some o→∃ o0,H'.objs.get b=some o0∧bn o0=bn o∧aG b o0=aG b o:=fun b o ho=>by
    by_cases hbB:b<B
    ·rw [getA rows b hrl hbB] at ho;exact ⟨o,(keepA b o ho hbB).1,rfl,rfl⟩
    ·obtain ⟨hi,e⟩:=getB rows b hrl (by omega) (hnone rows b o hrl ho)
     obtain ⟨c,sz,h1,_⟩:=qG (hrow (b-B) hi)
     rw [show B+(b-B)=b by omega] at h1
     rw [e] at ho;cases ho
     exact ⟨_,h1,rfl,rfl⟩
   obtain ⟨o0,p1,p2,p3⟩:=lift b o ho
   obtain ⟨o1,p4,p5,p6⟩:=lift b' o' ho'
   rcases hrel'.inj b b' o0 o1 r d d' p1 p4 (by rw [bmO b hb1];exact hb) (by rw [bmO b' hb2];exact hb') with e | ⟨e1,e2,e3,e4⟩
   ·exact .inl e
   ·exact .inr ⟨e1,by rw [← p2];exact e2,by rw [← p5];exact e3,by rw [← p3,← p6];exact e4⟩
  ·have e':R'.cz a r=some cs:=by
    by_cases ha:base.next≤a∧a<H'.next
    ·have e:R.cz a r=some cs:=e
     rw [(hf a ha.1 ha.2).2 r] at e;cases e
    ·rw [s.rx.cz a (by rw [nx];exact ha)];exact e
   exact ⟨(hrel'.frz a r cs e').1,(hr.frz a r cs e).2⟩
 refine ⟨⟨rfl,rfl,⟨es2,⟨fun _ _=>rfl,fun r hr'=>s.rx.zs r hr',fun b r d h1 h2 _=>absurd (show b<base.next from h2) (Nat.not_lt.2 h1),fun _ _=>rfl,fun _ _ _ e => .inl e⟩,
  ⟨s.fr.os,s.fr.tape,s.fr.output,s.fr.size,fun r hr' hn=>s.fr.keep r hr' fun b o d ho hb q=>?_⟩,?_⟩⟩,?_⟩
 ·have q:H'.low≤aG b o:=q
  exact hn b o d ho hb (by show B≤aG b o;omega)
 ·exact Rel.weak (S:=All) ⟨rel2.img,fun b o r d ho hb=>(rel2.obj b o r d ho hb).mono (.refl _) hb rfl id (fun v=>by cases o<;>exact v),rel2.inj,rel2.frz⟩ fun _ _=>trivial
 ·exact ⟨fun b hb=>bmO b hb,fun b r d hb e=>rfl,fun a ha=>s.rx.cz a (by rw [nx];omega)⟩
def Ar (R:Ren) (a b:Nat):Prop:=∀ x,a≤x→x<b→R.bm x=none∧∀ r,R.cz x r=none
def PostL (base:EH) (lt:LT) (n:Nat) (R:Ren) (H:EH) (lv:Lv) (w:World):Exit→Act→World→Prop:=fun e A w'=>∃ R2,Kept R R2 lt.B H (bH base lt.B lv.s.rows) w w'∧ExitR R2 (lv.res lt n (bH base lt.B lv.s.rows)) e A
def JL (P:Program) (base:EH) (lt:LT) (n M:Nat) (ro:Option Nat) (c:Code) (s:LS) (lv:Lv):Prop :=
 lv.s.rows.length=base.next-lt.B∧∃ m,∀ R w A k rr,Rel R All (bH base lt.B s.rows) w→WF (bH base lt.B s.rows)→Ar R base.next M→AR R ⟨iU (lF lt.ts s.l),n,[]⟩ A→Ro R ro rr→wpM m (FF rr) k P c (PostL base lt n R (bH base lt.B s.rows) lv w) A w
theorem NQ {base:EH} {lt:LT} {n M:Nat} {rows0:List (List V)} {r:Res} {lv:Lv} (hB:lt.B≤base.next) (hbig:lt.B≤big) (hl0:rows0.length=base.next-lt.B) (hk:KH base lt n M r=some lv) (ht:iC n lt.ts=true) (hx:iC n lt.xs=true) (hrs:iC n lt.rs=true) {R R':Ren} {w w':World} {e:Exit} {A:Act}
 (hr:Rel R All (bH base lt.B rows0) w) (hw:WF (bH base lt.B rows0)) (hf:Ar R base.next M) (s:SimA R R' (bH base lt.B rows0) r.H w w') (x:ExitR R' r e A):PostL base lt n R (bH base lt.B rows0) lv w e A w':=by
 have core:∀ (a:EA) (H1:EH) (ts:List Nat) (f:LS→Lv),iC n ts=true→zK base lt.B n M a H1 (gp a ts) f=some lv→SimA R R' (bH base lt.B rows0) H1 w w'→AR R' a A →
  ∃ rows,lv=f ⟨gp a ts,rows⟩∧∃ R2,Kept R R2 lt.B (bH base lt.B rows0) (bH base lt.B rows) w w'∧AR R2 ⟨iU (lF ts (gp a ts)),n,[]⟩ A:=by
  intro a H1 ts f hlt hc s ha
  obtain ⟨rows,e1,e0,e2,e3,e4,e5,e6⟩:=mP hc
  obtain ⟨k1,k2⟩:=TY hB hl0 e0 hr hw (fun b h1 h2=>hf b h1 (by omega)) s e3 hbig
  refine ⟨rows,e1,_,k1,⟨?_,?_⟩⟩
  ·have ht:=ha.tm
   rw [e2] at ht
   refine TR.live ht _ fun p hp=>?_
   obtain ⟨q1,q2,q3⟩:=ug _ _ hp
   refine ⟨pU hlt _ q1,?_⟩
   rw [q2]
   exact (ht.val p.1).down k2 (by have:=SH e6 _ q3;rw [q2] at this;exact this)
  ·have:=ha.df
   rw [e5] at this
   cases hd:A.defers with
   | nil=>exact trivial
   | cons d ds=>rw [hd] at this;exact this.elim
 cases r with
 | v v H1=>cases hk
 | normal a H1 =>
  cases e<;>try exact x.elim
  obtain ⟨rows,rfl,R2,k,q⟩:=core a H1 lt.ts _ ht hk s x
  exact ⟨R2,k,q⟩
 | exit id a H1 =>
  cases e<;>try exact x.elim
  obtain ⟨x1,x2⟩:=x
  obtain ⟨rows,rfl,R2,k,q⟩:=core a H1 lt.xs _ hx hk s x2
  exact ⟨R2,k,x1,q⟩
 | ret a H1 =>
  cases e<;>try exact x.elim
  obtain ⟨rows,rfl,R2,k,q⟩:=core a H1 lt.rs _ hrs hk s x
  exact ⟨R2,k,q⟩
def Sz (base:EH) (lt:LT) (n M:Nat):Bool:=cond (iC n lt.ts) (cond (iC n lt.xs) (cond (iC n lt.rs) (cond (Nat.ble lt.B base.next) (cond (Nat.ble lt.B big) (Nat.ble base.next M) false) false) false) false) false
theorem E5 {base:EH} {lt:LT} {n M:Nat} (h:Sz base lt n M=true):iC n lt.ts=true∧iC n lt.xs=true∧iC n lt.rs=true∧lt.B≤base.next∧lt.B≤big∧base.next≤M:=by
 obtain ⟨h1,h⟩:=ax h
 obtain ⟨h2,h⟩:=ax h
 obtain ⟨h3,h⟩:=ax h
 obtain ⟨h4,h⟩:=ax h
 obtain ⟨h5,h⟩:=ax h
 exact ⟨h1,h2,h3,Nat.le_of_ble_eq_true h4,Nat.le_of_ble_eq_true h5,Nat.le_of_ble_eq_true h⟩
theorem XX {base:EH} {lt:LT} {n M:Nat} {ro:Option Nat} {c:Code} {s:LS} {r:Res} {lv:Lv} (hok:Sz base lt n M=true) (hl0:s.rows.length=base.next-lt.B) (hJ:J P ro c ⟨iU (lF lt.ts s.l),n,[]⟩ (bH base lt.B s.rows) r) (hk:KH base lt n M r=some lv):JL P base lt n M ro c s lv:=by
 obtain ⟨ht,hx,hrs,hB,hbig,_⟩:=E5 hok
 obtain ⟨_,j2,m,j3⟩:=hJ
 have hM:r.H.next≤M∧lv.s.rows.length=base.next-lt.B:=by
  cases r with
  | v v H1=>cases hk
  | normal a H1=>obtain ⟨rows,rfl,e0,_,_,e,_⟩:=mP hk;exact ⟨e,(jl e0).1⟩
  | exit id a H1=>obtain ⟨rows,rfl,e0,_,_,e,_⟩:=mP hk;exact ⟨e,(jl e0).1⟩
  | ret a H1=>obtain ⟨rows,rfl,e0,_,_,e,_⟩:=mP hk;exact ⟨e,(jl e0).1⟩
 refine ⟨hM.2,m,fun R w A k rr hr hw hf ha hro=>(j3 R w A k rr hr hw (fun b h1 h2=>hf b h1 (by have h2:b<r.H.next:=h2;omega)) ha hro).mono fun e A w' ⟨R',s,x⟩=>NQ hB hbig hl0 hk ht hx hrs hr hw hf s x⟩
theorem PostL.trans {base:EH} {lt:LT} {n:Nat} {R R1:Ren} {H H1:EH} {lv:Lv} {w w1:World} (k:Kept R R1 lt.B H H1 w w1):∀ e A w',PostL base lt n R1 H1 lv w1 e A w'→PostL base lt n R H lv w e A w':=fun _ _ _ ⟨R2,k2,x⟩=>⟨R2,k.trans k2,x⟩
theorem Ro.kept {R R1:Ren} (h:R1.bm=R.bm):∀ {ro rr:Option Nat},Ro R ro rr→Ro R1 ro rr
 | none,none,_=>trivial
 | some l,some _,q=>by show R1.bm l=_;rw [h];exact q
 | none,some _,q=>q
 | some _,none,q=>q
theorem Kept.rel {R R1:Ren} {B:Nat} {base:EH} {H:EH} {rows:List (List V)} {w w1:World} (k:Kept R R1 B H (bH base B rows) w w1):Rel R1 All (bH base B rows) w1∧WF (bH base B rows):=by
 have h1:=SimA.rel k.sim
 have h2:=SimA.wf k.sim
 exact ⟨⟨h1.img,fun b o r d ho hb=>(h1.obj b o r d ho hb).mono (.refl _) hb rfl id (fun v=>by cases o<;>exact v),h1.inj,h1.frz⟩,⟨h2.lt,h2.root,h2.uniq,h2.gdom⟩⟩
theorem bF {base:EH} {lt:LT} {n M:Nat} {ro:Option Nat} {body:Code} {lv:Lv} (hlv:∀ l,lv ≠ .next l):∀ (N:Nat) (S:Nat→LS),(∀ k,k<N→JL P base lt n M ro body (S k) (.next (S (k+1))))→JL P base lt n M ro body (S N) lv →
 JL P base lt n M ro (.loop body) (S 0) lv:=by
 intro N
 induction N with
 | zero =>
  intro S _ hN
  obtain ⟨hl,m,hm⟩:=hN
  refine ⟨hl,1,fun R w A k rr hr hw hf ha hro=>?_⟩
  show Code.roundsIn (FF rr) k P body _ 1 A w
  refine Go.wpIn_mono (wpM.wp (hm R w A k rr hr hw hf ha hro)) fun e A1 w1 p=>?_
  cases e with
  | normal=>obtain ⟨R2,_,x⟩:=p;cases lv with
   | next l=>exact absurd rfl (hlv l)
   | _=>exact x.elim
  | _=>exact p
 | succ N ih =>
  intro S h hN
  obtain ⟨_,m1,h1⟩:=h 0 (by omega)
  obtain ⟨hl,m2,h2⟩:=ih (fun k=>S (k+1)) (fun k hk=>h (k+1) (by omega)) hN
  refine ⟨hl,m2+1,fun R w A k rr hr hw hf ha hro=>?_⟩
  show Code.roundsIn (FF rr) k P body _ (m2+1) A w
  refine Go.wpIn_mono (wpM.wp (h1 R w A k rr hr hw hf ha hro)) fun e A1 w1 ⟨R2,kp,x⟩=>?_
  cases e<;>try exact x.elim
  obtain ⟨q1,q2⟩:=Kept.rel (rows:=(S (0+1)).rows) kp
  have:=h2 R2 w1 A1 k rr q1 q2 (fun b q1 q2=>by rw [kp.bm,kp.cz];exact hf b q1 q2) x (hro.kept kp.bm)
  have:Code.roundsIn (FF rr) k P body (PostL base lt n R2 (bH base lt.B (S (0+1)).rows) lv w1) m2 A1 w1:=this
  exact lG (PostL.trans kp) m2 A1 w1 this
def EH.raise (H:EH) (M:Nat):EH:=⟨H.objs,M,H.grps,H.low⟩
theorem Md {R R2:Ren} {B:Nat} {H H2:EH} {M:Nat} {w w':World} (hn:H2.next=H.next) (hM:H.next≤M) (hf:Ar R H.next M) (k:Kept R R2 B H H2 w w'):SimA R R2 (lowTo H big) ((lowTo H2 B).raise M) w w':=by
 have hw:=SimA.wf k.sim
 have e2:(lowTo H2 B).next=H.next:=hn
 have hw':WF ((lowTo H2 B).raise M):=⟨fun b o h=>Nat.lt_of_lt_of_le (hw.lt b o h) (by rw [e2];exact hM),hw.root,hw.uniq,fun g x h=>Nat.lt_of_lt_of_le (hw.gdom g x h) (by rw [e2];exact hM)⟩
 have hes:=k.sim.es
 refine ⟨⟨hM,hes.low,hes.old,hes.keep,hes.back,hw',fun g h=>h,hes.neu⟩,
  ⟨fun b _=>by rw [k.bm],k.sim.rx.zs,fun b r d h1 h2 e=>?_,fun a _=>by rw [k.cz],fun a r cs e => .inl (by rw [k.cz] at e;exact e)⟩,⟨k.sim.fr.os,k.sim.fr.tape,k.sim.fr.output,k.sim.fr.size,k.sim.fr.keep⟩,
  Rel.weak (S:=All) (H:=(lowTo H2 B).raise M) ⟨(SimA.rel k.sim).img,fun b o r d ho hb=>((SimA.rel k.sim).obj b o r d ho hb).mono (.refl R2) hb rfl id (fun v=>by cases o<;>exact v),(SimA.rel k.sim).inj,(SimA.rel k.sim).frz⟩ fun _ _=>trivial⟩
 rw [k.bm,(hf b h1 h2).1] at e;cases e
def fV (base:EH) (lt:LT) (M:Nat) (lv:Lv):EH:=(lowTo (bH base lt.B lv.s.rows) (bW lt.B base.low)).raise M
theorem Lv.res_H (lt:LT) (n:Nat) (H:EH) (lv:Lv):(lv.res lt n H).H=H:=by cases lv<;>rfl
theorem ExitR.raise {lt:LT} {n:Nat} {R:Ren} {H H':EH} {lv:Lv} {e:Exit} {A:Act} (h:ExitR R (lv.res lt n H) e A):ExitR R (lv.res lt n H') e A:=by
 cases lv<;>cases e<;>exact h
theorem QS {base:EH} {lt:LT} {n M:Nat} {ro:Option Nat} {c:Code} {s:LS} {lv:Lv} (h:JL P base lt n M ro c s lv) (hok:Sz base lt n M=true) (hrows:rowsOf base base.next (base.next-lt.B) lt.B=some s.rows) {a:EA} (hn:a.n=n) (hd:a.df=[]) (hl:gp a lt.ts=s.l):J P ro c a base (lv.res lt n (fV base lt M lv)):=by
 obtain ⟨ht,hx,hrs,hB,hbig,hM⟩:=E5 hok
 obtain ⟨hlen,m,hm⟩:=h
 have hmin:=Ld lt.B base.low
 refine ⟨(fun v H' e=>by cases lv<;>cases e),(by rw [Lv.res_H];exact hM),m,fun R w A k rr hr hw hf ha hro=>?_⟩
 rw [Lv.res_H] at hf
 have hf:Ar R base.next M:=hf
 -- the rows from B on, as the state has them
 obtain ⟨g1,g2⟩:=jl hrows
 have hgetB:∀ b,lt.B≤b→b<base.next→∃ (h:b-lt.B<s.rows.length) (c:T V),base.objs.get b=some (.cells c 0 s.rows[b-lt.B].length b)∧base.grps.get b=none∧∀ j,j<s.rows[b-lt.B].length→c.get j=s.rows[b-lt.B][j]?:=fun b h1 h2=>by
  have hi:b-lt.B<s.rows.length:=by omega
  obtain ⟨c,sz,q1,q2,q3,q4,_⟩:=qG (g2 (b-lt.B) hi)
  rw [show lt.B+(b-lt.B)=b by omega] at q1 q2
  subst q3
  exact ⟨hi,c,q1,q2,q4⟩
 have hget:∀ b,(bH base lt.B s.rows).objs.get b=if h:lt.B≤b∧b<lt.B+s.rows.length then some (oK (s.rows[b-lt.B]'(by omega)) b) else base.objs.get b:=fun b=>iF _ _ _ _
 have two:∀ b o,(bH base lt.B s.rows).objs.get b=some o→∃ o',base.objs.get b=some o'∧aG b o'=aG b o∧bn o'=bn o:=fun b o ho=>by
  rw [hget] at ho
  split at ho
  ·rename_i hb
   obtain ⟨hi,c,q1,q2,q3⟩:=hgetB b hb.1 (by omega)
   cases ho
   exact ⟨_,q1,rfl,rfl⟩
  ·exact ⟨o,ho,rfl,rfl⟩
 have two':∀ b o,base.objs.get b=some o→∃ o',(bH base lt.B s.rows).objs.get b=some o'∧aG b o'=aG b o∧bn o'=bn o∧(¬ lt.B≤aG b o→o'=o):=fun b o ho=>by
  rw [hget]
  split
  ·rename_i hb
   obtain ⟨hi,c,q1,q2,q3⟩:=hgetB b hb.1 (by omega)
   rw [q1] at ho;cases ho
   exact ⟨_,rfl,rfl,rfl,fun h=>absurd hb.1 h⟩
  ·exact ⟨o,ho,rfl,rfl,fun _=>rfl⟩
 have hw2:WF (bH base lt.B s.rows):=by
  refine ⟨fun b o ho=>?_,fun b o ho=>?_,fun g hg b b' o o' ho ho' e e'=>?_,hw.gdom⟩
  ·obtain ⟨o',h1,_⟩:=two b o ho;exact hw.lt b o' h1
  ·obtain ⟨o',h1,h2,_⟩:=two b o ho;rw [← h2];exact hw.root b o' h1
  ·obtain ⟨o1,h1,h2,_⟩:=two b o ho
   obtain ⟨o2,h3,h4,_⟩:=two b' o' ho'
   exact hw.uniq g hg b b' o1 o2 h1 h3 (h2.trans e) (h4.trans e')
 have hr2:Rel R All (bH base lt.B s.rows) w:=by
  refine ⟨hr.img,fun b o r d ho hb=>?_,fun b b' o o' r d d' ho ho' hb hb'=>?_,hr.frz⟩
  ·rw [hget] at ho
   split at ho
   ·rename_i hbb
    obtain ⟨hi,c,q1,q2,q3⟩:=hgetB b hbb.1 (by omega)
    cases ho
    obtain ⟨cs,t,fz,p1,p2,p3,p4⟩:=hr.obj b _ r d q1 hb
    refine ⟨cs,t,fz,p1,p2,p3,fun _ _ i h1 h2=>?_⟩
    have h2:i<lenV s.rows[b-lt.B]:=h2
    rw [xO] at h2
    obtain ⟨z,x,y,e1,e2,e3,e4⟩:=p4 trivial (by show base.valid b _ b=true;unfold EH.valid;rw [q2]) i (Nat.zero_le _) h2
    rw [q3 i h2] at e1
    refine ⟨z,x,y,?_,e2,e3,e4⟩
    show (T.setL .lf 0 s.rows[b-lt.B]).get i=some x
    rw [T.get_setL,if_pos (by omega),Nat.sub_zero];exact e1
   ·exact (hr.obj b o r d ho hb).mono (.refl R) hb rfl id (fun v=>by cases o<;>exact v)
  ·obtain ⟨o1,h1,h2,h2'⟩:=two b o ho
   obtain ⟨o2,h3,h4,h4'⟩:=two b' o' ho'
   rcases hr.inj b b' o1 o2 r d d' h1 h3 hb hb' with e | ⟨e1,e2,e3,e4⟩
   ·exact .inl e
   ·exact .inr ⟨e1,by rw [← h2'];exact e2,by rw [← h4'];exact e3,by rw [← h2,← h4];exact e4⟩
 refine (hm R w A k rr hr2 hw2 hf ⟨?_,?_⟩ hro).mono fun e A w' ⟨R2,kp,x⟩=>⟨R2,?_,x.raise⟩
 ·have ht':=ha.tm
  rw [hn] at ht'
  rw [← hl]
  refine TR.live ht' _ fun p hp=>?_
  obtain ⟨q1,q2,q3⟩:=ug _ _ hp
  exact ⟨pU ht _ q1,by rw [q2];exact ht'.val p.1⟩
 ·have:=ha.df
  rw [hd] at this;exact this
 ·rw [Lv.res_H]
  have sr:=Md (H:=bH base lt.B s.rows) (H2:=bH base lt.B lv.s.rows) (M:=M) rfl hM hf kp
  have hes:=sr.es
  refine ⟨⟨hes.next,hmin.2,fun b o ho=>?_,fun b o ho hn=>?_,fun b o' ho hb=>?_,⟨hes.wf.lt,hes.wf.root,hes.wf.uniq,hes.wf.gdom⟩,fun g h=>h,fun b o' ho hb=>?_⟩,⟨sr.rx.same,sr.rx.zs,fun b r d h1 h2 e=>?_,sr.rx.cz,sr.rx.czn⟩,⟨sr.fr.os,sr.fr.tape,sr.fr.output,sr.fr.size,fun r hr' hn=>sr.fr.keep r hr' fun b o d ho hb=>?_⟩,Rel.weak (S:=All) ?_ fun _ _=>trivial⟩
  ·obtain ⟨o',h1,h2,h3,_⟩:=two' b o ho
   obtain ⟨o2,p1,p2,p3⟩:=hes.old b o' h1
   exact ⟨o2,p1,p2.trans h2,p3.trans h3⟩
  ·have hn:¬ bW lt.B base.low≤aG b o:=hn
   obtain ⟨o',h1,h2,h3,h4⟩:=two' b o ho
   have e:=h4 (by omega)
   subst e
   exact hes.keep b _ h1 (by show ¬ lt.B≤aG b _;omega)
  ·obtain ⟨o,h1⟩:=hes.back b o' ho hb
   obtain ⟨o2,h2,_⟩:=two b o h1
   exact ⟨o2,h2⟩
  ·rcases hes.neu b o' ho hb with q | q
   ·exact .inl q
   ·have q:lt.B≤aG b o':=q
    exact .inr (by show bW lt.B base.low≤aG b o';omega)
  ·rw [kp.bm,(hf b h1 h2).1] at e;cases e
  ·obtain ⟨o',h1,h2,_⟩:=two b o ho
   have:=hn b o' d h1 hb
   have this:¬ bW lt.B base.low≤aG b o':=this
   rw [h2] at this
   show ¬ lt.B≤aG b o
   omega
  ·have h1:=SimA.rel sr
   exact ⟨h1.img,fun b o r d ho hb=>(h1.obj b o r d ho hb).mono (.refl _) hb rfl id (fun v=>by cases o<;>exact v),h1.inj,h1.frz⟩
end
end Go.Ev
/- What a law is called with, as the evaluator has it: numbers, bools, structs and slices of these; what lies in memory is frozen, of the age 0. -/
namespace Go.Ev
open Go
noncomputable section
variable {P:Program}
def bP (P:Program):Nat→TypeId→List TypeId
 | 0,_=>[]
 | n+1,t=>match P.underlying t with
  | some (.struct fs)=>fs.toList.flatMap fun f=>bP P n f.type
  | _=>[t]
def BJ (P:Program):List Field→Nat→Bool
 | [],_=>true
 | f::l,k=>Nat.beq f.offset k&&BJ P l (k+P.cellsOf f.type)
def kN (P:Program):Nat→TypeId→Bool
 | 0,_=>false
 | n+1,t=>match P.underlying t with
  | some .bool=>Nat.beq (P.cellsOf t) 1
  | some (.int _)=>Nat.beq (P.cellsOf t) 1
  | some (.slice e)=>kN P n e&&Nat.blt 0 (P.cellsOf e)&&Nat.beq (P.cellsOf e) (bP P n e).length
  | some (.struct fs)=>BJ P fs.toList 0&&fs.toList.all (fun f=>kN P n f.type&&Nat.beq (P.cellsOf f.type) (bP P n f.type).length)
  | _=>false
theorem GK:∀ n t,kN P n t=true→∀ m,n≤m→bP P m t=bP P n t:=by
 intro n
 induction n with
 | zero=>intro t h;cases h
 | succ n ih =>
  intro t h m hm
  obtain ⟨m,rfl⟩:∃ k,m=k+1:=⟨m-1,by omega⟩
  unfold kN at h
  unfold bP
  split
  ·rename_i fs hu
   rw [hu] at h
   simp only [Bool.and_eq_true,List.all_eq_true] at h
   have:∀ l:List Field,(∀ f∈l,kN P n f.type=true)→l.flatMap (fun f=>bP P m f.type)=l.flatMap fun f=>bP P n f.type:=by
    intro l
    induction l with
    | nil=>intro _;rfl
    | cons f l il=>intro hl;rw [List.flatMap_cons,List.flatMap_cons,ih f.type (hl f (by simp)) m (by omega),il fun g hg=>hl g (by simp [hg])]
   exact this _ fun f hf=>(h.2 f hf).1
  ·rfl
def ShC (P:Program):Nat→TypeId→V→Prop
 | 0,_,_=>False
 | m+1,t,v=>match P.underlying t with
  | some .bool=>∃ b,v = .bool b
  | some (.int k)=>∃ n,v = .int k n∧k.min≤n∧n≤k.max
  | some (.slice e)=>∃ c len,v = .fz true 0 c len (P.cellsOf e)∧∀ i,i<len→∀ j u,(bP P 8 e)[j]?=some u→ShC P m u (c i j)
  | _=>False
theorem ShC.up:∀ m t v,ShC P m t v→ShC P (m+1) t v:=by
 intro m
 induction m with
 | zero=>intro t v h;cases h
 | succ m ih =>
  intro t v h
  unfold ShC at h ⊢
  split at h
  ·exact h
  ·exact h
  ·obtain ⟨c,len,h1,h2⟩:=h
   exact ⟨c,len,h1,fun i hi j u hj=>ih _ _ (h2 i hi j u hj)⟩
  ·exact h.elim
def qW (w:World):Ren:=⟨fun _=>none,fun _=>0,fun a r=>if a=0 then (match w.heap[r]? with | some (.cells cs _ _)=>some cs | _=>none) else none⟩
def CellOk (P:Program) (w:World) (m:Nat) (u:TypeId) (x:Value):Prop:=∃ v,VR (qW w) v x∧dE v=true∧Aged 0 v∧ShC P m u v
theorem CellOk.up {w:World} {m:Nat} {u:TypeId} {x:Value} (h:CellOk P w m u x):CellOk P w (m+1) u x:=let ⟨v,h1,h2,h3,h4⟩:=h;⟨v,h1,h2,h3,h4.up⟩
theorem PQ (w:World):Rel (qW w) All (aY 1) w:=by
 refine ⟨fun b r d h=>(by cases h),fun b o r d h=>(by cases h),fun b b' o o' r d d' h=>(by cases h),fun a r cs h=>?_⟩
 have h:(if a=0 then (match w.heap[r]? with | some (.cells cs _ _)=>some cs | _=>none) else none)=some cs:=h
 split at h
 ·split at h
  ·rename_i c t fz e;cases h;exact ⟨⟨t,fz,e⟩,fun b d q=>by cases q⟩
  ·cases h
 ·cases h
theorem UV {w:World} {r:Nat} {cs:Array Value} {t:TypeId} {fz:Nat×Nat} (h:w.heap[r]?=some (.cells cs t fz)):(qW w).cz 0 r=some cs:=by
 show (if (0:Nat)=0 then (match w.heap[r]? with | some (.cells cs _ _)=>some cs | _=>none) else none)=some cs
 rw [if_pos rfl,h]
theorem cell?_some {w:World} {b o:Nat} {y:Value} (h:w.cell? ⟨b,o,none⟩=some y):∃ cs t fz,w.heap[b]?=some (.cells cs t fz)∧cs[o]?=some y:=by
 unfold World.cell? at h
 split at h
 ·rename_i c t fz e;exact ⟨c,t,fz,e,by simpa using h⟩
 ·cases h
theorem cell?_spot {w:World} {a:Addr} {y:Value} (h:w.cell? a=some y):a.spot=none:=by
 unfold World.cell? at h
 split at h
 ·cases hs:a.spot with
  | none=>rfl
  | some s=>rw [hs] at h;simp at h
 ·cases h
theorem Cb {w:World} {H:Type} {enc:TypeId×Value→H} {n fuel:Nat} {sp:Nat→Bool} {cs:List Value}
 (ih:∀ (t:TypeId) (cs:List Value) (d:DataW H) (ps:List MemPlace),kN P n t=true→DataW.trod enc P w 0 sp true fuel t cs=some (d,ps)→∀ (i:Nat) (x:Value) (u:TypeId),cs[i]?=some x→(bP P n t)[i]?=some u→CellOk P w n u x) :
 ∀ (l:List Field) (k:Nat) (xs:List (DataW H×List MemPlace)),BJ P l k=true→(∀ f∈l,kN P n f.type=true∧P.cellsOf f.type=(bP P n f.type).length) →
  (l.mapM fun f=>DataW.trod enc P w 0 sp true fuel f.type ((cs.drop f.offset).take (P.cellsOf f.type)))=some xs →
  ∀ (i:Nat) (x:Value) (u:TypeId),(l.flatMap fun f=>bP P n f.type)[i]?=some u→cs[k+i]?=some x→CellOk P w n u x:=by
 intro l
 induction l with
 | nil=>intro k xs _ _ _ i x u h;simp at h
 | cons f l il =>
  intro k xs ho hf hm i x u hu hx
  unfold BJ at ho
  simp only [Bool.and_eq_true] at ho
  have hoff:f.offset=k:=nb ho.1
  rw [List.mapM_cons] at hm
  cases h1:DataW.trod enc P w 0 sp true fuel f.type ((cs.drop f.offset).take (P.cellsOf f.type)) with
  | none=>rw [h1] at hm;cases hm
  | some y =>
   rw [h1] at hm
   cases h2:(l.mapM fun f=>DataW.trod enc P w 0 sp true fuel f.type ((cs.drop f.offset).take (P.cellsOf f.type))) with
   | none=>rw [h2] at hm;cases hm
   | some ys =>
    obtain ⟨f1,f2⟩:=hf f (by simp)
    have e2:=ih f.type _ y.1 y.2 f1 h1
    rw [List.flatMap_cons] at hu
    by_cases hi:i<(bP P n f.type).length
    ·rw [List.getElem?_append_left hi] at hu
     refine e2 i x u ?_ hu
     rw [List.getElem?_take_of_lt (by omega),List.getElem?_drop,hoff];exact hx
    ·rw [List.getElem?_append_right (by omega)] at hu
     refine il (k+P.cellsOf f.type) ys ho.2 (fun g hg=>hf g (by simp [hg])) h2 (i-(bP P n f.type).length) x u hu ?_
     rw [f2,show k+(bP P n f.type).length+(i-(bP P n f.type).length)=k+i by omega];exact hx
theorem trod_bool {w:World} {H:Type} {enc:TypeId×Value→H} {sp:Nat→Bool} {fuel:Nat} {t:TypeId} {cs:List Value} {r:DataW H×List MemPlace} (hu:P.underlying t=some .bool) (h:DataW.trod enc P w 0 sp true (fuel+1) t cs=some r):∃ b,cs=[.bool b]:=by
 unfold DataW.trod at h
 rw [hu] at h
 split at h<;>simp_all
theorem trod_int {w:World} {H:Type} {enc:TypeId×Value→H} {sp:Nat→Bool} {fuel:Nat} {t:TypeId} {k:IntKind} {cs:List Value} {r:DataW H×List MemPlace} (hu:P.underlying t=some (.int k)) (h:DataW.trod enc P w 0 sp true (fuel+1) t cs=some r):∃ n,cs=[.int k n]∧k.min≤n∧n≤k.max:=by
 unfold DataW.trod at h
 rw [hu] at h
 split at h<;>simp_all [Lit.wf]
theorem trod_slice {w:World} {H:Type} {enc:TypeId×Value→H} {sp:Nat→Bool} {fuel:Nat} {t e:TypeId} {cs:List Value} {r:DataW H×List MemPlace} (hu:P.underlying t=some (.slice e)) (h:DataW.trod enc P w 0 sp true (fuel+1) t cs=some r) :
 cs=[.slice none 0 0]∨∃ a len cap,cs=[.slice (some a) len cap]∧len≤cap∧∀ i,i<len→∃ ys y,w.cells? 0 (a.add (i*P.cellsOf e)) (P.cellsOf e)=some ys∧DataW.trod enc P w 0 sp true fuel e ys=some y:=by
 unfold DataW.trod at h
 rw [hu] at h
 split at h<;>simp_all
 rename_i e' a len cap _
 obtain ⟨⟨h1,_⟩,h⟩:=h
 refine ⟨a,len,cap,⟨rfl,rfl,rfl⟩,h1,fun i hi=>?_⟩
 cases hm:(List.range len).mapM (fun i=>(w.cells? 0 (a.add (i*P.cellsOf e')) (P.cellsOf e')).bind (DataW.trod enc P w 0 sp true fuel e')) with
 | none=>rw [hm] at h;cases h
 | some el =>
  have hl:=mapM_some_length hm
  simp only [List.length_range] at hl
  have:=mapM_some_get hm i i (by simp [hi])
  rw [List.getElem?_eq_getElem (by omega)] at this
  cases hc:w.cells? 0 (a.add (i*P.cellsOf e')) (P.cellsOf e') with
  | none=>rw [hc] at this;cases this
  | some ys=>rw [hc] at this;exact ⟨ys,rfl,el[i].1,el[i].2,this⟩
theorem trod_struct {w:World} {H:Type} {enc:TypeId×Value→H} {sp:Nat→Bool} {fuel:Nat} {t:TypeId} {fs:Array Field} {cs:List Value} {r:DataW H×List MemPlace} (hu:P.underlying t=some (.struct fs)) (h:DataW.trod enc P w 0 sp true (fuel+1) t cs=some r) :
 cs.length=P.cellsOf t∧∃ xs,(fs.toList.mapM fun f=>DataW.trod enc P w 0 sp true fuel f.type ((cs.drop f.offset).take (P.cellsOf f.type)))=some xs:=by
 unfold DataW.trod at h
 rw [hu] at h
 split at h<;>simp_all
 obtain ⟨_,a,h,_⟩:=h
 exact ⟨a,h⟩
theorem Ih {w:World} {H:Type} {enc:TypeId×Value→H} {sp:Nat→Bool}:∀ (n:Nat),n≤8→∀ (fuel:Nat) (t:TypeId) (cs:List Value) (d:DataW H) (ps:List MemPlace),kN P n t=true→DataW.trod enc P w 0 sp true fuel t cs=some (d,ps) →
 ∀ (i:Nat) (x:Value) (u:TypeId),cs[i]?=some x→(bP P n t)[i]?=some u→CellOk P w n u x:=by
 intro n
 induction n with
 | zero=>intro _ fuel t cs d ps h;cases h
 | succ n ih =>
  intro hn fuel t cs d ps hf h
  cases fuel with
  | zero=>cases h
  | succ fuel =>
   unfold kN at hf
   unfold bP
   cases hu:P.underlying t with
   | none=>rw [hu] at hf;cases hf
   | some q =>
    rw [hu] at hf
    have one:∀ x,cs=[x]→CellOk P w (n+1) t x→∀ (i:Nat) (x:Value) (u:TypeId),cs[i]?=some x→[t][i]?=some u→CellOk P w (n+1) u x:=by
     intro x e hc i x' u hx hj
     subst e
     cases i with
     | succ i=>simp at hx
     | zero=>simp at hx hj;subst hx;subst hj;exact hc
    cases q with
    | bool =>
     obtain ⟨b,e⟩:=trod_bool hu h
     exact one _ e ⟨.bool b,.bool _,rfl,.bool _,by unfold ShC;rw [hu];exact ⟨_,rfl⟩⟩
    | int k =>
     obtain ⟨m,e,h1,h2⟩:=trod_int hu h
     exact one _ e ⟨.int k m,.int _ _,rfl,.int _ _,by unfold ShC;rw [hu];exact ⟨_,rfl,h1,h2⟩⟩
    | slice e =>
     simp only [Bool.and_eq_true] at hf
     obtain ⟨⟨f1,f2⟩,f3⟩:=hf
     have f2:=dh f2
     have f3:=nb f3
     rcases trod_slice hu h with e0 | ⟨a,len,cap,e0,hl,hel⟩
     ·refine one _ e0 ⟨.fz true 0 (fun _ _ => .bad) 0 (P.cellsOf e),.fzN,rfl,.fz _ (Nat.le_refl _) (fun i j hi=>by omega),?_⟩
      unfold ShC;rw [hu]
      exact ⟨_,_,rfl,fun i hi=>by omega⟩
     ·refine one _ e0 ?_
      have hcell:∀ i j,i<len→j<P.cellsOf e→∃ y,w.cell? ((a.add (i*P.cellsOf e)).add j)=some y∧∀ u,(bP P n e)[j]?=some u→CellOk P w n u y:=by
       intro i j hi hj
       obtain ⟨ys,y,q1,q2⟩:=hel i hi
       unfold World.cells? at q1
       rw [if_pos (Nat.zero_le _)] at q1
       have hlen:=mapM_some_length q1
       simp only [List.length_range] at hlen
       have g1:=mapM_some_get q1 j j (by simp [hj])
       rw [List.getElem?_eq_getElem (by omega)] at g1
       exact ⟨ys[j],g1,fun u hu'=>ih (by omega) fuel e ys y.1 y.2 f1 q2 j ys[j] u (List.getElem?_eq_getElem (by omega)) hu'⟩
      by_cases hl0:len=0
      ·subst hl0
       obtain ⟨b,o,s⟩:=a
       refine ⟨.fz true 0 (fun _ _ => .bad) 0 (P.cellsOf e),.fzE (fun q=>by cases q),rfl,.fz _ (Nat.le_refl _) (fun i j hi=>by omega),?_⟩
       unfold ShC;rw [hu]
       exact ⟨_,_,rfl,fun i hi=>by omega⟩
      ·obtain ⟨b,o,s⟩:=a
       have hs:s=none:=by
        obtain ⟨y,q,_⟩:=hcell 0 0 (by omega) f2
        have:=cell?_spot q
        simpa [Addr.add] using this
       subst hs
       have hcell':∀ i j,i<len→j<P.cellsOf e→∃ y,w.cell? ⟨b,o+(i*P.cellsOf e+j),none⟩=some y∧∃ v,VR (qW w) v y∧dE v=true∧Aged 0 v∧∀ u,(bP P n e)[j]?=some u→ShC P n u v:=by
        intro i j hi hj
        obtain ⟨y,q1,q2⟩:=hcell i j hi hj
        rw [dN,dN,Nat.add_assoc] at q1
        obtain ⟨u,hu'⟩:∃ u,(bP P n e)[j]?=some u:=⟨_,List.getElem?_eq_getElem (by omega)⟩
        obtain ⟨v,v1,v2,v3,v4⟩:=q2 u hu'
        exact ⟨y,q1,v,v1,v2,v3,fun u2 h2=>by rw [hu'] at h2;cases h2;exact v4⟩
       obtain ⟨y0,q0,_⟩:=hcell' 0 0 (by omega) f2
       obtain ⟨blk,ty,fz,hb,_⟩:=cell?_some q0
       have hY:∀ i j,∃ y v,i<len→j<P.cellsOf e→blk[o+(i*P.cellsOf e+j)]?=some y∧VR (qW w) v y∧dE v=true∧Aged 0 v∧∀ u,(bP P n e)[j]?=some u→ShC P n u v:=by
        intro i j
        by_cases hij:i<len∧j<P.cellsOf e
        ·obtain ⟨y,q1,v,q2⟩:=hcell' i j hij.1 hij.2
         refine ⟨y,v,fun _ _=>⟨?_,q2⟩⟩
         obtain ⟨blk',ty',fz',hb',g⟩:=cell?_some q1
         rw [hb] at hb';cases hb';exact g
        ·exact ⟨undef,.bad,fun h1 h2=>absurd ⟨h1,h2⟩ hij⟩
       refine ⟨.fz true 0 (fun i j=>(hY i j).choose_spec.choose) len (P.cellsOf e),
        .fz (fun i j=>(hY i j).choose) (UV hb) hl (fun i j hi hj=>((hY i j).choose_spec.choose_spec hi hj).1) (fun i j hi hj=>((hY i j).choose_spec.choose_spec hi hj).2.2.1) (fun i j hi hj=>((hY i j).choose_spec.choose_spec hi hj).2.2.2.1) (fun i j hi hj=>((hY i j).choose_spec.choose_spec hi hj).2.1),
        rfl,.fz _ (Nat.le_refl _) (fun i j hi hj=>((hY i j).choose_spec.choose_spec hi hj).2.2.2.1),?_⟩
       unfold ShC;rw [hu]
       refine ⟨_,_,rfl,fun i hi j u hj=>?_⟩
       rw [GK n e f1 8 (by omega)] at hj
       have hj':j<P.cellsOf e:=by rw [f3];exact (List.getElem?_eq_some_iff.1 hj).1
       exact ((hY i j).choose_spec.choose_spec hi hj').2.2.2.2 u hj
    | struct fs =>
     obtain ⟨h1,xs,h2⟩:=trod_struct hu h
     simp only [Bool.and_eq_true,List.all_eq_true] at hf
     intro i x u hx hj
     refine (Cb (P:=P) (w:=w) (n:=n) (fuel:=fuel) (sp:=sp) (enc:=enc) (cs:=cs) (fun t cs d ps q1 q2=>ih (by omega) fuel t cs d ps q1 q2) fs.toList 0 xs hf.1 (fun f hf'=>⟨(hf.2 f hf').1,nb (hf.2 f hf').2⟩) h2 i x u hj (by rw [Nat.zero_add];exact hx)).up
    | _=>cases hf
theorem Nq {w:World} {H:Type} {enc:TypeId×Value→H} {sp:Nat→Bool} {t:TypeId} {x:Value} {d:DataW H} {ps:List MemPlace} (hf:kN P 8 t=true) (h:DataW.Trod enc P w 0 sp true t x d ps) (hsz:x.cells.size=(bP P 8 t).length) :
 ∃ vs:List V,vs.length=(bP P 8 t).length∧∀ i (h1:i<vs.length) (h2:i<x.cells.size),VR (qW w) vs[i] x.cells[i]∧dE vs[i]=true∧∀ u,(bP P 8 t)[i]?=some u→ShC P 8 u vs[i]:=by
 obtain ⟨fuel,h⟩:=h
 have hc:=Ih (P:=P) 8 (Nat.le_refl _) fuel t _ d ps hf h
 have:∀ i,∃ v,∀ (h1:i<(bP P 8 t).length) (h2:i<x.cells.size),VR (qW w) v x.cells[i]∧dE v=true∧∀ u,(bP P 8 t)[i]?=some u→ShC P 8 u v:=fun i=>by
  by_cases h1:i<(bP P 8 t).length
  ·have h2:i<x.cells.size:=by omega
   obtain ⟨v,v1,v2,v3,v4⟩:=hc i x.cells[i] (bP P 8 t)[i] (by simp) (List.getElem?_eq_getElem h1)
   exact ⟨v,fun _ _=>⟨v1,v2,fun u hu=>by rw [List.getElem?_eq_getElem h1] at hu;cases hu;exact v4⟩⟩
  ·exact ⟨.bad,fun q=>absurd q h1⟩
 refine ⟨(List.range (bP P 8 t).length).map fun i=>(this i).choose,by simp,fun i h1 h2=>?_⟩
 have h1':i<(bP P 8 t).length:=by simpa using h1
 have:=(this i).choose_spec h1' h2
 simpa using this
theorem VJ {R:Ren} {vs:List V} {cs:Array Value} (hl:vs.length=cs.size) (h:∀ i (h1:i<vs.length) (h2:i<cs.size),VR R vs[i] cs[i]∧dE vs[i]=true):VR R (.agg vs.length (T.setL .lf 0 vs)) (.agg cs):=by
 refine .agg (fun i=>vs.getD i .bad) hl.symm (fun i hi=>?_) (fun i hi=>?_) (fun i hi=>?_)
 ·rw [T.get_setL,if_pos (by omega)]
  simp [List.getD,List.getElem?_eq_getElem hi]
 ·have:=(h i hi (by omega)).2
  simpa [List.getD,List.getElem?_eq_getElem hi] using this
 ·have:=(h i (by omega) hi).1
  simpa [List.getD,List.getElem?_eq_getElem (show i<vs.length by omega)] using this
theorem Pi {g:FuncId} {args:List V} {v:V} {H':EH} (h:SpecCall P g args (aY 1) v H') {args':Array Value} {w:World} (ha:AL (qW w) args args') :
 Calls P g args' w (fun e w'=>∃ x R,e = .returned x∧VR R v x∧RowKit.Below w.heap.size w w'):=by
 obtain ⟨_,_,k⟩:=h
 have hf:Free (qW w) (aY 1) H':=fun b h1 _=>⟨rfl,fun r=>by
  have h1:1≤b:=h1
  show (if b=0 then _ else none)=none
  rw [if_neg (by omega)]⟩
 refine (callsIn_wide (n:=0)).1 (CallsIn.mono (k (qW w) w args' 0 (PQ w) (Es 1) hf ha) fun e w' ⟨x,R,e1,e2,e3⟩=>⟨x,R,e1,e2,?_⟩)
 exact ⟨e3.fr.os,e3.fr.tape,e3.fr.output,e3.fr.size,fun r hr=>e3.fr.keep r hr fun b o d h=>by cases h⟩
end
end Go.Ev
/- Contracts: a call's value by its arguments' numbers, whatever the heap; arguments are numbers, bools, structs of these, frozen rows of numbers, functions. -/
namespace Go.Ev
open Go
noncomputable section
variable {P:Program}
theorem bY {a b:Bool} (h1:a=true) (h2:b=true):cond a b false=true:=by rw [h1,h2];rfl
def ae (k:IntKind) (f:Nat→Nat→Int):Nat→Nat→V:=fun i j => .int k (f i j)
def cO (v:V):Int:=match v with | .int _ n=>n | _=>0
def isI (k:IntKind) (v:V):Bool:=match v with | .int k' _=>gz k' k | _=>false
def aO (k:IntKind) (c:Nat→Nat→V) (len e:Nat):Bool:=dP (fun i=>dP (fun j=>isI k (c i j)) e) len
theorem bu {p:Nat→Bool} {n:Nat} (h:∀ i,i<n→p i=true):dP p n=true:=by
 induction n with
 | zero=>rfl
 | succ n ih =>
  show cond (p n) (dP p n) false=true
  rw [h n (by omega),ih fun i hi=>h i (by omega)];rfl
theorem dI (k:IntKind) (f:Nat→Nat→Int) (len e:Nat):aO k (ae k f) len e=true:=bu fun i _=>bu fun j _=>by show gz k k=true;cases k<;>rfl
theorem oz {k:IntKind} {c:Nat→Nat→V} {len e:Nat} (h:aO k c len e=true) {i j:Nat} (hi:i<len) (hj:j<e):c i j = .int k (cO (c i j)):=by
 have:=aQ (aQ h i hi) j hj
 cases hc:c i j with
 | int k' n=>rw [hc] at this;have:gz k' k=true:=this;rw [mi this];rfl
 | _=>rw [hc] at this;cases this
inductive CK where
 | i
 | b
 | r (e:Nat)
inductive D0 where
 | i (k:IntKind) (n:Int)
 | b (b:Bool)
 | sl (e len:Nat) (f:Nat→Nat→Int)
 | rr (e len:Nat) (ls:Nat→Nat) (f:Nat→Nat→Nat→Int)
 | rw (ks:List CK) (len:Nat) (fi:Nat→Nat→Int) (fb:Nat→Nat→Bool) (ls:Nat→Nat→Nat) (fr:Nat→Nat→Nat→Nat→Int)
inductive DA where
 | one (d:D0)
 | st (l:List D0)
 | fn (f:FuncId)
 | cl (f:FuncId) (l:List D0)
def vN (n e:Nat) (ls:Nat→Nat) (f:Nat→Nat→Nat→Int):Nat→Nat→V:=fun i _ => .fz true n (ae .i64 (f i)) (ls i) e
def isR (a e:Nat) (v:V):Bool:=match v with | .fz _ a' c len e'=>cond (Nat.beq a' a) (cond (Nat.beq e' e) (aO .i64 c len e) false) false | _=>false
def Rh (a:Nat) (c:Nat→Nat→V) (len e:Nat):Bool:=dP (fun i=>isR a e (c i 0)) len
theorem pM (n:Nat):Nat.beq n n=true:=Nat.beq_refl n
theorem iW (a e:Nat) (ls:Nat→Nat) (f:Nat→Nat→Nat→Int) (len:Nat):Rh a (vN a e ls f) len e=true:=bu fun i _=>by
 show cond (Nat.beq a a) (cond (Nat.beq e e) (aO .i64 (ae .i64 (f i)) (ls i) e) false) false=true
 rw [pM,pM,dI];rfl
def uT (v:V):Nat:=match v with | .fz _ _ _ len _=>len | _=>0
def jK (v:V):Nat→Nat→V:=match v with | .fz _ _ c _ _=>c | _=>fun _ _ => .bad
def qj (v:V):Nat:=match v with | .fz _ _ _ _ e=>Nat.succ e | _=>0
theorem Di {a e:Nat} {v:V} (h:isR a e v=true):∃ q,v = .fz q a (jK v) (uT v) e∧aO .i64 (jK v) (uT v) e=true:=by
 unfold isR at h
 split at h
 ·rename_i q a' c len e'
  obtain ⟨h1,h2⟩:=ax h
  obtain ⟨h3,h4⟩:=ax h2
  have:=nb h1;subst this
  have:=nb h3;subst this
  exact ⟨q,rfl,h4⟩
 ·cases h
def lJ (ks:List CK):Nat→CK:=List.rec (motive:=fun _=>Nat→CK) (fun _ => .i) (fun k _ ih j=>match j with | 0=>k | Nat.succ j=>ih j) ks
def cellW (n:Nat) (fi:Nat→Nat→Int) (fb:Nat→Nat→Bool) (ls:Nat→Nat→Nat) (fr:Nat→Nat→Nat→Nat→Int) (i j:Nat) (k:CK):V:=match k with | .i => .int .i64 (fi i j) | .b => .bool (fb i j) | .r e => .fz true n (ae .i64 (fr i j)) (ls i j) e
def ah (n:Nat) (ks:List CK) (fi:Nat→Nat→Int) (fb:Nat→Nat→Bool) (ls:Nat→Nat→Nat) (fr:Nat→Nat→Nat→Nat→Int):Nat→Nat→V:=fun i j=>cellW n fi fb ls fr i j (lJ ks j)
def ckV (v:V):CK:=match v with | .bool _ => .b | .fz _ _ _ _ e => .r e | _ => .i
def kF (c:Nat→Nat→V) (e:Nat):Nat→List CK:=Nat.rec (motive:=fun _=>Nat→List CK) (fun _=>[]) (fun _ ih j=>ckV (c 0 j)::ih (Nat.succ j)) e
def YC (ks:List CK):Bool:=List.rec (motive:=fun _=>Bool) true (fun k _ ih=>match k with | .i=>ih | _=>false) ks
def fP (ks:List CK):Nat:=List.rec (motive:=fun _=>Nat) 0 (fun _ _ ih=>Nat.succ ih) ks
def jQ (v:V):Bool:=match v with | .bool b=>b | _=>false
def rwF (c:Nat→Nat→V) (len:Nat) (ks:List CK):D0 := .rw ks len (fun i j=>cO (c i j)) (fun i j=>jQ (c i j)) (fun i j=>uT (c i j)) (fun i j k m=>cO (jK (c i j) k m))
def isW (a:Nat) (k:CK) (v:V):Bool:=match k with | .i=>isI .i64 v | .b=>(match v with | .bool _=>true | _=>false) | .r e=>isR a e v
def aF (a:Nat) (c:Nat→Nat→V) (ks:List CK) (len e:Nat):Bool:=dP (fun i=>dP (fun j=>isW a (lJ ks j) (c i j)) e) len
theorem kR (a:Nat) (ks:List CK) (fi:Nat→Nat→Int) (fb:Nat→Nat→Bool) (ls:Nat→Nat→Nat) (fr:Nat→Nat→Nat→Nat→Int) (len e:Nat):aF a (ah a ks fi fb ls fr) ks len e=true:=bu fun i _=>bu fun j _=>by
 show isW a (lJ ks j) (cellW a fi fb ls fr i j (lJ ks j))=true
 cases lJ ks j with
 | i=>rfl
 | b=>rfl
 | r e =>
  show cond (Nat.beq a a) (cond (Nat.beq e e) (aO .i64 (ae .i64 (fr i j)) (ls i j) e) false) false=true
  rw [pM,pM,dI];rfl
theorem Qw (c:Nat→Nat→V):∀ (e j:Nat),fP (kF c e j)=e
 | 0,_=>rfl
 | e+1,j=>by show Nat.succ (fP (kF c e (j+1)))=_;rw [Qw c e (j+1)]
def UJ (c:Nat→Nat→V) (e s:Nat):Nat:=match s with | 0=>cond (YC (kF c e 0)) 0 2 | Nat.succ _=>cond (Nat.beq e 1) 1 2
def Ef (d:D0) (n:Nat):V:=match d with | .i k m => .int k m | .b b => .bool b | .sl e len f => .fz true n (ae .i64 f) len e | .rr e len ls f => .fz true n (vN n e ls f) len 1 | .rw ks len fi fb ls fr => .fz true n (ah n ks fi fb ls fr) len (fP ks)
def nxA (d:D0) (n:Nat):Nat:=match d with | .sl _ _ _=>Nat.succ n | .rr _ _ _ _=>Nat.succ n | .rw _ _ _ _ _ _=>Nat.succ n | _=>n
def eH (l:List D0):Nat→List V:=List.rec (motive:=fun _=>Nat→List V) (fun _=>[]) (fun d _ ih n=>Ef d n::ih (nxA d n)) l
def nxL (l:List D0):Nat→Nat:=List.rec (motive:=fun _=>Nat→Nat) (fun n=>n) (fun d _ ih n=>ih (nxA d n)) l
def WP (d:DA) (n:Nat):V:=match d with | .one d=>Ef d n | .st l => .agg (eY l) (T.setL .lf 0 (eH l n)) | .fn f => .func f [] [] | .cl f l => .func f [.agg (eY l) (T.setL .lf 0 (eH l n))] []
def nxD (d:DA) (n:Nat):Nat:=match d with | .one d=>nxA d n | .st l=>nxL l n | .fn _=>n | .cl _ l=>nxL l n
def enc (l:List DA):Nat→List V:=List.rec (motive:=fun _=>Nat→List V) (fun _=>[]) (fun d _ ih n=>WP d n::ih (nxD d n)) l
def wH (l:List DA):Nat→Nat:=List.rec (motive:=fun _=>Nat→Nat) (fun n=>n) (fun d _ ih n=>ih (nxD d n)) l
def Yk (k:Nat) (c:Nat→Nat→V) (len e:Nat) (s:Nat):D0:=match k with | 0 => .sl e len fun i j=>cO (c i j) | 1 => .rr (Nat.pred s) len (fun i=>uT (c i 0)) (fun i j k=>cO (jK (c i 0) j k)) | _=>rwF c len (kF c e 0)
def NY (c:Nat→Nat→V) (len e:Nat) (s:Nat):D0:=Yk (UJ c e s) c len e s
def okG (k a:Nat) (c:Nat→Nat→V) (len e:Nat) (s:Nat):Bool:=match k with | 0=>aO .i64 c len e | 1=>cond (Nat.beq e 1) (Rh a c len (Nat.pred s)) false | _=>aF a c (kF c e 0) len e
def okF (a:Nat) (c:Nat→Nat→V) (len e:Nat) (s:Nat):Bool:=okG (UJ c e s) a c len e s
def BO (v:V):Option D0:=match v with | .int k n=>some (.i k n) | .bool b=>some (.b b) | .fz _ _ c len e=>some (NY c len e (qj (c 0 0))) | _=>none
def okC (v:V):Bool:=match v with | .fz _ a c len e=>okF a c len e (qj (c 0 0)) | _=>true
def agC (v:V):List Nat:=match v with | .fz _ a _ _ _=>[a] | _=>[]
def og (l:List V):Option (List D0):=List.rec (motive:=fun _=>Option (List D0)) (some []) (fun v _ ih=>match BO v with | some d=>rD d ih | none=>none) l
def IP (l:List V):Bool:=List.rec (motive:=fun _=>Bool) true (fun v _ ih=>cond (okC v) ih false) l
def sQ (l:List V):List Nat:=List.rec (motive:=fun _=>List Nat) [] (fun v _ ih=>List.append (agC v) ih) l
def tX (v:V):List V:=match v with | .agg n c=>(match cellL c n 0 with | some l=>l | none=>[]) | v=>[v]
def VS (r:Option (List D0)):Option DA:=match r with | some l=>some (.st l) | none=>none
def clO (f:FuncId) (r:Option (List D0)):Option DA:=match r with | some l=>some (.cl f l) | none=>none
def X0 (v:V):Option (List D0):=match v with | .agg n c=>(match cellL c n 0 with | some l=>og l | none=>none) | _=>none
def WS (r:Option D0):Option DA:=match r with | some l=>some (.one l) | none=>none
def TN (v:V):Option DA:=match v with
 | .agg n c=>(match cellL c n 0 with | some l=>VS (og l) | none=>none)
 | .func f [] []=>some (.fn f)
 | .func f [v] []=>clO f (X0 v)
 | v=>WS (BO v)
def okA (v:V):Bool:=match v with | .agg _ _=>IP (tX v) | .func _ [v] []=>IP (tX v) | v=>okC v
def agA (v:V):List Nat:=match v with | .agg _ _=>sQ (tX v) | .func _ [v] []=>sQ (tX v) | v=>agC v
def dec (l:List V):Option (List DA):=List.rec (motive:=fun _=>Option (List DA)) (some []) (fun v _ ih=>match TN v with | some d=>rD d ih | none=>none) l
def okL (l:List V):Bool:=List.rec (motive:=fun _=>Bool) true (fun v _ ih=>cond (okA v) ih false) l
def agL (l:List V):List Nat:=List.rec (motive:=fun _=>List Nat) [] (fun v _ ih=>List.append (agA v) ih) l
def WH (ok:Bool) (r:Option (Bool×V)):Option (Bool×V):=match r with | some (b,v)=>some (cond ok b false,v) | none=>none
abbrev Val:=List DA→Option (Bool×V)
def cf (val:Val):CF:=fun args _=>match dec args with | some das=>WH (okL args) (val das) | none=>none
theorem RS {v:V} {d:D0} (h:BO v=some d) (n:Nat):nxA d n=n+(agC v).length:=by
 cases v with
 | fz q a c len e =>
  have h:some (NY c len e (qj (c 0 0)))=some d:=h
  unfold NY at h
  match hs:UJ c e (qj (c 0 0)) with
  | 0=>rw [hs] at h;cases h;rfl
  | 1=>rw [hs] at h;cases h;rfl
  | _+2=>rw [hs] at h;cases h;rfl
 | _=>first | (cases h;rfl) | (cases h;done)
theorem EC {R:Ren} {w:World} {k n:Nat} {as:Nat→Nat} {v:V} {d:D0} (h:BO v=some d) (ho:okC v=true) (ha:∀ i,i<(agC v).length→as (n+i)=(agC v).getD i 0) (hk:n+(agC v).length≤k) {y:Value} (hy:VR R v y):VR (pq R w k as) (Ef d n) y:=by
 cases v with
 | int kd m=>cases h;cases hy;exact .int _ _
 | bool b=>cases h;cases hy;exact .bool _
 | fz q a c len e =>
  have h:some (NY c len e (qj (c 0 0)))=some d:=h
  have ho:okF a c len e (qj (c 0 0))=true:=ho
  have hcz:∀ r cs,R.cz a r=some cs→(pq R w k as).cz n r=some cs:=fun r cs hc=>by
   rw [KW (by have:(agC (.fz q a c len e)).length=1:=rfl;omega)]
   have:=ha 0 (by show 0<1;omega)
   rw [Nat.add_zero] at this
   rw [this];exact hc
  unfold NY at h
  unfold okF at ho
  match hs:UJ c e (qj (c 0 0)) with
  | 0 =>
   rw [hs] at h ho
   cases h
   have ho:aO .i64 c len e=true:=ho
   refine hy.fz_as hcz (fun i j hi hj=>rfl) (fun i j hi hj => .int _ _) (fun i j hi hj y hv=>?_)
   show VR _ (.int .i64 (cO (c i j))) y
   rw [oz ho hi hj] at hv
   cases hv;exact .int _ _
  | 1 =>
   rw [hs] at h ho
   cases h
   obtain ⟨ho1,ho⟩:=ax (show cond (Nat.beq e 1) (Rh a c len (Nat.pred (qj (c 0 0)))) false=true from ho)
   have:=nb ho1;subst this
   refine hy.fz_as hcz (fun i j hi hj=>rfl) (fun i j hi hj => .fz _ (Nat.le_refl _) fun _ _ _ _ => .int _ _) (fun i j hi hj y hv=>?_)
   have j0:j=0:=by omega
   subst j0
   obtain ⟨q',e1,e2⟩:=Di (aQ ho i hi)
   rw [e1] at hv
   show VR _ (.fz true n (ae .i64 (fun j k=>cO (jK (c i 0) j k))) (uT (c i 0)) (Nat.pred (qj (c 0 0)))) y
   refine hv.fz_as hcz (fun _ _ _ _=>rfl) (fun _ _ _ _ => .int _ _) (fun i' j' hi' hj' y' hv'=>?_)
   show VR _ (.int .i64 (cO (jK (c i 0) i' j'))) y'
   rw [oz e2 hi' hj'] at hv'
   cases hv';exact .int _ _
  | m+2 =>
   rw [hs] at h ho
   cases h
   have ho:aF a c (kF c e 0) len e=true:=ho
   show VR (pq R w k as) (.fz true n (ah n (kF c e 0) (fun i j=>cO (c i j)) (fun i j=>jQ (c i j)) (fun i j=>uT (c i j)) (fun i j k m=>cO (jK (c i j) k m))) len (fP (kF c e 0))) y
   rw [Qw]
   refine hy.fz_as hcz (fun i j hi hj=>?_) (fun i j hi hj=>?_) (fun i j hi hj y hv=>?_)
   ·show dE (cellW n _ _ _ _ i j (lJ (kF c e 0) j))=true
    cases lJ (kF c e 0) j<;>rfl
   ·show Aged n (cellW n _ _ _ _ i j (lJ (kF c e 0) j))
    cases lJ (kF c e 0) j with
    | i=>exact .int _ _
    | b=>exact .bool _
    | r e'=>exact .fz _ (Nat.le_refl _) fun _ _ _ _ => .int _ _
   ·have q:=aQ (aQ ho i hi) j hj
    show VR _ (cellW n _ _ _ _ i j (lJ (kF c e 0) j)) y
    generalize lJ (kF c e 0) j=kd at q
    cases kd with
    | i =>
     have q:isI .i64 (c i j)=true:=q
     show VR _ (.int .i64 (cO (c i j))) y
     cases hc:c i j with
     | int k' m'=>rw [hc] at q hv;have q:gz k' .i64=true:=q;have:=mi q;subst this;cases hv;exact .int _ _
     | _=>rw [hc] at q;cases q
    | b =>
     have q:(match c i j with | .bool _=>true | _=>false)=true:=q
     show VR _ (.bool (jQ (c i j))) y
     cases hc:c i j with
     | bool b=>rw [hc] at hv;cases hv;exact .bool _
     | _=>rw [hc] at q;cases q
    | r e' =>
     obtain ⟨q',e1,e2⟩:=Di (show isR a e' (c i j)=true from q)
     rw [e1] at hv
     show VR _ (.fz true n (ae .i64 (fun k m=>cO (jK (c i j) k m))) (uT (c i j)) e') y
     refine hv.fz_as hcz (fun _ _ _ _=>rfl) (fun _ _ _ _ => .int _ _) (fun i' j' hi' hj' y' hv'=>?_)
     show VR _ (.int .i64 (cO (jK (c i j) i' j'))) y'
     rw [oz e2 hi' hj'] at hv'
     cases hv';exact .int _ _
 | _=>cases h
theorem Ij {R:Ren} {w:World} {k:Nat} {as:Nat→Nat}:∀ {l:List V} {ds:List D0} {n:Nat},og l=some ds→IP l=true→(∀ i,i<(sQ l).length→as (n+i)=(sQ l).getD i 0)→n+(sQ l).length≤k →
 (eH ds n).length=l.length∧nxL ds n=n+(sQ l).length∧ds.length=l.length∧∀ i (h1:i<l.length) (h2:i<(eH ds n).length) y,VR R l[i] y→VR (pq R w k as) (eH ds n)[i] y:=by
 intro l
 induction l with
 | nil=>intro ds n h _ _ _;cases h;exact ⟨rfl,rfl,rfl,fun i h1=>by simp at h1⟩
 | cons v l ih =>
  intro ds n h ho ha hk
  have h:(match BO v with | some d=>rD d (og l) | none=>none)=some ds:=h
  have ho:cond (okC v) (IP l) false=true:=ho
  obtain ⟨o1,o2⟩:=ax ho
  have hag:sQ (v::l)=agC v++sQ l:=rfl
  rw [hag] at ha hk
  rw [hag]
  simp only [List.length_append] at ha hk
  cases h1:BO v with
  | none=>rw [h1] at h;cases h
  | some d =>
   rw [h1] at h
   obtain ⟨ds',h2,rfl⟩:=mZ h
   have hn:=RS h1 n
   obtain ⟨e1,e2,e4,e3⟩:=ih (ds:=ds') (n:=nxA d n) h2 o2 (fun i hi=>by
    rw [hn,Nat.add_assoc,ha _ (by omega)]
    simp [List.getD,List.getElem?_append_right]) (by omega)
   refine ⟨by show (eH ds' (nxA d n)).length+1=_;rw [e1];rfl,by show nxL ds' (nxA d n)=_;rw [e2,hn];simp;omega,by simp [e4],fun i q1 q2 y hy=>?_⟩
   cases i with
   | zero =>
    refine EC h1 o1 (fun i hi=>?_) (by omega) hy
    rw [ha i (by omega)]
    simp [List.getD,List.getElem?_append_left hi]
   | succ i=>exact e3 i (by simpa using q1) (by rw [e1];simpa using q1) y hy
theorem AV:∀ (l:List D0) (n i:Nat) (h:i<(eH l n).length),dE (eH l n)[i]=true
 | [],_,i,h=>by exact absurd h (by show ¬ i<0;omega)
 | d::l,n,0,_=>by show dE (Ef d n)=true;cases d<;>rfl
 | d::l,n,i+1,h=>AV l (nxA d n) i (by exact Nat.lt_of_succ_lt_succ h)
theorem KJ {R:Ren} {w:World} {k n:Nat} {as:Nat→Nat} {m:Nat} {c:T V} {l:List V} {ds:List D0} (hc:cellL c m 0=some l) (hd:og l=some ds) (ho:IP l=true) (ha:∀ i,i<(sQ l).length→as (n+i)=(sQ l).getD i 0) (hk:n+(sQ l).length≤k) :
 nxL ds n=n+(sQ l).length∧∀ {y:Value},VR R (.agg m c) y→VR (pq R w k as) (.agg (eY ds) (T.setL .lf 0 (eH ds n))) y:=by
 obtain ⟨e1,e2,e4,e3⟩:=Ij (R:=R) (w:=w) (k:=k) (as:=as) hd ho ha hk
 obtain ⟨g1,g2⟩:=uQ hc
 refine ⟨e2,fun {y} hy=>?_⟩
 rw [iP,e4,g1]
 refine hy.agg_as (fun i=>l.getD i .bad) (fun i=>(eH ds n).getD i .bad) (fun i hi=>?_) (fun i hi=>?_) (fun i hi=>?_) (fun i hi y hv=>?_)
 ·have:=g2 i hi
  rw [Nat.zero_add] at this
  rw [this];simp [List.getD,List.getElem?_eq_getElem (show i<l.length by omega)]
 ·rw [T.get_setL,if_pos (by omega)]
  simp [List.getD,List.getElem?_eq_getElem (show i<(eH ds n).length by omega)]
 ·have:=AV ds n i (by omega)
  simpa [List.getD,List.getElem?_eq_getElem (show i<(eH ds n).length by omega)] using this
 ·have:=e3 i (by omega) (by omega) y (by simpa [List.getD,List.getElem?_eq_getElem (show i<l.length by omega)] using hv)
  simpa [List.getD,List.getElem?_eq_getElem (show i<(eH ds n).length by omega)] using this
theorem TD {R:Ren} {w:World} {k n:Nat} {as:Nat→Nat} {v:V} {d:DA} (h:TN v=some d) (ho:okA v=true) (ha:∀ i,i<(agA v).length→as (n+i)=(agA v).getD i 0) (hk:n+(agA v).length≤k) :
 nxD d n=n+(agA v).length∧∀ {y:Value},VR R v y→VR (pq R w k as) (WP d n) y:=by
 have one:∀ {d0:D0},BO v=some d0→d = .one d0→okC v=true→agA v=agC v→nxD d n=n+(agA v).length∧∀ {y:Value},VR R v y→VR (pq R w k as) (WP d n) y:=by
  intro d0 h1 e h2 h3
  subst e
  rw [h3] at ha hk ⊢
  exact ⟨RS h1 n,fun hy=>EC h1 h2 ha hk hy⟩
 have celll:∀ {m c l},cellL c m 0=some l→tX (.agg m c)=l:=fun {m c l} hc=>by show (match cellL c m 0 with | some l=>l | none=>[])=l;rw [hc]
 cases v with
 | int kd m=>cases h;exact one rfl rfl rfl rfl
 | bool b=>cases h;exact one rfl rfl rfl rfl
 | fz q a c len e =>
  have h:WS (BO (.fz q a c len e))=some d:=h
  have e0:BO (.fz q a c len e)=some (NY c len e (qj (c 0 0))):=rfl
  rw [e0] at h
  cases h
  exact one e0 rfl ho rfl
 | agg m c =>
  have h:(match cellL c m 0 with | some l=>VS (og l) | none=>none)=some d:=h
  cases hc:cellL c m 0 with
  | none=>rw [hc] at h;cases h
  | some l =>
   rw [hc] at h
   have h:VS (og l)=some d:=h
   have ho:IP (tX (.agg m c))=true:=ho
   have hag:agA (.agg m c)=sQ (tX (.agg m c)):=rfl
   rw [celll hc] at ho hag
   rw [hag] at ha hk ⊢
   cases hd:og l with
   | none=>rw [hd] at h;cases h
   | some ds =>
    rw [hd] at h
    cases h
    exact KJ hc hd ho ha hk
 | func f l m =>
  cases l with
  | cons v0 l2 =>
   cases l2 with
   | cons _ _=>cases m<;>cases h
   | nil =>
    cases m with
    | cons _ _=>cases h
    | nil =>
     have h:clO f (X0 v0)=some d:=h
     cases v0 with
     | agg m2 c =>
      have h:clO f (match cellL c m2 0 with | some l=>og l | none=>none)=some d:=h
      cases hc:cellL c m2 0 with
      | none=>rw [hc] at h;cases h
      | some l =>
       rw [hc] at h
       have h:clO f (og l)=some d:=h
       have ho:IP (tX (.agg m2 c))=true:=ho
       have hag:agA (.func f [.agg m2 c] [])=sQ (tX (.agg m2 c)):=rfl
       rw [celll hc] at ho hag
       rw [hag] at ha hk ⊢
       cases hd:og l with
       | none=>rw [hd] at h;cases h
       | some ds =>
        rw [hd] at h
        cases h
        obtain ⟨z1,z2⟩:=KJ (R:=R) (w:=w) (k:=k) (as:=as) hc hd ho ha hk
        refine ⟨z1,fun {y} hy=>?_⟩
        cases hy with
        | func hl hv hm hv' =>
         refine .func (by simpa using hl) (fun i h1 h2=>?_) hm (fun i h1 _=>by simp at h1)
         have i0:i=0:=by simp at h1;exact h1
         subst i0
         exact z2 (hv 0 (by simp) h2)
     | _=>cases h
  | nil =>
   cases m with
   | cons _ _=>cases h
   | nil =>
    cases h
    refine ⟨rfl,fun {y} hy=>?_⟩
    cases hy with
    | func hl hv hm hv'=>exact .func hl (fun i h1 _=>by simp at h1) hm (fun i h1 _=>by simp at h1)
 | _=>cases h
theorem EN {R:Ren} {w:World} {k:Nat} {as:Nat→Nat}:∀ {l:List V} {das:List DA} {n:Nat},dec l=some das→okL l=true→(∀ i,i<(agL l).length→as (n+i)=(agL l).getD i 0)→n+(agL l).length≤k →
 wH das n=n+(agL l).length∧∀ ys,AL R l ys→AL (pq R w k as) (enc das n) ys:=by
 intro l
 induction l with
 | nil=>intro das n h _ _ _;cases h;exact ⟨rfl,fun ys h=>AL.nil_imp h⟩
 | cons v l ih =>
  intro das n h ho ha hk
  have h:(match TN v with | some d=>rD d (dec l) | none=>none)=some das:=h
  have ho:cond (okA v) (okL l) false=true:=ho
  obtain ⟨o1,o2⟩:=ax ho
  have hag:agL (v::l)=agA v++agL l:=rfl
  rw [hag] at ha hk
  rw [hag]
  simp only [List.length_append] at ha hk
  cases h1:TN v with
  | none=>rw [h1] at h;cases h
  | some d =>
   rw [h1] at h
   obtain ⟨das',h2,rfl⟩:=mZ h
   obtain ⟨hn,hv⟩:=TD (R:=R) (w:=w) (k:=k) (as:=as) (n:=n) h1 o1 (fun i hi=>by rw [ha i (by omega)];simp [List.getD,List.getElem?_append_left hi]) (by omega)
   obtain ⟨e1,e2⟩:=ih (das:=das') (n:=nxD d n) h2 o2 (fun i hi=>by
    rw [hn,Nat.add_assoc,ha _ (by omega)]
    simp [List.getD,List.getElem?_append_right]) (by omega)
   refine ⟨by show wH das' (nxD d n)=_;rw [e1,hn];simp;omega,fun ys hy=>?_⟩
   exact AL.cons_imp hy (fun y q=>hv q) e2
def AY (v:V):Bool:=match v with | .bool _=>true | .int _ _=>true | _=>false
def KZ (c:T V) (n:Nat):Nat→Bool:=Nat.rec (motive:=fun _=>Nat→Bool) (fun _=>true) (fun _ ih i=>match c.get i with | some v=>cond (AY v) (ih (Nat.succ i)) false | none=>false) n
def yS (v:V):Bool:=match v with | .agg n c=>KZ c n 0 | v=>AY v
def Ho (l:List V):Bool:=List.rec (motive:=fun _=>Bool) true (fun v _ ih=>cond (yS v) ih false) l
def Bj (v:V):Bool:=match v with | .tup l=>Ho l | v=>yS v
def jJ (v v':V):Prop:=match v,v' with
 | .int .i64 a,.int .i64 b=>a=b
 | .bool a,.bool b=>a=b
 | v,v'=>v=v'
theorem dR {v v':V} (h:jJ v v'):v=v':=by
 unfold jJ at h
 split at h
 ·rw [h]
 ·rw [h]
 ·exact h
def Uy (c c':T V) (n:Nat):Nat→Prop:=Nat.rec (motive:=fun _=>Nat→Prop) (fun _=>True) (fun _ ih i=>match c.get i,c'.get i with | some v,some v'=>jJ v v'∧ih (Nat.succ i) | _,_=>False) n
def vM (v v':V):Prop:=match v,v' with
 | .agg n c,.agg n' c'=>cond (Nat.beq n n') (Uy c c' n 0) False
 | v,v'=>jJ v v'
def PE (l:List V):List V→Prop:=List.rec (motive:=fun _=>List V→Prop) (fun m=>match m with | []=>True | _=>False) (fun v _ ih m=>match m with | v'::m=>vM v v'∧ih m | []=>False) l
def bC (v v':V):Prop:=match v,v' with
 | .tup l,.tup l'=>PE l l'
 | v,v'=>vM v v'
theorem Qg {c c':T V}:∀ {n i:Nat},Uy c c' n i→∀ j,j<n→∃ v,c.get (i+j)=some v∧c'.get (i+j)=some v:=by
 intro n
 induction n with
 | zero=>intro i h j hj;omega
 | succ n ih =>
  intro i h j hj
  have h:(match c.get i,c'.get i with | some v,some v'=>jJ v v'∧Uy c c' n (i+1) | _,_=>False):=h
  cases h1:c.get i with
  | none=>rw [h1] at h;exact h.elim
  | some v =>
   cases h2:c'.get i with
   | none=>rw [h1,h2] at h;exact h.elim
   | some v' =>
    rw [h1,h2] at h
    obtain ⟨q1,q2⟩:=h
    cases j with
    | zero=>exact ⟨v',by rw [Nat.add_zero,h1,dR q1],by rw [Nat.add_zero,h2]⟩
    | succ j=>rw [show i+(j+1)=i+1+j by omega];exact ih q2 j (by omega)
theorem Ep {H:EH} {k new:Nat} {as:Nat→Nat} {v:V} (h:AY v=true):Fr0 H k as new v v:=by
 cases v<;>first | exact .bool _ | exact .int _ _ | cases h
theorem LX {c:T V}:∀ {n i:Nat},KZ c n i=true→∀ j,j<n→∃ v,c.get (i+j)=some v∧AY v=true:=by
 intro n
 induction n with
 | zero=>intro i h j hj;omega
 | succ n ih =>
  intro i h j hj
  have h:(match c.get i with | some v=>cond (AY v) (KZ c n (i+1)) false | none=>false)=true:=h
  cases h1:c.get i with
  | none=>rw [h1] at h;cases h
  | some v =>
   rw [h1] at h
   obtain ⟨h2,h3⟩:=ax h
   cases j with
   | zero=>exact ⟨v,h1,h2⟩
   | succ j=>rw [show i+(j+1)=i+1+j by omega];exact ih h3 j (by omega)
theorem ED {H:EH} {k new:Nat} {as:Nat→Nat} {v v':V} (hv:vM v v') (h:yS v'=true):Frz1 H k as new v v':=by
 unfold vM at hv
 split at hv
 ·rename_i n c n' c'
  cases q:Nat.beq n n' with
  | false=>rw [q] at hv;exact hv.elim
  | true =>
   rw [q] at hv
   have hv:Uy c c' n 0:=hv
   have e:=nb q
   subst e
   have h:KZ c' n 0=true:=h
   refine .agg (fun i=>getD' c i) (fun i=>getD' c' i) (fun i hi=>?_) (fun i hi=>?_) (fun i hi=>?_) (fun i hi=>?_)
   all_goals
    obtain ⟨v,q1,q2⟩:=LX h i hi
    obtain ⟨v2,q3,q4⟩:=Qg hv i hi
    rw [Nat.zero_add] at q1 q3 q4
    rw [q1] at q4;cases q4
    have e:getD' c' i=v:=by unfold getD';rw [q1]
    have e':getD' c i=v:=by unfold getD';rw [q3]
    simp only [e,e']
   ·exact q3
   ·exact q1
   ·cases v<;>first | rfl | cases q2
   ·exact Ep q2
 ·rename_i hn
  have e:=dR hv
  subst e
  cases v with
  | agg n c=>exact absurd rfl (hn n c n c rfl)
  | _=>exact .one (Ep h)
theorem zW:∀ {l l':List V},PE l l'→l.length=l'.length∧∀ i (h1:i<l.length) (h2:i<l'.length),vM l[i] l'[i]
 | [],[],_=>⟨rfl,fun i h1=>by simp at h1⟩
 | [],_::_,h=>h.elim
 | _::_,[],h=>h.elim
 | v::l,v'::l',h=>by
  have h:vM v v'∧PE l l':=h
  obtain ⟨e1,e2⟩:=zW h.2
  refine ⟨by simp [e1],fun i h1 h2=>?_⟩
  cases i with
  | zero=>exact h.1
  | succ i=>exact e2 i (by simpa using h1) (by simpa using h2)
theorem yD:∀ {l:List V},Ho l=true→∀ i (h1:i<l.length),yS l[i]=true
 | [],_,i,h1=>by simp at h1
 | v::l,h,i,h1=>by
  have h:cond (yS v) (Ho l) false=true:=h
  obtain ⟨q1,q2⟩:=ax h
  cases i with
  | zero=>exact q1
  | succ i=>exact yD q2 i (by simpa using h1)
theorem QM {H:EH} {k new:Nat} {as:Nat→Nat} {v v':V} (hv:bC v v') (h:Bj v'=true):FrV H k as new v v':=by
 unfold bC at hv
 split at hv
 ·obtain ⟨e1,e2⟩:=zW hv
  exact .tup e1 fun i h1 h2=>ED (e2 i h1 h2) (yD h i h2)
 ·rename_i hn
  refine .one (ED hv ?_)
  cases v' with
  | tup l' =>
   have hv:vM v (.tup l'):=hv
   cases v with
   | tup l=>exact (hn l l' rfl rfl).elim
   | _ =>
    first
     | (have hv:=dR (v' := .tup l') hv;cases hv;done)
     | (unfold vM at hv;split at hv<;>first | (cases hv;done) | (rename_i e;cases e;done) | (have hv:=dR hv;cases hv;done))
  | _=>exact h
def zA (P:Program) (g:FuncId) (val:Val):Prop:=∀ das v,val das=some (true,v)→Bj v=true∧∃ v' H',SpecCall P g (enc das 0) (aY (wH das 0+1)) v' H'∧bC v' v
theorem dL {g:FuncId} {val:Val} (h:zA P g val):ui P (g,cf val):=fun args H v hv=>by
 have hv:(match dec args with | some das=>WH (okL args) (val das) | none=>none)=some (true,v):=hv
 cases hd:dec args with
 | none=>rw [hd] at hv;cases hv
 | some das =>
  rw [hd] at hv
  have hv:WH (okL args) (val das)=some (true,v):=hv
  cases hval:val das with
  | none=>rw [hval] at hv;cases hv
  | some bv =>
   obtain ⟨b,v'⟩:=bv
   rw [hval] at hv
   have e0:cond (okL args) b false=true:=by injection hv with hv;injection hv
   obtain ⟨e1,e3⟩:=ax e0
   have e2:v'=v:=by injection hv with hv;injection hv
   subst e2
   subst e3
   obtain ⟨hf,v1,H',hs,hvp⟩:=h das v' hval
   have key:∀ (R:Ren) (w:World),wH das 0=0+(agL args).length∧∀ ys,AL R args ys→AL (pq R w (wH das 0) (fun n=>(agL args).getD n 0)) (enc das 0) ys:=fun R w=>by
    have h1:=(EN (R:=R) (w:=w) (k:=0+(agL args).length) (as:=fun n=>(agL args).getD n 0) (n:=0) hd e1 (fun i hi=>by simp) (Nat.le_refl _))
    refine ⟨h1.1,?_⟩
    rw [h1.1];exact h1.2
   exact Ba (as:=fun n=>(agL args).getD n 0) hs (fun R w ys _ ha=>(key R w).2 ys ha) (QM hvp hf)
def bi (P:Program) (X:Ext) (n:Nat) (g:FuncId) (args:List V) (k:Nat) (φ:V→Prop):D:=evK P kD X (.leaf False) n (.call g args (aY (k+1))) (fun r=>match r with | .v v _ => .leaf (φ v) | _ => .leaf False)
theorem OU (hD:aN P) {X:Ext} (hX:dC P X) {n:Nat} {g:FuncId} {args:List V} {k:Nat} {φ:V→Prop} {h:HT} (hv:vc (bi P X n g args k φ) h):∃ v H',SpecCall P g args (aY (k+1)) v H'∧φ v:=by
 have hv:=eU _ _ hv
 unfold bi at hv
 rw [lC (B:=kD) (φ:=den) (fun _ _ _=>rfl) (fun _ _=>rfl)] at hv
 cases hr:ev P X n (.call g args (aY (k+1))) with
 | none=>rw [hr] at hv;exact hv.elim
 | some r =>
  rw [hr] at hv
  cases r with
  | v v H'=>exact ⟨v,H',Kr hD hX hr,hv⟩
  | _=>exact hv.elim
def oW (P:Program) (X:Ext) (n:Nat) (ro:Option Nat) (c:Code) (a:EA) (H:EH) (φ:Res→Prop):D:=evK P kD X (.leaf False) n (.code ro c a H) (fun r => .leaf (φ r))
theorem Gy (hD:aN P) {X:Ext} (hX:dC P X) {n:Nat} {ro:Option Nat} {c:Code} {a:EA} {H:EH} {φ:Res→Prop} {h:HT} (hv:vc (oW P X n ro c a H φ) h):∃ r,ev P X n (.code ro c a H)=some r∧J P ro c a H r∧φ r:=by
 have hv:=eU _ _ hv
 unfold oW at hv
 rw [lC (B:=kD) (φ:=den) (fun _ _ _=>rfl) (fun _ _=>rfl)] at hv
 cases hr:ev P X n (.code ro c a H) with
 | none=>rw [hr] at hv;exact hv.elim
 | some r=>rw [hr] at hv;exact ⟨r,rfl,Um hD hX hr,hv⟩
def Bl (l:List V):List V→Prop:=List.rec (motive:=fun _=>List V→Prop) (fun m=>match m with | []=>True | _=>False) (fun v _ ih m=>match m with | v'::m=>jJ v v'∧ih m | []=>False) l
theorem su:∀ {l m:List V},Bl l m→l=m
 | [],[],_=>rfl
 | [],_::_,h=>h.elim
 | _::_,[],h=>h.elim
 | v::l,v'::m,h=>by
  have h:jJ v v'∧Bl l m:=h
  rw [dR h.1,su h.2]
def Pm (l:List (List V)):List (List V)→Prop:=List.rec (motive:=fun _=>List (List V)→Prop) (fun m=>match m with | []=>True | _=>False) (fun v _ ih m=>match m with | v'::m=>Bl v v'∧ih m | []=>False) l
theorem Ez:∀ {l m:List (List V)},Pm l m→l=m
 | [],[],_=>rfl
 | [],_::_,h=>h.elim
 | _::_,[],h=>h.elim
 | v::l,v'::m,h=>by
  have h:Bl v v'∧Pm l m:=h
  rw [su h.1,Ez h.2]
def Pj (s t:LS):Prop:=Bl s.l t.l∧Pm s.rows t.rows
theorem uf {s t:LS} (h:Pj s t):s=t:=by
 obtain ⟨a,b⟩:=s
 obtain ⟨c,d⟩:=t
 have h1:a=c:=su h.1
 have h2:b=d:=Ez h.2
 rw [h1,h2]
def PK (base:EH) (lt:LT) (n M:Nat) (lv:Lv) (r:Res):Prop:=match KH base lt n M r,lv with
 | some (.next l),.next m=>Pj l m
 | some (.exit i l),.exit j m=>cond (Nat.beq i j) (Pj l m) False
 | some (.ret l),.ret m=>Pj l m
 | _,_=>False
theorem P5 {base:EH} {lt:LT} {n M:Nat} {lv:Lv} {r:Res} (h:PK base lt n M lv r):KH base lt n M r=some lv:=by
 unfold PK at h
 split at h
 ·rename_i e;rw [e,uf h]
 ·rename_i i l j m e
  cases q:Nat.beq i j with
  | false=>rw [q] at h;exact h.elim
  | true=>rw [q] at h;rw [e,nb q,uf h]
 ·rename_i e;rw [e,uf h]
 ·exact h.elim
def aT (P:Program) (X:Ext) (N:Nat) (c:Code) (base:EH) (lt:LT) (n M:Nat) (s:LS) (lv:Lv):D:=oW P X N none c ⟨iU (lF lt.ts s.l),n,[]⟩ (bH base lt.B s.rows) (PK base lt n M lv)
theorem aI (hD:aN P) {X:Ext} (hX:dC P X) {base:EH} {lt:LT} {n M N:Nat} {c:Code} {s:LS} {lv:Lv} {h:HT} (hv:vc (aT P X N c base lt n M s lv) h) (hok:Sz base lt n M=true) (hl:Nat.beq (eY s.rows) (Nat.sub base.next lt.B)=true):JL P base lt n M none c s lv:=by
 obtain ⟨r,_,hJ,hp⟩:=Gy hD hX hv
 exact XX hok (by have:=nb hl;rw [iP] at this;exact this) hJ (P5 hp)
theorem Tv (hD:aN P) {X:Ext} (hX:dC P X) {n:Nat} {g:FuncId} {das:List DA} {v:V} {h:HT} (hf:Bj v=true) (hv:vc (bi P X n g (enc das 0) (wH das 0) (fun v'=>bC v' v)) h):Bj v=true∧∃ v' H',SpecCall P g (enc das 0) (aY (wH das 0+1)) v' H'∧bC v' v:=by
 obtain ⟨v',H',h1,h2⟩:=OU hD hX hv
 exact ⟨hf,v',H',h1,h2⟩
def eF {α:Type} (P:Program) (B:KP α) (X:Ext) (z:α) (n:Nat) (ro:Option Nat) (p:List Nat):Code→EA→EH→(EA→EH→α)→α:=List.rec (motive:=fun _=>Code→EA→EH→(EA→EH→α)→α) (fun _ a H k=>k a H)
 (fun d _ ih c a H k=>match c with
  | .seq x y=>(match d with | 0=>ih x a H k | _=>evK P B X z n (.code ro x a H) (fun r=>match r with | .normal a1 H1=>ih y a1 H1 k | _=>z))
  | .block _ x=>ih x a H k
  | .scope x=>ih x a H k
  | .cond o x y=>(match a.eval o with
   | .bool b=>B.br b (match d with | 0=>ih x a H k | _=>z) (match d with | 0=>z | _=>ih y a H k)
   | _=>z)
  | _=>z) p
def bZ {α:Type} (P:Program) (B:KP α) (X:Ext) (z:α) (n:Nat) (ro:Option Nat) (p:List Nat):Code→Res→(Res→α)→α:=List.rec (motive:=fun _=>Code→Res→(Res→α)→α) (fun _ r k=>k r)
 (fun d _ ih c r k=>match c with
  | .seq x y=>(match d with | 0=>ih x r (fun r=>match r with | .normal a1 H1=>evK P B X z n (.code ro y a1 H1) k | r=>k r) | _=>ih y r k)
  | .block id x=>ih x r (fun r=>aX (gU id (some r)) z k)
  | .scope x=>ih x r k
  | .cond _ x y=>(match d with | 0=>ih x r k | _=>ih y r k)
  | _=>z) p
abbrev AH:=EA×EH
def uZ (P:Program) (X:Ext) (n:Nat) (ro:Option Nat) (p:List Nat) (c:Code) (a:EA) (H:EH):Option AH:=eF P (yM _) X none n ro p c a H (fun a H=>some (a,H))
theorem Dc (hD:aN P) {X:Ext} (hX:dC P X) {n:Nat} {ro:Option Nat}:∀ (p:List Nat) {c:Code} {a:EA} {H:EH} {a1:EA} {H1:EH},uZ P X n ro p c a H=some (a1,H1) →
 ∀ {r1:Res} (K:Res→D),J P ro (sub p c) a1 H1 r1→den (bZ P kD X (.leaf False) n ro p c r1 K)→∃ r,J P ro c a H r∧den (K r):=by
 intro p
 induction p with
 | nil =>
  intro c a H a1 H1 h r1 K hJ hd
  have h:some (a,H)=some (a1,H1):=h
  cases h
  exact ⟨r1,hJ,hd⟩
 | cons d p ih =>
  intro c a H a1 H1 h r1 K hJ hd
  cases c with
  | seq x y =>
   cases d with
   | zero =>
    have hd:den (bZ P kD X (.leaf False) n ro p x r1 (fun r=>match r with | .normal a1 H1=>evK P kD X (.leaf False) n (.code ro y a1 H1) K | r=>K r)):=hd
    obtain ⟨r,j1,j2⟩:=ih (c:=x) h _ hJ hd
    cases r with
    | normal a2 H2 =>
     have j2:den (evK P kD X (.leaf False) n (.code ro y a2 H2) K):=j2
     rw [lC (B:=kD) (φ:=den) (fun _ _ _=>rfl) (fun _ _=>rfl)] at j2
     cases hr:ev P X n (.code ro y a2 H2) with
     | none=>rw [hr] at j2;exact j2.elim
     | some r=>rw [hr] at j2;exact ⟨r,DL j1 (Um hD hX hr),j2⟩
    | v v H2=>exact absurd rfl (j1.1 v H2)
    | exit id a2 H2=>exact ⟨_,Ry hD j1 (fun _ _ e=>by cases e),j2⟩
    | ret a2 H2=>exact ⟨_,Ry hD j1 (fun _ _ e=>by cases e),j2⟩
   | succ d =>
    have h:evK P (yM _) X none n (.code ro x a H) (fun r=>match r with | .normal a1 H1=>uZ P X n ro p y a1 H1 | _=>none)=some (a1,H1):=h
    rw [OV] at h
    cases hr:ev P X n (.code ro x a H) with
    | none=>rw [hr] at h;cases h
    | some rx =>
     rw [hr] at h
     cases rx with
     | normal a2 H2 =>
      obtain ⟨r,j1,j2⟩:=ih (c:=y) (show uZ P X n ro p y a2 H2=some (a1,H1) from h) K hJ hd
      exact ⟨r,DL (Um hD hX hr) j1,j2⟩
     | _=>cases h
  | block id x =>
   have hd:den (bZ P kD X (.leaf False) n ro p x r1 (fun r=>aX (gU id (some r)) (.leaf False) K)):=hd
   obtain ⟨r,j1,j2⟩:=ih (c:=x) h _ hJ hd
   cases hb:gU id (some r) with
   | none=>rw [hb] at j2;exact j2.elim
   | some r'=>rw [hb] at j2;exact ⟨r',Tt hD j1 hb,j2⟩
  | scope x =>
   obtain ⟨r,j1,j2⟩:=ih (c:=x) h K hJ hd
   exact ⟨r,TM hD j1,j2⟩
  | cond o x y =>
   cases ho:a.eval o with
   | bool b =>
    cases d with
    | zero =>
     have h:(match a.eval o with | .bool b=>cond b (uZ P X n ro p x a H) none | _=>none)=some (a1,H1):=h
     rw [ho] at h
     cases b with
     | true=>obtain ⟨r,j1,j2⟩:=ih (c:=x) h K hJ hd;exact ⟨r,UW hD ho j1,j2⟩
     | false=>cases h
    | succ d =>
     have h:(match a.eval o with | .bool b=>cond b none (uZ P X n ro p y a H) | _=>none)=some (a1,H1):=h
     rw [ho] at h
     cases b with
     | true=>cases h
     | false=>obtain ⟨r,j1,j2⟩:=ih (c:=y) h K hJ hd;exact ⟨r,UQ hD ho j1,j2⟩
   | _ =>
    exfalso
    cases d with
    | zero =>
     have h:(match a.eval o with | .bool b=>cond b (uZ P X n ro p x a H) none | _=>none)=some (a1,H1):=h
     rw [ho] at h;cases h
    | succ d =>
     have h:(match a.eval o with | .bool b=>cond b none (uZ P X n ro p y a H) | _=>none)=some (a1,H1):=h
     rw [ho] at h;cases h
  | _=>cases h
theorem BK (hD:aN P) {X:Ext} (hX:dC P X) {n:Nat} {ro:Option Nat}:∀ (p:List Nat) {c:Code} {a:EA} {H:EH} {a1:EA} {H1:EH},uZ P X n ro p c a H=some (a1,H1) →
 ∀ {r1:Res} (φ:Res→Prop),J P ro (sub p c) a1 H1 r1→den (bZ P kD X (.leaf False) n ro p c r1 (fun r => .leaf (φ r)))→∃ r,J P ro c a H r∧φ r :=
 fun p _ _ _ _ _ h _ φ hJ hd=>Dc hD hX p h (fun r => .leaf (φ r)) hJ hd
def dV (P:Program) (g:FuncId):Code:=match P.funcs[g]? with | some fn=>(match fn.body with | some c=>c | none => .skip) | none => .skip
def uA (P:Program) (g:FuncId):Nat:=match P.funcs[g]? with | some fn=>fn.ntmps | none=>0
def Gp (P:Program) (g:FuncId) (args:List V):Bool:=match P.funcs[g]? with
  | some fn => cond (decide (fn.name = "runtime.NumGoroutine")) false (match fn.body with | some _ => Nat.ble (lenV args) fn.ntmps | none => false)
  | none=>false
def xK (P:Program) (g:FuncId) (φ:V→Prop) (r:Res):Prop:=match P.funcs[g]? with
 | some fn=>(match dW P fn (some r) with | some (.v v _)=>φ v | _=>False)
 | none=>False
theorem WX {g:FuncId} {args:List V} {H:EH} {r:Res} {φ:V→Prop} (s:Bool) (h1:Gp P g args=true) (hJ:J P none (dV P g) ⟨gJ s args,uA P g,[]⟩ H r) (hr:xK P g φ r):∃ v H',SpecCall P g args H v H'∧φ v:=by
  unfold Gp at h1
  unfold xK at hr
  unfold dV uA at hJ
  cases hf:P.funcs[g]? with
  | none=>rw [hf] at h1;cases h1
  | some fn =>
    rw [hf] at h1 hr hJ
    simp only at h1 hr hJ
    cases hn : decide (fn.name = "runtime.NumGoroutine") with
    | true=>rw [hn] at h1;cases h1
    | false =>
      rw [hn] at h1
      simp only [cond_false] at h1
      cases hb:fn.body with
      | none=>rw [hb] at h1;cases h1
      | some c =>
        rw [hb] at h1 hJ
        simp only at h1 hJ
        cases ha:dW P fn (some r) with
        | none=>rw [ha] at hr;exact hr.elim
        | some q =>
          rw [ha] at hr
          cases q with
          | v v H'=>exact ⟨v,H',Xv hf hn hb h1 hJ ha,hr⟩
          | _=>exact hr.elim
def toA (o:Option AH):EA:=match o with | some p=>p.1 | none=>⟨.lf,0,[]⟩
def fromD (P:Program) (X:Ext) (N:Nat) (g:FuncId) (p:List Nat) (r:Res) (v:V):D:=bZ P kD X (.leaf False) N none p (dV P g) r (fun r => .leaf (xK P g (fun v'=>bC v' v) r))
def V5 (P:Program) (X:Ext) (N:Nat) (g:FuncId) (p:List Nat) (das:List DA):Option AH:=uZ P X N none p (dV P g) ⟨gJ false (enc das 0),uA P g,[]⟩ (aY (wH das 0+1))
def Fv (base:EH) (lt:LT) (n M:Nat) (a:EA):Bool:=cond (Sz base lt n M) (cond (Nat.beq a.n n) (BX a.df []) false) false
def NH (base:EH) (lt:LT) (a:EA) (s:LS):Prop:=match rowsOf base base.next (Nat.sub base.next lt.B) lt.B with | some rows=>Pj ⟨gp a lt.ts,rows⟩ s | none=>False
theorem Rz (hD:aN P) {X:Ext} (hX:dC P X) {N:Nat} {g:FuncId} {das:List DA} {v:V} {p:List Nat} {lt:LT} {n M:Nat} {lv:Lv} {h:HT} {a1:EA} {base:EH} {s0:LS} (h1:Gp P g (enc das 0)=true) (hn:uA P g=n) (hto:V5 P X N g p das=some (a1,base))
 (e1:Fv base lt n M a1=true) (e2:NH base lt a1 s0) (hL:JL P base lt n M none (sub p (dV P g)) s0 lv) (hv:vc (fromD P X N g p (lv.res lt n (fV base lt M lv)) v) h) :
 ∃ v' H',SpecCall P g (enc das 0) (aY (wH das 0+1)) v' H'∧bC v' v:=by
 subst hn
 obtain ⟨q1,e1⟩:=ax e1
 obtain ⟨q2,q3⟩:=ax e1
 unfold NH at e2
 cases hrw:rowsOf base base.next (Nat.sub base.next lt.B) lt.B with
 | none=>rw [hrw] at e2;exact e2.elim
 | some rows =>
  rw [hrw] at e2
  have e2:(⟨gp a1 lt.ts,rows⟩:LS)=s0:=uf e2
  subst e2
  have hJ:=QS hL q1 hrw (nb q2) (nJ q3) rfl
  obtain ⟨r,j1,j2⟩:=BK hD hX p hto (xK P g (fun v'=>bC v' v)) hJ (eU _ _ hv)
  exact WX false h1 j1 j2
theorem kK {X:Ext} {n:Nat} {ro:Option Nat}:∀ (p:List Nat) {c:Code} {a:EA} {H:EH} {k:EA→EH→D},den (eF P kD X (.leaf False) n ro p c a H k)→∃ a1 H1,uZ P X n ro p c a H=some (a1,H1)∧den (k a1 H1):=by
 intro p
 induction p with
 | nil=>intro c a H k h;exact ⟨a,H,rfl,h⟩
 | cons d p ih =>
  intro c a H k h
  cases c with
  | seq x y =>
   cases d with
   | zero=>exact ih (c:=x) h
   | succ d =>
    have h:den (evK P kD X (.leaf False) n (.code ro x a H) (fun r=>match r with | .normal a1 H1=>eF P kD X (.leaf False) n ro p y a1 H1 k | _ => .leaf False)):=h
    rw [lC (B:=kD) (φ:=den) (fun _ _ _=>rfl) (fun _ _=>rfl)] at h
    show ∃ a1 H1,evK P (yM _) X none n (.code ro x a H) (fun r=>match r with | .normal a1 H1=>uZ P X n ro p y a1 H1 | _=>none)=some (a1,H1)∧_
    rw [OV]
    cases hr:ev P X n (.code ro x a H) with
    | none=>rw [hr] at h;exact h.elim
    | some r =>
     rw [hr] at h
     cases r with
     | normal a1 H1=>exact ih (c:=y) h
     | _=>exact h.elim
  | block id x=>exact ih (c:=x) h
  | scope x=>exact ih (c:=x) h
  | cond o x y =>
   cases ho:a.eval o with
   | bool b =>
    cases d with
    | zero =>
     have h:den (match a.eval o with | .bool b=>kD.br b (eF P kD X (.leaf False) n ro p x a H k) (.leaf False) | _ => .leaf False):=h
     rw [ho] at h
     show ∃ a1 H1,(match a.eval o with | .bool b=>cond b (uZ P X n ro p x a H) none | _=>none)=some (a1,H1)∧_
     rw [ho]
     have h:cond b (den (eF P kD X (.leaf False) n ro p x a H k)) False:=h
     cases b with
     | true=>exact ih (c:=x) h
     | false=>exact h.elim
    | succ d =>
     have h:den (match a.eval o with | .bool b=>kD.br b (.leaf False) (eF P kD X (.leaf False) n ro p y a H k) | _ => .leaf False):=h
     rw [ho] at h
     show ∃ a1 H1,(match a.eval o with | .bool b=>cond b none (uZ P X n ro p y a H) | _=>none)=some (a1,H1)∧_
     rw [ho]
     have h:cond b False (den (eF P kD X (.leaf False) n ro p y a H k)):=h
     cases b with
     | true=>exact h.elim
     | false=>exact ih (c:=y) h
   | _ =>
    exfalso
    cases d with
    | zero =>
     have h:den (match a.eval o with | .bool b=>kD.br b (eF P kD X (.leaf False) n ro p x a H k) (.leaf False) | _ => .leaf False):=h
     rw [ho] at h;exact h
    | succ d =>
     have h:den (match a.eval o with | .bool b=>kD.br b (.leaf False) (eF P kD X (.leaf False) n ro p y a H k) | _ => .leaf False):=h
     rw [ho] at h;exact h
  | _=>exact h.elim
def XE {α:Type} (e:α→α→Prop) (a b:Option α):Prop:=match a,b with | none,none=>True | some x,some y=>e x y | _,_=>False
def nO {α:Type} (e:α→α→Prop) (t:T α):T α→Prop:=T.rec (motive:=fun _=>T α→Prop) (fun t'=>match t' with | .lf=>True | _=>False)
 (fun v _ _ ihl ihr t'=>match t' with | .nd v' l' r'=>XE e v v'∧ihl l'∧ihr r' | _=>False) (fun _ _=>False) t
theorem o7 {α:Type} {e:α→α→Prop} (he:∀ x y,e x y→x=y):∀ {t t':T α},nO e t t'→t=t':=by
 intro t
 induction t with
 | lf=>intro t' h;cases t' with | lf=>rfl | nd=>exact h.elim | fn=>exact h.elim
 | nd v l r ihl ihr =>
  intro t' h
  cases t' with
  | lf=>exact h.elim
  | fn=>exact h.elim
  | nd v' l' r' =>
   obtain ⟨h1,h2,h3⟩:=(show XE e v v'∧nO e l l'∧nO e r r' from h)
   rw [ihl h2,ihr h3]
   cases v with
   | none=>cases v' with | none=>rfl | some y=>exact h1.elim
   | some x=>cases v' with | none=>exact h1.elim | some y=>rw [he x y h1]
 | fn f=>intro t' h;exact h.elim
def zN (o o':EO):Prop:=match o,o' with
 | .cells c lo sz g,.cells c' lo' sz' g'=>cond (Nat.beq lo lo') (cond (Nat.beq sz sz') (cond (Nat.beq g g') (nO jJ c c') False) False) False
 | _,_=>False
theorem D5 {o o':EO} (h:zN o o'):o=o':=by
 unfold zN at h
 split at h
 ·rename_i c lo sz g c' lo' sz' g'
  cases h1:Nat.beq lo lo' with
  | false=>rw [h1] at h;exact h.elim
  | true =>
   cases h2:Nat.beq sz sz' with
   | false=>rw [h1,h2] at h;exact h.elim
   | true =>
    cases h3:Nat.beq g g' with
    | false=>rw [h1,h2,h3] at h;exact h.elim
    | true =>
     rw [h1,h2,h3] at h
     rw [nb h1,nb h2,nb h3,o7 (fun _ _=>dR) h]
 ·exact h.elim
def Kq (g:T qo):Bool:=match g with | .lf=>true | _=>false
def KU (H base:EH):Prop:=match H,base with
 | ⟨o,n,g,l⟩,⟨o',n',g',l'⟩=>cond (Nat.beq n n') (cond (Kq g) (cond (Kq g') (cond (Nat.beq l l') (nO zN o o') False) False) False) False
theorem Ea {H base:EH} (h:KU H base):H=base:=by
 obtain ⟨o,n,g,l⟩:=H
 obtain ⟨o',n',g',l'⟩:=base
 have h:cond (Nat.beq n n') (cond (Kq g) (cond (Kq g') (cond (Nat.beq l l') (nO zN o o') False) False) False) False:=h
 cases h1:Nat.beq n n' with
 | false=>rw [h1] at h;exact h.elim
 | true =>
  cases g with
  | lf =>
   cases g' with
   | lf =>
    cases h2:Nat.beq l l' with
    | false=>rw [h1,h2] at h;exact h.elim
    | true =>
     rw [h1,h2] at h
     rw [nb h1,nb h2,o7 (fun _ _=>D5) h]
   | _=>rw [h1] at h;exact h.elim
  | _=>rw [h1] at h;exact h.elim
def Eg (base:EH) (lt:LT) (n M:Nat) (s0:LS) (a:EA) (H:EH):Prop:=KU H base∧cond (Fv base lt n M a) (NH base lt a s0) False
def xn (P:Program) (X:Ext) (N:Nat) (g:FuncId) (p:List Nat) (das:List DA) (base:EH) (lt:LT) (n M:Nat) (s0:LS):D:=eF P kD X (.leaf False) N none p (dV P g) ⟨gJ false (enc das 0),uA P g,[]⟩ (aY (wH das 0+1)) (fun a H => .leaf (Eg base lt n M s0 a H))
theorem dn (hD:aN P) {X:Ext} (hX:dC P X) {N:Nat} {g:FuncId} {das:List DA} {v:V} {p:List Nat} {lt:LT} {n M:Nat} {lv:Lv} {h h':HT} {base:EH} {s0:LS} (h1:Gp P g (enc das 0)=true) (hn:uA P g=n) (he:vc (xn P X N g p das base lt n M s0) h')
 (hL:JL P base lt n M none (sub p (dV P g)) s0 lv) (hv:vc (fromD P X N g p (lv.res lt n (fV base lt M lv)) v) h) :
 ∃ v' H',SpecCall P g (enc das 0) (aY (wH das 0+1)) v' H'∧bC v' v:=by
 obtain ⟨a1,H1,q1,q2⟩:=kK p (eU _ _ he)
 obtain ⟨e1,e2⟩:=(show KU H1 base∧cond (Fv base lt n M a1) (NH base lt a1 s0) False from q2)
 have e1:=Ea e1
 subst e1
 cases e3:Fv H1 lt n M a1 with
 | false=>rw [e3] at e2;exact e2.elim
 | true =>
 rw [e3] at e2
 exact Rz hD hX h1 hn q1 e3 e2 hL hv
theorem fZ (p:Nat→Bool) (n:Nat):(∀ i,i<n→p i=true)∨∃ N,N<n∧(∀ i,i<N→p i=true)∧p N=false:=by
 induction n with
 | zero=>exact .inl fun i hi=>by omega
 | succ n ih =>
  rcases ih with h | ⟨N,h1,h2,h3⟩
  ·cases hp:p n with
   | true =>
    refine .inl fun i hi=>?_
    by_cases e:i=n
    ·rw [e];exact hp
    ·exact h i (by omega)
   | false=>exact .inr ⟨n,by omega,h,hp⟩
  ·exact .inr ⟨N,by omega,h2,h3⟩
theorem kS {p:Nat→Bool} {n N:Nat} (h1:N<n) (h2:p N=false):dP p n=false:=by
 cases h:dP p n with
 | false=>rfl
 | true=>rw [aQ h N h1] at h2;cases h2
end
end Go.Ev
/- Loops that write no old row, where only some of the heap's rows matter. -/
namespace Go.Ev
open Go
noncomputable section
variable {P:Program}
def setAt (rows:List (Nat×List V)) (t:T EO):T EO:=List.rec (motive:=fun _=>T EO) t (fun r _ ih=>ih.set r.1 (oK r.2 r.1)) rows
end
end Go.Ev
/- A law's last step: it returned true, all that there was is as it was: then its arguments read as before. -/
namespace Go.Law
open Go Go.ChangeShapes Go.WideShapes Go.RowKit
variable {H:Type} {enc:TypeId×Value→H} {P:Program}
theorem Aj (hl:laidOutB P=true) {W W':World} (hb:Below W.heap.size W W'):∀ {ts:List TypeId} {vs:List Value} {ds:List (DataW H)} {ps:List MemPlace},(∀ t∈ts,P.readableRec t=true∧t<P.types.size)→(∀ p∈ps,p.block<W.heap.size) →
 DataW.TrodAll enc P W 0 (fun _=>true) true ts vs ds ps→DataW.TrodAll enc P W' 0 (fun b=>decide (b<W.heap.size)) true ts vs ds ps
 | [],vs,ds,ps,_,_,h=>by
  obtain ⟨rfl,rfl,rfl⟩:=trodAll_nil h
  exact trodAll_mk0
 | t::ts,vs,ds,ps,ht,hp,h=>by
  obtain ⟨v,vs',d,ds',p,q,rfl,rfl,rfl,h1,h2⟩:=trodAll_cons h
  obtain ⟨r1,r2⟩:=ht t (by simp)
  exact trodAll_cons_mk (hb.trod hl r1 r2 h1 (fun x hx=>hp x (by simp [hx]))) (Aj hl hb (fun t' h'=>ht t' (by simp [h'])) (fun x hx=>hp x (by simp [hx])) h2)
theorem law_post {f:Func} {s:ChangeSpec} {apart fresh handsOn:Bool} {W W':World} {args:Array Value} {ds gs:List (DataW H)} {before:List MemPlace} (hl:laidOutB P=true) {tb:TypeId} (hf:f.resultTypes=#[tb]) (htb:P.underlying tb=some .bool)
 (hread:∀ t∈f.params.toList,P.readableRec t=true∧t<P.types.size) (hvars:s.vars=[]) (hW:DataW.Whole enc P f.params.toList s.vars apart W args.toList ds gs before)
 (hres:(s.fn H ds).results=[.lit (.bool true)]) (hargs:(s.fn H ds).args=ds) (hvs:(s.fn H ds).vars=[]) (hb:Below W.heap.size W W'):s.post enc P f apart fresh handsOn false W args (.bool true) W':=by
 have hlt:=hW.lt
 have hW':=hW
 obtain ⟨p,q,h1,h2,rfl,_,_⟩:=hW'
 rw [hvars] at h2
 obtain ⟨rfl,rfl⟩:=trodVars_none h2
 have hlt':∀ x∈p,x.block<W.heap.size:=fun x hx=>hlt x (by simp [hx])
 refine ⟨ds,[],p++[],[],p,[],hW,?_,?_,?_,World.keptBut_mono (fun x hx=>⟨hx,.inr (.inl (by simpa using hx))⟩) (hb.frame _),fun h=>by cases h⟩
 ·rw [hf,List.append_nil,hres]
  exact trodAll_cons_mk (shut_bool htb true) trodAll_mk0
 ·rw [List.append_nil,hargs]
  exact Aj hl hb hread hlt' h1
 ·rw [List.append_nil,hvars,hvs]
  rfl
end Go.Law
/- From a law's contract to what is said of it: its arguments are read from the world. -/
namespace Go.Ev
open Go
noncomputable section
variable {P:Program}
theorem jU {m:Nat} {t:TypeId} {k:IntKind} {v:V} (hu:P.underlying t=some (.int k)) (h:ShC P (m+1) t v):∃ n,v = .int k n∧k.min≤n∧n≤k.max:=by
 unfold ShC at h;rw [hu] at h;exact h
theorem SL {m:Nat} {t:TypeId} {v:V} (hu:P.underlying t=some .bool) (h:ShC P (m+1) t v):∃ b,v = .bool b:=by
 unfold ShC at h;rw [hu] at h;exact h
theorem uM {m:Nat} {t e:TypeId} {v:V} (hu:P.underlying t=some (.slice e)) (h:ShC P (m+1) t v):∃ c len,v = .fz true 0 c len (P.cellsOf e)∧∀ i,i<len→∀ j u,(bP P 8 e)[j]?=some u→ShC P m u (c i j):=by
 unfold ShC at h;rw [hu] at h;exact h
theorem DY {m:Nat} {t e:TypeId} {v:V} {q:TypeId} {n:Nat} (hu:P.underlying t=some (.slice e)) (hn:P.cellsOf e=n) (hf:bP P 8 e=List.replicate n q) (hq:P.underlying q=some (.int .i64)) (h:ShC P (m+2) t v) :
 ∃ c len,v = .fz true 0 c len n∧aO .i64 c len n=true∧∀ i j,i<len→j<n→IntKind.i64.min≤cO (c i j)∧cO (c i j)≤IntKind.i64.max:=by
 obtain ⟨c,len,h1,h2⟩:=uM hu h
 rw [hn] at h1
 have key:∀ i j,i<len→j<n→∃ x,c i j = .int .i64 x∧IntKind.i64.min≤x∧x≤IntKind.i64.max:=fun i j hi hj =>
  jU hq (h2 i hi j q (by rw [hf];simp [hj]))
 refine ⟨c,len,h1,bu fun i hi=>bu fun j hj=>?_,fun i j hi hj=>?_⟩
 ·obtain ⟨x,e,_⟩:=key i j hi hj
  rw [e];rfl
 ·obtain ⟨x,e,q1,q2⟩:=key i j hi hj
  rw [e];exact ⟨q1,q2⟩
theorem Nh {x:Value} (h:x.cells.size≠1):x = .agg x.cells:=by
 cases x<;>first | rfl | exact absurd rfl h
variable {W:World} {H:Type} {enc:TypeId×Value→H} {sp:Nat→Bool} {x:Value} {d:DataW H} {ps:List MemPlace}
theorem IB {t:TypeId} {n:Nat} {fs:Array Field} (hf:kN P 8 t=true) (hu:P.underlying t=some (.struct fs)) (hn:P.cellsOf t=n) (hl:(bP P 8 t).length=n) (h1:n≠1) (h:DataW.Trod enc P W 0 sp true t x d ps) :
 ∃ vs:List V,vs.length=n∧VR (qW W) (.agg n (T.setL .lf 0 vs)) x∧∀ i (h:i<vs.length) u,(bP P 8 t)[i]?=some u→ShC P 8 u vs[i]:=by
 have hsz:x.cells.size=n:=by
  obtain ⟨fuel,h⟩:=h
  cases fuel with
  | zero=>cases h
  | succ fuel =>
   have:=(trod_struct hu h).1
   rw [hn] at this
   simpa using this
 obtain ⟨vs,q1,q2⟩:=Nq hf h (by omega)
 rw [hl] at q1
 refine ⟨vs,q1,?_,fun i hi u hu=>(q2 i hi (by omega)).2.2 u hu⟩
 rw [Nh (x:=x) (by omega)]
 have:=VJ (R:=qW W) (vs:=vs) (cs:=x.cells) (by omega) (fun i h1 h2=>⟨(q2 i h1 h2).1,(q2 i h1 h2).2.1⟩)
 rw [q1] at this
 exact this
theorem okWide_int {r:Reach} {base:Nat} {t:TypeId} {k:IntKind} (hu:P.underlying t=some (.int k)) (h:Value.okWide P W r base t x):∃ k' n,x = .int k' n:=by
 unfold Value.okWide at h
 rw [hu] at h
 simp only at h
 unfold Cell.okWide at h
 rw [hu] at h
 cases x<;>first | exact ⟨_,_,rfl⟩ | (simp only at h;unfold Cell.ok at h;rw [hu] at h;exact h.elim)
theorem wP {r:Reach} {base:Nat} {t:TypeId} {k:IntKind} (hu:P.underlying t=some (.int k)) (hok:Value.okWide P W r base t x) (h:DataW.Trod enc P W 0 sp true t x d ps):∃ n,VR (qW W) (.int k n) x∧k.min≤n∧n≤k.max:=by
 obtain ⟨k',n',rfl⟩:=okWide_int hu hok
 obtain ⟨fuel,h⟩:=h
 cases fuel with
 | zero=>cases h
 | succ fuel =>
  obtain ⟨n,h1,h2,h3⟩:=trod_int hu h
  have h1:[Value.int k' n']=[Value.int k n]:=h1
  injection h1 with h1
  injection h1 with e1 e2
  subst e1;subst e2
  exact ⟨n',.int _ _,h2,h3⟩
theorem sN {R:Ren} {v:V} {l:List V} {x:Value} {xs:List Value} (h:VR R v x) (h2:AL R l xs.toArray):AL R (v::l) (x::xs).toArray:=by
 have:=AL.cons.2 ⟨x,xs.toArray,rfl,h,h2⟩
 simpa using this
end
end Go.Ev
