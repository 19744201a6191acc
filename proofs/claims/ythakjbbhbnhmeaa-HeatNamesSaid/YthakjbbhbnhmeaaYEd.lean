/- The evaluator, its answers handed on: where a bool is asked that is no literal, both ways are gone. What it hands on is what the evaluator answers. -/
import Derived.DataReads
import GoSem.ClaimChange
import Derived.Below
import Derived.Carry
import Derived.ProofKit
import Derived.OpenShut
import Derived.Test.YthakjbbhbnhmeaaYEc
set_option linter.all false
set_option linter.unusedSimpArgs false
set_option linter.unusedVariables false
namespace Go.Ev
open Go
noncomputable section
variable {α:Type}
def ay {β:Type} (o:Option β) (z:α) (k:β→α):α:=match o with | some b=>k b | none=>z
structure KP (α:Type) where
 br:Bool→α→α→α
 num:Int→(Int→α)→α
 s:Bool
abbrev bW (α:Type):=Task→(Res→α)→α
def ax (r:VO) (z:α) (k:V→EH→α):α:=match r with | some (v,H)=>k v H | none=>z
def P8 (b want:Bool) (yes no:α):α:=cond (dA b want) yes no
def wP (B:KP α) (ops:Array Oper) (a:EA) (g:Option (Nat×Bool)) (z:α) (yes no:EA→α):α:=match g with
 | none=>yes a
 | some (j,want)=>match ops[j]? with
  | some o'=>match o'.dst with
   | some d=>match a.get d with
    | .bool b=>B.br b (P8 true want (yes (a.put (some d) (.bool true))) (no (a.put (some d) (.bool true)))) (P8 false want (yes (a.put (some d) (.bool false))) (no (a.put (some d) (.bool false))))
    | .bad=>z
    | _=>no a
   | none=>z
  | none=>z
def yf (b:Bool) (r:Option Bool):Option Bool:=match r with | some r=>some (cond b r false) | none=>(match b with | true=>none | false=>some false)
def LY (P:Program) (l:List Field) (c d:T V):Nat→Option Bool :=
 List.rec (motive:=fun _=>Nat→Option Bool) (fun _=>some true)
  (fun f _ ih i=>match eqK (fk P f.type) (c.get i) (d.get i) with | some b=>yf b (ih (Nat.succ i)) | none=>none) l
def MQ (k:FK) (c d:T V) (n:Nat):Nat→Option Bool :=
 Nat.rec (motive:=fun _=>Nat→Option Bool) (fun _=>some true)
  (fun _ ih i=>match eqK k (c.get i) (d.get i) with | some b=>yf b (ih (Nat.succ i)) | none=>none) n
def Fv (P:Program) (t:TypeId) (n:Nat) (c d:T V):Option Bool:=match P.underlying t with
 | some (.struct fs)=>cond (lZ P t fs n) (LY P fs.toList c d 0) (cond (dP P t n) (qX P c d 4 t 0) none)
 | some (.array len e)=>cond (wQ P e len n) (MQ (fk P e) c d n 0) (cond (dP P t n) (qX P c d 4 t 0) none)
 | _=>none
def tX (B:KP α) (kd:IntKind) (n:Int) (k:V→α):α:=match kd with | .i64=>B.br (small n) (k (.int .i64 n)) (k (.int .i64 (IntKind.wrap .i64 n))) | kd=>k (.int kd (kd.wrap n))
def Dt (B:KP α) (op:BinOp) (kd:IntKind) (a b:Int) (z:α) (k:V→α):α:=match op with
 | .add=>cond B.s (tX B kd (a+b) k) (k (.int kd (wr kd (Int.add a b))))
 | .sub=>cond B.s (tX B kd (a-b) k) (k (.int kd (wr kd (Int.sub a b))))
 | .mul=>cond B.s (tX B kd (a*b) k) (k (.int kd (wr kd (Int.mul a b))))
 | .quo=>B.br (pI b 0) z (cond B.s (tX B kd (Int.tdiv a b) k) (k (.int kd (wr kd (Int.tdiv a b)))))
 | .rem=>B.br (pI b 0) z (k (.int kd (Int.tmod a b)))
 | op=>ay (jm op kd a b) z k
def Tn (op:BinOp):Bool:=match op with | .shl=>true | .shr=>true | _=>false
def Ri (P:Program) (B:KP α) (op:BinOp) (t:TypeId) (x y:V) (z:α) (k:V→α):α:=match x,y with
 | .int kd a,.int kd' b=>cond (Tn op) (ay (yJ P op t (.int kd a) (.int kd' b)) z k) (cond (dH kd kd') (Dt B op kd a b z k) z)
 | .agg n c,.agg n' d=>cond (Nat.beq n n') (cond (P.eqGuardType P.depth t) z (ay (eqV op (Fv P t n c d)) z k)) z
 | x,y=>ay (yJ P op t x y) z k
def KU (B:KP α) (c x y:V) (H:EH) (z:α) (k:V→EH→α):α:=match c with | .bool b=>B.br b (k x H) (k y H) | _=>z
def unK (B:KP α) (op:UnOp) (x:V) (H:EH) (z:α) (k:V→EH→α):α:=match op,x with
 | .neg,.int kd n=>cond B.s (tX B kd (0-n) (fun v=>k v H)) (k (.int kd (wr kd (Int.sub 0 n))) H)
 | op,x=>ax (Ar op x H) z k
def Nu (P:Program) (B:KP α) (src dst:TypeId) (x:V) (H:EH) (z:α) (k:V→EH→α):α:=match P.underlying src,P.underlying dst,x with
 | some _,some (.int kd),.int _ n=>cond B.s (tX B kd n (fun v=>k v H)) (k (.int kd (kd.wrap n)) H)
 | _,_,_=>z
def zy (B:KP α) (v:V) (k:V→α):α:=match v with | .int kd n=>B.num n (fun n=>k (.int kd n)) | v=>k v
def numO (B:KP α) (o:Option V) (k:Option V→α):α:=match o with | some v=>zy B v (fun v=>k (some v)) | none=>k none
def ixK (P:Program) (B:KP α) (t:TypeId) (x i:V) (H:EH) (z:α) (k:V→EH→α):α:=match P.underlying t,x,i with
 | some (.slice elem),.fz _ ag c len e,.int _ n=>(match aN P elem with
  | some e'=>cond (Nat.beq e e') (B.br (iIn n len) (k (.fp ag (c n.toNat) e 0) H) z) z
  | none=>z)
 | _,x,i=>zy B i fun i=>ax (aQ P t x i H) z k
def MV (l:List Int):Int→Int:=List.rec (motive:=fun _=>Int→Int) (fun _=>0) (fun x _ ih n=>cond (pI n 0) x (ih (Int.sub n 1))) l
def QF (x:Int) (r:Option (List Int)):Option (List Int):=match r with | some l=>some (x::l) | none=>none
def F9 (c:T V) (n:Nat):Nat→Option (List Int):=Nat.rec (motive:=fun _=>Nat→Option (List Int)) (fun _=>some []) (fun _ ih p=>match c.get p with | some (.int .i64 x)=>QF x (ih (Nat.succ p)) | _=>none) n
def SK (B:KP α) (len n:Nat) (s:Option Nat) (kd:TK) (l:Option (List Int)) (m:Int) (H:EH) (z:α) (k:V→EH→α) (gen:α):α:=match s,kd,l with
 | some 1,.one,some l=>cond (Nat.ble len n) (B.br (iIn m len) (k (.int .i64 (MV l m)) H) z) gen
 | _,_,_=>gen
def Q8 (P:Program) (B:KP α) (t:TypeId) (x i:V) (H:EH) (z:α) (k:V→EH→α):α:=match P.underlying t,x,i with
 | some (.array len elem),.agg n c,.int kd m=>SK B len n (aN P elem) (lX P elem) (F9 c len 0) m H z k (zy B (.int kd m) fun i=>ax (cu P t (.agg n c) i H) z k)
 | _,x,i=>zy B i fun i=>ax (cu P t x i H) z k
def mulS (len e:Nat):Nat:=match e with | 1=>len | e=>Nat.mul len e
def Nh (off n:Nat):Nat:=match off with | 0=>n | off=>Nat.add off n
def PX (H:EH) (e off len m:Nat) (c:T V) (grp n sz':Nat) (g:qW) (k:V→EH→α):α :=
 fN H.next fun b=>k (.slice b off (Nat.add len m) e) ⟨H.objs.set b (.cells c off sz' grp),Nat.succ b,H.grps.set grp (appG H.grps g n sz' b),aA H.low grp⟩
def Nq (B:KP α) (H:EH) (e b off len:Nat) (xs:Cs) (z:α) (k:V→EH→α):α:=match H.block b with
 | .mk c lo sz grp=>cond (Nat.ble lo off) (B.br (Nat.ble (Nh off (mulS len e)) sz) (match di xs.c xs.n xs.off (Nh off (mulS len e)) c with
  | some c=>PX H e off len xs.m c grp (Nh off (mulS len e)) (Nat.add (Nh off (mulS len e)) xs.n) (dJ H grp sz b) k
  | none=>z) z) z
 | .no=>z
def Ls (P:Program) (B:KP α) (elem:TypeId) (e:Nat) (s x:V) (H:EH) (z:α) (k:V→EH→α):α:=match bM H e x with
 | some xs=>(match s with
  | .slice b off len e'=>B.br (iU P elem e (Nat.add len xs.m)) (cond (Nat.beq xs.m 0) (k (.slice b off len e') H) (cond (Nat.beq e e') (Nq B H e b off len xs z k) z)) z
  | s=>ax (cond (iU P elem e (Nat.add (JE s) xs.m)) (H.appendV e s xs) none) z k)
 | none=>z
def GK (P:Program) (B:KP α) (st xt:TypeId) (s x:V) (H:EH) (z:α) (k:V→EH→α):α:=match P.underlying st,P.underlying xt with
 | some (.slice elem),some (.slice _)=>(match aN P elem with
  | some e=>cond (OV e s x) (B.br (Nat.ble (mD x) 1048576) (ax (DX P elem e s x H) z k) z) (Ls P B elem e s x H z k)
  | none=>z)
 | _,_=>z
def DJ (P:Program) (B:KP α) (c:Call) (a:EA) (H:EH) (z:α) (k:V→EH→α):α:=match c.callee with
 | .builtin .append=>(match c.argTypes.toList,mapO a c.args.toList with
  | st::xt::_,s::x::_=>cond (mZ (P.underlying xt)) (ax (Io P st s x H) z k) (GK P B st xt s x H z k)
  | _,_=>z)
 | _=>ax (eF (.call c) P a H) z k
def Dk (P:Program) (B:KP α) (op:Op) (a:EA) (H:EH) (z:α) (k:V→EH→α):α:=match op with
 | .binOp op t x y _=>Ri P B op t (a.eval x) (a.eval y) z (fun v=>k v H)
 | .pick c x y=>KU B (a.eval c) (a.eval x) (a.eval y) H z k
 | .unOp op _ x=>unK B op (a.eval x) H z k
 | .convert src dst x=>Nu P B src dst (a.eval x) H z k
 | .slice t x lo hi none=>numO B (EX a lo) fun lo=>numO B (EX a hi) fun hi=>ax (lH P t (a.eval x) lo hi H) z k
 | .indexAddr t x i=>ixK P B t (a.eval x) (a.eval i) H z k
 | .call c=>DJ P B c a H z k
 | .index t x i=>Q8 P B t (a.eval x) (a.eval i) H z k
 | op=>ax (eF op P a H) z k
def Tq (z:α) (k:V→EH→α) (r:Res):α:=match r with | .v v H=>k v H | _=>z
def IJ (P:Program) (B:KP α) (fK:bW α) (op:Op) (a:EA) (H:EH) (z:α) (k:V→EH→α):α:=match lN op with
 | .light=>Dk P B op a H z k
 | .heavy g args=>fK (.callV (a.eval g) (mapO a args.toList) H) (Tq z k)
def Ov (P:Program) (B:KP α) (fK:bW α) (ops:Array Oper) (z:α) (l:List Oper):EA→EH→(Res→α)→α :=
 List.rec (motive:=fun _=>EA→EH→(Res→α)→α) (fun a H k=>k (.normal a H))
  (fun o _ ih a H k=>wP B ops a o.guard z (fun a=>IJ P B fK o.op a H z (fun v H'=>ih (a.put o.dst v) H' k)) (fun a=>ih (a.put o.dst skp) H k)) l
def tN (P:Program) (B:KP α) (fK:bW α) (ops:Array Oper) (z:α) (l:List Oper):EA→EH→(RR→α)→α :=
 List.rec (motive:=fun _=>EA→EH→(RR→α)→α) (fun a H k=>k ⟨a,H,[],[(a,H)]⟩)
  (fun o _ ih a H k=>wP B ops a o.guard z
   (fun a=>IJ P B fK o.op a (lowTo H big) z (fun v H'=>ih (a.put o.dst v) (lowTo H' (aA H.low H'.low)) (fun r=>k ⟨r.a,r.H,jI o.op a H H' (lN o.op)::r.fps,(a,H)::r.st⟩)))
   (fun a=>ih (a.put o.dst skp) H (fun r=>k ⟨r.a,r.H,⟨0,0,[],[],0⟩::r.fps,(a,H)::r.st⟩))) l
def QJ (fK:bW α) (ro:Option Nat) (y:Code) (k:Res→α) (r:Res):α:=match r with
 | .normal a H=>fK (.code ro y a H) k
 | r=>k r
def PQ (B:KP α) (fK:bW α) (ro:Option Nat) (c:Operand) (x y:Code) (a:EA) (H:EH) (z:α) (k:Res→α):α:=match c with
 | .tmp t=>match a.get t with
  | .bool b=>B.br b (fK (.code ro x (a.put (some t) (.bool true)) H) k) (fK (.code ro y (a.put (some t) (.bool false)) H) k)
  | _=>z
 | c=>match a.eval c with
  | .bool b=>B.br b (fK (.code ro x a H) k) (fK (.code ro y a H) k)
  | _=>z
def KC (fK:bW α) (ro:Option Nat) (a1:EA) (H:EH) (k:Res→α) (pend:Option Code):α:=match pend with
 | none=>k (.normal a1 H)
 | some c=>fK (.code ro c a1 H) k
def DV (fK:bW α) (ro:Option Nat) (l:Nat) (a1:EA) (z:α) (k:Res→α) (r:Res):α:=match r with
 | .v _ H=>match H.objs.get l with
  | some (.loop st pend tm n ps as bd df)=>cond (jB st) (KC fK ro a1 (bz H l .exhausted pend tm n ps as bd df) k pend) z
  | _=>z
 | _=>z
def QQ (fK:bW α) (g:V) (args:List V) (H:EH) (z:α) (k:Res→α):α:=match g with
 | .func g first captured=>fK (.call g (app3 first args captured) H) k
 | _=>z
def rG (fK:bW α) (ro:Option Nat) (g:V) (ps:Array Tmp) (as bd:Code) (a a1:EA) (d:Nat) (H:EH) (z:α) (k:Res→α):α :=
 fN H.next fun l=>QQ fK g [.yld l] ⟨H.objs.set l (.loop .ready none a.tm a.n ps as bd d),Nat.succ l,H.grps,H.low⟩ z (DV fK ro l a1 z k)
def DK (fK:bW α) (ro:Option Nat) (g:Operand) (ps:Array Tmp) (as bd:Code) (a:EA) (H:EH) (z:α) (k:Res→α):α :=
 match ro with
 | some l0=>match H.objs.get l0 with
  | some (.loop _ _ _ _ _ _ _ df)=>rG fK ro (a.eval g) ps as bd a a df H z k
  | _=>z
 | none=>fN H.next fun l0=>rG fK ro (a.eval g) ps as bd a ⟨a.tm,a.n,l0::a.df⟩ l0 ⟨H.objs.set l0 (.dfr true),Nat.succ l0,H.grps,H.low⟩ z k
def LM (P:Program) (f:Task→Option Res) (fK:bW α) (ro:Option Nat) (body:Code) (a:EA) (H:EH) (z:α) (k:Res→α):α:=match bJ body with
 | some ml=>ay (iW P f ro ml a H) z k
 | none=>fK (.code ro body a H) (QJ fK ro (.loop body) k)
def PM (P:Program) (B:KP α) (f:Task→Option Res) (fK:bW α) (ro:Option Nat) (c:Code) (a:EA) (H:EH) (z:α) (k:Res→α):α:=match c with
 | .region _ ops false=>Ov P B fK ops z ops.toList a H k
 | .region _ ops true=>cond (eP ops) (tN P B fK ops z ops.toList a H (fun r=>ay (doneD P ops (some r)) z k)) z
 | .seq x y=>fK (.code ro x a H) (QJ fK ro y k)
 | .cond c x y=>PQ B fK ro c x y a H z k
 | .block id c=>fK (.code ro c a H) (fun r=>ay (bH id (some r)) z k)
 | .loop body=>LM P f fK ro body a H z k
 | .rangeFunc g ps as bd=>DK fK ro g ps as bd a H z k
 | .scope c=>fK (.code ro c a H) k
 | c=>ay (sK c P f ro a H) z k
def fnK (P:Program) (s:Bool) (fK:bW α) (fn:Func) (args:List V) (H:EH) (z:α) (k:Res→α):α:=match fn.body with
 | some c=>cond (Nat.ble (lenV args) fn.ntmps) (fK (.code none c ⟨initT s args,fn.ntmps,[]⟩ H) (fun r=>ay (aI P fn (some r)) z k)) z
 | none=>z
def xC (P:Program) (s:Bool) (fK:bW α) (g:FuncId) (args:List V) (H:EH) (z:α) (k:Res→α):α:=match P.funcs[g]? with
  | some fn => cond (decide (fn.name = "runtime.NumGoroutine")) z (fnK P s fK fn args H z k)
  | none=>z
def O3 (fK:bW α) (l:Nat) (bd:Code) (z:α) (k:Res→α) (r:Res):α:=match r with
 | .normal a H=>match H.objs.get l with
  | some (.loop .ready pend tm n ps as bd' df)=>fK (.code (some l) bd a (bz H l .busy pend tm n ps as bd' df)) (fun r=>ay (bT l (some r)) z k)
  | _=>z
 | _=>z
def CW (fK:bW α) (l:Nat) (args:List V) (H:EH) (z:α) (k:Res→α):α:=match H.objs.get l with
 | some (.loop _ _ tm n ps as bd _)=>match jg n ps.toList args tm with
  | some tm'=>fK (.code (some l) as ⟨tm',n,[]⟩ H) (O3 fK l bd z k)
  | none=>z
 | _=>z
def NJ (fK:bW α) (fv:V) (args:List V) (H:EH) (z:α) (k:Res→α):α:=match fv with
 | .func g first captured=>fK (.call g (app3 first args captured) H) k
 | .yld l=>CW fK l args H z k
 | _=>z
def TQ (P:Program) (B:KP α) (s:Bool) (fK:bW α) (g:FuncId) (args:List V) (H:EH) (z:α) (k:Res→α) (v:Option (Bool×V)):α:=match v with | some (b,v)=>B.br b (k (.v v (xk H))) (xC P s fK g args H z k) | none=>xC P s fK g args H z k
def wS (P:Program) (B:KP α) (s:Bool) (fK:bW α) (g:FuncId) (args:List V) (H:EH) (z:α) (k:Res→α) (x:Option (List V→EH→Option (Bool×V))):α:=match x with
 | none=>xC P s fK g args H z k
 | some x=>TQ P B s fK g args H z k (x args H)
def PV (P:Program) (B:KP α) (X:Ext) (f:Task→Option Res) (fK:bW α) (z:α) (t:Task) (k:Res→α):α:=match t with
 | .call g args H=>wS P B X.sym fK g args H z k (X g)
 | .callV fv args H=>NJ fK fv args H z k
 | .code ro c a H=>PM P B f fK ro c a H z k
def evK (P:Program) (B:KP α) (X:Ext) (z:α) (n:Nat):bW α:=Nat.rec (motive:=fun _=>bW α) (fun _ _=>z) (fun n ih=>PV P B X (ev P X n) ih z) n
theorem T.set_same {β:Type}:∀ (t:T β) (k:Nat) (v:β),t.get k=some v→t.set k v=t:=by
 intro t
 induction t with
 | lf=>intro k v h;cases h
 | nd x l r ihl ihr =>
  intro k v h
  rw [T.get_nd] at h
  rw [T.set_nd]
  by_cases h0:k=0
  ·rw [if_pos h0] at h ⊢;rw [h]
  ·rw [if_neg h0] at h ⊢
   by_cases h1:k%2=1
   ·rw [if_pos h1] at h ⊢;rw [ihl _ _ h]
   ·rw [if_neg h1] at h ⊢;rw [ihr _ _ h]
 | fn f =>
  intro k v h
  show T.fn _=T.fn f
  congr 1
  funext i
  rw [ai]
  by_cases e:i=k
  ·subst e;rw [if_pos rfl];exact h.symm
  ·rw [if_neg e]
theorem nJ {a:EA} {d:Nat} {v:V} (h:a.get d=v) (hb:v ≠ .bad):a.put (some d) v=a:=by
 have h:getD' a.tm d=v:=h
 have hg:a.tm.get d=some v:=by
  unfold getD' at h
  split at h
  ·rename_i x e;rw [e,h]
  ·exact absurd h.symm hb
 show cond (Nat.blt d a.n) (⟨a.tm.set d v,a.n,a.df⟩:EA) a=a
 rw [T.set_same _ _ _ hg]
 cases Nat.blt d a.n<;>rfl
section
variable {β:Type} {B:KP α} {φ:α→β} (hφ:∀ c x y,φ (B.br c x y)=cond c (φ x) (φ y)) (hν:∀ n k,φ (B.num n k)=φ (k n))
omit hφ in
include hν in
theorem zt (v:V) (k:V→α):φ (zy B v k)=φ (k v):=by
 cases v<;>first | rfl | exact hν _ _
omit hφ in
include hν in
theorem Gi (o:Option V) (k:Option V→α):φ (numO B o k)=φ (k o):=by
 cases o with
 | none=>rfl
 | some v=>exact zt hν v (fun v=>k (some v))
include hφ
theorem Bc (ops:Array Oper) (a:EA) (g:Option (Nat×Bool)) (z:α) (yes no:EA→α):φ (wP B ops a g z yes no)=(match aU ops a g with | .yes=>φ (yes a) | .no=>φ (no a) | .unk=>φ z):=by
 unfold wP aU
 cases g with
 | none=>rfl
 | some p =>
  obtain ⟨j,want⟩:=p
  simp only
  cases ops[j]? with
  | none=>rfl
  | some o' =>
   simp only
   cases o'.dst with
   | none=>rfl
   | some d =>
    simp only
    cases hv:a.get d with
    | bool b =>
     simp only [w3]
     rw [hφ]
     cases b
     ·rw [nJ hv (by intro e;cases e)]
      cases want<;>rfl
     ·rw [nJ hv (by intro e;cases e)]
      cases want<;>rfl
    | _=>rfl
omit hφ in
theorem MK (P:Program) (c d:T V):∀ (l:List Field) (i:Nat),LY P l c d i=ug P l c d i:=by
 intro l
 induction l with
 | nil=>intro i;rfl
 | cons f l ih =>
  intro i
  show (match eqK (fk P f.type) (c.get i) (d.get i) with | some b=>yf b (LY P l c d (i+1)) | none=>none)=(match eqK (fk P f.type) (c.get i) (d.get i) with | some true=>ug P l c d (i+1) | r=>r)
  rw [ih]
  cases eqK (fk P f.type) (c.get i) (d.get i) with
  | none=>rfl
  | some b =>
   cases b<;>cases ug P l c d (i+1)<;>rfl
omit hφ in
theorem Na (k:FK) (c d:T V):∀ (n:Nat) (i:Nat),MQ k c d n i=yw k c d n i:=by
 intro n
 induction n with
 | zero=>intro i;rfl
 | succ n ih =>
  intro i
  show (match eqK k (c.get i) (d.get i) with | some b=>yf b (MQ k c d n (i+1)) | none=>none)=(match eqK k (c.get i) (d.get i) with | some true=>yw k c d n (i+1) | r=>r)
  rw [ih]
  cases eqK k (c.get i) (d.get i) with
  | none=>rfl
  | some b =>
   cases b<;>cases yw k c d n (i+1)<;>rfl
omit hφ in
theorem Jj (P:Program) (t:TypeId) (n:Nat) (c d:T V):Fv P t n c d=fA P t n c d:=by
 unfold Fv fA
 cases P.underlying t with
 | none=>rfl
 | some u=>cases u<;>first | rfl | (simp only [MK];done) | (simp only [Na])
theorem GI (kd:IntKind) (n:Int) (k:V→α):φ (tX B kd n k)=φ (k (.int kd (kd.wrap n))):=by
 cases kd with
 | i64 =>
  show φ (B.br (small n) (k (.int .i64 n)) (k (.int .i64 (IntKind.wrap .i64 n))))=_
  rw [hφ]
  have:=Nj .i64 n
  have e:wr .i64 n=cond (small n) n (IntKind.wrap .i64 n):=rfl
  rw [e] at this
  cases h:small n with
  | true=>rw [h] at this;rw [← this];rfl
  | false=>rfl
 | _=>rfl
theorem su {z:α} (kd:IntKind) (n:Int) (k:V→α):φ (cond B.s (tX B kd n k) (k (.int kd (wr kd n))))=ay (vI kd n) (φ z) (fun v=>φ (k v)):=by
 rw [FH]
 cases B.s with
 | true=>exact GI hφ kd n k
 | false=>show φ (k (.int kd (wr kd n)))=_;rw [Nj];rfl
theorem Jb (op:BinOp) (kd:IntKind) (a b:Int) (z:α) (k:V→α):φ (Dt B op kd a b z k)=ay (jm op kd a b) (φ z) (fun v=>φ (k v)):=by
 have els:∀ o:Option V,φ (ay o z k)=ay o (φ z) (fun v=>φ (k v)):=fun o=>by cases o<;>rfl
 have e:=els (jm op kd a b)
 clear els
 cases op with
 | add=>exact su hφ kd (a+b) k
 | sub=>exact su hφ kd (a-b) k
 | mul=>exact su hφ kd (a*b) k
 | quo =>
  show φ (B.br (pI b 0) z (cond B.s (tX B kd (Int.tdiv a b) k) (k (.int kd (wr kd (Int.tdiv a b))))))=ay (cond (pI b 0) none (vI kd (Int.tdiv a b))) (φ z) (fun v=>φ (k v))
  rw [hφ,su hφ (z:=z) kd (Int.tdiv a b) k]
  cases pI b 0<;>rfl
 | rem =>
  show φ (B.br (pI b 0) z (k (.int kd (Int.tmod a b))))=ay (cond (pI b 0) none (fI (Int.tmod a b) fun n=>some (.int kd n))) (φ z) (fun v=>φ (k v))
  rw [hφ,uU]
  cases pI b 0<;>rfl
 | _=>exact e
theorem Ph (P:Program) (op:BinOp) (t:TypeId) (x y:V) (z:α) (k:V→α):φ (Ri P B op t x y z k)=ay (yJ P op t x y) (φ z) (fun v=>φ (k v)):=by
 have els:∀ o:Option V,φ (ay o z k)=ay o (φ z) (fun v=>φ (k v)):=fun o=>by cases o<;>rfl
 unfold Ri
 split
 ·rename_i kd a kd' b
  cases hs:Tn op with
  | true=>exact els _
  | false =>
   show φ (cond (dH kd kd') (Dt B op kd a b z k) z)=ay (OC op kd a kd' b) (φ z) (fun v=>φ (k v))
   have:OC op kd a kd' b=cond (dH kd kd') (jm op kd a b) none:=by cases op<;>first | rfl | cases hs
   rw [this]
   cases dH kd kd' with
   | true=>exact Jb hφ op kd a b z k
   | false=>rfl
 ·rename_i n c n' d
  show _=ay (cond (Nat.beq n n') (cond (P.eqGuardType P.depth t) none (eqV op (fA P t n c d))) none) (φ z) (fun v=>φ (k v))
  rw [Jj]
  cases Nat.beq n n' with
  | false=>rfl
  | true =>
   cases P.eqGuardType P.depth t with
   | true=>rfl
   | false=>exact els _
 ·exact els _
include hν in
theorem QV (P:Program) (t:TypeId) (x i:V) (H:EH) (z:α) (k:V→EH→α):φ (ixK P B t x i H z k)=ax (aQ P t x i H) (φ z) (fun v H=>φ (k v H)):=by
 have els:∀ o:VO,φ (ax o z k)=ax o (φ z) (fun v H=>φ (k v H)):=fun o=>by cases o<;>rfl
 have gen:φ (zy B i fun i=>ax (aQ P t x i H) z k)=ax (aQ P t x i H) (φ z) (fun v H=>φ (k v H)):=by rw [zt hν];exact els _
 unfold ixK
 split
 ·rename_i elem q ag c len e kd n hu
  have hev:aQ P t (.fz q ag c len e) (.int kd n) H=ixF ag c len e (aN P elem) n H:=by unfold aQ;rw [hu]
  rw [hev]
  unfold ixF
  cases aN P elem with
  | none=>rfl
  | some e' =>
   simp only
   cases Nat.beq e e' with
   | false=>rfl
   | true =>
    show φ (B.br (iIn n len) (k (.fp ag (c n.toNat) e 0) H) z)=ax (cond (iIn n len) (some (.fp ag (c n.toNat) e 0,H)) none) (φ z) (fun v H=>φ (k v H))
    rw [hφ]
    cases iIn n len<;>rfl
 ·exact gen
omit hφ in
theorem HY {c:T V}:∀ {n p:Nat} {l:List Int},F9 c n p=some l→∀ i,i<n→c.get (p+i)=some (.int .i64 (MV l (Int.ofNat i))):=by
 intro n
 induction n with
 | zero=>intro p l _ i hi;omega
 | succ n ih =>
  intro p l h i hi
  have h:(match c.get p with | some (.int .i64 x)=>QF x (F9 c n (p+1)) | _=>none)=some l:=h
  split at h
  ·rename_i x hx
   cases hg:F9 c n (p+1) with
   | none=>rw [hg] at h;cases h
   | some l' =>
    rw [hg] at h
    have h:some (x::l')=some l:=h
    cases h
    cases i with
    | zero=>rw [Nat.add_zero,hx];rfl
    | succ i =>
     have:=ih hg i (by omega)
     rw [show p+(i+1)=p+1+i by omega,this]
     show _=some (V.int .i64 (cond (pI (Int.ofNat (i+1)) 0) x (MV l' (Int.sub (Int.ofNat (i+1)) 1))))
     have e1:pI (Int.ofNat (i+1)) 0=false:=rfl
     have e2:Int.sub (Int.ofNat (i+1)) 1=Int.ofNat i:=by
      show ((i+1:Nat):Int)-1=(i:Int)
      omega
     rw [e1,e2];rfl
  ·cases h
include hν in
theorem N8 (P:Program) (t:TypeId) (x i:V) (H:EH) (z:α) (k:V→EH→α):φ (Q8 P B t x i H z k)=ax (cu P t x i H) (φ z) (fun v H=>φ (k v H)):=by
 have els:∀ o:VO,φ (ax o z k)=ax o (φ z) (fun v H=>φ (k v H)):=fun o=>by cases o<;>rfl
 have gen:∀ x i,φ (zy B i fun i=>ax (cu P t x i H) z k)=ax (cu P t x i H) (φ z) (fun v H=>φ (k v H)):=fun x i=>by rw [zt hν];exact els _
 unfold Q8
 split
 ·rename_i len elem n c kd m hu
  unfold SK
  split
  ·rename_i l hs hk hg
   cases hle:Nat.ble len n with
   | false =>
    show φ (zy B (.int kd m) fun i=>ax (cu P t (.agg n c) i H) z k)=_
    exact gen (.agg n c) (.int kd m)
   | true =>
    have hle:=Nat.le_of_ble_eq_true hle
    show φ (B.br (iIn m len) (k (.int .i64 (MV l m)) H) z)=_
    rw [hφ]
    have hev:cu P t (.agg n c) (.int kd m) H=(match inN m len with | some i=>dO H (xI n c (Nat.mul i 1) .one) | none=>none):=by
     unfold cu
     rw [hu]
     simp only
     rw [hs,hk]
     cases inN m len<;>rfl
    rw [hev]
    cases m with
    | negSucc a=>rfl
    | ofNat a =>
     show cond (Nat.blt a len) _ _=ax (match cond (Nat.blt a len) (some a) none with | some i=>dO H (xI n c (Nat.mul i 1) .one) | none=>none) _ _
     cases hb:Nat.blt a len with
     | false=>rfl
     | true =>
      have hb:a<len:=Nat.le_of_ble_eq_true hb
      have hget:=HY hg a hb
      rw [Nat.zero_add] at hget
      show φ (k (.int .i64 (MV l (Int.ofNat a))) H)=ax (dO H (cond (Nat.blt (Nat.mul a 1) n) (c.get (Nat.mul a 1)) none)) _ _
      have e1:Nat.mul a 1=a:=Nat.mul_one a
      have e2:Nat.blt a n=true:=Nat.ble_eq_true_of_le (show a+1≤n by omega)
      rw [e1,e2,hget];rfl
  ·exact gen _ _
 ·exact gen _ _
omit hφ in
theorem OX (off n:Nat):Nh off n=Nat.add off n:=by
 cases off with
 | zero=>exact (Nat.zero_add n).symm
 | succ m=>rfl
omit hφ in
theorem NS (len e:Nat):mulS len e=Nat.mul len e:=by
 unfold mulS
 split
 ·exact (Nat.mul_one len).symm
 ·rfl
theorem Ny (H:EH) (e b off len:Nat) (xs:Cs) (z:α) (k:V→EH→α):φ (Nq B H e b off len xs z k)=ax (Au H e b off len xs) (φ z) (fun v H=>φ (k v H)):=by
 unfold Nq Au
 cases H.block b with
 | no=>rfl
 | mk c lo sz grp =>
  simp only [OX,NS]
  rw [aG]
  cases Nat.ble lo off with
  | false=>rfl
  | true =>
   show φ (B.br (Nat.ble (Nat.add off (Nat.mul len e)) sz) _ z)=ax (cond (Nat.ble (Nat.add off (Nat.mul len e)) sz) _ none) _ _
   rw [hφ]
   cases Nat.ble (Nat.add off (Nat.mul len e)) sz with
   | false=>rfl
   | true =>
    simp only [cond_true]
    cases di xs.c xs.n xs.off (Nat.add off (Nat.mul len e)) c with
    | none=>rfl
    | some c' =>
     simp only
     unfold PX Ku
     rw [aG,aG];rfl
theorem NL (P:Program) (elem:TypeId) (e:Nat) (s x:V) (H:EH) (z:α) (k:V→EH→α):φ (Ls P B elem e s x H z k)=ax (DI P elem e s x H) (φ z) (fun v H=>φ (k v H)):=by
 have els:∀ o:VO,φ (ax o z k)=ax o (φ z) (fun v H=>φ (k v H)):=fun o=>by cases o<;>rfl
 unfold Ls DI
 cases bM H e x with
 | none=>rfl
 | some xs =>
  simp only
  cases s with
  | slice b off len e' =>
   simp only
   rw [hφ]
   show cond (iU P elem e (Nat.add len xs.m)) _ _=ax (cond (iU P elem e (Nat.add len xs.m)) _ none) _ _
   cases iU P elem e (Nat.add len xs.m) with
   | false=>rfl
   | true =>
    show φ (cond (Nat.beq xs.m 0) _ _)=ax (cond (Nat.beq xs.m 0) (some (V.slice b off len e',H)) (cond (Nat.beq e e') (Au H e b off len xs) none)) _ _
    cases Nat.beq xs.m 0 with
    | true=>rfl
    | false =>
     simp only [cond_false]
     cases Nat.beq e e' with
     | false=>rfl
     | true=>exact Ny hφ H e b off len xs z k
  | _=>exact els _
theorem Kr (P:Program) (st xt:TypeId) (s x:V) (H:EH) (z:α) (k:V→EH→α):φ (GK P B st xt s x H z k)=ax (eX P st xt s x H) (φ z) (fun v H=>φ (k v H)):=by
 have els:∀ o:VO,φ (ax o z k)=ax o (φ z) (fun v H=>φ (k v H)):=fun o=>by cases o<;>rfl
 unfold GK eX
 split
 ·rename_i elem el2 h1 h2
  rw [h1,h2]
  simp only
  split
  ·rename_i e he
   rw [he]
   simp only
   cases OV e s x with
   | false=>exact NL hφ P elem e s x H z k
   | true =>
    show φ (B.br (Nat.ble (mD x) 1048576) _ z)=ax (cond (Nat.ble (mD x) 1048576) _ none) (φ z) (fun v H=>φ (k v H))
    rw [hφ,els]
    cases Nat.ble (mD x) 1048576<;>rfl
  ·rename_i he
   rw [he];rfl
 ·rename_i hn
  generalize P.underlying st=u at hn
  generalize P.underlying xt=u2 at hn
  split
  ·exact (hn _ _ rfl rfl).elim
  ·rfl
theorem IP (P:Program) (c:Call) (a:EA) (H:EH) (z:α) (k:V→EH→α):φ (DJ P B c a H z k)=ax (eF (.call c) P a H) (φ z) (fun v H=>φ (k v H)):=by
 have els:∀ o:VO,φ (ax o z k)=ax o (φ z) (fun v H=>φ (k v H)):=fun o=>by cases o<;>rfl
 unfold DJ
 split
 ·rename_i hc
  have hev:eF (.call c) P a H=dD P .append c.argTypes.toList (mapO a c.args.toList) H:=by
   show KG c.args c.argTypes c.callee P a H=_
   rw [hc];rfl
  rw [hev]
  split
  ·rename_i st xt _ s x _ h1 h2
   rw [h1,h2]
   show φ (cond (mZ (P.underlying xt)) (ax (Io P st s x H) z k) (GK P B st xt s x H z k))=ax (qy P st xt s x H) (φ z) (fun v H=>φ (k v H))
   unfold qy
   cases mZ (P.underlying xt) with
   | true=>exact els _
   | false=>exact Kr hφ P st xt s x H z k
  ·rename_i hn
   have:dD P .append c.argTypes.toList (mapO a c.args.toList) H=none:=by
    generalize c.argTypes.toList=l at hn
    generalize mapO a c.args.toList=m at hn
    unfold dD
    split
    ·rename_i h;cases h
    ·exact (hn _ _ _ _ _ _ rfl rfl).elim
    ·rename_i h;cases h
    ·rename_i h;cases h
    ·rename_i h;cases h
    ·rename_i h;cases h
    ·rename_i h;cases h
    ·rfl
   rw [this];rfl
 ·exact els _
include hν in
theorem Hz (P:Program) (op:Op) (a:EA) (H:EH) (z:α) (k:V→EH→α):φ (Dk P B op a H z k)=ax (eF op P a H) (φ z) (fun v H=>φ (k v H)):=by
 have els:∀ o:VO,φ (ax o z k)=ax o (φ z) (fun v H=>φ (k v H)):=fun o=>by cases o<;>rfl
 unfold Dk
 split
 ·rename_i op t x y u
  rw [Ph hφ]
  show _=ax (dO H (yJ P op t (a.eval x) (a.eval y))) (φ z) (fun v H=>φ (k v H))
  cases yJ P op t (a.eval x) (a.eval y)<;>rfl
 ·rename_i c x y
  show φ (KU B _ _ _ _ _ _)=ax (jS (a.eval c) (a.eval x) (a.eval y) H) (φ z) (fun v H=>φ (k v H))
  unfold KU jS
  cases a.eval c with
  | bool b=>simp only;rw [hφ];cases b<;>rfl
  | _=>rfl
 ·rename_i op t x
  show φ (unK B op (a.eval x) H z k)=ax (Ar op (a.eval x) H) (φ z) (fun v H=>φ (k v H))
  generalize a.eval x=y
  have e:=els (Ar op y H)
  clear els
  cases op with
  | neg =>
   cases y with
   | int kd n =>
    show φ (cond B.s (tX B kd (0-n) (fun v=>k v H)) (k (.int kd (wr kd (Int.sub 0 n))) H))=ax (dO H (vI kd (Int.sub 0 n))) (φ z) (fun v H=>φ (k v H))
    have:=su hφ (z:=z) kd (0-n) (fun v=>k v H)
    exact this.trans (by show ay (vI kd (Int.sub 0 n)) _ _=_;rw [FH];rfl)
   | _=>exact e
  | _=>exact e
 ·rename_i src dst x
  show φ (Nu P B src dst (a.eval x) H z k)=ax (mV P src dst (a.eval x) H) (φ z) (fun v H=>φ (k v H))
  unfold Nu mV
  generalize P.underlying src=u
  generalize P.underlying dst=v
  generalize a.eval x=y
  cases u with
  | none=>rfl
  | some u =>
   cases v with
   | none=>rfl
   | some v =>
    cases v with
    | int kd =>
     cases y with
     | int k0 n =>
      show φ (cond B.s (tX B kd n (fun v=>k v H)) (k (.int kd (kd.wrap n)) H))=ax (dO H (fI (kd.wrap n) fun n=>some (.int kd n))) (φ z) (fun v H=>φ (k v H))
      rw [uU]
      cases B.s with
      | true=>exact GI hφ kd n (fun v=>k v H)
      | false=>rfl
     | _=>rfl
    | _=>rfl
 ·rw [Gi hν,Gi hν];exact els _
 ·exact QV hφ hν P _ _ _ _ _ _
 ·exact IP hφ P _ _ _ _ _
 ·exact N8 hφ hν P _ _ _ _ _ _
 ·exact els _
section
variable {P:Program} {f:Task→Option Res} {fK:bW α} {z:α} (hf:∀ t k,φ (fK t k)=ay (f t) (φ z) (fun r=>φ (k r)))
include hf
include hν in
theorem F7 (op:Op) (a:EA) (H:EH) (k:V→EH→α):φ (IJ P B fK op a H z k)=ax (ji P f a H op) (φ z) (fun v H=>φ (k v H)):=by
 unfold IJ ji FN
 cases lN op with
 | light=>exact Hz hφ hν P op a H z k
 | heavy g args =>
  show φ (fK (.callV (a.eval g) (mapO a args.toList) H) (Tq z k))=ax (Gz (f (.callV (a.eval g) (mapO a args.toList) H))) (φ z) (fun v H=>φ (k v H))
  rw [hf]
  cases f (.callV (a.eval g) (mapO a args.toList) H) with
  | none=>rfl
  | some r=>cases r<;>rfl
include hν in
theorem Oi (ops:Array Oper):∀ (l:List Oper) (a:EA) (H:EH) (k:Res→α),φ (Ov P B fK ops z l a H k)=ay (lU P f ops l a H) (φ z) (fun r=>φ (k r)):=by
 intro l
 induction l with
 | nil=>intro a H k;rfl
 | cons o l ih =>
  intro a H k
  show φ (wP B ops a o.guard z (fun a=>IJ P B fK o.op a H z (fun v H'=>Ov P B fK ops z l (a.put o.dst v) H' k)) (fun a=>Ov P B fK ops z l (a.put o.dst skp) H k))=ay (match aU ops a o.guard with
   | .yes=>EQ (lU P f ops l) o.dst a (ji P f a H o.op)
   | .no=>lU P f ops l (a.put o.dst skp) H
   | .unk=>none) (φ z) (fun r=>φ (k r))
  rw [Bc hφ]
  cases aU ops a o.guard with
  | yes =>
   simp only
   rw [F7 hφ hν hf]
   cases ji P f a H o.op with
   | none=>rfl
   | some p=>exact ih _ _ _
  | no=>exact ih _ _ _
  | unk=>rfl
include hν in
theorem Nw (ops:Array Oper):∀ (l:List Oper) (a:EA) (H:EH) (k:RR→α),φ (tN P B fK ops z l a H k)=ay (bG P f ops l a H) (φ z) (fun r=>φ (k r)):=by
 intro l
 induction l with
 | nil=>intro a H k;rfl
 | cons o l ih =>
  intro a H k
  rw [qN]
  show φ (wP B ops a o.guard z
   (fun a=>IJ P B fK o.op a (lowTo H big) z (fun v H'=>tN P B fK ops z l (a.put o.dst v) (lowTo H' (aA H.low H'.low)) (fun r=>k ⟨r.a,r.H,jI o.op a H H' (lN o.op)::r.fps,(a,H)::r.st⟩)))
   (fun a=>tN P B fK ops z l (a.put o.dst skp) H (fun r=>k ⟨r.a,r.H,⟨0,0,[],[],0⟩::r.fps,(a,H)::r.st⟩)))=_
  rw [Bc hφ]
  cases aU ops a o.guard with
  | yes =>
   simp only
   rw [F7 hφ hν hf]
   cases ji P f a (lowTo H big) o.op with
   | none=>rfl
   | some p =>
    obtain ⟨v,H'⟩:=p
    show φ (tN P B fK ops z l (a.put o.dst v) (lowTo H' (aA H.low H'.low)) _)=ay (match bG P f ops l (a.put o.dst v) (lowTo H' (aA H.low H'.low)) with
     | some r=>some (⟨r.a,r.H,jI o.op a H H' (lN o.op)::r.fps,(a,H)::r.st⟩:RR)
     | none=>none) (φ z) (fun r=>φ (k r))
    rw [ih]
    cases bG P f ops l (a.put o.dst v) (lowTo H' (aA H.low H'.low))<;>rfl
  | no =>
   simp only
   rw [ih]
   show _=ay (yI a H (bG P f ops l (a.put o.dst skp) H)) (φ z) (fun r=>φ (k r))
   cases bG P f ops l (a.put o.dst skp) H<;>rfl
  | unk=>rfl
omit hφ in
theorem Gt (ro:Option Nat) (x y:Code) (a:EA) (H:EH) (k:Res→α):φ (fK (.code ro x a H) (QJ fK ro y k))=ay (zH f ro y (f (.code ro x a H))) (φ z) (fun r=>φ (k r)):=by
 rw [hf]
 cases f (.code ro x a H) with
 | none=>rfl
 | some r=>cases r<;>first | rfl | exact hf _ _
omit hφ in
theorem KT (ro:Option Nat) (a1:EA) (H:EH) (k:Res→α) (pend:Option Code):φ (KC fK ro a1 H k pend)=ay (AB f ro a1 H pend) (φ z) (fun r=>φ (k r)):=by
 cases pend with
 | none=>rfl
 | some c=>exact hf _ _
omit hφ in
theorem uD (ro:Option Nat) (g:V) (ps:Array Tmp) (as bd:Code) (a a1:EA) (d:Nat) (H:EH) (k:Res→α):φ (rG fK ro g ps as bd a a1 d H z k)=ay (iV f ro g ps as bd a a1 d H) (φ z) (fun r=>φ (k r)):=by
 unfold rG iV
 rw [aG,aG]
 cases g with
 | func gi first captured =>
  show φ (fK (.call gi _ _) _)=ay (afterLoop f ro H.next a1 (f (.call gi _ _))) (φ z) (fun r=>φ (k r))
  rw [hf]
  generalize f _=r0
  cases r0 with
  | none=>rfl
  | some r =>
   cases r with
   | v v H2 =>
    show φ (match H2.objs.get H.next with
     | some (.loop st pend tm n ps as bd df)=>cond (jB st) (KC fK ro a1 (bz H2 H.next .exhausted pend tm n ps as bd df) k pend) z
     | _=>z)=ay (match H2.objs.get H.next with
     | some (.loop st pend tm n ps as bd df)=>cond (jB st) (AB f ro a1 (bz H2 H.next .exhausted pend tm n ps as bd df) pend) none
     | _=>none) (φ z) (fun r=>φ (k r))
    cases H2.objs.get H.next with
    | none=>rfl
    | some o =>
     cases o with
     | loop st pend tm n ps as bd df =>
      simp only
      cases jB st with
      | true=>exact KT hf _ _ _ _ _
      | false=>rfl
     | _=>rfl
   | _=>rfl
 | _=>rfl
include hν in
theorem LU (ro:Option Nat) (c:Code) (a:EA) (H:EH) (k:Res→α):φ (PM P B f fK ro c a H z k)=ay (sK c P f ro a H) (φ z) (fun r=>φ (k r)):=by
 have els:∀ o:Option Res,φ (ay o z k)=ay o (φ z) (fun r=>φ (k r)):=fun o=>by cases o<;>rfl
 have e:=els (sK c P f ro a H)
 cases c with
 | region id ops d =>
  cases d with
  | false =>
   show _=ay (nrm a H (fun a H=>lU P f ops ops.toList a H)) (φ z) (fun r=>φ (k r))
   rw [NC]
   exact Oi hφ hν hf ops _ _ _ _
  | true =>
   show φ (cond (eP ops) (tN P B fK ops z ops.toList a H (fun r=>ay (doneD P ops (some r)) z k)) z)=ay (cond (eP ops) (doneD P ops (bG P f ops ops.toList a H)) none) (φ z) (fun r=>φ (k r))
   cases eP ops with
   | false=>rfl
   | true =>
    show φ (tN P B fK ops z ops.toList a H (fun r=>ay (doneD P ops (some r)) z k))=ay (doneD P ops (bG P f ops ops.toList a H)) (φ z) (fun r=>φ (k r))
    rw [Nw hφ hν hf]
    cases bG P f ops ops.toList a H with
    | none=>rfl
    | some r=>exact els _
 | seq x y=>exact Gt hf ro x y a H k
 | cond c x y =>
  show φ (PQ B fK ro c x y a H z k)=ay (pq f ro x y a H (a.eval c)) (φ z) (fun r=>φ (k r))
  have other:∀ v,a.eval c=v→φ (match v with | .bool b=>B.br b (fK (.code ro x a H) k) (fK (.code ro y a H) k) | _=>z)=ay (pq f ro x y a H v) (φ z) (fun r=>φ (k r)):=fun v _=>by
   cases v with
   | bool b=>simp only;rw [hφ];cases b<;>exact hf _ _
   | _=>rfl
  cases c with
  | tmp t =>
   show φ (match a.get t with | .bool b=>B.br b (fK (.code ro x (a.put (some t) (.bool true)) H) k) (fK (.code ro y (a.put (some t) (.bool false)) H) k) | _=>z)=ay (pq f ro x y a H (a.get t)) (φ z) (fun r=>φ (k r))
   cases hv:a.get t with
   | bool b =>
    simp only
    rw [hφ]
    cases b
    ·show φ (fK (.code ro y (a.put (some t) (.bool false)) H) k)=_
     rw [nJ hv (by intro e;cases e)];exact hf _ _
    ·show φ (fK (.code ro x (a.put (some t) (.bool true)) H) k)=_
     rw [nJ hv (by intro e;cases e)];exact hf _ _
   | _=>rfl
  | const v=>exact other _ rfl
  | global g=>exact other _ rfl
  | func g=>exact other _ rfl
 | block id c =>
  show φ (fK (.code ro c a H) (fun r=>ay (bH id (some r)) z k))=ay (bH id (f (.code ro c a H))) (φ z) (fun r=>φ (k r))
  rw [hf]
  cases f (.code ro c a H) with
  | none=>rfl
  | some r=>exact els _
 | loop body =>
  show φ (LM P f fK ro body a H z k)=ay (qQ body P f ro a H) (φ z) (fun r=>φ (k r))
  unfold LM qQ
  cases bJ body with
  | some ml=>exact els (iW P f ro ml a H)
  | none=>exact Gt hf ro body (.loop body) a H k
 | rangeFunc g ps as bd =>
  show φ (DK fK ro g ps as bd a H z k)=ay (fF f ro g ps as bd a H) (φ z) (fun r=>φ (k r))
  unfold DK fF
  cases ro with
  | some l0 =>
   simp only
   cases H.objs.get l0 with
   | none=>rfl
   | some o=>cases o<;>first | rfl | exact uD hf _ _ _ _ _ _ _ _ _ _
  | none =>
   simp only [aG]
   exact uD hf _ _ _ _ _ _ _ _ _ _
 | scope c=>exact hf _ _
 | _=>exact e
omit hφ in
theorem sJ (s:Bool) (g:FuncId) (args:List V) (H:EH) (k:Res→α):φ (xC P s fK g args H z k)=ay (mf P s f g args H) (φ z) (fun r=>φ (k r)):=by
  unfold xC mf
  cases P.funcs[g]? with
  | none=>rfl
  | some fn =>
    simp only
    cases decide (fn.name = "runtime.NumGoroutine") with
    | true=>rfl
    | false =>
      show φ (fnK P s fK fn args H z k)=ay (Oc P s f fn args H) (φ z) (fun r=>φ (k r))
      unfold fnK Oc
      cases fn.body with
      | none=>rfl
      | some c =>
        simp only
        cases Nat.ble (lenV args) fn.ntmps with
        | false=>rfl
        | true =>
          show φ (fK (.code none c ⟨initT s args,fn.ntmps,[]⟩ H) (fun r=>ay (aI P fn (some r)) z k))=ay (aI P fn (f (.code none c ⟨initT s args,fn.ntmps,[]⟩ H))) (φ z) (fun r=>φ (k r))
          rw [hf]
          cases f (.code none c ⟨initT s args,fn.ntmps,[]⟩ H) with
          | none=>rfl
          | some r =>
            show φ (ay (aI P fn (some r)) z k)=ay (aI P fn (some r)) (φ z) (fun r=>φ (k r))
            cases aI P fn (some r)<;>rfl
omit hφ in
theorem IL (fv:V) (args:List V) (H:EH) (k:Res→α):φ (NJ fK fv args H z k)=ay (rF f fv args H) (φ z) (fun r=>φ (k r)):=by
 cases fv with
 | func g first captured=>exact hf _ _
 | yld l =>
  show φ (CW fK l args H z k)=ay (o8 f l args H) (φ z) (fun r=>φ (k r))
  unfold CW o8
  cases H.objs.get l with
  | none=>rfl
  | some o =>
   cases o with
   | loop st pend tm n ps as bd df =>
    simp only
    cases jg n ps.toList args tm with
    | none=>rfl
    | some tm' =>
     simp only
     rw [hf]
     cases f (.code (some l) as ⟨tm',n,[]⟩ H) with
     | none=>rfl
     | some r =>
      cases r with
      | normal a1 H1 =>
       show φ (match H1.objs.get l with
        | some (.loop .ready pend tm n ps as bd' df)=>fK (.code (some l) bd a1 (bz H1 l .busy pend tm n ps as bd' df)) (fun r=>ay (bT l (some r)) z k)
        | _=>z)=ay (match H1.objs.get l with
        | some (.loop .ready pend tm n ps as bd' df)=>bT l (f (.code (some l) bd a1 (bz H1 l .busy pend tm n ps as bd' df)))
        | _=>none) (φ z) (fun r=>φ (k r))
       split
       ·rw [hf]
        generalize f _=r1
        cases r1 with
        | none=>rfl
        | some r =>
         show φ (ay (bT l (some r)) z k)=ay (bT l (some r)) (φ z) (fun r=>φ (k r))
         cases bT l (some r)<;>rfl
       ·rfl
      | _=>rfl
   | _=>rfl
 | _=>rfl
include hν in
theorem Ky (X:Ext) (t:Task) (k:Res→α):φ (PV P B X f fK z t k)=ay (step P X f t) (φ z) (fun r=>φ (k r)):=by
 cases t with
 | call g args H =>
  show φ (wS P B X.sym fK g args H z k (X g))=ay (nO P X.sym f g args H (X g)) (φ z) (fun r=>φ (k r))
  cases X g with
  | none=>exact sJ hf _ g args H k
  | some x =>
   show φ (TQ P B X.sym fK g args H z k (x args H))=ay (RS P X.sym f g args H (x args H)) (φ z) (fun r=>φ (k r))
   cases x args H with
   | none=>exact sJ hf _ g args H k
   | some p =>
    obtain ⟨b,v⟩:=p
    show φ (B.br b (k (.v v (xk H))) (xC P X.sym fK g args H z k))=_
    rw [hφ]
    cases b with
    | true=>rfl
    | false=>exact sJ hf _ g args H k
 | callV fv args H=>exact IL hf fv args H k
 | code ro c a H=>exact LU hφ hν hf ro c a H k
end
include hν in
theorem GX (P:Program) (X:Ext) (z:α):∀ (n:Nat) (t:Task) (k:Res→α),φ (evK P B X z n t k)=ay (ev P X n t) (φ z) (fun r=>φ (k r))
 | 0,_,_=>rfl
 | n+1,t,k=>Ky hφ hν (GX P X z n) X t k
end
end
end Go.Ev
/- A call's contract: what it answers over the empty heap, with arguments that are frozen, said of each call in whatever heap. -/
namespace Go.Ev
open Go
noncomputable section
variable {P:Program}
def jH (k:Nat):EH:=⟨.lf,k,.lf,big⟩
theorem Lm (k:Nat):WF (jH k):=⟨(fun b o h=>by cases h),(fun b o h=>by cases h),(fun g _ b b' o o' h=>by cases h),(fun g x h=>by cases h)⟩
def jK (R:Ren) (w:World) (k:Nat) (as:Nat→Nat):Ren:=⟨fun _=>none,R.zs,fun a r=>if a<k then R.cz (as a) r else if a=k then (match w.heap[r]? with | some (.cells cs _ _)=>some cs | _=>none) else none⟩
theorem NT {R:Ren} {w:World} {k:Nat} {as:Nat→Nat} {a r:Nat} (h:a<k):(jK R w k as).cz a r=R.cz (as a) r:=if_pos h
theorem OD {R:Ren} {w:World} {k:Nat} {as:Nat→Nat} {r:Nat} {cs:Array Value} {t:TypeId} {fz:Nat×Nat} (h:w.heap[r]?=some (.cells cs t fz)):(jK R w k as).cz k r=some cs:=by
 show (if k<k then _ else if k=k then (match w.heap[r]? with | some (.cells cs _ _)=>some cs | _=>none) else none)=_
 rw [if_neg (Nat.lt_irrefl k),if_pos rfl,h]
theorem wF {R:Ren} {w:World} {k:Nat} {as:Nat→Nat} {a r:Nat} {cs:Array Value} (h:(jK R w k as).cz a r=some cs):(a<k∧R.cz (as a) r=some cs)∨(a=k∧∃ t fz,w.heap[r]?=some (.cells cs t fz)):=by
 have h:(if a<k then R.cz (as a) r else if a=k then (match w.heap[r]? with | some (.cells cs _ _)=>some cs | _=>none) else none)=some cs:=h
 split at h
 ·rename_i e;exact .inl ⟨e,h⟩
 ·split at h
  ·rename_i e
   split at h
   ·rename_i c t fz hc;cases h;exact .inr ⟨e,t,fz,hc⟩
   ·cases h
  ·cases h
inductive Fr0 (H:EH) (k:Nat) (as:Nat→Nat) (new:Nat):V→V→Prop where
 | bool (b:Bool):Fr0 H k as new (.bool b) (.bool b)
 | int (kd:IntKind) (n:Int):Fr0 H k as new (.int kd n) (.int kd n)
 | nilSlice:Fr0 H k as new .nilSlice .nilSlice
 | nilS {q:Bool} {a:Nat} {c:Nat→Nat→V} {e:Nat}:Fr0 H k as new .nilSlice (.fz q a c 0 e)
 | fz {q:Bool} {a a':Nat} {c c':Nat→Nat→V} {len e:Nat} (h0:a≠k) (h1:a<k→a'=as a) (h2:k<a→a'=new) (hs:∀ i j,i<len→j<e→aK (c' i j)=true) (ha:∀ i j,i<len→j<e→Aged a' (c' i j))
  (h:∀ i j,i<len→j<e→Fr0 H k as new (c i j) (c' i j)):Fr0 H k as new (.fz q a c len e) (.fz true a' c' len e)
 | slice {b off len e lo sz g:Nat} {c:T V} {d c':Nat→Nat→V} (hb:H.block b = .mk c lo sz g) (hl:lo≤off) (hz:off+len*e≤sz) (hd:∀ i j,i<len→j<e→c.get (off+(i*e+j))=some (d i j))
  (hs:∀ i j,i<len→j<e→aK (c' i j)=true) (ha:∀ i j,i<len→j<e→Aged new (c' i j)) (h:∀ i j,i<len→j<e→Fr0 H k as new (d i j) (c' i j)):Fr0 H k as new (.slice b off len e) (.fz true new c' len e)
inductive Frz1 (H:EH) (k:Nat) (as:Nat→Nat) (new:Nat):V→V→Prop where
 | one {v v':V} (h:Fr0 H k as new v v'):Frz1 H k as new v v'
 | agg {n:Nat} {c c':T V} (d d':Nat→V) (h1:∀ i,i<n→c.get i=some (d i)) (h2:∀ i,i<n→c'.get i=some (d' i)) (hs:∀ i,i<n→aK (d' i)=true) (h:∀ i,i<n→Fr0 H k as new (d i) (d' i)):Frz1 H k as new (.agg n c) (.agg n c')
inductive FrV (H:EH) (k:Nat) (as:Nat→Nat) (new:Nat):V→V→Prop where
 | one {v v':V} (h:Frz1 H k as new v v'):FrV H k as new v v'
 | tup {l l':List V} (hl:l.length=l'.length) (h:∀ i (h1:i<l.length) (h2:i<l'.length),Frz1 H k as new l[i] l'[i]):FrV H k as new (.tup l) (.tup l')
section
variable {H':EH} {k new:Nat} {as:Nat→Nat} {R' R2:Ren} {w':World} (hr:Rel R' All H' w') (hold:∀ a r cs,a<k→R'.cz a r=some cs→R2.cz (as a) r=some cs)
 (hnew:∀ a r cs,k<a→R'.cz a r=some cs→R2.cz new r=some cs)
 (hobj:∀ b r d o,H'.objs.get b=some o→R'.bm b=some (r,d)→∀ cs t fz,w'.heap[r]?=some (.cells cs t fz)→R2.cz new r=some cs)
include hr hold hnew hobj
end
theorem Ol (hD:aB P) {X:Ext} (hX:dm P X) {n:Nat} {g:FuncId} {args:List V} {H H':EH} {v:V} (h:ev P X n (.call g args H)=some (.v v H')):SpecCall P g args H v H':=by
 obtain ⟨v1,H1,e,k⟩:=iZ hD hX n _ _ h
 cases e;exact k
theorem VR.fz_as {R R0:Ren} {q:Bool} {a a' len e:Nat} {c c':Nat→Nat→V} {x:Value} (h:VR R (.fz q a c len e) x) (hcz:∀ r cs,R.cz a r=some cs→R0.cz a' r=some cs) (hs:∀ i j,i<len→j<e→aK (c' i j)=true) (ha:∀ i j,i<len→j<e→Aged a' (c' i j))
 (hv:∀ i j,i<len→j<e→∀ y,VR R (c i j) y→VR R0 (c' i j) y):VR R0 (.fz true a' c' len e) x:=by
 cases h with
 | fzN=>exact .fzN
 | fzE h0=>exact .fzE (fun q=>by cases q)
 | fz y hc hl hy hs' ha' hv' h0=>exact .fz y (hcz _ _ hc) hl hy hs ha fun i j hi hj=>hv i j hi hj _ (hv' i j hi hj)
theorem VR.view {R:Ren} {H:EH} {w:World} (hr:Rel R All H w) {k:Nat} {as:Nat→Nat} {b off len e lo sz g:Nat} {c:T V} {d c':Nat→Nat→V} {x:Value} (h:VR R (.slice b off len e) x) (hb:H.block b = .mk c lo sz g) (hl:lo≤off) (hz:off+len*e≤sz)
 (hd:∀ i j,i<len→j<e→c.get (off+(i*e+j))=some (d i j)) (hs:∀ i j,i<len→j<e→aK (c' i j)=true) (ha:∀ i j,i<len→j<e→Aged k (c' i j)) (hv:∀ i j,i<len→j<e→∀ y,VR R (d i j) y→VR (jK R w k as) (c' i j) y) :
 VR (jK R w k as) (.fz true k c' len e) x:=by
 cases h with
 | slice hm ho hle hzz =>
  rename_i r dd o cap
  obtain ⟨cs,t,fz,a1,a2,a3,a4⟩:=hr.row hb hm trivial
  by_cases h0:len=0
  ·subst h0;exact .fzE (fun q=>by cases q)
  ·have hcap:cap≠0:=by omega
   have ho':=ho hcap
   have key:∀ i j,i<len→j<e→∃ y,cs[o+(i*e+j)]?=some y∧VR R (d i j) y:=fun i j hi hj=>by
    have hlt:i*e+j<len*e:=by
     have:(i+1)*e≤len*e:=Nat.mul_le_mul_right _ hi
     rw [Nat.add_mul] at this;omega
    obtain ⟨p,x,y,e1,e2,e3,e4⟩:=a4 (off+(i*e+j)) (by omega) (by omega)
    rw [hd i j hi hj] at e1;cases e1
    rw [show off+(i*e+j)-dd=o+(i*e+j) by omega] at e3
    exact ⟨y,e3,e4⟩
   refine .fz (fun i j=>if h:i<len∧j<e then (key i j h.1 h.2).choose else undef) (OD a1) hle (fun i j hi hj=>?_) hs ha fun i j hi hj=>?_
   ·show _=some (if h:i<len∧j<e then (key i j h.1 h.2).choose else undef)
    rw [dif_pos ⟨hi,hj⟩];exact (key i j hi hj).choose_spec.1
   ·show VR _ (c' i j) (if h:i<len∧j<e then (key i j h.1 h.2).choose else undef)
    rw [dif_pos ⟨hi,hj⟩];exact hv i j hi hj _ (key i j hi hj).choose_spec.2
theorem AL.cons {R:Ren} {v:V} {l:List V} {ys:Array Value}:AL R (v::l) ys↔∃ y t,ys=#[y]++t∧VR R v y∧AL R l t:=by
 constructor
 ·intro ⟨h1,h2⟩
  have hlen:0<ys.size:=by simp at h1;omega
  refine ⟨ys[0],ys.extract 1 ys.size,?_,h2 0 (by simp) hlen,by simp at h1 ⊢;omega,fun i a b=>?_⟩
  ·apply Array.ext
   ·simp;omega
   ·intro i h1 h2
    cases i with
    | zero=>simp
    | succ i=>simp [Nat.add_comm]
  ·have:=h2 (i+1) (by simpa using a) (by simp at b;omega)
   simpa [Nat.add_comm] using this
 ·rintro ⟨y,t,rfl,h1,h2,h3⟩
  refine ⟨by simp [h2];omega,fun i a b=>?_⟩
  cases i with
  | zero=>simpa using h1
  | succ i =>
   have:=h3 i (by simpa using a) (by simp at b;omega)
   simpa [Array.getElem_append] using this
theorem AL.cons_imp {R R0:Ren} {v v0:V} {l l0:List V} {ys:Array Value} (h:AL R (v::l) ys) (h1:∀ y,VR R v y→VR R0 v0 y) (h2:∀ t,AL R l t→AL R0 l0 t):AL R0 (v0::l0) ys:=by
 obtain ⟨y,t,rfl,a,b⟩:=AL.cons.1 h
 exact AL.cons.2 ⟨y,t,rfl,h1 y a,h2 t b⟩
theorem AL.nil_imp {R R0:Ren} {ys:Array Value} (h:AL R [] ys):AL R0 [] ys:=⟨h.1,fun i h1=>by simp at h1⟩
inductive Flat:V→Prop where
 | bool (b:Bool):Flat (.bool b)
 | int (k:IntKind) (n:Int):Flat (.int k n)
theorem VR.agg_as {R R0:Ren} {n:Nat} {c c':T V} {x:Value} (h:VR R (.agg n c) x) (d d':Nat→V) (h1:∀ i,i<n→c.get i=some (d i)) (h2:∀ i,i<n→c'.get i=some (d' i)) (hs:∀ i,i<n→aK (d' i)=true) (hv:∀ i,i<n→∀ y,VR R (d i) y→VR R0 (d' i) y):VR R0 (.agg n c') x:=by
 cases h with
 | agg g hn hg hs' hv' =>
  refine .agg d' hn h2 hs fun i hi=>hv i (by omega) _ ?_
  have e:=hg i (by omega)
  rw [h1 i (by omega)] at e
  have e:=Option.some.inj e
  rw [e];exact hv' i hi
abbrev CF:=List V→EH→Option (Bool×V)
def JH (l:List (FuncId×CF)) (g:FuncId):Option CF:=List.rec (motive:=fun _=>Option CF) none (fun p _ ih=>cond (Nat.beq p.1 g) (some p.2) ih) l
def Ue (l:List (FuncId×CF)) (s:Bool):Ext:=⟨JH l,s⟩
def lT (P:Program) (p:FuncId×CF):Prop:=∀ args H v,p.2 args H=some (true,v)→SpecCall P p.1 args H v (bump H)
theorem MX {l:List (FuncId×CF)} (h:∀ p∈l,lT P p) {g:FuncId} {x:CF} (hx:JH l g=some x):lT P (g,x):=by
 induction l with
 | nil=>cases hx
 | cons p l ih =>
  have hx:cond (Nat.beq p.1 g) (some p.2) (JH l g)=some x:=hx
  rw [ai] at hx
  by_cases e:p.1=g
  ·rw [if_pos e] at hx
   have hx:=Option.some.inj hx
   have:=h p (by simp)
   rw [← e,← hx];exact this
  ·rw [if_neg e] at hx
   exact ih (fun p hp=>h p (by simp [hp])) hx
theorem O4 {l:List (FuncId×CF)} {s:Bool} (h:∀ p∈l,lT P p):dm P (Ue l s):=fun _ _ args H v hx hv=>MX h hx args H v hv
theorem DU:∀ p∈([]:List (FuncId×CF)),lT P p:=fun _ h=>by cases h
theorem jO {q:FuncId×CF} {l:List (FuncId×CF)} (h:lT P q) (k:∀ p∈l,lT P p):∀ p∈q::l,lT P p:=fun p hp=>by
 rcases List.mem_cons.1 hp with rfl | hp
 ·exact h
 ·exact k p hp
end
end Go.Ev
/- A run with free numbers as a tree of decisions; hints say which way is gone; what is left to show is read off the tree. -/
namespace Go.Ev
open Go
noncomputable section
theorem Qm (a b:Int):(wY a b=true)=(a≤b):=by rw [jL];simp
theorem QD (a b:Int):(wY a b=false)=(b<a):=by rw [jL];simp
theorem Qd (a b:Int):(pI a b=true)=(a=b):=by rw [yj];simp
theorem PG (a b:Int):(pI a b=false)=(¬ a=b):=by rw [yj];simp
theorem AY (a b:Nat):(Nat.ble a b=true)=(a≤b):=by simp
theorem JU (a b:Nat):(Nat.ble a b=false)=(b<a):=by
 by_cases h:a≤b
 ·have:=Nat.ble_eq_true_of_le h;simp [this];omega
 ·have:Nat.ble a b=false:=by cases e:Nat.ble a b with | false=>rfl | true=>exact absurd (Nat.le_of_ble_eq_true e) h
  simp [this];omega
theorem Ns (a b:Nat):(Nat.blt a b=true)=(a<b):=AY (a+1) b
theorem P5 (a b:Nat):(Nat.blt a b=false)=(b≤a):=by
 have:=JU (a+1) b
 show (Nat.ble (a+1) b=false)=_
 rw [this];apply propext;omega
theorem Qr (a b:Nat):(Nat.beq a b=true)=(a=b):=by rw [nD];simp
theorem Qo (a b:Nat):(Nat.beq a b=false)=(¬ a=b):=by rw [nD];simp
theorem yh (n:Int):(small n=true)=(-9223372036854775808≤n∧n≤9223372036854775807):=by
 apply propext
 cases n with
 | ofNat a=>show Nat.ble a 9223372036854775807=true↔_;rw [AY,Int.ofNat_eq_natCast];omega
 | negSucc a=>show Nat.ble a 9223372036854775807=true↔_;rw [AY,Int.negSucc_eq];omega
theorem G6 (n:Int):(small n=false)=(¬ (-9223372036854775808≤n∧n≤9223372036854775807)):=by
 rw [← yh];cases small n<;>simp
theorem KN (k : Int) (n : Nat) : (iIn k n = true) = (0 ≤ k ∧ k < n) := by
  apply propext
  cases k with
  | ofNat a => show Nat.blt a n = true ↔ _; rw [Ns, Int.ofNat_eq_natCast]; omega
  | negSucc a => show false = true ↔ _; constructor
                 · intro h; cases h
                 · intro h; exact absurd h.1 (by omega)
theorem QA (k:Int) (n:Nat):(iIn k n=false)=(¬ (0≤k∧k<n)):=by
 rw [← KN];cases iIn k n<;>simp
theorem TJ (a b:Int):cond (wY a b) a b=min a b:=by rw [jL];by_cases h:a≤b<;>simp [h]<;>omega
theorem SG (a b:Int):cond (wY b a) a b=max a b:=by rw [jL];by_cases h:b≤a<;>simp [h]<;>omega
theorem Qq (b:Bool):(not b=true)=(b=false):=by cases b<;>simp
theorem Qj (b:Bool):(not b=false)=(b=true):=by cases b<;>simp
theorem zx (a b:Bool):(dA a b=true)=((a=true)↔(b=true)):=by cases a<;>cases b<;>simp [dA]
theorem CQ (a b:Bool):(dA a b=false)=¬ ((a=true)↔(b=true)):=by cases a<;>cases b<;>simp [dA]
inductive D where
 | leaf (p:Prop)
 | br (c:Bool) (a b:D)
 | num (n:Int) (k:Int→D)
def kD:KP D:=⟨.br,.num,true⟩
def den (d:D):Prop:=D.rec (motive:=fun _=>Prop) (fun p=>p) (fun c _ _ a b=>cond c a b) (fun n _ ih=>ih n) d
inductive HT where
 | nil
 | go (n:Nat) (r:HT)
 | sp (l r:HT)
 | cs (c:Int) (h:HT) (r:HT)
def Rh (n:Nat) (r:HT):HT:=cond (Nat.ble n 1) r (.go n r)
def Rn (n:Int) (h:HT):Prop:=HT.rec (motive:=fun _=>Prop) False (fun _ _ _=>False) (fun _ _ _ _=>False) (fun c _ _ _ ih=>n=c∨ih) h
def KJ (n:Int) (f:Int→HT→Prop) (h:HT):Prop:=HT.rec (motive:=fun _=>Prop) True (fun _ _ _=>True) (fun _ _ _ _=>True) (fun c h _ _ ih=>(n=c→f c h)∧ih) h
def Tm (d:Nat) (c:Bool) (a b:HT→Prop) (h:HT):Prop:=match d with
 | 0=>cond c (a h) (b h)
 | 1=>c=true∧a h
 | _=>c=false∧b h
def vcB (c:Bool) (a b:HT→Prop) (h:HT):Prop:=match h with
 | .nil=>cond c (a .nil) (b .nil)
 | .go n r=>Tm (Nat.mod n 4) c a b (Rh (Nat.div n 4) r)
 | .sp l r=>(c=true→a l)∧(c=false→b r)
 | .cs _ _ _=>cond c (a h) (b h)
def vcN (n:Int) (k:Int→HT→Prop) (h:HT):Prop:=match h with
 | .nil=>k n .nil
 | .go m r=>k n (Rh (Nat.div m 4) r)
 | .sp l r=>k n (.sp l r)
 | .cs c h' r=>Rn n (.cs c h' r)∧KJ n k (.cs c h' r)
def vc (d:D):HT→Prop:=D.rec (motive:=fun _=>HT→Prop) (fun p _=>p) (fun c _ _ a b h=>vcB c a b h) (fun n _ ih h=>vcN n ih h) d
theorem Am {n:Int} {f:Int→HT→Prop}:∀ {h:HT},Rn n h→KJ n f h→∃ h',f n h'
 | .nil,h,_=>h.elim
 | .go _ _,h,_=>h.elim
 | .sp _ _,h,_=>h.elim
 | .cs c h' r,h,k=>by
  have h:n=c∨Rn n r:=h
  have k:(n=c→f c h')∧KJ n f r:=k
  rcases h with rfl | h
  ·exact ⟨h',k.1 rfl⟩
  ·exact Am h k.2
theorem Rf:∀ (d:D) (h:HT),vc d h→den d:=by
 intro d
 induction d with
 | leaf p=>intro h k;exact k
 | br c a b iha ihb =>
  intro h k
  have k:vcB c (vc a) (vc b) h:=k
  show cond c (den a) (den b)
  have one:∀ h,cond c (vc a h) (vc b h)→cond c (den a) (den b):=fun h k=>by
   cases c
   ·exact ihb _ k
   ·exact iha _ k
  cases h with
  | nil=>exact one _ k
  | go n r =>
   have k:Tm (Nat.mod n 4) c (vc a) (vc b) (Rh (Nat.div n 4) r):=k
   revert k
   generalize Nat.mod n 4=m
   intro k
   match m,k with
   | 0,k=>exact one _ k
   | 1,⟨k1,k2⟩=>subst k1;exact iha _ k2
   | _+2,⟨k1,k2⟩=>subst k1;exact ihb _ k2
  | sp l r =>
   obtain ⟨k1,k2⟩:=k
   cases c
   ·exact ihb _ (k2 rfl)
   ·exact iha _ (k1 rfl)
  | cs x y z=>exact one _ k
 | num n k ih =>
  intro h q
  have q:vcN n (fun x=>vc (k x)) h:=q
  show den (k n)
  cases h with
  | nil=>exact ih _ _ q
  | go m r=>exact ih _ _ q
  | sp l r=>exact ih _ _ q
  | cs c h' r =>
   obtain ⟨q1,q2⟩:=q
   obtain ⟨h',q⟩:=Am q1 q2
   exact ih _ _ q
end
end Go.Ev
/- Code in pieces, and loops by their rounds: the state of a loop is a list of values in temporaries; what a round makes is forgotten at its end. -/
namespace Go.Ev
open Go
noncomputable section
variable {P:Program}
def sub (p:List Nat):Code→Code:=List.rec (motive:=fun _=>Code→Code) (fun c=>c)
 (fun k _ ih c=>match c with
  | .seq x y=>(match k with | 0=>ih x | _=>ih y)
  | .block _ x=>ih x
  | .scope x=>ih x
  | .loop x=>ih x
  | .cond _ x y=>(match k with | 0=>ih x | _=>ih y)
  | c=>c) p
def Gv (l:List (Nat×V)):T V:=List.rec (motive:=fun _=>T V) .lf (fun p _ ih=>ih.set p.1 p.2) l
def O7 (ts:List Nat):List V→List (Nat×V):=List.rec (motive:=fun _=>List V→List (Nat×V)) (fun _=>[]) (fun t _ ih l=>match l with | []=>[] | v::l=>(t,v)::ih l) ts
theorem TR.clear {R R':Ren} {tm:T V} {n:Nat} {tmps:Array Value} (h:TR R tm n tmps):TR R' .lf n tmps:=⟨h.size,fun _ _=>rfl,fun _ => .bad _⟩
structure LS where
 (l:List V) (rows:List (List V))
inductive Lv where
 | next (s:LS)
 | exit (id:Nat) (s:LS)
 | ret (s:LS)
structure LT where
 (ts xs rs:List Nat) (B:Nat)
def TW (n:Nat) (l:List Nat):Bool:=List.rec (motive:=fun _=>Bool) true (fun x _ ih=>cond (Nat.blt x n) ih false) l
def jb {α:Type} (x:α) (r:Option (List α)):Option (List α):=match r with | some l=>some (x::l) | none=>none
theorem dW {α:Type} {x:α} {r:Option (List α)} {l:List α} (h:jb x r=some l):∃ l',r=some l'∧l=x::l':=by
 cases r with
 | none=>cases h
 | some l'=>cases h;exact ⟨l',rfl,rfl⟩
def cellL (c:T V) (n:Nat):Nat→Option (List V):=Nat.rec (motive:=fun _=>Nat→Option (List V)) (fun _=>some []) (fun _ ih i=>match c.get i with | some v=>jb v (ih (Nat.succ i)) | none=>none) n
theorem xA {c:T V}:∀ {n i:Nat} {l:List V},cellL c n i=some l→l.length=n∧∀ j,j<n→c.get (i+j)=l[j]?:=by
 intro n
 induction n with
 | zero=>intro i l h;cases h;exact ⟨rfl,fun j hj=>by omega⟩
 | succ n ih =>
  intro i l h
  have h:(match c.get i with | some v=>jb v (cellL c n (i+1)) | none=>none)=some l:=h
  cases h1:c.get i with
  | none=>rw [h1] at h;cases h
  | some v =>
   rw [h1] at h
   obtain ⟨l',h2,rfl⟩:=dW h
   obtain ⟨e1,e2⟩:=ih h2
   refine ⟨by simp [e1],fun j hj=>?_⟩
   cases j with
   | zero=>rw [Nat.add_zero,h1];rfl
   | succ j=>rw [show i+(j+1)=i+1+j by omega,e2 j (by omega)];rfl
def PW (row:List V) (b:Nat):EO := .cells (T.setL .lf 0 row) 0 (lenV row) b
def setRows (rows:List (List V)):Nat→T EO→T EO:=List.rec (motive:=fun _=>Nat→T EO→T EO) (fun _ t=>t) (fun r _ ih b t=>ih (Nat.succ b) (t.set b (PW r b))) rows
def BR (base:EH) (B:Nat) (rows:List (List V)):EH:=⟨setRows rows B base.objs,base.next,base.grps,big⟩
def Lv.s:Lv→LS
 | .next s=>s
 | .exit _ s=>s
 | .ret s=>s
def Lv.res (lt:LT) (n:Nat) (H:EH):Lv→Res
 | .next s => .normal ⟨Gv (O7 lt.ts s.l),n,[]⟩ H
 | .exit id s => .exit id ⟨Gv (O7 lt.xs s.l),n,[]⟩ H
 | .ret s => .ret ⟨Gv (O7 lt.rs s.l),n,[]⟩ H
structure Kept (R R2:Ren) (B:Nat) (H H2:EH) (w w':World):Prop where
 bm:R2.bm=R.bm
 cz:R2.cz=R.cz
 sim:SimA R R2 (lowTo H big) (lowTo H2 B) w w'
theorem Og {R R2:Ren} {H H2:EH} {x y L:Nat} {w w':World} (h:SimA R R2 (lowTo H x) (lowTo H2 L) w w') (hy:L≤y):SimA R R2 (lowTo H y) (lowTo H2 L) w w' :=
 ⟨⟨h.es.next,hy,h.es.old,h.es.keep,h.es.back,h.es.wf,h.es.wr,h.es.neu⟩,⟨h.rx.same,h.rx.zs,h.rx.neu,h.rx.cz,h.rx.czn⟩,⟨h.fr.os,h.fr.tape,h.fr.output,h.fr.size,h.fr.keep⟩,Rel.weak (SimA.rel h) fun _ _=>trivial⟩
theorem Kept.trans {R R1 R2:Ren} {B:Nat} {H H1 H2:EH} {w w1 w2:World} (h:Kept R R1 B H H1 w w1) (k:Kept R1 R2 B H1 H2 w1 w2):Kept R R2 B H H2 w w2:=⟨k.bm.trans h.bm,k.cz.trans h.cz,h.sim.trans (Og k.sim (Nat.le_refl B))⟩
def PostL (base:EH) (lt:LT) (n:Nat) (R:Ren) (H:EH) (lv:Lv) (w:World):Exit→Act→World→Prop:=fun e A w'=>∃ R2,Kept R R2 lt.B H (BR base lt.B lv.s.rows) w w'∧lY R2 (lv.res lt n (BR base lt.B lv.s.rows)) e A
theorem PostL.trans {base:EH} {lt:LT} {n:Nat} {R R1:Ren} {H H1:EH} {lv:Lv} {w w1:World} (k:Kept R R1 lt.B H H1 w w1):∀ e A w',PostL base lt n R1 H1 lv w1 e A w'→PostL base lt n R H lv w e A w':=fun _ _ _ ⟨R2,k2,x⟩=>⟨R2,k.trans k2,x⟩
theorem Ro.kept {R R1:Ren} (h:R1.bm=R.bm):∀ {ro rr:Option Nat},Ro R ro rr→Ro R1 ro rr
 | none,none,_=>trivial
 | some l,some _,q=>by show R1.bm l=_;rw [h];exact q
 | none,some _,q=>q
 | some _,none,q=>q
theorem Kept.rel {R R1:Ren} {B:Nat} {base:EH} {H:EH} {rows:List (List V)} {w w1:World} (k:Kept R R1 B H (BR base B rows) w w1):Rel R1 All (BR base B rows) w1∧WF (BR base B rows):=by
 have h1:=SimA.rel k.sim
 have h2:=SimA.wf k.sim
 exact ⟨⟨h1.img,fun b o r d ho hb=>(h1.obj b o r d ho hb).mono (.refl _) hb rfl id (fun v=>by cases o<;>exact v),h1.inj,h1.frz⟩,⟨h2.lt,h2.root,h2.uniq,h2.gdom⟩⟩
end
end Go.Ev
/- What a law is called with, as the evaluator has it: numbers, bools, structs and slices of these; what lies in memory is frozen, of the age 0. -/
namespace Go.Ev
open Go
noncomputable section
variable {P:Program}
def JR (P:Program):Nat→TypeId→List TypeId
 | 0,_=>[]
 | n+1,t=>match P.underlying t with
  | some (.struct fs)=>fs.toList.flatMap fun f=>JR P n f.type
  | _=>[t]
def ShC (P:Program):Nat→TypeId→V→Prop
 | 0,_,_=>False
 | m+1,t,v=>match P.underlying t with
  | some .bool=>∃ b,v = .bool b
  | some (.int k)=>∃ n,v = .int k n∧k.min≤n∧n≤k.max
  | some (.slice e)=>∃ c len,v = .fz true 0 c len (P.cellsOf e)∧∀ i,i<len→∀ j u,(JR P 8 e)[j]?=some u→ShC P m u (c i j)
  | _=>False
theorem ShC.up:∀ m t v,ShC P m t v→ShC P (m+1) t v:=by
 intro m
 induction m with
 | zero=>intro t v h;cases h
 | succ m ih =>
  intro t v h
  unfold ShC at h ⊢
  split at h
  ·exact h
  ·exact h
  ·obtain ⟨c,len,h1,h2⟩:=h
   exact ⟨c,len,h1,fun i hi j u hj=>ih _ _ (h2 i hi j u hj)⟩
  ·exact h.elim
def Us (w:World):Ren:=⟨fun _=>none,fun _=>0,fun a r=>if a=0 then (match w.heap[r]? with | some (.cells cs _ _)=>some cs | _=>none) else none⟩
def CellOk (P:Program) (w:World) (m:Nat) (u:TypeId) (x:Value):Prop:=∃ v,VR (Us w) v x∧aK v=true∧Aged 0 v∧ShC P m u v
theorem CellOk.up {w:World} {m:Nat} {u:TypeId} {x:Value} (h:CellOk P w m u x):CellOk P w (m+1) u x:=let ⟨v,h1,h2,h3,h4⟩:=h;⟨v,h1,h2,h3,h4.up⟩
end
end Go.Ev
/- Contracts: a call's value by its arguments' numbers, whatever the heap; arguments are numbers, bools, structs of these, frozen rows of numbers, functions. -/
namespace Go.Ev
open Go
noncomputable section
variable {P:Program}
theorem Pj {a b:Bool} (h1:a=true) (h2:b=true):cond a b false=true:=by rw [h1,h2];rfl
def bZ (k:IntKind) (f:Nat→Nat→Int):Nat→Nat→V:=fun i j => .int k (f i j)
def gV (v:V):Int:=match v with | .int _ n=>n | _=>0
def isI (k:IntKind) (v:V):Bool:=match v with | .int k' _=>dH k' k | _=>false
def mQ (k:IntKind) (c:Nat→Nat→V) (len e:Nat):Bool:=kK (fun i=>kK (fun j=>isI k (c i j)) e) len
theorem pM {p:Nat→Bool} {n:Nat} (h:∀ i,i<n→p i=true):kK p n=true:=by
 induction n with
 | zero=>rfl
 | succ n ih =>
  show cond (p n) (kK p n) false=true
  rw [h n (by omega),ih fun i hi=>h i (by omega)];rfl
theorem bY (k:IntKind) (f:Nat→Nat→Int) (len e:Nat):mQ k (bZ k f) len e=true:=pM fun i _=>pM fun j _=>by show dH k k=true;cases k<;>rfl
theorem sO {k:IntKind} {c:Nat→Nat→V} {len e:Nat} (h:mQ k c len e=true) {i j:Nat} (hi:i<len) (hj:j<e):c i j = .int k (gV (c i j)):=by
 have:=aX (aX h i hi) j hj
 cases hc:c i j with
 | int k' n=>rw [hc] at this;have:dH k' k=true:=this;rw [lI this];rfl
 | _=>rw [hc] at this;cases this
inductive D0 where
 | i (k:IntKind) (n:Int)
 | b (b:Bool)
 | sl (e len:Nat) (f:Nat→Nat→Int)
 | rr (e len:Nat) (ls:Nat→Nat) (f:Nat→Nat→Nat→Int)
inductive DA where
 | one (d:D0)
 | st (l:List D0)
 | fn (f:FuncId)
 | cl (f:FuncId) (l:List D0)
def zF (n e:Nat) (ls:Nat→Nat) (f:Nat→Nat→Nat→Int):Nat→Nat→V:=fun i _ => .fz true n (bZ .i64 (f i)) (ls i) e
def isR (a e:Nat) (v:V):Bool:=match v with | .fz _ a' c len e'=>cond (Nat.beq a' a) (cond (Nat.beq e' e) (mQ .i64 c len e) false) false | _=>false
def Nb (a:Nat) (c:Nat→Nat→V) (len e:Nat):Bool:=kK (fun i=>isR a e (c i 0)) len
theorem wC (n:Nat):Nat.beq n n=true:=Nat.beq_refl n
theorem kT (a e:Nat) (ls:Nat→Nat) (f:Nat→Nat→Nat→Int) (len:Nat):Nb a (zF a e ls f) len e=true:=pM fun i _=>by
 show cond (Nat.beq a a) (cond (Nat.beq e e) (mQ .i64 (bZ .i64 (f i)) (ls i) e) false) false=true
 rw [wC,wC,bY];rfl
def O9 (v:V):Nat:=match v with | .fz _ _ _ len _=>len | _=>0
def zT (v:V):Nat→Nat→V:=match v with | .fz _ _ c _ _=>c | _=>fun _ _ => .bad
def qB (v:V):Nat:=match v with | .fz _ _ _ _ e=>Nat.succ e | _=>0
theorem Pg {a e:Nat} {v:V} (h:isR a e v=true):∃ q,v = .fz q a (zT v) (O9 v) e∧mQ .i64 (zT v) (O9 v) e=true:=by
 unfold isR at h
 split at h
 ·rename_i q a' c len e'
  obtain ⟨h1,h2⟩:=ae h
  obtain ⟨h3,h4⟩:=ae h2
  have:=nb h1;subst this
  have:=nb h3;subst this
  exact ⟨q,rfl,h4⟩
 ·cases h
def Hy (d:D0) (n:Nat):V:=match d with | .i k m => .int k m | .b b => .bool b | .sl e len f => .fz true n (bZ .i64 f) len e | .rr e len ls f => .fz true n (zF n e ls f) len 1
def nxA (d:D0) (n:Nat):Nat:=match d with | .sl _ _ _=>Nat.succ n | .rr _ _ _ _=>Nat.succ n | _=>n
def pU (l:List D0):Nat→List V:=List.rec (motive:=fun _=>Nat→List V) (fun _=>[]) (fun d _ ih n=>Hy d n::ih (nxA d n)) l
def nxL (l:List D0):Nat→Nat:=List.rec (motive:=fun _=>Nat→Nat) (fun n=>n) (fun d _ ih n=>ih (nxA d n)) l
def QK (d:DA) (n:Nat):V:=match d with | .one d=>Hy d n | .st l => .agg (bg l) (T.setL .lf 0 (pU l n)) | .fn f => .func f [] [] | .cl f l => .func f [.agg (bg l) (T.setL .lf 0 (pU l n))] []
def nxD (d:DA) (n:Nat):Nat:=match d with | .one d=>nxA d n | .st l=>nxL l n | .fn _=>n | .cl _ l=>nxL l n
def enc (l:List DA):Nat→List V:=List.rec (motive:=fun _=>Nat→List V) (fun _=>[]) (fun d _ ih n=>QK d n::ih (nxD d n)) l
def nxE (l:List DA):Nat→Nat:=List.rec (motive:=fun _=>Nat→Nat) (fun n=>n) (fun d _ ih n=>ih (nxD d n)) l
def OG (c:Nat→Nat→V) (len e:Nat) (s:Nat):D0:=match s with | 0 => .sl e len fun i j=>gV (c i j) | Nat.succ e' => .rr e' len (fun i=>O9 (c i 0)) fun i j k=>gV (zT (c i 0) j k)
def okF (a:Nat) (c:Nat→Nat→V) (len e:Nat) (s:Nat):Bool:=match s with | 0=>mQ .i64 c len e | Nat.succ e'=>cond (Nat.beq e 1) (Nb a c len e') false
def yF (v:V):Option D0:=match v with | .int k n=>some (.i k n) | .bool b=>some (.b b) | .fz _ _ c len e=>some (OG c len e (qB (c 0 0))) | _=>none
def okC (v:V):Bool:=match v with | .fz _ a c len e=>okF a c len e (qB (c 0 0)) | _=>true
def agC (v:V):List Nat:=match v with | .fz _ a _ _ _=>[a] | _=>[]
def jX (l:List V):Option (List D0):=List.rec (motive:=fun _=>Option (List D0)) (some []) (fun v _ ih=>match yF v with | some d=>jb d ih | none=>none) l
def Ff (l:List V):Bool:=List.rec (motive:=fun _=>Bool) true (fun v _ ih=>cond (okC v) ih false) l
def nR (l:List V):List Nat:=List.rec (motive:=fun _=>List Nat) [] (fun v _ ih=>List.append (agC v) ih) l
def oJ (v:V):List V:=match v with | .agg n c=>(match cellL c n 0 with | some l=>l | none=>[]) | v=>[v]
def RG (r:Option (List D0)):Option DA:=match r with | some l=>some (.st l) | none=>none
def clO (f:FuncId) (r:Option (List D0)):Option DA:=match r with | some l=>some (.cl f l) | none=>none
def TA (v:V):Option (List D0):=match v with | .agg n c=>(match cellL c n 0 with | some l=>jX l | none=>none) | _=>none
def SX (r:Option D0):Option DA:=match r with | some l=>some (.one l) | none=>none
def OI (v:V):Option DA:=match v with
 | .agg n c=>(match cellL c n 0 with | some l=>RG (jX l) | none=>none)
 | .func f [] []=>some (.fn f)
 | .func f [v] []=>clO f (TA v)
 | v=>SX (yF v)
def okA (v:V):Bool:=match v with | .agg _ _=>Ff (oJ v) | .func _ [v] []=>Ff (oJ v) | v=>okC v
def agA (v:V):List Nat:=match v with | .agg _ _=>nR (oJ v) | .func _ [v] []=>nR (oJ v) | v=>agC v
def dec (l:List V):Option (List DA):=List.rec (motive:=fun _=>Option (List DA)) (some []) (fun v _ ih=>match OI v with | some d=>jb d ih | none=>none) l
def okL (l:List V):Bool:=List.rec (motive:=fun _=>Bool) true (fun v _ ih=>cond (okA v) ih false) l
def agL (l:List V):List Nat:=List.rec (motive:=fun _=>List Nat) [] (fun v _ ih=>List.append (agA v) ih) l
def BP (ok:Bool) (r:Option (Bool×V)):Option (Bool×V):=match r with | some (b,v)=>some (cond ok b false,v) | none=>none
abbrev Val:=List DA→Option (Bool×V)
theorem MO {v:V} {d:D0} (h:yF v=some d) (n:Nat):nxA d n=n+(agC v).length:=by
 cases v with
 | fz q a c len e =>
  have h:some (OG c len e (qB (c 0 0)))=some d:=h
  cases hs:qB (c 0 0)<;>(rw [hs] at h;cases h;rfl)
 | _=>first | (cases h;rfl) | (cases h;done)
theorem zJ {R:Ren} {w:World} {k n:Nat} {as:Nat→Nat} {v:V} {d:D0} (h:yF v=some d) (ho:okC v=true) (ha:∀ i,i<(agC v).length→as (n+i)=(agC v).getD i 0) (hk:n+(agC v).length≤k) {y:Value} (hy:VR R v y):VR (jK R w k as) (Hy d n) y:=by
 cases v with
 | int kd m=>cases h;cases hy;exact .int _ _
 | bool b=>cases h;cases hy;exact .bool _
 | fz q a c len e =>
  have h:some (OG c len e (qB (c 0 0)))=some d:=h
  have ho:okF a c len e (qB (c 0 0))=true:=ho
  have hcz:∀ r cs,R.cz a r=some cs→(jK R w k as).cz n r=some cs:=fun r cs hc=>by
   rw [NT (by have:(agC (.fz q a c len e)).length=1:=rfl;omega)]
   have:=ha 0 (by show 0<1;omega)
   rw [Nat.add_zero] at this
   rw [this];exact hc
  cases hs:qB (c 0 0) with
  | zero =>
   rw [hs] at h ho
   cases h
   have ho:mQ .i64 c len e=true:=ho
   refine hy.fz_as hcz (fun i j hi hj=>rfl) (fun i j hi hj => .int _ _) (fun i j hi hj y hv=>?_)
   show VR _ (.int .i64 (gV (c i j))) y
   rw [sO ho hi hj] at hv
   cases hv;exact .int _ _
  | succ e' =>
   rw [hs] at h ho
   cases h
   obtain ⟨ho1,ho⟩:=ae (show cond (Nat.beq e 1) (Nb a c len e') false=true from ho)
   have:=nb ho1;subst this
   refine hy.fz_as hcz (fun i j hi hj=>rfl) (fun i j hi hj => .fz _ (Nat.le_refl _) fun _ _ _ _ => .int _ _) (fun i j hi hj y hv=>?_)
   have j0:j=0:=by omega
   subst j0
   obtain ⟨q',e1,e2⟩:=Pg (aX ho i hi)
   rw [e1] at hv
   show VR _ (.fz true n (bZ .i64 (fun j k=>gV (zT (c i 0) j k))) (O9 (c i 0)) e') y
   refine hv.fz_as hcz (fun _ _ _ _=>rfl) (fun _ _ _ _ => .int _ _) (fun i' j' hi' hj' y' hv'=>?_)
   show VR _ (.int .i64 (gV (zT (c i 0) i' j'))) y'
   rw [sO e2 hi' hj'] at hv'
   cases hv';exact .int _ _
 | _=>cases h
theorem EI {R:Ren} {w:World} {k:Nat} {as:Nat→Nat}:∀ {l:List V} {ds:List D0} {n:Nat},jX l=some ds→Ff l=true→(∀ i,i<(nR l).length→as (n+i)=(nR l).getD i 0)→n+(nR l).length≤k →
 (pU ds n).length=l.length∧nxL ds n=n+(nR l).length∧ds.length=l.length∧∀ i (h1:i<l.length) (h2:i<(pU ds n).length) y,VR R l[i] y→VR (jK R w k as) (pU ds n)[i] y:=by
 intro l
 induction l with
 | nil=>intro ds n h _ _ _;cases h;exact ⟨rfl,rfl,rfl,fun i h1=>by simp at h1⟩
 | cons v l ih =>
  intro ds n h ho ha hk
  have h:(match yF v with | some d=>jb d (jX l) | none=>none)=some ds:=h
  have ho:cond (okC v) (Ff l) false=true:=ho
  obtain ⟨o1,o2⟩:=ae ho
  have hag:nR (v::l)=agC v++nR l:=rfl
  rw [hag] at ha hk
  rw [hag]
  simp only [List.length_append] at ha hk
  cases h1:yF v with
  | none=>rw [h1] at h;cases h
  | some d =>
   rw [h1] at h
   obtain ⟨ds',h2,rfl⟩:=dW h
   have hn:=MO h1 n
   obtain ⟨e1,e2,e4,e3⟩:=ih (ds:=ds') (n:=nxA d n) h2 o2 (fun i hi=>by
    rw [hn,Nat.add_assoc,ha _ (by omega)]
    simp [List.getD,List.getElem?_append_right]) (by omega)
   refine ⟨by show (pU ds' (nxA d n)).length+1=_;rw [e1];rfl,by show nxL ds' (nxA d n)=_;rw [e2,hn];simp;omega,by simp [e4],fun i q1 q2 y hy=>?_⟩
   cases i with
   | zero =>
    refine zJ h1 o1 (fun i hi=>?_) (by omega) hy
    rw [ha i (by omega)]
    simp [List.getD,List.getElem?_append_left hi]
   | succ i=>exact e3 i (by simpa using q1) (by rw [e1];simpa using q1) y hy
theorem xg:∀ (l:List D0) (n i:Nat) (h:i<(pU l n).length),aK (pU l n)[i]=true
 | [],_,i,h=>by exact absurd h (by show ¬ i<0;omega)
 | d::l,n,0,_=>by show aK (Hy d n)=true;cases d<;>rfl
 | d::l,n,i+1,h=>xg l (nxA d n) i (by exact Nat.lt_of_succ_lt_succ h)
theorem Gh {R:Ren} {w:World} {k n:Nat} {as:Nat→Nat} {m:Nat} {c:T V} {l:List V} {ds:List D0} (hc:cellL c m 0=some l) (hd:jX l=some ds) (ho:Ff l=true) (ha:∀ i,i<(nR l).length→as (n+i)=(nR l).getD i 0) (hk:n+(nR l).length≤k) :
 nxL ds n=n+(nR l).length∧∀ {y:Value},VR R (.agg m c) y→VR (jK R w k as) (.agg (bg ds) (T.setL .lf 0 (pU ds n))) y:=by
 obtain ⟨e1,e2,e4,e3⟩:=EI (R:=R) (w:=w) (k:=k) (as:=as) hd ho ha hk
 obtain ⟨g1,g2⟩:=xA hc
 refine ⟨e2,fun {y} hy=>?_⟩
 rw [bF,e4,g1]
 refine hy.agg_as (fun i=>l.getD i .bad) (fun i=>(pU ds n).getD i .bad) (fun i hi=>?_) (fun i hi=>?_) (fun i hi=>?_) (fun i hi y hv=>?_)
 ·have:=g2 i hi
  rw [Nat.zero_add] at this
  rw [this];simp [List.getD,List.getElem?_eq_getElem (show i<l.length by omega)]
 ·rw [T.get_setL,if_pos (by omega)]
  simp [List.getD,List.getElem?_eq_getElem (show i<(pU ds n).length by omega)]
 ·have:=xg ds n i (by omega)
  simpa [List.getD,List.getElem?_eq_getElem (show i<(pU ds n).length by omega)] using this
 ·have:=e3 i (by omega) (by omega) y (by simpa [List.getD,List.getElem?_eq_getElem (show i<l.length by omega)] using hv)
  simpa [List.getD,List.getElem?_eq_getElem (show i<(pU ds n).length by omega)] using this
theorem Px {R:Ren} {w:World} {k n:Nat} {as:Nat→Nat} {v:V} {d:DA} (h:OI v=some d) (ho:okA v=true) (ha:∀ i,i<(agA v).length→as (n+i)=(agA v).getD i 0) (hk:n+(agA v).length≤k) :
 nxD d n=n+(agA v).length∧∀ {y:Value},VR R v y→VR (jK R w k as) (QK d n) y:=by
 have one:∀ {d0:D0},yF v=some d0→d = .one d0→okC v=true→agA v=agC v→nxD d n=n+(agA v).length∧∀ {y:Value},VR R v y→VR (jK R w k as) (QK d n) y:=by
  intro d0 h1 e h2 h3
  subst e
  rw [h3] at ha hk ⊢
  exact ⟨MO h1 n,fun hy=>zJ h1 h2 ha hk hy⟩
 have celll:∀ {m c l},cellL c m 0=some l→oJ (.agg m c)=l:=fun {m c l} hc=>by show (match cellL c m 0 with | some l=>l | none=>[])=l;rw [hc]
 cases v with
 | int kd m=>cases h;exact one rfl rfl rfl rfl
 | bool b=>cases h;exact one rfl rfl rfl rfl
 | fz q a c len e =>
  have h:SX (yF (.fz q a c len e))=some d:=h
  have e0:yF (.fz q a c len e)=some (OG c len e (qB (c 0 0))):=rfl
  rw [e0] at h
  cases h
  exact one e0 rfl ho rfl
 | agg m c =>
  have h:(match cellL c m 0 with | some l=>RG (jX l) | none=>none)=some d:=h
  cases hc:cellL c m 0 with
  | none=>rw [hc] at h;cases h
  | some l =>
   rw [hc] at h
   have h:RG (jX l)=some d:=h
   have ho:Ff (oJ (.agg m c))=true:=ho
   have hag:agA (.agg m c)=nR (oJ (.agg m c)):=rfl
   rw [celll hc] at ho hag
   rw [hag] at ha hk ⊢
   cases hd:jX l with
   | none=>rw [hd] at h;cases h
   | some ds =>
    rw [hd] at h
    cases h
    exact Gh hc hd ho ha hk
 | func f l m =>
  cases l with
  | cons v0 l2 =>
   cases l2 with
   | cons _ _=>cases m<;>cases h
   | nil =>
    cases m with
    | cons _ _=>cases h
    | nil =>
     have h:clO f (TA v0)=some d:=h
     cases v0 with
     | agg m2 c =>
      have h:clO f (match cellL c m2 0 with | some l=>jX l | none=>none)=some d:=h
      cases hc:cellL c m2 0 with
      | none=>rw [hc] at h;cases h
      | some l =>
       rw [hc] at h
       have h:clO f (jX l)=some d:=h
       have ho:Ff (oJ (.agg m2 c))=true:=ho
       have hag:agA (.func f [.agg m2 c] [])=nR (oJ (.agg m2 c)):=rfl
       rw [celll hc] at ho hag
       rw [hag] at ha hk ⊢
       cases hd:jX l with
       | none=>rw [hd] at h;cases h
       | some ds =>
        rw [hd] at h
        cases h
        obtain ⟨z1,z2⟩:=Gh (R:=R) (w:=w) (k:=k) (as:=as) hc hd ho ha hk
        refine ⟨z1,fun {y} hy=>?_⟩
        cases hy with
        | func hl hv hm hv' =>
         refine .func (by simpa using hl) (fun i h1 h2=>?_) hm (fun i h1 _=>by simp at h1)
         have i0:i=0:=by simp at h1;exact h1
         subst i0
         exact z2 (hv 0 (by simp) h2)
     | _=>cases h
  | nil =>
   cases m with
   | cons _ _=>cases h
   | nil =>
    cases h
    refine ⟨rfl,fun {y} hy=>?_⟩
    cases hy with
    | func hl hv hm hv'=>exact .func hl (fun i h1 _=>by simp at h1) hm (fun i h1 _=>by simp at h1)
 | _=>cases h
theorem KZ {R:Ren} {w:World} {k:Nat} {as:Nat→Nat}:∀ {l:List V} {das:List DA} {n:Nat},dec l=some das→okL l=true→(∀ i,i<(agL l).length→as (n+i)=(agL l).getD i 0)→n+(agL l).length≤k →
 nxE das n=n+(agL l).length∧∀ ys,AL R l ys→AL (jK R w k as) (enc das n) ys:=by
 intro l
 induction l with
 | nil=>intro das n h _ _ _;cases h;exact ⟨rfl,fun ys h=>AL.nil_imp h⟩
 | cons v l ih =>
  intro das n h ho ha hk
  have h:(match OI v with | some d=>jb d (dec l) | none=>none)=some das:=h
  have ho:cond (okA v) (okL l) false=true:=ho
  obtain ⟨o1,o2⟩:=ae ho
  have hag:agL (v::l)=agA v++agL l:=rfl
  rw [hag] at ha hk
  rw [hag]
  simp only [List.length_append] at ha hk
  cases h1:OI v with
  | none=>rw [h1] at h;cases h
  | some d =>
   rw [h1] at h
   obtain ⟨das',h2,rfl⟩:=dW h
   obtain ⟨hn,hv⟩:=Px (R:=R) (w:=w) (k:=k) (as:=as) (n:=n) h1 o1 (fun i hi=>by rw [ha i (by omega)];simp [List.getD,List.getElem?_append_left hi]) (by omega)
   obtain ⟨e1,e2⟩:=ih (das:=das') (n:=nxD d n) h2 o2 (fun i hi=>by
    rw [hn,Nat.add_assoc,ha _ (by omega)]
    simp [List.getD,List.getElem?_append_right]) (by omega)
   refine ⟨by show nxE das' (nxD d n)=_;rw [e1,hn];simp;omega,fun ys hy=>?_⟩
   exact AL.cons_imp hy (fun y q=>hv q) e2
def nK (v:V):Bool:=match v with | .bool _=>true | .int _ _=>true | _=>false
def xm (c:T V) (n:Nat):Nat→Bool:=Nat.rec (motive:=fun _=>Nat→Bool) (fun _=>true) (fun _ ih i=>match c.get i with | some v=>cond (nK v) (ih (Nat.succ i)) false | none=>false) n
def l7 (v:V):Bool:=match v with | .agg n c=>xm c n 0 | v=>nK v
def yS (l:List V):Bool:=List.rec (motive:=fun _=>Bool) true (fun v _ ih=>cond (l7 v) ih false) l
def uf (v:V):Bool:=match v with | .tup l=>yS l | v=>l7 v
def L9 (v v':V):Prop:=match v,v' with
 | .int .i64 a,.int .i64 b=>a=b
 | .bool a,.bool b=>a=b
 | v,v'=>v=v'
theorem lJ {v v':V} (h:L9 v v'):v=v':=by
 unfold L9 at h
 split at h
 ·rw [h]
 ·rw [h]
 ·exact h
def Py (c c':T V) (n:Nat):Nat→Prop:=Nat.rec (motive:=fun _=>Nat→Prop) (fun _=>True) (fun _ ih i=>match c.get i,c'.get i with | some v,some v'=>L9 v v'∧ih (Nat.succ i) | _,_=>False) n
def kJ (v v':V):Prop:=match v,v' with
 | .agg n c,.agg n' c'=>cond (Nat.beq n n') (Py c c' n 0) False
 | v,v'=>L9 v v'
def KH (l:List V):List V→Prop:=List.rec (motive:=fun _=>List V→Prop) (fun m=>match m with | []=>True | _=>False) (fun v _ ih m=>match m with | v'::m=>kJ v v'∧ih m | []=>False) l
def sH (v v':V):Prop:=match v,v' with
 | .tup l,.tup l'=>KH l l'
 | v,v'=>kJ v v'
theorem Np {c c':T V}:∀ {n i:Nat},Py c c' n i→∀ j,j<n→∃ v,c.get (i+j)=some v∧c'.get (i+j)=some v:=by
 intro n
 induction n with
 | zero=>intro i h j hj;omega
 | succ n ih =>
  intro i h j hj
  have h:(match c.get i,c'.get i with | some v,some v'=>L9 v v'∧Py c c' n (i+1) | _,_=>False):=h
  cases h1:c.get i with
  | none=>rw [h1] at h;exact h.elim
  | some v =>
   cases h2:c'.get i with
   | none=>rw [h1,h2] at h;exact h.elim
   | some v' =>
    rw [h1,h2] at h
    obtain ⟨q1,q2⟩:=h
    cases j with
    | zero=>exact ⟨v',by rw [Nat.add_zero,h1,lJ q1],by rw [Nat.add_zero,h2]⟩
    | succ j=>rw [show i+(j+1)=i+1+j by omega];exact ih q2 j (by omega)
theorem BX {H:EH} {k new:Nat} {as:Nat→Nat} {v:V} (h:nK v=true):Fr0 H k as new v v:=by
 cases v<;>first | exact .bool _ | exact .int _ _ | cases h
theorem pW {c:T V}:∀ {n i:Nat},xm c n i=true→∀ j,j<n→∃ v,c.get (i+j)=some v∧nK v=true:=by
 intro n
 induction n with
 | zero=>intro i h j hj;omega
 | succ n ih =>
  intro i h j hj
  have h:(match c.get i with | some v=>cond (nK v) (xm c n (i+1)) false | none=>false)=true:=h
  cases h1:c.get i with
  | none=>rw [h1] at h;cases h
  | some v =>
   rw [h1] at h
   obtain ⟨h2,h3⟩:=ae h
   cases j with
   | zero=>exact ⟨v,h1,h2⟩
   | succ j=>rw [show i+(j+1)=i+1+j by omega];exact ih h3 j (by omega)
theorem sV {H:EH} {k new:Nat} {as:Nat→Nat} {v v':V} (hv:kJ v v') (h:l7 v'=true):Frz1 H k as new v v':=by
 unfold kJ at hv
 split at hv
 ·rename_i n c n' c'
  cases q:Nat.beq n n' with
  | false=>rw [q] at hv;exact hv.elim
  | true =>
   rw [q] at hv
   have hv:Py c c' n 0:=hv
   have e:=nb q
   subst e
   have h:xm c' n 0=true:=h
   refine .agg (fun i=>getD' c i) (fun i=>getD' c' i) (fun i hi=>?_) (fun i hi=>?_) (fun i hi=>?_) (fun i hi=>?_)
   all_goals
    obtain ⟨v,q1,q2⟩:=pW h i hi
    obtain ⟨v2,q3,q4⟩:=Np hv i hi
    rw [Nat.zero_add] at q1 q3 q4
    rw [q1] at q4;cases q4
    have e:getD' c' i=v:=by unfold getD';rw [q1]
    have e':getD' c i=v:=by unfold getD';rw [q3]
    simp only [e,e']
   ·exact q3
   ·exact q1
   ·cases v<;>first | rfl | cases q2
   ·exact BX q2
 ·rename_i hn
  have e:=lJ hv
  subst e
  cases v with
  | agg n c=>exact absurd rfl (hn n c n c rfl)
  | _=>exact .one (BX h)
theorem pJ:∀ {l l':List V},KH l l'→l.length=l'.length∧∀ i (h1:i<l.length) (h2:i<l'.length),kJ l[i] l'[i]
 | [],[],_=>⟨rfl,fun i h1=>by simp at h1⟩
 | [],_::_,h=>h.elim
 | _::_,[],h=>h.elim
 | v::l,v'::l',h=>by
  have h:kJ v v'∧KH l l':=h
  obtain ⟨e1,e2⟩:=pJ h.2
  refine ⟨by simp [e1],fun i h1 h2=>?_⟩
  cases i with
  | zero=>exact h.1
  | succ i=>exact e2 i (by simpa using h1) (by simpa using h2)
theorem mi:∀ {l:List V},yS l=true→∀ i (h1:i<l.length),l7 l[i]=true
 | [],_,i,h1=>by simp at h1
 | v::l,h,i,h1=>by
  have h:cond (l7 v) (yS l) false=true:=h
  obtain ⟨q1,q2⟩:=ae h
  cases i with
  | zero=>exact q1
  | succ i=>exact mi q2 i (by simpa using h1)
theorem J8 {H:EH} {k new:Nat} {as:Nat→Nat} {v v':V} (hv:sH v v') (h:uf v'=true):FrV H k as new v v':=by
 unfold sH at hv
 split at hv
 ·obtain ⟨e1,e2⟩:=pJ hv
  exact .tup e1 fun i h1 h2=>sV (e2 i h1 h2) (mi h i h2)
 ·rename_i hn
  refine .one (sV hv ?_)
  cases v' with
  | tup l' =>
   have hv:kJ v (.tup l'):=hv
   cases v with
   | tup l=>exact (hn l l' rfl rfl).elim
   | _ =>
    first
     | (have hv:=lJ (v' := .tup l') hv;cases hv;done)
     | (unfold kJ at hv;split at hv<;>first | (cases hv;done) | (rename_i e;cases e;done) | (have hv:=lJ hv;cases hv;done))
  | _=>exact h
def Con (P:Program) (g:FuncId) (val:Val):Prop:=∀ das v,val das=some (true,v)→uf v=true∧∃ v' H',SpecCall P g (enc das 0) (jH (nxE das 0+1)) v' H'∧sH v' v
def xq (P:Program) (X:Ext) (n:Nat) (g:FuncId) (args:List V) (k:Nat) (φ:V→Prop):D:=evK P kD X (.leaf False) n (.call g args (jH (k+1))) (fun r=>match r with | .v v _ => .leaf (φ v) | _ => .leaf False)
theorem Nr (hD:aB P) {X:Ext} (hX:dm P X) {n:Nat} {g:FuncId} {args:List V} {k:Nat} {φ:V→Prop} {h:HT} (hv:vc (xq P X n g args k φ) h):∃ v H',SpecCall P g args (jH (k+1)) v H'∧φ v:=by
 have hv:=Rf _ _ hv
 unfold xq at hv
 rw [GX (B:=kD) (φ:=den) (fun _ _ _=>rfl) (fun _ _=>rfl)] at hv
 cases hr:ev P X n (.call g args (jH (k+1))) with
 | none=>rw [hr] at hv;exact hv.elim
 | some r =>
  rw [hr] at hv
  cases r with
  | v v H'=>exact ⟨v,H',Ol hD hX hr,hv⟩
  | _=>exact hv.elim
theorem OW (hD:aB P) {X:Ext} (hX:dm P X) {n:Nat} {g:FuncId} {das:List DA} {v:V} {h:HT} (hf:uf v=true) (hv:vc (xq P X n g (enc das 0) (nxE das 0) (fun v'=>sH v' v)) h):uf v=true∧∃ v' H',SpecCall P g (enc das 0) (jH (nxE das 0+1)) v' H'∧sH v' v:=by
 obtain ⟨v',H',h1,h2⟩:=Nr hD hX hv
 exact ⟨hf,v',H',h1,h2⟩
abbrev AH:=EA×EH
def toA (o:Option AH):EA:=match o with | some p=>p.1 | none=>⟨.lf,0,[]⟩
end
end Go.Ev
/- Loops that write no old row, where only some of the heap's rows matter. -/
namespace Go.Ev
open Go
noncomputable section
variable {P:Program}
def setAt (rows:List (Nat×List V)) (t:T EO):T EO:=List.rec (motive:=fun _=>T EO) t (fun r _ ih=>ih.set r.1 (PW r.2 r.1)) rows
end
end Go.Ev
/- A law's last step: it returned true, all that there was is as it was: then its arguments read as before. -/
namespace Go.Law
open Go Go.ChangeShapes Go.WideShapes Go.RowKit
variable {H:Type} {enc:TypeId×Value→H} {P:Program}
theorem wJ (hl:laidOutB P=true) {W W':World} (hb:Below W.heap.size W W'):∀ {ts:List TypeId} {vs:List Value} {ds:List (DataW H)} {ps:List MemPlace},(∀ t∈ts,P.readableRec t=true∧t<P.types.size)→(∀ p∈ps,p.block<W.heap.size) →
 DataW.TrodAll enc P W 0 (fun _=>true) true ts vs ds ps→DataW.TrodAll enc P W' 0 (fun b=>decide (b<W.heap.size)) true ts vs ds ps
 | [],vs,ds,ps,_,_,h=>by
  obtain ⟨rfl,rfl,rfl⟩:=trodAll_nil h
  exact trodAll_mk0
 | t::ts,vs,ds,ps,ht,hp,h=>by
  obtain ⟨v,vs',d,ds',p,q,rfl,rfl,rfl,h1,h2⟩:=trodAll_cons h
  obtain ⟨r1,r2⟩:=ht t (by simp)
  exact trodAll_cons_mk (hb.trod hl r1 r2 h1 (fun x hx=>hp x (by simp [hx]))) (wJ hl hb (fun t' h'=>ht t' (by simp [h'])) (fun x hx=>hp x (by simp [hx])) h2)
theorem law_post {f:Func} {s:ChangeSpec} {apart fresh handsOn:Bool} {W W':World} {args:Array Value} {ds gs:List (DataW H)} {before:List MemPlace} (hl:laidOutB P=true) {tb:TypeId} (hf:f.resultTypes=#[tb]) (htb:P.underlying tb=some .bool)
 (hread:∀ t∈f.params.toList,P.readableRec t=true∧t<P.types.size) (hvars:s.vars=[]) (hW:DataW.Whole enc P f.params.toList s.vars apart W args.toList ds gs before)
 (hres:(s.fn H ds).results=[.lit (.bool true)]) (hargs:(s.fn H ds).args=ds) (hvs:(s.fn H ds).vars=[]) (hb:Below W.heap.size W W'):s.post enc P f apart fresh handsOn false W args (.bool true) W':=by
 have hlt:=hW.lt
 have hW':=hW
 obtain ⟨p,q,h1,h2,rfl,_,_⟩:=hW'
 rw [hvars] at h2
 obtain ⟨rfl,rfl⟩:=trodVars_none h2
 have hlt':∀ x∈p,x.block<W.heap.size:=fun x hx=>hlt x (by simp [hx])
 refine ⟨ds,[],p++[],[],p,[],hW,?_,?_,?_,World.keptBut_mono (fun x hx=>⟨hx,.inr (.inl (by simpa using hx))⟩) (hb.frame _),fun h=>by cases h⟩
 ·rw [hf,List.append_nil,hres]
  exact trodAll_cons_mk (shut_bool htb true) trodAll_mk0
 ·rw [List.append_nil,hargs]
  exact wJ hl hb hread hlt' h1
 ·rw [List.append_nil,hvars,hvs]
  rfl
end Go.Law
