/- Stage 3: the minimum and the maximum of two numbers, as contracts. -/
import Derived.Test.YthakjbbhbnhmeaaGreatYHtK
import Derived.Test.YthakjbbhbnhmeaaGreatYEe
set_option linter.all false
set_option linter.unusedSimpArgs false
set_option linter.unusedVariables false
namespace Go.Proofs.YthakjbbhbnhmeaaGreat
namespace HE
open Go Go.Ev
set_option maxRecDepth 1000000
noncomputable section
def mn (a b:Int):Int:=cond (dn a b) a b
def mx (a b:Int):Int:=cond (dn a b) b a
theorem bLe (a:Int) (f:Nat→Nat→Int):VC (di Tryz.prog aZ 300 56 (enc [.one (.i .i64 a),.one (.sl 1 1 f)] 0) 1 (fun v=>bZ v (.int .i64 (mn a (f 0 0))))) .nil:=aP ((((cond (dn a (f 0 0)) a (f 0 0)):Int)=(cond (dn a (f 0 0)) a (f 0 0))))
theorem bGr (a:Int) (f:Nat→Nat→Int):VC (di Tryz.prog aZ 300 57 (enc [.one (.i .i64 a),.one (.sl 1 1 f)] 0) 1 (fun v=>bZ v (.int .i64 (mx a (f 0 0))))) .nil:=aP ((((cond (dn (f 0 0) a) a (f 0 0)):Int)=(cond (dn a (f 0 0)) (f 0 0) a)))
def Tj:Val:=fun das=>match das with | [.one (.i .i64 a),.one (.sl 1 1 f)]=>some (true,.int .i64 (mn a (f 0 0))) | _=>none
def SY:Val:=fun das=>match das with | [.one (.i .i64 a),.one (.sl 1 1 f)]=>some (true,.int .i64 (mx a (f 0 0))) | _=>none
theorem Vp:Con Tryz.prog 56 Tj:=by
 intro das v hv
 unfold Tj at hv
 split at hv
 ·have hv:=congrArg Prod.snd (Option.some.inj hv)
  subst hv
  exact aY drawn aG rfl (bLe _ _)
 ·cases hv
theorem VD:Con Tryz.prog 57 SY:=by
 intro das v hv
 unfold SY at hv
 split at hv
 ·have hv:=congrArg Prod.snd (Option.some.inj hv)
  subst hv
  exact aY drawn aG rfl (bGr _ _)
 ·cases hv
def cf2 (op:Int→Int→Int):CF:=fun args H=>match args with
 | [.int .i64 a,.slice b off len e]=>(match H.block b with
  | .mk c lo sz _=>cond (Nat.beq len 1) (cond (Nat.beq e 1) (cond (Nat.ble lo off) (cond (Nat.ble (Nat.add off 1) sz) (match c.get off with | some (.int .i64 x)=>some (true,.int .i64 (op a x)) | _=>none) none) none) none) none
  | .no=>none)
 | _=>none
theorem PH {g:FuncId} {op:Int→Int→Int} {val:Val} (hv:∀ a f,val [.one (.i .i64 a),.one (.sl 1 1 f)]=some (true,.int .i64 (op a (f 0 0)))) (h:Con Tryz.prog g val):kV Tryz.prog (g,cf2 op):=fun args H v hx0=>QZ h args H v<|by
 have hx:cf2 op args H=some (true,v):=hx0
 clear hx0
 unfold cf2 at hx
 split at hx
 ·rename_i a b off len e
  cases hb:H.block b with
  | no=>rw [hb] at hx;cases hx
  | mk c lo sz g =>
   rw [hb] at hx
   simp only at hx
   cases h1:Nat.beq len 1 with
   | false=>rw [h1] at hx;cases hx
   | true =>
   rw [h1] at hx
   cases h2:Nat.beq e 1 with
   | false=>rw [h2] at hx;cases hx
   | true =>
   rw [h2] at hx
   cases h3:Nat.ble lo off with
   | false=>rw [h3] at hx;cases hx
   | true =>
   rw [h3] at hx
   cases h4:Nat.ble (Nat.add off 1) sz with
   | false=>rw [h4] at hx;cases hx
   | true =>
   rw [h4] at hx
   simp only [cond_true] at hx
   split at hx
   ·rename_i x hc
    cases hx
    have:=nb h1;subst this
    have:=nb h2;subst this
    have hg:qQ c (Nat.mul 1 1) off=some [x]:=by
     show (match c.get off with | some (.int .i64 x)=>iY x (some []) | _=>none)=_
     rw [hc];rfl
    have e1:Oc H (.slice b off 1 1)=true:=by
     show (match H.block b with | .mk c _ _ _=>(match qQ c (Nat.mul 1 1) off with | some _=>true | none=>(match jE H c 1 off with | some l=>okW l | none=>true)) | .no=>true)=true
     rw [hb]
     simp only
     rw [hg]
    have e2:CY H (.slice b off 1 1) = .fz true H.next (ay .i64 (jY [x] 1)) 1 1:=by
     show (match H.block b with
      | .mk c lo sz _=>cond (Nat.ble lo off) (cond (Nat.ble (Nat.add off (Nat.mul 1 1)) sz) (match qQ c (Nat.mul 1 1) off with
       | some l=>V.fz true H.next (ay .i64 (jY l 1)) 1 1
       | none=>cond (Nat.beq 1 1) (match jE H c 1 off with | some l=>BB H (.slice b off 1 1) 1 1 l | none=>V.slice b off 1 1) (V.slice b off 1 1)) (V.slice b off 1 1)) (V.slice b off 1 1)
      | .no=>V.slice b off 1 1)=_
     rw [hb]
     simp only
     rw [h3,show Nat.ble (Nat.add off (Nat.mul 1 1)) sz=true from h4,hg]
     rfl
    show uC (cond true (cond (Oc H (.slice b off 1 1)) true false) false) (NS val [.int .i64 a,CY H (.slice b off 1 1)])=_
    rw [e1,e2]
    show uC true (uC true (val [.one (.i .i64 a),.one (.sl 1 1 (fun i j=>eP (ay .i64 (jY [x] 1) i j)))]))=_
    rw [hv];rfl
   ·cases hx
 ·cases hx
theorem UU:G9 (ev Tryz.prog aZ 300 (.call 51 [.nilSlice,.bad] (aW [])))=true:=by kernel_rfl
def I8:CF:=fun args _=>match args with | [.nilSlice,_]=>some (true,.bool true) | _=>none
theorem O6:kV Tryz.prog (51,I8):=fun args H v hx0=>by
 have hx:I8 args H=some (true,v):=hx0
 clear hx0
 unfold I8 at hx
 split at hx
 ·cases hx
  exact (LD drawn aG UU _ H).bump
 ·cases hx
def XM:Ext:=Q9 [(56,cf2 mn),(57,cf2 mx),(51,I8)] false
theorem pK:bM Tryz.prog XM:=AA (bI (PH (fun _ _=>rfl) Vp)<|bI (PH (fun _ _=>rfl) VD)<|bI O6 oG)
end
end HE
end Go.Proofs.YthakjbbhbnhmeaaGreat
