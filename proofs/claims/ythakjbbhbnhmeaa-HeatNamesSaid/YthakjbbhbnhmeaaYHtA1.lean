/- Stage 3: the minimum and the maximum of two numbers, as contracts. -/
import Derived.Test.YthakjbbhbnhmeaaYHtK
import Derived.Test.YthakjbbhbnhmeaaYEe
set_option linter.all false
set_option linter.unusedSimpArgs false
set_option linter.unusedVariables false
namespace Go.Proofs.Ythakjbbhbnhmeaa
namespace HE
open Go Go.Ev
set_option maxRecDepth 1000000
noncomputable section
def mn (a b:Int):Int:=cond (wY a b) a b
def mx (a b:Int):Int:=cond (wY a b) b a
theorem bLe (a:Int) (f:Nat→Nat→Int):VC (xq Try.prog AV 300 52 (enc [.one (.i .i64 a),.one (.sl 1 1 f)] 0) 1 (fun v=>sH v (.int .i64 (mn a (f 0 0))))) .nil:=PS ((((cond (wY a (f 0 0)) a (f 0 0)):Int)=(cond (wY a (f 0 0)) a (f 0 0))))
theorem bGr (a:Int) (f:Nat→Nat→Int):VC (xq Try.prog AV 300 53 (enc [.one (.i .i64 a),.one (.sl 1 1 f)] 0) 1 (fun v=>sH v (.int .i64 (mx a (f 0 0))))) .nil:=PS ((((cond (wY (f 0 0) a) a (f 0 0)):Int)=(cond (wY a (f 0 0)) (f 0 0) a)))
def PK:Val:=fun das=>match das with | [.one (.i .i64 a),.one (.sl 1 1 f)]=>some (true,.int .i64 (mn a (f 0 0))) | _=>none
def QE:Val:=fun das=>match das with | [.one (.i .i64 a),.one (.sl 1 1 f)]=>some (true,.int .i64 (mx a (f 0 0))) | _=>none
theorem Td:Con Try.prog 52 PK:=by
 intro das v hv
 unfold PK at hv
 split at hv
 ·have hv:=congrArg Prod.snd (Option.some.inj hv)
  subst hv
  exact BA drawn kG rfl (bLe _ _)
 ·cases hv
theorem Sl:Con Try.prog 53 QE:=by
 intro das v hv
 unfold QE at hv
 split at hv
 ·have hv:=congrArg Prod.snd (Option.some.inj hv)
  subst hv
  exact BA drawn kG rfl (bGr _ _)
 ·cases hv
def cf2 (op:Int→Int→Int):CF:=fun args H=>match args with
 | [.int .i64 a,.slice b off len e]=>(match H.block b with
  | .mk c lo sz _=>cond (Nat.beq len 1) (cond (Nat.beq e 1) (cond (Nat.ble lo off) (cond (Nat.ble (Nat.add off 1) sz) (match c.get off with | some (.int .i64 x)=>some (true,.int .i64 (op a x)) | _=>none) none) none) none) none
  | .no=>none)
 | _=>none
theorem KA {g:FuncId} {op:Int→Int→Int} {val:Val} (hv:∀ a f,val [.one (.i .i64 a),.one (.sl 1 1 f)]=some (true,.int .i64 (op a (f 0 0)))) (h:Con Try.prog g val):lT Try.prog (g,cf2 op):=fun args H v hx0=>N9 h args H v<|by
 have hx:cf2 op args H=some (true,v):=hx0
 clear hx0
 unfold cf2 at hx
 split at hx
 ·rename_i a b off len e
  cases hb:H.block b with
  | no=>rw [hb] at hx;cases hx
  | mk c lo sz g =>
   rw [hb] at hx
   simp only at hx
   cases h1:Nat.beq len 1 with
   | false=>rw [h1] at hx;cases hx
   | true =>
   rw [h1] at hx
   cases h2:Nat.beq e 1 with
   | false=>rw [h2] at hx;cases hx
   | true =>
   rw [h2] at hx
   cases h3:Nat.ble lo off with
   | false=>rw [h3] at hx;cases hx
   | true =>
   rw [h3] at hx
   cases h4:Nat.ble (Nat.add off 1) sz with
   | false=>rw [h4] at hx;cases hx
   | true =>
   rw [h4] at hx
   simp only [cond_true] at hx
   split at hx
   ·rename_i x hc
    cases hx
    have:=nb h1;subst this
    have:=nb h2;subst this
    have hg:pK c (Nat.mul 1 1) off=some [x]:=by
     show (match c.get off with | some (.int .i64 x)=>jb x (some []) | _=>none)=_
     rw [hc];rfl
    have e1:Kv H (.slice b off 1 1)=true:=by
     show (match H.block b with | .mk c _ _ _=>(match pK c (Nat.mul 1 1) off with | some _=>true | none=>(match iQ H c 1 off with | some l=>okW l | none=>true)) | .no=>true)=true
     rw [hb]
     simp only
     rw [hg]
    have e2:zX H (.slice b off 1 1) = .fz true H.next (bZ .i64 (jf [x] 1)) 1 1:=by
     show (match H.block b with
      | .mk c lo sz _=>cond (Nat.ble lo off) (cond (Nat.ble (Nat.add off (Nat.mul 1 1)) sz) (match pK c (Nat.mul 1 1) off with
       | some l=>V.fz true H.next (bZ .i64 (jf l 1)) 1 1
       | none=>cond (Nat.beq 1 1) (match iQ H c 1 off with | some l=>Cc H (.slice b off 1 1) 1 1 l | none=>V.slice b off 1 1) (V.slice b off 1 1)) (V.slice b off 1 1)) (V.slice b off 1 1)
      | .no=>V.slice b off 1 1)=_
     rw [hb]
     simp only
     rw [h3,show Nat.ble (Nat.add off (Nat.mul 1 1)) sz=true from h4,hg]
     rfl
    show BP (cond true (cond (Kv H (.slice b off 1 1)) true false) false) (LG val [.int .i64 a,zX H (.slice b off 1 1)])=_
    rw [e1,e2]
    show BP true (BP true (val [.one (.i .i64 a),.one (.sl 1 1 (fun i j=>gV (bZ .i64 (jf [x] 1) i j)))]))=_
    rw [hv];rfl
   ·cases hx
 ·cases hx
theorem RH:ED (ev Try.prog AV 300 (.call 47 [.nilSlice,.bad] (aP [])))=true:=by kernel_rfl
def FU:CF:=fun args _=>match args with | [.nilSlice,_]=>some (true,.bool true) | _=>none
theorem JP:lT Try.prog (47,FU):=fun args H v hx0=>by
 have hx:FU args H=some (true,v):=hx0
 clear hx0
 unfold FU at hx
 split at hx
 ·cases hx
  exact (Ja drawn kG RH _ H).bump
 ·cases hx
def XM:Ext:=Ue [(52,cf2 mn),(53,cf2 mx),(47,FU)] false
theorem gX:dm Try.prog XM:=O4 (jO (KA (fun _ _=>rfl) Td)<|jO (KA (fun _ _=>rfl) Sl)<|jO JP DU)
end
end HE
end Go.Proofs.Ythakjbbhbnhmeaa
