/- Stage 3: the minimum and the maximum of two numbers, as contracts. -/
import Derived.Test.YthakjbbhbnhmeaaYHtK
import Derived.Test.YthakjbbhbnhmeaaYEe
set_option linter.all false
set_option linter.unusedSimpArgs false
set_option linter.unusedVariables false
namespace Go.Proofs.Ythakjbbhbnhmeaa
namespace HE
open Go Go.Ev
set_option maxRecDepth 1000000
noncomputable section
def mn (a b:Int):Int:=cond (ae a b) a b
def mx (a b:Int):Int:=cond (ae a b) b a
theorem bLe (a:Int) (f:Nat→Nat→Int):VC (aC Try.prog bY 300 52 (enc [.one (.i .i64 a),.one (.sl 1 1 f)] 0) 1 (fun v=>aP v (.int .i64 (mn a (f 0 0))))) .nil:=aB ((((cond (ae a (f 0 0)) a (f 0 0)):Int)=(cond (ae a (f 0 0)) a (f 0 0))))
theorem bGr (a:Int) (f:Nat→Nat→Int):VC (aC Try.prog bY 300 53 (enc [.one (.i .i64 a),.one (.sl 1 1 f)] 0) 1 (fun v=>aP v (.int .i64 (mx a (f 0 0))))) .nil:=aB ((((cond (ae (f 0 0) a) a (f 0 0)):Int)=(cond (ae a (f 0 0)) (f 0 0) a)))
def UI:Val:=fun das=>match das with | [.one (.i .i64 a),.one (.sl 1 1 f)]=>some (true,.int .i64 (mn a (f 0 0))) | _=>none
def UH:Val:=fun das=>match das with | [.one (.i .i64 a),.one (.sl 1 1 f)]=>some (true,.int .i64 (mx a (f 0 0))) | _=>none
theorem XF:Con Try.prog 52 UI:=by
 intro das v hv
 unfold UI at hv
 split at hv
 ·have hv:=congrArg Prod.snd (Option.some.inj hv)
  subst hv
  exact ak drawn bu rfl (bLe _ _)
 ·cases hv
theorem X9:Con Try.prog 53 UH:=by
 intro das v hv
 unfold UH at hv
 split at hv
 ·have hv:=congrArg Prod.snd (Option.some.inj hv)
  subst hv
  exact ak drawn bu rfl (bGr _ _)
 ·cases hv
def cf2 (op:Int→Int→Int):CF:=fun args H=>match args with
 | [.int .i64 a,.slice b off len e]=>(match H.block b with
  | .mk c lo sz _=>cond (Nat.beq len 1) (cond (Nat.beq e 1) (cond (Nat.ble lo off) (cond (Nat.ble (Nat.add off 1) sz) (match c.get off with | some (.int .i64 x)=>some (true,.int .i64 (op a x)) | _=>none) none) none) none) none
  | .no=>none)
 | _=>none
theorem P7 {g:FuncId} {op:Int→Int→Int} {val:Val} (hv:∀ a f,val [.one (.i .i64 a),.one (.sl 1 1 f)]=some (true,.int .i64 (op a (f 0 0)))) (h:Con Try.prog g val):gq Try.prog (g,cf2 op):=fun args H v hx0=>SN h args H v<|by
 have hx:cf2 op args H=some (true,v):=hx0
 clear hx0
 unfold cf2 at hx
 split at hx
 ·rename_i a b off len e
  cases hb:H.block b with
  | no=>rw [hb] at hx;cases hx
  | mk c lo sz g =>
   rw [hb] at hx
   simp only at hx
   cases h1:Nat.beq len 1 with
   | false=>rw [h1] at hx;cases hx
   | true =>
   rw [h1] at hx
   cases h2:Nat.beq e 1 with
   | false=>rw [h2] at hx;cases hx
   | true =>
   rw [h2] at hx
   cases h3:Nat.ble lo off with
   | false=>rw [h3] at hx;cases hx
   | true =>
   rw [h3] at hx
   cases h4:Nat.ble (Nat.add off 1) sz with
   | false=>rw [h4] at hx;cases hx
   | true =>
   rw [h4] at hx
   simp only [cond_true] at hx
   split at hx
   ·rename_i x hc
    cases hx
    have:=nb h1;subst this
    have:=nb h2;subst this
    have hg:lX c (Nat.mul 1 1) off=some [x]:=by
     show (match c.get off with | some (.int .i64 x)=>iJ x (some []) | _=>none)=_
     rw [hc];rfl
    have e1:Hm H (.slice b off 1 1)=true:=by
     show (match H.block b with | .mk c _ _ _=>(match lX c (Nat.mul 1 1) off with | some _=>true | none=>(match jm H c 1 off with | some l=>okW l | none=>true)) | .no=>true)=true
     rw [hb]
     simp only
     rw [hg]
    have e2:wB H (.slice b off 1 1) = .fz true H.next (aj .i64 (au [x] 1)) 1 1:=by
     show (match H.block b with
      | .mk c lo sz _=>cond (Nat.ble lo off) (cond (Nat.ble (Nat.add off (Nat.mul 1 1)) sz) (match lX c (Nat.mul 1 1) off with
       | some l=>V.fz true H.next (aj .i64 (au l 1)) 1 1
       | none=>cond (Nat.beq 1 1) (match jm H c 1 off with | some l=>yP H (.slice b off 1 1) 1 1 l | none=>V.slice b off 1 1) (V.slice b off 1 1)) (V.slice b off 1 1)) (V.slice b off 1 1)
      | .no=>V.slice b off 1 1)=_
     rw [hb]
     simp only
     rw [h3,show Nat.ble (Nat.add off (Nat.mul 1 1)) sz=true from h4,hg]
     rfl
    show vJ (cond true (cond (Hm H (.slice b off 1 1)) true false) false) (PN val [.int .i64 a,wB H (.slice b off 1 1)])=_
    rw [e1,e2]
    show vJ true (vJ true (val [.one (.i .i64 a),.one (.sl 1 1 (fun i j=>dn (aj .i64 (au [x] 1) i j)))]))=_
    rw [hv];rfl
   ·cases hx
 ·cases hx
theorem U5:FD (ev Try.prog bY 300 (.call 47 [.nilSlice,.bad] (bH [])))=true:=by kernel_rfl
def IE:CF:=fun args _=>match args with | [.nilSlice,_]=>some (true,.bool true) | _=>none
theorem NG:gq Try.prog (47,IE):=fun args H v hx0=>by
 have hx:IE args H=some (true,v):=hx0
 clear hx0
 unfold IE at hx
 split at hx
 ·cases hx
  exact (MG drawn bu U5 _ H).bump
 ·cases hx
def XM:Ext:=Tt [(52,cf2 mn),(53,cf2 mx),(47,IE)] false
theorem pY:cZ Try.prog XM:=Ah (dA (P7 (fun _ _=>rfl) XF)<|dA (P7 (fun _ _=>rfl) X9)<|dA NG oK)
end
end HE
end Go.Proofs.Ythakjbbhbnhmeaa
