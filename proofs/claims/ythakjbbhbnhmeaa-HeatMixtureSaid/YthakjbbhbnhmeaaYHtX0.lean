/- Mixtures: the law's copy of a list of portions, its answer under a name of its own. -/
import Derived.Test.YthakjbbhbnhmeaaYHtM2
import Derived.Test.YthakjbbhbnhmeaaYHtAll
import Derived.Test.YthakjbbhbnhmeaaYEe
set_option linter.all false
set_option linter.unusedSimpArgs false
set_option linter.unusedVariables false
namespace Go.Proofs.Ythakjbbhbnhmeaa
namespace MX
open Go Go.Ev
set_option maxRecDepth 1000000
noncomputable section
def eq3 (nm:Nat→Nat→Int):Nat→Nat→List Int→Bool:=Nat.rec (motive:=fun _=>Nat→List Int→Bool) (fun _ _=>true) (fun _ ih i l=>match l with
 | x::y::z::l=>cond (ah x (nm i 0)) (cond (ah y (nm i 1)) (cond (ah z (nm i 2)) (fN (Nat.succ i) fun i=>ih i l) false) false) false
 | _=>false)
theorem Jf {nm:Nat→Nat→Int}:∀ (n i:Nat) (l:List Int),eq3 nm n i l=true→∀ a j,a<n→j<3→Sj l (a*3+j)=nm (i+a) j
 | 0,_,_,_,a,_,ha,_=>by omega
 | n+1,i,l,h,a,j,ha,hj=>by
  match l,h with
  | x::y::z::l,h =>
   have h:cond (ah x (nm i 0)) (cond (ah y (nm i 1)) (cond (ah z (nm i 2)) (fN (Nat.succ i) fun i=>eq3 nm n i l) false) false) false=true:=h
   obtain ⟨h1,h⟩:=ai h
   obtain ⟨h2,h⟩:=ai h
   obtain ⟨h3,h⟩:=ai h
   rw [aW] at h
   rw [iF] at h1 h2 h3
   cases a with
   | zero =>
    have hj':j=0∨j=1∨j=2:=by omega
    rcases hj' with rfl | rfl | rfl
    ·exact h1
    ·exact h2
    ·exact h3
   | succ a =>
    have:=Jf n (i+1) l h a j (by omega) hj
    rw [show i+(a+1)=i+1+a by omega,← this,show (a+1)*3+j=a*3+j+1+1+1 by omega]
    rfl
def O0 (nm:Nat→Nat→Int) (k:Nat):CF:=fun args H=>match args with
 | [.slice b off len e]=>cond (Nat.beq len k) (cond (Nat.beq e 3) (match H.block b with
  | .mk c lo sz _=>cond (Nat.ble lo off) (cond (Nat.ble (Nat.add off (Nat.mul len e)) sz) (match lX c (Nat.mul len e) off with
   | some l=>some (cond (Nat.ble len 9) (eq3 nm len 0 l) false,.fz true H.next (aj .i64 nm) len 3)
   | none=>none) none) none
  | .no=>none) none) none
 | _=>none
def RD:CF:=fun args H=>match args with
 | [.fz _ _ c len e]=>cond (Nat.beq e 3) (some (cond (Nat.ble len 9) (cond (Nat.beq (lY (c 0 0)) 0) (je .i64 c len 3) false) false,.fz true H.next c len 3)) none
 | _=>none
theorem Ji {P:Program} {g:FuncId} {args:List V} {H H':EH} {v v2:V} (h:SpecCall P g args H v H') (hv:∀ R x,VR R v x→VR R v2 x):SpecCall P g args H v2 H' :=
 ⟨h.1,h.2.1,fun R w args' n hr hw hf ha=>(h.2.2 R w args' n hr hw hf ha).mono fun e w' ⟨x,R',e1,e2,e3⟩=>⟨x,R',e1,hv R' x e2,e3⟩⟩
theorem O1 {n len e:Nat} {c c':Nat→Nat→V} (f:Nat→Nat→Int) (hc:∀ i j,i<len→j<e→c i j = .int .i64 (f i j)) (hc':∀ i j,i<len→j<e→c' i j = .int .i64 (f i j)):∀ R x,VR R (.fz true n c len e) x→VR R (.fz true n c' len e) x:=fun R x h =>
 h.fz_as (fun _ _ q=>q) (fun i j hi hj=>by rw [hc' i j hi hj];rfl) (fun i j hi hj=>by rw [hc' i j hi hj];exact .int _ _) fun i j hi hj y hy=>by rw [hc' i j hi hj];rw [hc i j hi hj] at hy;exact hy
theorem JA (nm:Nat→Nat→Int) (k:Nat):gq Try.prog (19,O0 nm k):=fun args H v hx0=>by
 have hx:O0 nm k args H=some (true,v):=hx0
 clear hx0
 unfold O0 at hx
 split at hx
 ·rename_i b off len e
  cases q1:Nat.beq len k with
  | false=>rw [q1] at hx;cases hx
  | true =>
  rw [q1] at hx
  cases q2:Nat.beq e 3 with
  | false=>rw [q2] at hx;cases hx
  | true =>
  rw [q2] at hx
  simp only [cond_true] at hx
  cases hb:H.block b with
  | no=>rw [hb] at hx;cases hx
  | mk c lo sz g =>
   rw [hb] at hx
   simp only at hx
   cases h3:Nat.ble lo off with
   | false=>rw [h3] at hx;cases hx
   | true =>
   rw [h3] at hx
   cases h4:Nat.ble (Nat.add off (Nat.mul len e)) sz with
   | false=>rw [h4] at hx;cases hx
   | true =>
   rw [h4] at hx
   simp only [cond_true] at hx
   cases hg:lX c (Nat.mul len e) off with
   | none=>rw [hg] at hx;cases hx
   | some l =>
    rw [hg] at hx
    have hbb:=congrArg Prod.fst (Option.some.inj hx)
    have hv:=congrArg Prod.snd (Option.some.inj hx)
    subst hv
    obtain ⟨h9,he⟩:=ai hbb
    have:=nb q2;subst this
    have e1:Hm H (.slice b off len 3)=true:=by
     show (match H.block b with | .mk c _ _ _=>(match lX c (Nat.mul len 3) off with | some _=>true | none=>(match jm H c len off with | some l=>okW l | none=>true)) | .no=>true)=true
     rw [hb]
     simp only
     rw [hg]
    have e2:wB H (.slice b off len 3) = .fz true H.next (aj .i64 (au l 3)) len 3:=by
     show (match H.block b with
      | .mk c lo sz _=>cond (Nat.ble lo off) (cond (Nat.ble (Nat.add off (Nat.mul len 3)) sz) (match lX c (Nat.mul len 3) off with
       | some l=>V.fz true H.next (aj .i64 (au l 3)) len 3
       | none=>cond (Nat.beq 3 1) (match jm H c len off with | some l=>yP H (.slice b off len 3) len 3 l | none=>V.slice b off len 3) (V.slice b off len 3)) (V.slice b off len 3)) (V.slice b off len 3)
      | .no=>V.slice b off len 3)=_
     rw [hb]
     simp only
     rw [h3,h4,hg]
     rfl
    have hcf:XI y9 [.slice b off len 3] H=some (true,mG H.next (.fz true 0 (aj .i64 (fun i j=>dn (aj .i64 (au l 3) i j))) len 3)):=by
     show okO (cond (Hm H (.slice b off len 3)) true false) (DN y9 H.next [wB H (.slice b off len 3)])=_
     rw [e1,e2]
     show okO true (yw (cond (je .i64 (aj .i64 (au l 3)) len 3) true false) H.next (some (Nat.ble len 9,.fz true 0 (aj .i64 (fun i j=>dn (aj .i64 (au l 3) i j))) len 3)))=_
     rw [cO,h9]
     rfl
    refine Ji (OT Ul _ _ _ hcf) (O1 (fun i j=>nm i j) (fun i j hi hj=>?_) (fun i j hi hj=>rfl))
    show V.int .i64 (Sj l (i*3+j))=_
    rw [Jf len 0 l he i j hi hj,Nat.zero_add]
 ·cases hx
theorem Rh:gq Try.prog (19,RD):=fun args H v hx0=>by
 have hx:RD args H=some (true,v):=hx0
 clear hx0
 unfold RD at hx
 split at hx
 ·rename_i q a c len e
  cases q2:Nat.beq e 3 with
  | false=>rw [q2] at hx;cases hx
  | true =>
   rw [q2] at hx
   have hbb:=congrArg Prod.fst (Option.some.inj hx)
   have hv:=congrArg Prod.snd (Option.some.inj hx)
   subst hv
   obtain ⟨h9,h⟩:=ai hbb
   obtain ⟨h0,ha⟩:=ai h
   have:=nb q2;subst this
   have h0:=nb h0
   have hcf:cfN y9 [.fz q a c len 3] H=some (true,mG H.next (.fz true 0 (aj .i64 (fun i j=>dn (c i j))) len 3)):=by
    have hd:dec [V.fz q a c len 3]=some [.one (.sl 3 len fun i j=>dn (c i j))]:=by
     show iJ (DA.one (MQ c len 3 (lY (c 0 0)))) (some [])=_
     rw [h0];rfl
    have ho:yl [V.fz q a c len 3]=true:=by
     show cond (okF a c len 3 (lY (c 0 0))) true false=true
     rw [h0]
     show cond (je .i64 c len 3) true false=true
     rw [ha];rfl
    show (match dec [V.fz q a c len 3] with | some das=>yw (yl [V.fz q a c len 3]) H.next (y9 das) | none=>none)=_
    rw [hd]
    show yw (yl [V.fz q a c len 3]) H.next (some (Nat.ble len 9,.fz true 0 (aj .i64 (fun i j=>dn (c i j))) len 3))=_
    rw [ho,h9]
    rfl
   refine Ji (QR Ul _ _ _ hcf) (O1 (fun i j=>dn (c i j)) (fun i j hi hj=>rfl) (fun i j hi hj=>mP ha hi hj))
 ·cases hx
end
end MX
end Go.Proofs.Ythakjbbhbnhmeaa
