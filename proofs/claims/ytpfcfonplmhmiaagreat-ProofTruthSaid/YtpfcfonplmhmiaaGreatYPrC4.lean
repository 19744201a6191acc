/- Casks: contracts: Strengths, Tenths, Duty, Duties: what they are, in words. -/
import Derived.Test.YtpfcfonplmhmiaaGreatYPrC3
set_option linter.all false
set_option linter.unusedSimpArgs false
set_option linter.unusedVariables false
namespace Go.Proofs.YtpfcfonplmhmiaaGreat
open Go Go.Ev
set_option maxRecDepth 1000000
set_option maxHeartbeats 0
noncomputable section
theorem Dh (A:Nat) (B:Nat→Nat→Int) (I:Nat) (J:Nat→Nat→Int) (n:Nat) (M:Nat→Nat) (f:Nat→Nat→Nat→Int) (r:Int) (O:Nat) (E:Nat→Nat→Int) (h:StOk A B I J n M f r O E) {i:Nat} (hi:i<O):0≤gm A B I J f E i∧gm A B I J f E i≤gp A B I J f E i∧gp A B I J f E i≤2000:=by
 obtain ⟨_,hw,hm⟩:=h.cask i hi
 obtain ⟨x,y,hx,hy,e1⟩:=Yr (A:=A) (B:=B) (I:=I) (J:=J) (f:=f) hw.1 hm.1
 obtain ⟨x',y',hx',hy',e2⟩:=X7 (A:=A) (B:=B) (I:=I) (J:=J) (f:=f) hw.1 hm.1
 have b:=ZT (A:=A) (B:=B) (I:=I) (J:=J) (f:=f) hw.1 hm.1 hx hy
 have hw':=hw
 have hm':=hm
 unfold rgB Ai at hw' hm'
 have s1:=KW h.ok (x:=x) (y:=y) (by unfold Ai;omega) (by unfold Ai;omega)
 have s2:=KW h.ok (x:=x') (y:=y') (by unfold Ai;omega) (by unfold Ai;omega)
 unfold gm gp
 omega
theorem UQ (x0 x1 x2 x3 x4 x5:Int) {i:Nat} (g:Nat→Int) (h0:g 0=x0) (h1:g 1=x1) (h2:g 2=x2) (h3:g 3=x3) (h4:g 4=x4) (h5:g 5=x5) (hi:i<6):fA [x0,x1,x2,x3,x4,x5] (Int.ofNat i)=g i:=by
 have:i=0∨i=1∨i=2∨i=3∨i=4∨i=5:=by omega
 rcases this with rfl | rfl | rfl | rfl | rfl | rfl
 ·exact h0.symm
 ·exact h1.symm
 ·exact h2.symm
 ·exact h3.symm
 ·exact h4.symm
 ·exact h5.symm
theorem qh {a b:Nat} (h:a<b):Nat.blt a b=true:=(qY _ _).mpr h
theorem YV {a b:Nat} (h:¬ a<b):Nat.blt a b=false:=(uY _ _).mpr (by omega)
theorem Jr {A:Nat} {B:Nat→Nat→Int} {I:Nat} {J:Nat→Nat→Int} {f:Nat→Nat→Nat→Int} {O:Nat} {E:Nat→Nat→Int} {i:Nat} (h6:O≤6) (hi:i<O):fA [bQ A B I J f O E 0,bQ A B I J f O E 1,bQ A B I J f O E 2,bQ A B I J f O E 3,bQ A B I J f O E 4,bQ A B I J f O E 5] (Int.ofNat i)=gm A B I J f E i:=by
 rw [UQ _ _ _ _ _ _ (bQ A B I J f O E) rfl rfl rfl rfl rfl rfl (by omega)]
 unfold bQ
 rw [qh hi];rfl
theorem Jd {A:Nat} {B:Nat→Nat→Int} {I:Nat} {J:Nat→Nat→Int} {f:Nat→Nat→Nat→Int} {O:Nat} {E:Nat→Nat→Int} {i:Nat} (h6:O≤6) (hi:i<O):fA [bM A B I J f O E 0,bM A B I J f O E 1,bM A B I J f O E 2,bM A B I J f O E 3,bM A B I J f O E 4,bM A B I J f O E 5] (Int.ofNat i)=gp A B I J f E i:=by
 rw [UQ _ _ _ _ _ _ (bM A B I J f O E) rfl rfl rfl rfl rfl rfl (by omega)]
 unfold bM
 rw [qh hi];rfl
theorem DT {k:Nat} {t:Nat→Nat→Int} {i:Nat} (h6:k≤6) (hi:i<k):fA [aG k t 0,aG k t 1,aG k t 2,aG k t 3,aG k t 4,aG k t 5] (Int.ofNat i)=t i 0:=by
 rw [UQ _ _ _ _ _ _ (aG k t) rfl rfl rfl rfl rfl rfl (by omega)]
 unfold aG
 rw [qh hi];rfl
theorem Ja {O:Nat} {E:Nat→Nat→Int} {t0 t1 t2 t3 t4 t5:Int} (h6:O≤6) (h:∀ i,i<O→(1≤E i 0∧E i 0≤99)∧0≤fA [t0,t1,t2,t3,t4,t5] (Int.ofNat i)∧fA [t0,t1,t2,t3,t4,t5] (Int.ofNat i)≤2000):ry O E t0 t1 t2 t3 t4 t5=true :=
 aV (dU h6) (bF fun i hi=>aV (gaB_t.mpr (h i hi).1) (srB_t.mpr (h i hi).2))
theorem Xz (A:Nat) (B:Nat→Nat→Int) (I:Nat) (J:Nat→Nat→Int) (n:Nat) (M:Nat→Nat) (f:Nat→Nat→Nat→Int) (r:Int) (O:Nat) (E:Nat→Nat→Int) (h:StOk A B I J n M f r O E):ry O E (bQ A B I J f O E 0) (bQ A B I J f O E 1) (bQ A B I J f O E 2) (bQ A B I J f O E 3) (bQ A B I J f O E 4) (bQ A B I J f O E 5)=true:=Ja h.six fun i hi=>by
 rw [Jr h.six hi]
 have:=Dh A B I J n M f r O E h hi
 exact ⟨(h.cask i hi).1,by omega,by omega⟩
theorem XH (A:Nat) (B:Nat→Nat→Int) (I:Nat) (J:Nat→Nat→Int) (n:Nat) (M:Nat→Nat) (f:Nat→Nat→Nat→Int) (r:Int) (O:Nat) (E:Nat→Nat→Int) (h:StOk A B I J n M f r O E):ry O E (bM A B I J f O E 0) (bM A B I J f O E 1) (bM A B I J f O E 2) (bM A B I J f O E 3) (bM A B I J f O E 4) (bM A B I J f O E 5)=true:=Ja h.six fun i hi=>by
 rw [Jd h.six hi]
 have:=Dh A B I J n M f r O E h hi
 exact ⟨(h.cask i hi).1,by omega,by omega⟩
def Tru (A:Nat) (B:Nat→Nat→Int) (I:Nat) (J:Nat→Nat→Int) (f:Nat→Nat→Nat→Int) (O:Nat) (E:Nat→Nat→Int) (k:Nat) (t:Nat→Nat→Int):Prop:=k=O∧∀ i,i<O→gm A B I J f E i≤t i 0∧t i 0≤gp A B I J f E i
theorem aa3 {l t:Int}:aP (mnI l t) l=true↔l≤t:=by
 unfold mnI
 rw [eu,Bh];omega
theorem ab7 {h t:Int}:aP (mnI h t) t=true↔t≤h:=by
 unfold mnI
 rw [eu,Bh];omega
theorem htV_t {l0 l1 l2 l3 l4 l5 h0 h1 h2 h3 h4 h5 t0 t1 t2 t3 t4 t5:Int}:htV l0 l1 l2 l3 l4 l5 h0 h1 h2 h3 h4 h5 t0 t1 t2 t3 t4 t5=true↔((l0≤t0∧t0≤h0)∧(l1≤t1∧t1≤h1)∧(l2≤t2∧t2≤h2)∧(l3≤t3∧t3≤h3)∧(l4≤t4∧t4≤h4)∧(l5≤t5∧t5≤h5)):=by
 unfold htV
 simp only [Bool.cond_false_right,Bool.and_eq_true,aa3,ab7,and_true]
 omega
theorem aaH (A:Nat) (B:Nat→Nat→Int) (I:Nat) (J:Nat→Nat→Int) (n:Nat) (M:Nat→Nat) (f:Nat→Nat→Nat→Int) (r:Int) (O:Nat) (E:Nat→Nat→Int) (h:StOk A B I J n M f r O E) (k:Nat) (t:Nat→Nat→Int):htW k O (bQ A B I J f O E 0) (bQ A B I J f O E 1) (bQ A B I J f O E 2) (bQ A B I J f O E 3) (bQ A B I J f O E 4) (bQ A B I J f O E 5) (bM A B I J f O E 0) (bM A B I J f O E 1) (bM A B I J f O E 2) (bM A B I J f O E 3) (bM A B I J f O E 4) (bM A B I J f O E 5) t=true↔Tru A B I J f O E k t:=by
 have h6:=h.six
 constructor
 ·intro q
  obtain ⟨q1,q2⟩:=ah q
  have q1:=nb q1
  subst q1
  refine ⟨rfl,fun i hi=>?_⟩
  have q3:=htV_t.mp q2
  have e1:bQ A B I J f k E i=gm A B I J f E i:=by unfold bQ;rw [qh hi];rfl
  have e2:bM A B I J f k E i=gp A B I J f E i:=by unfold bM;rw [qh hi];rfl
  have e3:aG k t i=t i 0:=by unfold aG;rw [qh hi];rfl
  rw [← e1,← e2,← e3]
  have:i=0∨i=1∨i=2∨i=3∨i=4∨i=5:=by omega
  rcases this with rfl | rfl | rfl | rfl | rfl | rfl<;>omega
 ·rintro ⟨rfl,q⟩
  unfold htW
  rw [show Nat.beq k k=true from Nat.beq_refl k]
  have g:∀ i,bQ A B I J f k E i≤aG k t i∧aG k t i≤bM A B I J f k E i:=fun i=>by
   unfold bQ bM aG
   by_cases hi:i<k
   ·rw [qh hi];exact q i hi
   ·rw [YV hi];exact ⟨Int.le_refl _,Int.le_refl _⟩
  exact htV_t.mpr ⟨g 0,g 1,g 2,g 3,g 4,g 5⟩
theorem QM (A:Nat) (B:Nat→Nat→Int) (I:Nat) (J:Nat→Nat→Int) (n:Nat) (M:Nat→Nat) (f:Nat→Nat→Nat→Int) (r:Int) (O:Nat) (E:Nat→Nat→Int) (h:StOk A B I J n M f r O E) {k:Nat} {t:Nat→Nat→Int} (ht:Tru A B I J f O E k t):ry O E (aG k t 0) (aG k t 1) (aG k t 2) (aG k t 3) (aG k t 4) (aG k t 5)=true:=Ja h.six fun i hi=>by
 have e:=ht.1
 rw [DT (by rw [e];exact h.six) (by omega)]
 have:=Dh A B I J n M f r O E h hi
 have:=ht.2 i hi
 exact ⟨(h.cask i hi).1,by omega,by omega⟩
theorem nG (A:Nat) (B:Nat→Nat→Int) (I:Nat) (J:Nat→Nat→Int) (n:Nat) (M:Nat→Nat) (f:Nat→Nat→Nat→Int) (r:Int) (O:Nat) (E:Nat→Nat→Int) (h:dO A B I J n M f r O E=0):aK A B I J n M f=0∧O≤6∧gI A B I J E O=true:=by
 have ok:=qC A B I J n M f r O E h
 rcases vP A B I J n M f r O E with ⟨h1,h2⟩ | ⟨_,_,h3⟩ | ⟨_,_,_,h3⟩ | ⟨h1,h2,h3,_⟩
 ·rw [h2] at h;exact absurd h h1
 ·rw [h3] at h;cases h
 ·rw [h3] at h;cases h
 ·exact ⟨h1,h2,h3.2.2⟩
def vF (A:Nat) (B:Nat→Nat→Int) (I:Nat) (J:Nat→Nat→Int) (n:Nat) (M:Nat→Nat) (f:Nat→Nat→Nat→Int) (r:Int) (O:Nat) (E:Nat→Nat→Int) (k:Nat) (t:Nat→Nat→Int):Int:=cond (aP (dO A B I J n M f r O E) 0) (cond (htW k O (bQ A B I J f O E 0) (bQ A B I J f O E 1) (bQ A B I J f O E 2) (bQ A B I J f O E 3) (bQ A B I J f O E 4) (bQ A B I J f O E 5) (bM A B I J f O E 0) (bM A B I J f O E 1) (bM A B I J f O E 2) (bM A B I J f O E 3) (bM A B I J f O E 4) (bM A B I J f O E 5) t) 0 2) (dO A B I J n M f r O E)
theorem vY (A:Nat) (B:Nat→Nat→Int) (I:Nat) (J:Nat→Nat→Int) (n:Nat) (M:Nat→Nat) (f:Nat→Nat→Nat→Int) (r:Int) (O:Nat) (E:Nat→Nat→Int) (k:Nat) (t:Nat→Nat→Int):(¬ dO A B I J n M f r O E=0∧vF A B I J n M f r O E k t=dO A B I J n M f r O E)∨(dO A B I J n M f r O E=0∧StOk A B I J n M f r O E∧¬ Tru A B I J f O E k t∧htW k O (bQ A B I J f O E 0) (bQ A B I J f O E 1) (bQ A B I J f O E 2) (bQ A B I J f O E 3) (bQ A B I J f O E 4) (bQ A B I J f O E 5) (bM A B I J f O E 0) (bM A B I J f O E 1) (bM A B I J f O E 2) (bM A B I J f O E 3) (bM A B I J f O E 4) (bM A B I J f O E 5) t=false∧vF A B I J n M f r O E k t=2) ∨
 (dO A B I J n M f r O E=0∧StOk A B I J n M f r O E∧Tru A B I J f O E k t∧htW k O (bQ A B I J f O E 0) (bQ A B I J f O E 1) (bQ A B I J f O E 2) (bQ A B I J f O E 3) (bQ A B I J f O E 4) (bQ A B I J f O E 5) (bM A B I J f O E 0) (bM A B I J f O E 1) (bM A B I J f O E 2) (bM A B I J f O E 3) (bM A B I J f O E 4) (bM A B I J f O E 5) t=true∧vF A B I J n M f r O E k t=0):=by
 unfold vF
 by_cases h:dO A B I J n M f r O E=0
 ·have ok:=qC A B I J n M f r O E h
  rw [(eu _ _).mpr h]
  cases q:htW k O (bQ A B I J f O E 0) (bQ A B I J f O E 1) (bQ A B I J f O E 2) (bQ A B I J f O E 3) (bQ A B I J f O E 4) (bQ A B I J f O E 5) (bM A B I J f O E 0) (bM A B I J f O E 1) (bM A B I J f O E 2) (bM A B I J f O E 3) (bM A B I J f O E 4) (bM A B I J f O E 5) t with
  | true=>exact .inr (.inr ⟨h,ok,(aaH A B I J n M f r O E ok k t).mp q,rfl,rfl⟩)
  | false=>exact .inr (.inl ⟨h,ok,fun z=>(by rw [(aaH A B I J n M f r O E ok k t).mpr z] at q;cases q),rfl,rfl⟩)
 ·rw [(gZ _ _).mpr h]
  exact .inl ⟨h,rfl⟩
def dW (A:Nat) (B:Nat→Nat→Int) (I:Nat) (J:Nat→Nat→Int) (n:Nat) (M:Nat→Nat) (f:Nat→Nat→Nat→Int) (r:Int) (O:Nat) (E:Nat→Nat→Int) (k:Nat) (t:Nat→Nat→Int):Nat:=cond (aP (vF A B I J n M f r O E k t) 0) O 0
def Qk:Fa:=fun das=>match das with | [.st [.sl 1 A B,.sl 1 I J,.rr 1 n M f,.i .i64 r,.sl 5 O E],.one (.sl 1 k t)]=>some (cond (iI A I n M) (Nat.ble O 1000) false,.tup [.one (.new (.sl 1 (dW A B I J n M f r O E k t) (aX E (aG k t 0) (aG k t 1) (aG k t 2) (aG k t 3) (aG k t 4) (aG k t 5)))),.one (.new (.i .i64 (vF A B I J n M f r O E k t)))]) | _=>none
theorem ZK:Jm Tryz.prog 19 Qk:=by
 intro das v hv
 unfold Qk at hv
 split at hv
 ·rename_i A B I J n M f r O E k t
  have hb:=congrArg Prod.fst (Option.some.inj hv)
  have hv:=congrArg Prod.snd (Option.some.inj hv)
  subst hv
  obtain ⟨hb,hn⟩:=ah hb
  have hn:=Nat.le_of_ble_eq_true hn
  rcases vY A B I J n M f r O E k t with ⟨h,e⟩ | ⟨h,ok,_,q,e⟩ | ⟨h,ok,ht,q,e⟩
  ·have e2:dW A B I J n M f r O E k t=0:=by unfold dW;rw [e,(gZ _ _).mpr h];rfl
   rw [e,e2]
   exact aA aj oU (te1 A B I J n M f r O E k t hb hn h)
  ·obtain ⟨c1,c2,c3⟩:=nG A B I J n M f r O E h
   have e2:dW A B I J n M f r O E k t=0:=by unfold dW;rw [e];rfl
   rw [e,e2]
   exact aA aj oU (te2 A B I J n M f r O E k t hb h c1 c2 c3 q)
  ·obtain ⟨c1,c2,c3⟩:=nG A B I J n M f r O E h
   have e2:dW A B I J n M f r O E k t=O:=by unfold dW;rw [e];rfl
   rw [e,e2]
   exact aA aj oU (te3 A B I J n M f r O E k t hb h c1 c2 c3 (by have:=ht.1;omega) q (QM A B I J n M f r O E ok ht))
 ·cases hv
def kT (A:Nat) (B:Nat→Nat→Int) (I:Nat) (J:Nat→Nat→Int) (n:Nat) (M:Nat→Nat) (f:Nat→Nat→Nat→Int) (r:Int) (O:Nat) (E:Nat→Nat→Int) (k:Nat) (t:Nat→Nat→Int):Int:=cond (aP (vF A B I J n M f r O E k t) 0) (qQ O E r (aG k t 0) (aG k t 1) (aG k t 2) (aG k t 3) (aG k t 4) (aG k t 5)) 0
def Sr:Val:=fun das=>match das with | [.st [.sl 1 A B,.sl 1 I J,.rr 1 n M f,.i .i64 r,.sl 5 O E],.one (.sl 1 k t)]=>some (cond (iI A I n M) (Nat.ble O 1000) false,.tup [.int .i64 (kT A B I J n M f r O E k t),.int .i64 (vF A B I J n M f r O E k t)]) | _=>none
theorem aac:oI Tryz.prog 15 Sr:=by
 intro das v hv
 unfold Sr at hv
 split at hv
 ·rename_i A B I J n M f r O E k t
  have hb:=congrArg Prod.fst (Option.some.inj hv)
  have hv:=congrArg Prod.snd (Option.some.inj hv)
  subst hv
  obtain ⟨hb,hn⟩:=ah hb
  have hn:=Nat.le_of_ble_eq_true hn
  rcases vY A B I J n M f r O E k t with ⟨h,e⟩ | ⟨h,ok,_,q,e⟩ | ⟨h,ok,ht,q,e⟩
  ·have e2:kT A B I J n M f r O E k t=0:=by unfold kT;rw [e,(gZ _ _).mpr h];rfl
   rw [e,e2]
   exact aT aj oU rfl (das:=[.st [.sl 1 A B,.sl 1 I J,.rr 1 n M f,.i .i64 r,.sl 5 O E],.one (.sl 1 k t)]) (dy1 A B I J n M f r O E k t hb hn h)
  ·obtain ⟨c1,c2,c3⟩:=nG A B I J n M f r O E h
   have e2:kT A B I J n M f r O E k t=0:=by unfold kT;rw [e];rfl
   rw [e,e2]
   exact aT aj oU rfl (das:=[.st [.sl 1 A B,.sl 1 I J,.rr 1 n M f,.i .i64 r,.sl 5 O E],.one (.sl 1 k t)]) (dy2 A B I J n M f r O E k t hb h c1 c2 c3 q)
  ·obtain ⟨c1,c2,c3⟩:=nG A B I J n M f r O E h
   have e2:kT A B I J n M f r O E k t=qQ O E r (aG k t 0) (aG k t 1) (aG k t 2) (aG k t 3) (aG k t 4) (aG k t 5):=by unfold kT;rw [e];rfl
   rw [e,e2]
   exact aT aj oU rfl (das:=[.st [.sl 1 A B,.sl 1 I J,.rr 1 n M f,.i .i64 r,.sl 5 O E],.one (.sl 1 k t)]) (dy3 A B I J n M f r O E k t hb h c1 c2 c3 (by have:=ht.1;omega) q (QM A B I J n M f r O E ok ht) (raB_t.mpr ok.rate))
 ·cases hv
def dsL (A:Nat) (B:Nat→Nat→Int) (I:Nat) (J:Nat→Nat→Int) (n:Nat) (M:Nat→Nat) (f:Nat→Nat→Nat→Int) (r:Int) (O:Nat) (E:Nat→Nat→Int):Int:=cond (aP (dO A B I J n M f r O E) 0) (qQ O E r (bQ A B I J f O E 0) (bQ A B I J f O E 1) (bQ A B I J f O E 2) (bQ A B I J f O E 3) (bQ A B I J f O E 4) (bQ A B I J f O E 5)) 0
def BK (A:Nat) (B:Nat→Nat→Int) (I:Nat) (J:Nat→Nat→Int) (n:Nat) (M:Nat→Nat) (f:Nat→Nat→Nat→Int) (r:Int) (O:Nat) (E:Nat→Nat→Int):Int:=cond (aP (dO A B I J n M f r O E) 0) (qQ O E r (bM A B I J f O E 0) (bM A B I J f O E 1) (bM A B I J f O E 2) (bM A B I J f O E 3) (bM A B I J f O E 4) (bM A B I J f O E 5)) 0
def QY:Val:=fun das=>match das with | [.st [.sl 1 A B,.sl 1 I J,.rr 1 n M f,.i .i64 r,.sl 5 O E]]=>some (cond (iI A I n M) (Nat.ble O 1000) false,.tup [.agg 2 (T.setL .lf 0 [.int .i64 (dsL A B I J n M f r O E),.int .i64 (BK A B I J n M f r O E)]),.int .i64 (dO A B I J n M f r O E)]) | _=>none
theorem ZH:oI Tryz.prog 11 QY:=by
 intro das v hv
 unfold QY at hv
 split at hv
 ·rename_i A B I J n M f r O E
  have hb:=congrArg Prod.fst (Option.some.inj hv)
  have hv:=congrArg Prod.snd (Option.some.inj hv)
  subst hv
  obtain ⟨hb,hn⟩:=ah hb
  have hn:=Nat.le_of_ble_eq_true hn
  by_cases h:dO A B I J n M f r O E=0
  ·obtain ⟨c1,c2,c3⟩:=nG A B I J n M f r O E h
   have ok:=qC A B I J n M f r O E h
   have e1:dsL A B I J n M f r O E=qQ O E r (bQ A B I J f O E 0) (bQ A B I J f O E 1) (bQ A B I J f O E 2) (bQ A B I J f O E 3) (bQ A B I J f O E 4) (bQ A B I J f O E 5):=by unfold dsL;rw [h];rfl
   have e2:BK A B I J n M f r O E=qQ O E r (bM A B I J f O E 0) (bM A B I J f O E 1) (bM A B I J f O E 2) (bM A B I J f O E 3) (bM A B I J f O E 4) (bM A B I J f O E 5):=by unfold BK;rw [h];rfl
   rw [h,e1,e2]
   exact aT aj oU rfl (das:=[.st [.sl 1 A B,.sl 1 I J,.rr 1 n M f,.i .i64 r,.sl 5 O E]]) (ds2 A B I J n M f r O E hb h c1 c2 c3 (Xz A B I J n M f r O E ok) (XH A B I J n M f r O E ok) (raB_t.mpr ok.rate))
  ·have e1:dsL A B I J n M f r O E=0:=by unfold dsL;rw [(gZ _ _).mpr h];rfl
   have e2:BK A B I J n M f r O E=0:=by unfold BK;rw [(gZ _ _).mpr h];rfl
   rw [e1,e2]
   exact aT aj oU rfl (das:=[.st [.sl 1 A B,.sl 1 I J,.rr 1 n M f,.i .i64 r,.sl 5 O E]]) (ds1 A B I J n M f r O E hb hn h)
 ·cases hv
end
end Go.Proofs.YtpfcfonplmhmiaaGreat
