/- Casks: the reference's gallons and strength of a blend, as contracts. -/
import Derived.Test.YtiplgejpopellaaGreatYPrE1
set_option linter.all false
set_option linter.unusedSimpArgs false
set_option linter.unusedVariables false
namespace Go.Proofs.YtiplgejpopellaaGreat
namespace BL
open Go Go.Ev
set_option maxRecDepth 1000000
set_option maxHeartbeats 0
noncomputable section
variable (A:Nat) (B:Nat→Nat→Int) (I:Nat) (J:Nat→Nat→Int) (n:Nat) (M:Nat→Nat) (f:Nat→Nat→Nat→Int)
def EX (O:Nat) (E:Nat→Nat→Int) (m:Nat) (g:Nat→Nat→Int):Bool:=cond (Nat.ble m 1000) (cond (Nat.ble O 6) (eX (fun i=>cond (kE (g i 0) O) (cond (ak 1 (E (Int.toNat (g i 0)) 0)) (ak (E (Int.toNat (g i 0)) 0) 99) false) false) m) false) false
theorem vg {O:Nat} {E:Nat→Nat→Int} {m:Nat} {g:Nat→Nat→Int} (h:EX O E m g=true):m≤1000∧O≤6∧∀ i,i<m→(0≤g i 0∧g i 0<O)∧1≤(E (Int.toNat (g i 0)) 0)∧(E (Int.toNat (g i 0)) 0)≤99:=by
 obtain ⟨h1,h⟩:=ah h
 obtain ⟨h2,h3⟩:=ah h
 refine ⟨Nat.le_of_ble_eq_true h1,Nat.le_of_ble_eq_true h2,fun i hi=>?_⟩
 have q:=aX h3 i hi
 obtain ⟨q1,q⟩:=ah q
 obtain ⟨q2,q3⟩:=ah q
 rw [gp] at q1
 rw [aW] at q2 q3
 exact ⟨q1,q2,q3⟩
theorem KE {O:Nat} {E:Nat→Nat→Int} {m:Nat} {g:Nat→Nat→Int} (h:EX O E m g=true):∀ i,i≤m→(i:Int)≤lD E g 0 i∧lD E g 0 i≤99*(i:Int):=by
 obtain ⟨_,_,q⟩:=vg h
 intro i
 induction i with
 | zero=>intro _;exact ⟨Int.le_refl _,Int.le_refl _⟩
 | succ i ih =>
  intro hi
  have a:=ih (by omega)
  have b:=q i (by omega)
  rw [xE];push_cast;omega
def ltG:LT:=⟨[1,2,5,6],[5],[],7⟩
def iR (A:Nat) (B:Nat→Nat→Int) (I:Nat) (J:Nat→Nat→Int) (n:Nat) (M:Nat→Nat) (f:Nat→Nat→Nat→Int) (r:Int) (O:Nat) (E:Nat→Nat→Int):EH:=⟨setAt [(6,mX [.sl 1 A B,.sl 1 I J,.rr 1 n M f,.i .i64 r,.sl 5 O E] 0)] .lf,7,.lf,big⟩
def sG (m:Nat) (g:Nat→Nat→Int) (S:Int) (i:Nat):LS:=⟨[.fz true 4 (ae .i64 g) m 1,.ptr 6 0,.int .i64 S,.int .i64 i],[]⟩
def bG:Code:=sub [1,1,0,1,0,0] (cZ Tryz.prog 87)
theorem eG (r:Int) (O:Nat) (E:Nat→Nat→Int) (m:Nat) (g:Nat→Nat→Int):VC (ql Tryz.prog az 300 87 [1,1,0,1,0] [.st [.sl 1 A B,.sl 1 I J,.rr 1 n M f,.i .i64 r,.sl 5 O E],.one (.sl 1 m g)] (iR A B I J n M f r O E) ltG 25 60 (sG m g 0 0)) .nil:=ai (((True∧(True∧(True∧(True∧(((((V.fz true 0 (ae .i64 B) A 1):V)=(V.fz true 0 (ae .i64 B) A 1))∧(((((V.fz true 1 (ae .i64 J) I 1):V)=(V.fz true 1 (ae .i64 J) I 1))∧((((r:Int)=r)∧(True∧True))∧True))∧((((V.fz true 2 (aQ 2 1 M f) n 1):V)=(V.fz true 2 (aQ 2 1 M f) n 1))∧(((((V.fz true 3 (ae .i64 E) O 5):V)=(V.fz true 3 (ae .i64 E) O 5))∧(True∧True))∧True))))∧(True∧True))))))∧(((((V.fz true 4 (ae .i64 g) m 1):V)=(V.fz true 4 (ae .i64 g) m 1))∧((((V.ptr 6 0):V)=(V.ptr 6 0))∧((((0):Int)=0)∧((((0):Int)=0)∧True))))∧True)))
theorem rG1 (r:Int) (O:Nat) (E:Nat→Nat→Int) (m:Nat) (g:Nat→Nat→Int) (S:Int) (i:Nat) (h1:i<m) (h2:m≤1000) (h3:0≤g i 0∧g i 0<O) (h4:O≤6) (h5:1≤(E (Int.toNat (g i 0)) 0)∧(E (Int.toNat (g i 0)) 0)≤99) (h6:0≤S∧S≤1000000):VC (bM Tryz.prog az 300 bG (iR A B I J n M f r O E) ltG 25 60 (sG m g S i) (.next (sG m g (S+(E (Int.toNat (g i 0)) 0)) (i+1)))) (.go 1365 .nil):=ai (((not (ak (m:Int) (i:Int)))=true∧((Nat.blt i m)=true∧((kE (g i 0) O)=true∧((small (S+(E (Int.toNat (g i 0)) 0)))=true∧((small ((i:Int)+1))=true∧(((((V.fz true 4 (ae .i64 g) m 1):V)=(V.fz true 4 (ae .i64 g) m 1))∧((((V.ptr 6 0):V)=(V.ptr 6 0))∧((((S+(E (Int.toNat (g i 0)) 0)):Int)=(S+(E (Int.toNat (g i 0)) 0)))∧(((((i:Int)+1):Int)=(((i+1):Nat):Int))∧True))))∧True)))))))
theorem rG3 (r:Int) (O:Nat) (E:Nat→Nat→Int) (m:Nat) (g:Nat→Nat→Int) (S:Int) (i:Nat) (h1:¬ i<m):VC (bM Tryz.prog az 300 bG (iR A B I J n M f r O E) ltG 25 60 (sG m g S i) (.exit 0 ⟨[.int .i64 S],[]⟩)) (.go 6 .nil):=ai (((not (ak (m:Int) (i:Int)))=false∧((((S:Int)=S)∧True)∧True)))
theorem fG (r:Int) (O:Nat) (E:Nat→Nat→Int) (S:Int):VC (fromD Tryz.prog az 300 87 [1,1,0,1,0] (Lv.res ltG 25 (iw (iR A B I J n M f r O E) ltG 60 (.exit 0 ⟨[.int .i64 S],[]⟩)) (.exit 0 ⟨[.int .i64 S],[]⟩)) (.int .i64 S)) .nil:=ai (((S:Int)=S))
def Rf:Val:=fun das=>match das with | [.st [.sl 1 A B,.sl 1 I J,.rr 1 n M f,.i .i64 r,.sl 5 O E],.one (.sl 1 m g)]=>some (EX O E m g,.int .i64 (lD E g 0 m)) | _=>none
theorem aaN:qi Tryz.prog 87 Rf:=by
 intro das v hv
 unfold Rf at hv
 split at hv
 ·rename_i A B I J n M f r O E m g
  have hb:=congrArg Prod.fst (Option.some.inj hv)
  have hv:=congrArg Prod.snd (Option.some.inj hv)
  subst hv
  have hb:EX O E m g=true:=hb
  obtain ⟨q1,q2,q3⟩:=vg hb
  refine ⟨rfl,?_⟩
  exact bV aj aG (das:=[.st [.sl 1 A B,.sl 1 I J,.rr 1 n M f,.i .i64 r,.sl 5 O E],.one (.sl 1 m g)]) (lv := .exit 0 ⟨[.int .i64 (lD E g 0 m)],[]⟩) (by kernel_rfl) (by kernel_rfl) (eG A B I J n M f r O E m g).ok (bz (body:=bG) (fun _ e=>by cases e) m (fun i=>sG m g (lD E g 0 i) i) (fun i hi =>
   aP aj aG (rG1 A B I J n M f r O E m g (lD E g 0 i) i hi q1 (q3 i hi).1 q2 (q3 i hi).2 (by have:=KE hb i (by omega);omega)).ok (by kernel_rfl) (by kernel_rfl)) (aP aj aG (rG3 A B I J n M f r O E m g (lD E g 0 m) m (by omega)).ok (by kernel_rfl) (by kernel_rfl))) (fG A B I J n M f r O E _).ok
 ·cases hv
def rsm (E:Nat→Nat→Int) (g t:Nat→Nat→Int) (i:Nat):Int:=Nat.rec 0 (fun i a=>a+(E (Int.toNat (g i 0)) 0)*(t (Int.toNat (g i 0)) 0)) i
def rsV (E:Nat→Nat→Int) (g:Nat→Nat→Int) (w:Int) (t:Nat→Nat→Int) (m:Nat):Int:=Int.tdiv (rsm E g t m) (lD E g 0 m+w)
def pX (O:Nat) (E:Nat→Nat→Int) (m:Nat) (g:Nat→Nat→Int) (w:Int) (k:Nat) (t:Nat→Nat→Int):Bool:=cond (EX O E m g) (cond (Nat.blt 0 m) (cond (ak 0 w) (cond (ak w 1000) (eX (fun i=>cond (kE (g i 0) k) (cond (ak 0 (t (Int.toNat (g i 0)) 0)) (ak (t (Int.toNat (g i 0)) 0) 2000) false) false) m) false) false) false) false
theorem zf {O:Nat} {E:Nat→Nat→Int} {m:Nat} {g:Nat→Nat→Int} {w:Int} {k:Nat} {t:Nat→Nat→Int} (h:pX O E m g w k t=true):EX O E m g=true∧0<m∧0≤w∧w≤1000∧∀ i,i<m→(0≤g i 0∧g i 0<k)∧0≤(t (Int.toNat (g i 0)) 0)∧(t (Int.toNat (g i 0)) 0)≤2000:=by
 obtain ⟨h1,h⟩:=ah h
 obtain ⟨h2,h⟩:=ah h
 obtain ⟨h3,h⟩:=ah h
 obtain ⟨h4,h5⟩:=ah h
 rw [aW] at h3 h4
 refine ⟨h1,by have:0+1≤m:=Nat.le_of_ble_eq_true h2;omega,h3,h4,fun i hi=>?_⟩
 have q:=aX h5 i hi
 obtain ⟨q1,q⟩:=ah q
 obtain ⟨q2,q3⟩:=ah q
 rw [gp] at q1
 rw [aW] at q2 q3
 exact ⟨q1,q2,q3⟩
theorem RH {a b:Int} (h:1≤a∧a≤99) (k:0≤b∧b≤2000):0≤a*b∧a*b≤198000:=by
 have x:0≤a*b:=Int.mul_nonneg (by omega) k.1
 have y:a*b≤a*2000:=Int.mul_le_mul_of_nonneg_left k.2 (by omega)
 omega
theorem Oe (E g t:Nat→Nat→Int) (i:Nat):rsm E g t (i+1)=rsm E g t i+(E (Int.toNat (g i 0)) 0)*(t (Int.toNat (g i 0)) 0):=rfl
theorem JB {O:Nat} {E:Nat→Nat→Int} {m:Nat} {g:Nat→Nat→Int} {w:Int} {k:Nat} {t:Nat→Nat→Int} (h:pX O E m g w k t=true):∀ i,i≤m→0≤rsm E g t i∧rsm E g t i≤198000*(i:Int):=by
 obtain ⟨q0,_,_,_,q⟩:=zf h
 obtain ⟨_,_,p⟩:=vg q0
 intro i
 induction i with
 | zero=>intro _;exact ⟨Int.le_refl _,Int.le_refl _⟩
 | succ i ih =>
  intro hi
  have a:=ih (by omega)
  have b:=RH (p i (by omega)).2 (q i (by omega)).2
  rw [Oe];push_cast;omega
def XSt:Ext:=jO [(87,cf Rf)] false
theorem mO:dM Tryz.prog XSt:=dW (aA (dR aaN) bK)
def ltT:LT:=⟨[1,2,3,4,9,10],[1,2,4,9],[],8⟩
def lI (A:Nat) (B:Nat→Nat→Int) (I:Nat) (J:Nat→Nat→Int) (n:Nat) (M:Nat→Nat) (f:Nat→Nat→Nat→Int) (r:Int) (O:Nat) (E:Nat→Nat→Int):EH:=⟨setAt [(7,mX [.sl 1 A B,.sl 1 I J,.rr 1 n M f,.i .i64 r,.sl 5 O E] 0)] .lf,8,.lf,big⟩
def sT (m:Nat) (g:Nat→Nat→Int) (w:Int) (k:Nat) (t:Nat→Nat→Int) (S:Int) (i:Nat):LS:=⟨[.fz true 4 (ae .i64 g) m 1,.int .i64 w,.fz true 5 (ae .i64 t) k 1,.ptr 7 0,.int .i64 S,.int .i64 i],[]⟩
def xT (m:Nat) (g:Nat→Nat→Int) (w:Int) (S:Int):Lv := .exit 0 ⟨[.fz true 4 (ae .i64 g) m 1,.int .i64 w,.ptr 7 0,.int .i64 S],[]⟩
def bT:Code:=sub [1,1,0,1,0,0] (cZ Tryz.prog 66)
theorem eT (r:Int) (O:Nat) (E:Nat→Nat→Int) (m:Nat) (g:Nat→Nat→Int) (w:Int) (k:Nat) (t:Nat→Nat→Int):VC (ql Tryz.prog XSt 300 66 [1,1,0,1,0] [.st [.sl 1 A B,.sl 1 I J,.rr 1 n M f,.i .i64 r,.sl 5 O E],.one (.sl 1 m g),.one (.i .i64 w),.one (.sl 1 k t)] (lI A B I J n M f r O E) ltT 43 60 (sT m g w k t 0 0)) .nil:=ai (((True∧((True∧((True∧((((((V.fz true 0 (ae .i64 B) A 1):V)=(V.fz true 0 (ae .i64 B) A 1))∧(((((V.fz true 1 (ae .i64 J) I 1):V)=(V.fz true 1 (ae .i64 J) I 1))∧((((r:Int)=r)∧(True∧True))∧True))∧((((V.fz true 2 (aQ 2 1 M f) n 1):V)=(V.fz true 2 (aQ 2 1 M f) n 1))∧(((((V.fz true 3 (ae .i64 E) O 5):V)=(V.fz true 3 (ae .i64 E) O 5))∧(True∧True))∧True))))∧(True∧True))∧True))∧True))∧True))∧(((((V.fz true 4 (ae .i64 g) m 1):V)=(V.fz true 4 (ae .i64 g) m 1))∧(((w:Int)=w)∧((((V.fz true 5 (ae .i64 t) k 1):V)=(V.fz true 5 (ae .i64 t) k 1))∧((((V.ptr 7 0):V)=(V.ptr 7 0))∧((((0):Int)=0)∧((((0):Int)=0)∧True))))))∧True)))
theorem rT1 (r:Int) (O:Nat) (E:Nat→Nat→Int) (m:Nat) (g:Nat→Nat→Int) (w:Int) (k:Nat) (t:Nat→Nat→Int) (S:Int) (i:Nat) (h1:i<m) (h2:m≤1000) (h3:0≤g i 0∧g i 0<O) (h4:O≤6) (h5:1≤(E (Int.toNat (g i 0)) 0)∧(E (Int.toNat (g i 0)) 0)≤99) (h7:0≤g i 0∧g i 0<k) (h8:0≤(t (Int.toNat (g i 0)) 0)∧(t (Int.toNat (g i 0)) 0)≤2000) (h9:0≤(E (Int.toNat (g i 0)) 0)*(t (Int.toNat (g i 0)) 0)∧(E (Int.toNat (g i 0)) 0)*(t (Int.toNat (g i 0)) 0)≤198000) (h6:0≤S∧S≤1000000000):VC (bM Tryz.prog XSt 300 bT (lI A B I J n M f r O E) ltT 43 60 (sT m g w k t S i) (.next (sT m g w k t (S+(E (Int.toNat (g i 0)) 0)*(t (Int.toNat (g i 0)) 0)) (i+1)))) (.go 87381 .nil):=ai (((not (ak (m:Int) (i:Int)))=true∧((Nat.blt i m)=true∧((kE (g i 0) O)=true∧((Nat.blt i m)=true∧((kE (g i 0) k)=true∧((small ((E (Int.toNat (g i 0)) 0)*(t (Int.toNat (g i 0)) 0)))=true∧((small (S+((E (Int.toNat (g i 0)) 0)*(t (Int.toNat (g i 0)) 0))))=true∧((small ((i:Int)+1))=true∧(((((V.fz true 4 (ae .i64 g) m 1):V)=(V.fz true 4 (ae .i64 g) m 1))∧(((w:Int)=w)∧((((V.fz true 5 (ae .i64 t) k 1):V)=(V.fz true 5 (ae .i64 t) k 1))∧((((V.ptr 7 0):V)=(V.ptr 7 0))∧((((S+((E (Int.toNat (g i 0)) 0)*(t (Int.toNat (g i 0)) 0))):Int)=(S+((E (Int.toNat (g i 0)) 0)*(t (Int.toNat (g i 0)) 0))))∧(((((i:Int)+1):Int)=(((i+1):Nat):Int))∧True))))))∧True))))))))))
theorem rT3 (r:Int) (O:Nat) (E:Nat→Nat→Int) (m:Nat) (g:Nat→Nat→Int) (w:Int) (k:Nat) (t:Nat→Nat→Int) (S:Int) (i:Nat) (h1:¬ i<m):VC (bM Tryz.prog XSt 300 bT (lI A B I J n M f r O E) ltT 43 60 (sT m g w k t S i) (xT m g w S)) (.go 6 .nil):=ai (((not (ak (m:Int) (i:Int)))=false∧(((((V.fz true 4 (ae .i64 g) m 1):V)=(V.fz true 4 (ae .i64 g) m 1))∧(((w:Int)=w)∧((((V.ptr 7 0):V)=(V.ptr 7 0))∧(((S:Int)=S)∧True))))∧True)))
theorem fT (r:Int) (O:Nat) (E:Nat→Nat→Int) (m:Nat) (g:Nat→Nat→Int) (w S:Int) (h1:EX O E m g=true) (h2:0≤w∧w≤1000) (h3:1≤lD E g 0 m∧lD E g 0 m≤99000) (hv:0≤Int.tdiv S (lD E g 0 m+w)∧Int.tdiv S (lD E g 0 m+w)≤1000000000):VC (fromD Tryz.prog XSt 300 66 [1,1,0,1,0] (Lv.res ltT 43 (iw (lI A B I J n M f r O E) ltT 60 (xT m g w S)) (xT m g w S)) (.int .i64 (Int.tdiv S (lD E g 0 m+w)))) (.go 357 .nil):=ai (((cond (cond (cond (ay .i64 (ae .i64 B) A 1) (cond (ay .i64 (ae .i64 J) I 1) (cond (cond true (fZ 2 (aQ 2 1 M f) n 1) false) (cond (ay .i64 (ae .i64 E) O 5) true false) false) false) false) (cond (ay .i64 (ae .i64 g) m 1) true false) false) (EX O E m g) false)=true∧((small ((lD E g 0 m)+w))=true∧((bY ((lD E g 0 m)+w) 0)=false∧((small (Int.tdiv S ((lD E g 0 m)+w)))=true∧(((Int.tdiv S ((lD E g 0 m)+w)):Int)=(Int.tdiv S ((lD E g 0 m)+w))))))))
def Jz:Val:=fun das=>match das with | [.st [.sl 1 A B,.sl 1 I J,.rr 1 n M f,.i .i64 r,.sl 5 O E],.one (.sl 1 m g),.one (.i .i64 w),.one (.sl 1 k t)]=>some (pX O E m g w k t,.int .i64 (rsV E g w t m)) | _=>none
theorem YT:qi Tryz.prog 66 Jz:=by
 intro das v hv
 unfold Jz at hv
 split at hv
 ·rename_i A B I J n M f r O E m g w k t
  have hb:=congrArg Prod.fst (Option.some.inj hv)
  have hv:=congrArg Prod.snd (Option.some.inj hv)
  subst hv
  have hb:pX O E m g w k t=true:=hb
  obtain ⟨q0,qm,w1,w2,q⟩:=zf hb
  obtain ⟨q1,q2,q3⟩:=vg q0
  have bg:=KE q0 m (Nat.le_refl m)
  have bs:=JB hb m (Nat.le_refl m)
  have hv:0≤Int.tdiv (rsm E g t m) (lD E g 0 m+w)∧Int.tdiv (rsm E g t m) (lD E g 0 m+w)≤1000000000:=by
   rw [Int.tdiv_eq_ediv_of_nonneg bs.1]
   refine ⟨Int.ediv_nonneg bs.1 (by omega),?_⟩
   have:=Int.ediv_le_self (lD E g 0 m+w) bs.1
   omega
  refine ⟨rfl,?_⟩
  exact bV aj mO (das:=[.st [.sl 1 A B,.sl 1 I J,.rr 1 n M f,.i .i64 r,.sl 5 O E],.one (.sl 1 m g),.one (.i .i64 w),.one (.sl 1 k t)]) (lv:=xT m g w (rsm E g t m)) (by kernel_rfl) (by kernel_rfl) (eT A B I J n M f r O E m g w k t).ok (bz (body:=bT) (fun _ e=>by cases e) m (fun i=>sT m g w k t (rsm E g t i) i) (fun i hi =>
   aP aj mO (rT1 A B I J n M f r O E m g w k t (rsm E g t i) i hi q1 (q3 i hi).1 q2 (q3 i hi).2 (q i hi).1 (q i hi).2 (RH (q3 i hi).2 (q i hi).2) (by have:=JB hb i (by omega);omega)).ok (by kernel_rfl) (by kernel_rfl)) (aP aj mO (rT3 A B I J n M f r O E m g w k t (rsm E g t m) m (by omega)).ok (by kernel_rfl) (by kernel_rfl))) (fT A B I J n M f r O E m g w (rsm E g t m) q0 ⟨w1,w2⟩ (by omega) hv).ok
 ·cases hv
end
end BL
end Go.Proofs.YtiplgejpopellaaGreat
