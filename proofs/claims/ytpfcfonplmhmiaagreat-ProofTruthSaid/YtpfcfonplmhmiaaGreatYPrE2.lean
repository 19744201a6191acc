/- Casks: the reference's gallons and strength of a blend, as contracts. -/
import Derived.Test.YtpfcfonplmhmiaaGreatYPrE1
set_option linter.all false
set_option linter.unusedSimpArgs false
set_option linter.unusedVariables false
namespace Go.Proofs.YtpfcfonplmhmiaaGreat
namespace BL
open Go Go.Ev
set_option maxRecDepth 1000000
set_option maxHeartbeats 0
noncomputable section
variable (A:Nat) (B:Nat→Nat→Int) (I:Nat) (J:Nat→Nat→Int) (n:Nat) (M:Nat→Nat) (f:Nat→Nat→Nat→Int)
def gaOk (O:Nat) (E:Nat→Nat→Int) (m:Nat) (g:Nat→Nat→Int):Bool:=cond (Nat.ble m 1000) (cond (Nat.ble O 6) (fH (fun i=>cond (jB (g i 0) O) (cond (ak 1 (E (Int.toNat (g i 0)) 0)) (ak (E (Int.toNat (g i 0)) 0) 99) false) false) m) false) false
theorem mP {O:Nat} {E:Nat→Nat→Int} {m:Nat} {g:Nat→Nat→Int} (h:gaOk O E m g=true):m≤1000∧O≤6∧∀ i,i<m→(0≤g i 0∧g i 0<O)∧1≤(E (Int.toNat (g i 0)) 0)∧(E (Int.toNat (g i 0)) 0)≤99:=by
 obtain ⟨h1,h⟩:=ah h
 obtain ⟨h2,h3⟩:=ah h
 refine ⟨Nat.le_of_ble_eq_true h1,Nat.le_of_ble_eq_true h2,fun i hi=>?_⟩
 have q:=aZ h3 i hi
 obtain ⟨q1,q⟩:=ah q
 obtain ⟨q2,q3⟩:=ah q
 rw [jd] at q1
 rw [aY] at q2 q3
 exact ⟨q1,q2,q3⟩
theorem JG {O:Nat} {E:Nat→Nat→Int} {m:Nat} {g:Nat→Nat→Int} (h:gaOk O E m g=true):∀ i,i≤m→(i:Int)≤gsm E g 0 i∧gsm E g 0 i≤99*(i:Int):=by
 obtain ⟨_,_,q⟩:=mP h
 intro i
 induction i with
 | zero=>intro _;exact ⟨Int.le_refl _,Int.le_refl _⟩
 | succ i ih =>
  intro hi
  have a:=ih (by omega)
  have b:=q i (by omega)
  rw [Cb];push_cast;omega
def ltG:LT:=⟨[1,2,5,6],[5],[],7⟩
def fQ (A:Nat) (B:Nat→Nat→Int) (I:Nat) (J:Nat→Nat→Int) (n:Nat) (M:Nat→Nat) (f:Nat→Nat→Nat→Int) (r:Int) (O:Nat) (E:Nat→Nat→Int):EH:=⟨setAt [(6,eY [.sl 1 A B,.sl 1 I J,.rr 1 n M f,.i .i64 r,.sl 5 O E] 0)] .lf,7,.lf,big⟩
def sG (m:Nat) (g:Nat→Nat→Int) (S:Int) (i:Nat):LS:=⟨[.fz true 4 (ae .i64 g) m 1,.ptr 6 0,.int .i64 S,.int .i64 i],[]⟩
def bG:Code:=sub [1,1,0,1,0,0] (dm Tryz.prog 47)
theorem eG (r:Int) (O:Nat) (E:Nat→Nat→Int) (m:Nat) (g:Nat→Nat→Int):VC (ng Tryz.prog az 300 47 [1,1,0,1,0] [.st [.sl 1 A B,.sl 1 I J,.rr 1 n M f,.i .i64 r,.sl 5 O E],.one (.sl 1 m g)] (fQ A B I J n M f r O E) ltG 25 60 (sG m g 0 0)) .nil:=ai (((True∧(True∧(True∧(True∧(((((V.fz true 0 (ae .i64 B) A 1):V)=(V.fz true 0 (ae .i64 B) A 1))∧(((((V.fz true 1 (ae .i64 J) I 1):V)=(V.fz true 1 (ae .i64 J) I 1))∧((((r:Int)=r)∧(True∧True))∧True))∧((((V.fz true 2 (aU 2 1 M f) n 1):V)=(V.fz true 2 (aU 2 1 M f) n 1))∧(((((V.fz true 3 (ae .i64 E) O 5):V)=(V.fz true 3 (ae .i64 E) O 5))∧(True∧True))∧True))))∧(True∧True))))))∧(((((V.fz true 4 (ae .i64 g) m 1):V)=(V.fz true 4 (ae .i64 g) m 1))∧((((V.ptr 6 0):V)=(V.ptr 6 0))∧((((0):Int)=0)∧((((0):Int)=0)∧True))))∧True)))
theorem rG1 (r:Int) (O:Nat) (E:Nat→Nat→Int) (m:Nat) (g:Nat→Nat→Int) (S:Int) (i:Nat) (h1:i<m) (h2:m≤1000) (h3:0≤g i 0∧g i 0<O) (h4:O≤6) (h5:1≤(E (Int.toNat (g i 0)) 0)∧(E (Int.toNat (g i 0)) 0)≤99) (h6:0≤S∧S≤1000000):VC (bW Tryz.prog az 300 bG (fQ A B I J n M f r O E) ltG 25 60 (sG m g S i) (.next (sG m g (S+(E (Int.toNat (g i 0)) 0)) (i+1)))) (.go 1365 .nil):=ai (((not (ak (m:Int) (i:Int)))=true∧((Nat.blt i m)=true∧((jB (g i 0) O)=true∧((small (S+(E (Int.toNat (g i 0)) 0)))=true∧((small ((i:Int)+1))=true∧(((((V.fz true 4 (ae .i64 g) m 1):V)=(V.fz true 4 (ae .i64 g) m 1))∧((((V.ptr 6 0):V)=(V.ptr 6 0))∧((((S+(E (Int.toNat (g i 0)) 0)):Int)=(S+(E (Int.toNat (g i 0)) 0)))∧(((((i:Int)+1):Int)=(((i+1):Nat):Int))∧True))))∧True)))))))
theorem rG3 (r:Int) (O:Nat) (E:Nat→Nat→Int) (m:Nat) (g:Nat→Nat→Int) (S:Int) (i:Nat) (h1:¬ i<m):VC (bW Tryz.prog az 300 bG (fQ A B I J n M f r O E) ltG 25 60 (sG m g S i) (.exit 0 ⟨[.int .i64 S],[]⟩)) (.go 6 .nil):=ai (((not (ak (m:Int) (i:Int)))=false∧((((S:Int)=S)∧True)∧True)))
theorem fG (r:Int) (O:Nat) (E:Nat→Nat→Int) (S:Int):VC (fromD Tryz.prog az 300 47 [1,1,0,1,0] (Lv.res ltG 25 (gX (fQ A B I J n M f r O E) ltG 60 (.exit 0 ⟨[.int .i64 S],[]⟩)) (.exit 0 ⟨[.int .i64 S],[]⟩)) (.int .i64 S)) .nil:=ai (((S:Int)=S))
def Su:Val:=fun das=>match das with | [.st [.sl 1 A B,.sl 1 I J,.rr 1 n M f,.i .i64 r,.sl 5 O E],.one (.sl 1 m g)]=>some (gaOk O E m g,.int .i64 (gsm E g 0 m)) | _=>none
theorem aau:oI Tryz.prog 47 Su:=by
 intro das v hv
 unfold Su at hv
 split at hv
 ·rename_i A B I J n M f r O E m g
  have hb:=congrArg Prod.fst (Option.some.inj hv)
  have hv:=congrArg Prod.snd (Option.some.inj hv)
  subst hv
  have hb:gaOk O E m g=true:=hb
  obtain ⟨q1,q2,q3⟩:=mP hb
  refine ⟨rfl,?_⟩
  exact cZ aj aB (das:=[.st [.sl 1 A B,.sl 1 I J,.rr 1 n M f,.i .i64 r,.sl 5 O E],.one (.sl 1 m g)]) (lv := .exit 0 ⟨[.int .i64 (gsm E g 0 m)],[]⟩) (by kernel_rfl) (by kernel_rfl) (eG A B I J n M f r O E m g).ok (bD (body:=bG) (fun _ e=>by cases e) m (fun i=>sG m g (gsm E g 0 i) i) (fun i hi =>
   aQ aj aB (rG1 A B I J n M f r O E m g (gsm E g 0 i) i hi q1 (q3 i hi).1 q2 (q3 i hi).2 (by have:=JG hb i (by omega);omega)).ok (by kernel_rfl) (by kernel_rfl)) (aQ aj aB (rG3 A B I J n M f r O E m g (gsm E g 0 m) m (by omega)).ok (by kernel_rfl) (by kernel_rfl))) (fG A B I J n M f r O E _).ok
 ·cases hv
def rsm (E:Nat→Nat→Int) (g t:Nat→Nat→Int) (i:Nat):Int:=Nat.rec 0 (fun i a=>a+(E (Int.toNat (g i 0)) 0)*(t (Int.toNat (g i 0)) 0)) i
def rsV (E:Nat→Nat→Int) (g:Nat→Nat→Int) (w:Int) (t:Nat→Nat→Int) (m:Nat):Int:=Int.tdiv (rsm E g t m) (gsm E g 0 m+w)
def rsOk (O:Nat) (E:Nat→Nat→Int) (m:Nat) (g:Nat→Nat→Int) (w:Int) (k:Nat) (t:Nat→Nat→Int):Bool:=cond (gaOk O E m g) (cond (Nat.blt 0 m) (cond (ak 0 w) (cond (ak w 1000) (fH (fun i=>cond (jB (g i 0) k) (cond (ak 0 (t (Int.toNat (g i 0)) 0)) (ak (t (Int.toNat (g i 0)) 0) 2000) false) false) m) false) false) false) false
theorem yO {O:Nat} {E:Nat→Nat→Int} {m:Nat} {g:Nat→Nat→Int} {w:Int} {k:Nat} {t:Nat→Nat→Int} (h:rsOk O E m g w k t=true):gaOk O E m g=true∧0<m∧0≤w∧w≤1000∧∀ i,i<m→(0≤g i 0∧g i 0<k)∧0≤(t (Int.toNat (g i 0)) 0)∧(t (Int.toNat (g i 0)) 0)≤2000:=by
 obtain ⟨h1,h⟩:=ah h
 obtain ⟨h2,h⟩:=ah h
 obtain ⟨h3,h⟩:=ah h
 obtain ⟨h4,h5⟩:=ah h
 rw [aY] at h3 h4
 refine ⟨h1,by have:0+1≤m:=Nat.le_of_ble_eq_true h2;omega,h3,h4,fun i hi=>?_⟩
 have q:=aZ h5 i hi
 obtain ⟨q1,q⟩:=ah q
 obtain ⟨q2,q3⟩:=ah q
 rw [jd] at q1
 rw [aY] at q2 q3
 exact ⟨q1,q2,q3⟩
theorem Jh {a b:Int} (h:1≤a∧a≤99) (k:0≤b∧b≤2000):0≤a*b∧a*b≤198000:=by
 have x:0≤a*b:=Int.mul_nonneg (by omega) k.1
 have y:a*b≤a*2000:=Int.mul_le_mul_of_nonneg_left k.2 (by omega)
 omega
theorem G9 (E g t:Nat→Nat→Int) (i:Nat):rsm E g t (i+1)=rsm E g t i+(E (Int.toNat (g i 0)) 0)*(t (Int.toNat (g i 0)) 0):=rfl
theorem Ud {O:Nat} {E:Nat→Nat→Int} {m:Nat} {g:Nat→Nat→Int} {w:Int} {k:Nat} {t:Nat→Nat→Int} (h:rsOk O E m g w k t=true):∀ i,i≤m→0≤rsm E g t i∧rsm E g t i≤198000*(i:Int):=by
 obtain ⟨q0,_,_,_,q⟩:=yO h
 obtain ⟨_,_,p⟩:=mP q0
 intro i
 induction i with
 | zero=>intro _;exact ⟨Int.le_refl _,Int.le_refl _⟩
 | succ i ih =>
  intro hi
  have a:=ih (by omega)
  have b:=Jh (p i (by omega)).2 (q i (by omega)).2
  rw [G9];push_cast;omega
def XSt:Ext:=jy [(47,cf Su)] false
theorem lI:dE Tryz.prog XSt:=dG (ay (dA aau) bn)
def ltT:LT:=⟨[1,2,3,4,9,10],[1,2,4,9],[],8⟩
def kJ (A:Nat) (B:Nat→Nat→Int) (I:Nat) (J:Nat→Nat→Int) (n:Nat) (M:Nat→Nat) (f:Nat→Nat→Nat→Int) (r:Int) (O:Nat) (E:Nat→Nat→Int):EH:=⟨setAt [(7,eY [.sl 1 A B,.sl 1 I J,.rr 1 n M f,.i .i64 r,.sl 5 O E] 0)] .lf,8,.lf,big⟩
def sT (m:Nat) (g:Nat→Nat→Int) (w:Int) (k:Nat) (t:Nat→Nat→Int) (S:Int) (i:Nat):LS:=⟨[.fz true 4 (ae .i64 g) m 1,.int .i64 w,.fz true 5 (ae .i64 t) k 1,.ptr 7 0,.int .i64 S,.int .i64 i],[]⟩
def xT (m:Nat) (g:Nat→Nat→Int) (w:Int) (S:Int):Lv := .exit 0 ⟨[.fz true 4 (ae .i64 g) m 1,.int .i64 w,.ptr 7 0,.int .i64 S],[]⟩
def bT:Code:=sub [1,1,0,1,0,0] (dm Tryz.prog 17)
theorem eT (r:Int) (O:Nat) (E:Nat→Nat→Int) (m:Nat) (g:Nat→Nat→Int) (w:Int) (k:Nat) (t:Nat→Nat→Int):VC (ng Tryz.prog XSt 300 17 [1,1,0,1,0] [.st [.sl 1 A B,.sl 1 I J,.rr 1 n M f,.i .i64 r,.sl 5 O E],.one (.sl 1 m g),.one (.i .i64 w),.one (.sl 1 k t)] (kJ A B I J n M f r O E) ltT 43 60 (sT m g w k t 0 0)) .nil:=ai (((True∧((True∧((True∧((((((V.fz true 0 (ae .i64 B) A 1):V)=(V.fz true 0 (ae .i64 B) A 1))∧(((((V.fz true 1 (ae .i64 J) I 1):V)=(V.fz true 1 (ae .i64 J) I 1))∧((((r:Int)=r)∧(True∧True))∧True))∧((((V.fz true 2 (aU 2 1 M f) n 1):V)=(V.fz true 2 (aU 2 1 M f) n 1))∧(((((V.fz true 3 (ae .i64 E) O 5):V)=(V.fz true 3 (ae .i64 E) O 5))∧(True∧True))∧True))))∧(True∧True))∧True))∧True))∧True))∧(((((V.fz true 4 (ae .i64 g) m 1):V)=(V.fz true 4 (ae .i64 g) m 1))∧(((w:Int)=w)∧((((V.fz true 5 (ae .i64 t) k 1):V)=(V.fz true 5 (ae .i64 t) k 1))∧((((V.ptr 7 0):V)=(V.ptr 7 0))∧((((0):Int)=0)∧((((0):Int)=0)∧True))))))∧True)))
theorem rT1 (r:Int) (O:Nat) (E:Nat→Nat→Int) (m:Nat) (g:Nat→Nat→Int) (w:Int) (k:Nat) (t:Nat→Nat→Int) (S:Int) (i:Nat) (h1:i<m) (h2:m≤1000) (h3:0≤g i 0∧g i 0<O) (h4:O≤6) (h5:1≤(E (Int.toNat (g i 0)) 0)∧(E (Int.toNat (g i 0)) 0)≤99) (h7:0≤g i 0∧g i 0<k) (h8:0≤(t (Int.toNat (g i 0)) 0)∧(t (Int.toNat (g i 0)) 0)≤2000) (h9:0≤(E (Int.toNat (g i 0)) 0)*(t (Int.toNat (g i 0)) 0)∧(E (Int.toNat (g i 0)) 0)*(t (Int.toNat (g i 0)) 0)≤198000) (h6:0≤S∧S≤1000000000):VC (bW Tryz.prog XSt 300 bT (kJ A B I J n M f r O E) ltT 43 60 (sT m g w k t S i) (.next (sT m g w k t (S+(E (Int.toNat (g i 0)) 0)*(t (Int.toNat (g i 0)) 0)) (i+1)))) (.go 87381 .nil):=ai (((not (ak (m:Int) (i:Int)))=true∧((Nat.blt i m)=true∧((jB (g i 0) O)=true∧((Nat.blt i m)=true∧((jB (g i 0) k)=true∧((small ((E (Int.toNat (g i 0)) 0)*(t (Int.toNat (g i 0)) 0)))=true∧((small (S+((E (Int.toNat (g i 0)) 0)*(t (Int.toNat (g i 0)) 0))))=true∧((small ((i:Int)+1))=true∧(((((V.fz true 4 (ae .i64 g) m 1):V)=(V.fz true 4 (ae .i64 g) m 1))∧(((w:Int)=w)∧((((V.fz true 5 (ae .i64 t) k 1):V)=(V.fz true 5 (ae .i64 t) k 1))∧((((V.ptr 7 0):V)=(V.ptr 7 0))∧((((S+((E (Int.toNat (g i 0)) 0)*(t (Int.toNat (g i 0)) 0))):Int)=(S+((E (Int.toNat (g i 0)) 0)*(t (Int.toNat (g i 0)) 0))))∧(((((i:Int)+1):Int)=(((i+1):Nat):Int))∧True))))))∧True))))))))))
theorem rT3 (r:Int) (O:Nat) (E:Nat→Nat→Int) (m:Nat) (g:Nat→Nat→Int) (w:Int) (k:Nat) (t:Nat→Nat→Int) (S:Int) (i:Nat) (h1:¬ i<m):VC (bW Tryz.prog XSt 300 bT (kJ A B I J n M f r O E) ltT 43 60 (sT m g w k t S i) (xT m g w S)) (.go 6 .nil):=ai (((not (ak (m:Int) (i:Int)))=false∧(((((V.fz true 4 (ae .i64 g) m 1):V)=(V.fz true 4 (ae .i64 g) m 1))∧(((w:Int)=w)∧((((V.ptr 7 0):V)=(V.ptr 7 0))∧(((S:Int)=S)∧True))))∧True)))
theorem fT (r:Int) (O:Nat) (E:Nat→Nat→Int) (m:Nat) (g:Nat→Nat→Int) (w S:Int) (h1:gaOk O E m g=true) (h2:0≤w∧w≤1000) (h3:1≤gsm E g 0 m∧gsm E g 0 m≤99000) (hv:0≤Int.tdiv S (gsm E g 0 m+w)∧Int.tdiv S (gsm E g 0 m+w)≤1000000000):VC (fromD Tryz.prog XSt 300 17 [1,1,0,1,0] (Lv.res ltT 43 (gX (kJ A B I J n M f r O E) ltT 60 (xT m g w S)) (xT m g w S)) (.int .i64 (Int.tdiv S (gsm E g 0 m+w)))) (.go 357 .nil):=ai (((cond (cond (cond (aJ .i64 (ae .i64 B) A 1) (cond (aJ .i64 (ae .i64 J) I 1) (cond (cond true (eX 2 (aU 2 1 M f) n 1) false) (cond (aJ .i64 (ae .i64 E) O 5) true false) false) false) false) (cond (aJ .i64 (ae .i64 g) m 1) true false) false) (BL.gaOk O E m g) false)=true∧((small ((BL.gsm E g 0 m)+w))=true∧((aP ((BL.gsm E g 0 m)+w) 0)=false∧((small (Int.tdiv S ((BL.gsm E g 0 m)+w)))=true∧(((Int.tdiv S ((BL.gsm E g 0 m)+w)):Int)=(Int.tdiv S ((BL.gsm E g 0 m)+w))))))))
def IY:Val:=fun das=>match das with | [.st [.sl 1 A B,.sl 1 I J,.rr 1 n M f,.i .i64 r,.sl 5 O E],.one (.sl 1 m g),.one (.i .i64 w),.one (.sl 1 k t)]=>some (rsOk O E m g w k t,.int .i64 (rsV E g w t m)) | _=>none
theorem X5:oI Tryz.prog 17 IY:=by
 intro das v hv
 unfold IY at hv
 split at hv
 ·rename_i A B I J n M f r O E m g w k t
  have hb:=congrArg Prod.fst (Option.some.inj hv)
  have hv:=congrArg Prod.snd (Option.some.inj hv)
  subst hv
  have hb:rsOk O E m g w k t=true:=hb
  obtain ⟨q0,qm,w1,w2,q⟩:=yO hb
  obtain ⟨q1,q2,q3⟩:=mP q0
  have bg:=JG q0 m (Nat.le_refl m)
  have bs:=Ud hb m (Nat.le_refl m)
  have hv:0≤Int.tdiv (rsm E g t m) (gsm E g 0 m+w)∧Int.tdiv (rsm E g t m) (gsm E g 0 m+w)≤1000000000:=by
   rw [Int.tdiv_eq_ediv_of_nonneg bs.1]
   refine ⟨Int.ediv_nonneg bs.1 (by omega),?_⟩
   have:=Int.ediv_le_self (gsm E g 0 m+w) bs.1
   omega
  refine ⟨rfl,?_⟩
  exact cZ aj lI (das:=[.st [.sl 1 A B,.sl 1 I J,.rr 1 n M f,.i .i64 r,.sl 5 O E],.one (.sl 1 m g),.one (.i .i64 w),.one (.sl 1 k t)]) (lv:=xT m g w (rsm E g t m)) (by kernel_rfl) (by kernel_rfl) (eT A B I J n M f r O E m g w k t).ok (bD (body:=bT) (fun _ e=>by cases e) m (fun i=>sT m g w k t (rsm E g t i) i) (fun i hi =>
   aQ aj lI (rT1 A B I J n M f r O E m g w k t (rsm E g t i) i hi q1 (q3 i hi).1 q2 (q3 i hi).2 (q i hi).1 (q i hi).2 (Jh (q3 i hi).2 (q i hi).2) (by have:=Ud hb i (by omega);omega)).ok (by kernel_rfl) (by kernel_rfl)) (aQ aj lI (rT3 A B I J n M f r O E m g w k t (rsm E g t m) m (by omega)).ok (by kernel_rfl) (by kernel_rfl))) (fT A B I J n M f r O E m g w (rsm E g t m) q0 ⟨w1,w2⟩ (by omega) hv).ok
 ·cases hv
end
end BL
end Go.Proofs.YtpfcfonplmhmiaaGreat
