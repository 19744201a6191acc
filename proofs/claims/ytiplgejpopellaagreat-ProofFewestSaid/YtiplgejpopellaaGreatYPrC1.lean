/- Casks: contracts: a cask is sound; all casks are; the error of a store. -/
import Derived.Test.YtiplgejpopellaaGreatYTaM6
import Derived.Test.YtiplgejpopellaaGreatYEe
set_option linter.all false
set_option linter.unusedSimpArgs false
set_option linter.unusedVariables false
namespace Go.Proofs.YtiplgejpopellaaGreat
open Go Go.Ev
set_option maxRecDepth 1000000
set_option maxHeartbeats 0
noncomputable section
variable (A:Nat) (B:Nat→Nat→Int) (I:Nat) (J:Nat→Nat→Int) (n:Nat) (M:Nat→Nat) (f:Nat→Nat→Nat→Int)
def gaB (g:Int):Bool:=cond (ak 1 g) (ak g 99) false
def soB (A:Nat) (B:Nat→Nat→Int) (I:Nat) (J:Nat→Nat→Int) (g a b c d:Int):Bool:=cond (gaB g) (cond (cO A B a b) (cO I J c d) false) false
def caB (A:Nat) (B:Nat→Nat→Int) (I:Nat) (J:Nat→Nat→Int) (E:Nat→Nat→Int) (i:Nat):Bool:=soB A B I J (E i 0) (E i 1) (E i 2) (E i 3) (E i 4)
def kC (A:Nat) (B:Nat→Nat→Int) (I:Nat) (J:Nat→Nat→Int) (E:Nat→Nat→Int) (O:Nat):Bool:=eX (caB A B I J E) O
def raB (r:Int):Bool:=cond (ak 0 r) (ak r 200) false
def gW (A:Nat) (B:Nat→Nat→Int) (I:Nat) (J:Nat→Nat→Int) (n:Nat) (M:Nat→Nat) (f:Nat→Nat→Nat→Int) (r:Int) (O:Nat) (E:Nat→Nat→Int):Int:=cond (bY (aT A B I J n M f) 0) (cond (Nat.ble O 6) (cond (raB r) (cond (kC A B I J E O) 0 1) 1) 3) (aT A B I J n M f)
def WT (A I:Nat):Bool:=cond (Nat.ble 2 A) (cond (Nat.ble A 5) (cond (Nat.ble 2 I) (Nat.ble I 5) false) false) false
theorem sc1 (r:Int) (O:Nat) (E:Nat→Nat→Int) (g a b c d:Int) (t1:2≤A) (t2:A≤5) (t3:2≤I) (t4:I≤5) (h:1≤g∧g≤99∧a≤b∧B 0 0≤a∧a≤(B (Int.toNat ((A:Int)-1)) 0)∧B 0 0≤b∧b≤(B (Int.toNat ((A:Int)-1)) 0)∧c≤d∧J 0 0≤c∧c≤(J (Int.toNat ((I:Int)-1)) 0)∧J 0 0≤d∧d≤(J (Int.toNat ((I:Int)-1)) 0)):VC (dh Tryz.prog az 300 80 (enc [.st [.sl 1 A B,.sl 1 I J,.rr 1 n M f,.i .i64 r,.sl 5 O E],.st [.i .i64 g,.i .i64 a,.i .i64 b,.i .i64 c,.i .i64 d]] 0) 4 (fun v=>dB v (.bool true))) (.go 6651333548791678375564843218475418625 .nil):=ai (((ak 1 g)=true∧((ak g 99)=true∧((Nat.blt 0 A)=true∧((small ((A:Int)-(1)))=true∧((kE ((A:Int)-(1)) A)=true∧((not (not (ak a b)))=true∧((ak (B 0 0) a)=true∧((ak a (B (Int.toNat ((A:Int)-(1))) 0))=true∧((ak (B 0 0) b)=true∧((ak b (B (Int.toNat ((A:Int)-(1))) 0))=true∧((Nat.blt 0 I)=true∧((small ((I:Int)-(1)))=true∧((kE ((I:Int)-(1)) I)=true∧((not (not (ak c d)))=true∧((ak (J 0 0) c)=true∧((ak c (J (Int.toNat ((I:Int)-(1))) 0))=true∧((ak (J 0 0) d)=true∧((ak d (J (Int.toNat ((I:Int)-(1))) 0))=true)))))))))))))))))))
theorem sc2 (r:Int) (O:Nat) (E:Nat→Nat→Int) (g a b c d:Int) (t1:2≤A) (t2:A≤5) (t3:2≤I) (t4:I≤5) (h:¬ (1≤g∧g≤99∧a≤b∧B 0 0≤a∧a≤(B (Int.toNat ((A:Int)-1)) 0)∧B 0 0≤b∧b≤(B (Int.toNat ((A:Int)-1)) 0)∧c≤d∧J 0 0≤c∧c≤(J (Int.toNat ((I:Int)-1)) 0)∧J 0 0≤d∧d≤(J (Int.toNat ((I:Int)-1)) 0))):VC (dh Tryz.prog az 300 80 (enc [.st [.sl 1 A B,.sl 1 I J,.rr 1 n M f,.i .i64 r,.sl 5 O E],.st [.i .i64 g,.i .i64 a,.i .i64 b,.i .i64 c,.i .i64 d]] 0) 4 (fun v=>dB v (.bool false))) (.sp (.go 256 (.sp (.go 283648 (.sp (.go 64 (.sp (.go 1024 (.sp (.go 1048640 (.sp (.go 283648 (.sp (.go 64 (.sp (.go 1024 (.sp (.go 320 .nil) .nil)) .nil)) .nil)) .nil)) .nil)) .nil)) .nil)) .nil)) .nil):=ai ((((ak 1 g)=true→(((ak g 99)=true→((Nat.blt 0 A)=true∧((small ((A:Int)-(1)))=true∧((kE ((A:Int)-(1)) A)=true∧(((not (not (ak a b)))=true→(((ak (B 0 0) a)=true→(((ak a (B (Int.toNat ((A:Int)-(1))) 0))=true→((ak (B 0 0) b)=true∧(((ak b (B (Int.toNat ((A:Int)-(1))) 0))=true→((Nat.blt 0 I)=true∧((small ((I:Int)-(1)))=true∧((kE ((I:Int)-(1)) I)=true∧(((not (not (ak c d)))=true→(((ak (J 0 0) c)=true→(((ak c (J (Int.toNat ((I:Int)-(1))) 0))=true→((ak (J 0 0) d)=true∧((ak d (J (Int.toNat ((I:Int)-(1))) 0))=false))) ∧
 ((ak c (J (Int.toNat (((I:Nat):Int)-(1))) 0))=false→(false=false)))) ∧
 ((ak (J 0 0) c)=false→(false=false)))) ∧
 ((not (not (ak c d)))=false→(false=false))))))) ∧
 ((ak b (B (Int.toNat (((A:Nat):Int)-(1))) 0))=false→(false=false))))) ∧
 ((ak a (B (Int.toNat (((A:Nat):Int)-(1))) 0))=false→(false=false)))) ∧
 ((ak (B 0 0) a)=false→(false=false)))) ∧
 ((not (not (ak a b)))=false→(false=false))))))) ∧
 ((ak g (99))=false→(false=false)))) ∧
 ((ak (1) g)=false→(false=false))))
def RI:Val:=fun das=>match das with | [.st [.sl 1 A B,.sl 1 I J,.rr 1 n M f,.i .i64 r,.sl 5 O E],.st [.i .i64 g,.i .i64 a,.i .i64 b,.i .i64 c,.i .i64 d]]=>some (WT A I,.bool (soB A B I J g a b c d)) | _=>none
theorem twoB_t {A I:Nat}:WT A I=true↔2≤A∧A≤5∧2≤I∧I≤5:=by
 unfold WT
 constructor
 ·intro h
  obtain ⟨h1,h⟩:=ah h
  obtain ⟨h2,h⟩:=ah h
  obtain ⟨h3,h4⟩:=ah h
  exact ⟨Nat.le_of_ble_eq_true h1,Nat.le_of_ble_eq_true h2,Nat.le_of_ble_eq_true h3,Nat.le_of_ble_eq_true h4⟩
 ·rintro ⟨h1,h2,h3,h4⟩
  rw [dV h1,dV h2,dV h3,dV h4];rfl
theorem gaB_t {g:Int}:gaB g=true↔1≤g∧g≤99:=by
 unfold gaB
 constructor
 ·intro h
  obtain ⟨h1,h2⟩:=ah h
  exact ⟨(aW _ _).mp h1,(aW _ _).mp h2⟩
 ·rintro ⟨h1,h2⟩
  rw [(aW _ _).mpr h1,(aW _ _).mpr h2];rfl
theorem raB_t {g:Int}:raB g=true↔0≤g∧g≤200:=by
 unfold raB
 constructor
 ·intro h
  obtain ⟨h1,h2⟩:=ah h
  exact ⟨(aW _ _).mp h1,(aW _ _).mp h2⟩
 ·rintro ⟨h1,h2⟩
  rw [(aW _ _).mpr h1,(aW _ _).mpr h2];rfl
theorem soB_t {A:Nat} {B:Nat→Nat→Int} {I:Nat} {J:Nat→Nat→Int} {g a b c d:Int}:soB A B I J g a b c d=true↔(1≤g∧g≤99)∧qp A B a b∧qp I J c d:=by
 unfold soB
 constructor
 ·intro h
  obtain ⟨h1,h⟩:=ah h
  obtain ⟨h2,h3⟩:=ah h
  exact ⟨gaB_t.mp h1,rgI_t.mp h2,rgI_t.mp h3⟩
 ·rintro ⟨h1,h2,h3⟩
  rw [gaB_t.mpr h1,rgI_t.mpr h2,rgI_t.mpr h3];rfl
theorem aaw:qi Tryz.prog 80 RI:=by
 intro das v hv
 unfold RI at hv
 split at hv
 ·rename_i A B I J n M f r O E g a b c d
  have hb:=congrArg Prod.fst (Option.some.inj hv)
  have hv:=congrArg Prod.snd (Option.some.inj hv)
  subst hv
  obtain ⟨t1,t2,t3,t4⟩:=twoB_t.mp hb
  have e1:=qy t1
  have e2:=qy t3
  have key:soB A B I J g a b c d=true↔(1≤g∧g≤99∧a≤b∧B 0 0≤a∧a≤(B (Int.toNat ((A:Int)-1)) 0)∧B 0 0≤b∧b≤(B (Int.toNat ((A:Int)-1)) 0)∧c≤d∧J 0 0≤c∧c≤(J (Int.toNat ((I:Int)-1)) 0)∧J 0 0≤d∧d≤(J (Int.toNat ((I:Int)-1)) 0)):=by
   rw [soB_t,e1,e2]
   unfold qp Aw
   constructor
   ·rintro ⟨q1,q2,q3⟩
    exact ⟨q1.1,q1.2,q2.1,q2.2.1.1,q2.2.1.2,q2.2.2.1,q2.2.2.2,q3.1,q3.2.1.1,q3.2.1.2,q3.2.2.1,q3.2.2.2⟩
   ·rintro ⟨q1,q2,q3,q4,q5,q6,q7,q8,q9,p1,p2,p3⟩
    exact ⟨⟨q1,q2⟩,⟨q3,⟨q4,q5⟩,⟨q6,q7⟩⟩,⟨q8,⟨q9,p1⟩,⟨p2,p3⟩⟩⟩
  cases hs:soB A B I J g a b c d with
  | true=>exact bn aj aG rfl (das:=[.st [.sl 1 A B,.sl 1 I J,.rr 1 n M f,.i .i64 r,.sl 5 O E],.st [.i .i64 g,.i .i64 a,.i .i64 b,.i .i64 c,.i .i64 d]]) (sc1 A B I J n M f r O E g a b c d t1 t2 t3 t4 (key.mp hs))
  | false=>exact bn aj aG rfl (das:=[.st [.sl 1 A B,.sl 1 I J,.rr 1 n M f,.i .i64 r,.sl 5 O E],.st [.i .i64 g,.i .i64 a,.i .i64 b,.i .i64 c,.i .i64 d]]) (sc2 A B I J n M f r O E g a b c d t1 t2 t3 t4 (fun q=>by rw [key.mpr q] at hs;cases hs))
 ·cases hv
def XSc:Ext:=jO [(80,cf RI)] false
theorem xh:dM Tryz.prog XSc:=dW (aA (dR aaw) bK)
def clS (A:Nat) (B:Nat→Nat→Int) (I:Nat) (J:Nat→Nat→Int) (n:Nat) (M:Nat→Nat) (f:Nat→Nat→Nat→Int) (r:Int) (O:Nat) (E:Nat→Nat→Int):V := .func 80 [.agg 5 (T.setL .lf 0 [.fz true 1 (ae .i64 B) A 1,.fz true 2 (ae .i64 J) I 1,.fz true 3 (aQ 3 1 M f) n 1,.int .i64 r,.fz true 4 (ae .i64 E) O 5])] []
def ltC:LT:=⟨[1,7,8,9],[],[4],6⟩
def sC (A:Nat) (B:Nat→Nat→Int) (I:Nat) (J:Nat→Nat→Int) (n:Nat) (M:Nat→Nat) (f:Nat→Nat→Nat→Int) (r:Int) (O:Nat) (E:Nat→Nat→Int) (m:Nat) (g:Nat→Nat→Int) (k:Nat):LS:=⟨[clS A B I J n M f r O E,.fz true 0 (ae .i64 g) m 5,.int .i64 m,.int .i64 k],[]⟩
def bC:Code:=sub [1,0,1,0,0] (cZ Tryz.prog 81)
theorem eC (r:Int) (O:Nat) (E:Nat→Nat→Int) (m:Nat) (g:Nat→Nat→Int):VC (ql Tryz.prog XSc 300 81 [1,0,1,0] [.one (.sl 5 m g),.cl 80 [.sl 1 A B,.sl 1 I J,.rr 1 n M f,.i .i64 r,.sl 5 O E]] (aU 6) ltC 18 60 (sC A B I J n M f r O E m g 0)) .nil:=ai ((True∧((((V.func 80
 [V.agg (jm [D0.sl 1 A B,D0.sl 1 I J,D0.rr 1 n M f,D0.i IntKind.i64 r,D0.sl 5 O E])
  (T.lf.setL 0
   (mX [D0.sl 1 A B,D0.sl 1 I J,D0.rr 1 n M f,D0.i IntKind.i64 r,D0.sl 5 O E]
    (nxD (DA.one (D0.sl 5 m g)) 0)))]
 []:V)=V.func 80
 [V.agg 5
  (T.lf.setL 0
   [V.fz true 1 (ae .i64 B) A 1,V.fz true 2 (ae .i64 J) I 1,
    V.fz true 3 (aQ 3 1 M f) n 1,V.int IntKind.i64 r,V.fz true 4 (ae .i64 E) O 5])]
 [])∧((((V.fz true 0 (ae .i64 g) m 5):V)=(V.fz true 0 (ae .i64 g) m 5))∧(((((m:Nat):Int):Int)=((m:Nat):Int))∧((((0):Int)=((0:Nat):Int))∧True))))∧True)))
theorem rC1 (r:Int) (O:Nat) (E:Nat→Nat→Int) (m:Nat) (g:Nat→Nat→Int) (k:Nat) (t1:2≤A) (t2:A≤5) (t3:2≤I) (t4:I≤5) (h1:k<m) (h2:m≤1000000) (h3:soB A B I J (g k 0) (g k 1) (g k 2) (g k 3) (g k 4)=true):VC (bM Tryz.prog XSc 300 bC (aU 6) ltC 18 60 (sC A B I J n M f r O E m g k) (.next (sC A B I J n M f r O E m g (k+1)))) (.go 1429 .nil):=ai (((not (ak (m:Int) (k:Int)))=true∧((Nat.blt k m)=true∧((cond (cond (cond (ay .i64 (ae .i64 B) A 1) (cond (ay .i64 (ae .i64 J) I 1) (cond (cond true (fZ 3 (aQ 3 1 M f) n 1) false) (cond (ay .i64 (ae .i64 E) O 5) true false) false) false) false) true false) (cond (Nat.ble 2 A) (cond (Nat.ble A 5) (cond (Nat.ble 2 I) (Nat.ble I 5) false) false) false) false)=true∧((not (soB A B I J (g k 0) (g k 1) (g k 2) (g k 3) (g k 4)))=false∧((small ((k:Int)+1))=true∧((((V.func 80
 [V.agg 5
  (T.lf.setL 0
   [V.fz true 1 (ae .i64 B) A 1,V.fz true 2 (ae .i64 J) I 1,
    V.fz true 3 (aQ 3 1 M f) n 1,V.int IntKind.i64 r,V.fz true 4 (ae .i64 E) O 5])]
 []:V)=V.func 80
 [V.agg 5
  (T.lf.setL 0
   [V.fz true 1 (ae .i64 B) A 1,V.fz true 2 (ae .i64 J) I 1,
    V.fz true 3 (aQ 3 1 M f) n 1,V.int IntKind.i64 r,V.fz true 4 (ae .i64 E) O 5])]
 [])∧((((V.fz true 0 (ae .i64 g) m 5):V)=(V.fz true 0 (ae .i64 g) m 5))∧(((((m:Nat):Int):Int)=((m:Nat):Int))∧((((((k:Nat):Int)+(1)):Int)=(((k+1):Nat):Int))∧True))))∧True)))))))
theorem rC2 (r:Int) (O:Nat) (E:Nat→Nat→Int) (m:Nat) (g:Nat→Nat→Int) (k:Nat) (t1:2≤A) (t2:A≤5) (t3:2≤I) (t4:I≤5) (h1:k<m) (h2:m≤1000000) (h3:soB A B I J (g k 0) (g k 1) (g k 2) (g k 3) (g k 4)=false):VC (bM Tryz.prog XSc 300 bC (aU 6) ltC 18 60 (sC A B I J n M f r O E m g k) (.ret ⟨[.bool false],[]⟩)) (.go 341 .nil):=ai (((not (ak (m:Int) (k:Int)))=true∧((Nat.blt k m)=true∧((cond (cond (cond (ay .i64 (ae .i64 B) A 1) (cond (ay .i64 (ae .i64 J) I 1) (cond (cond true (fZ 3 (aQ 3 1 M f) n 1) false) (cond (ay .i64 (ae .i64 E) O 5) true false) false) false) false) true false) (cond (Nat.ble 2 A) (cond (Nat.ble A 5) (cond (Nat.ble 2 I) (Nat.ble I 5) false) false) false) false)=true∧((not (soB A B I J (g k 0) (g k 1) (g k 2) (g k 3) (g k 4)))=true∧(((false=false)∧True)∧True))))))
theorem rC3 (r:Int) (O:Nat) (E:Nat→Nat→Int) (m:Nat) (g:Nat→Nat→Int) (k:Nat) (h1:¬ k<m):VC (bM Tryz.prog XSc 300 bC (aU 6) ltC 18 60 (sC A B I J n M f r O E m g k) (.exit 0 ⟨[],[]⟩)) (.go 6 .nil):=ai (((not (ak (m:Int) (k:Int)))=false∧(True∧True)))
theorem fC1  : VC (fromD Tryz.prog XSc 300 81 [1,0,1,0] (Lv.res ltC 18 (iw (aU 6) ltC 60 (.exit 0 ⟨[],[]⟩)) (.exit 0 ⟨[],[]⟩)) (.bool true)) .nil:=ai ((true=true))
theorem fC2  : VC (fromD Tryz.prog XSc 300 81 [1,0,1,0] (Lv.res ltC 18 (iw (aU 6) ltC 60 (.ret ⟨[.bool false],[]⟩)) (.ret ⟨[.bool false],[]⟩)) (.bool false)) .nil:=ai ((false=false))
def Uo:Val:=fun das=>match das with | [.one (.sl 5 m g),.cl 80 [.sl 1 A B,.sl 1 I J,.rr 1 n M f,.i .i64 r,.sl 5 O E]]=>some (cond (WT A I) (Nat.ble m 1000000) false,.bool (kC A B I J g m)) | _=>none
theorem abG:qi Tryz.prog 81 Uo:=by
 intro das v hv
 unfold Uo at hv
 split at hv
 ·rename_i m g A B I J n M f r O E
  have hb:=congrArg Prod.fst (Option.some.inj hv)
  have hv:=congrArg Prod.snd (Option.some.inj hv)
  subst hv
  obtain ⟨ht,hb⟩:=ah hb
  obtain ⟨t1,t2,t3,t4⟩:=twoB_t.mp ht
  have hb:=Nat.le_of_ble_eq_true hb
  refine ⟨rfl,?_⟩
  rcases gu (caB A B I J g) m with h | ⟨N,h1,h2,h3⟩
  ·have e:kC A B I J g m=true:=bW h
   show ∃ v' H',SpecCall _ _ _ _ v' H'∧dB v' (.bool (kC A B I J g m))
   rw [e]
   exact bV aj xh (das:=[.one (.sl 5 m g),.cl 80 [.sl 1 A B,.sl 1 I J,.rr 1 n M f,.i .i64 r,.sl 5 O E]]) (lv := .exit 0 ⟨[],[]⟩) (by kernel_rfl) (by kernel_rfl) (eC A B I J n M f r O E m g).ok (bz (body:=bC) (fun _ e=>by cases e) m (sC A B I J n M f r O E m g) (fun k hk =>
    aP aj xh (rC1 A B I J n M f r O E m g k t1 t2 t3 t4 hk hb (h k hk)).ok (by kernel_rfl) (by kernel_rfl)) (aP aj xh (rC3 A B I J n M f r O E m g m (by omega)).ok (by kernel_rfl) (by kernel_rfl))) fC1.ok
  ·have e:kC A B I J g m=false:=gK h1 h3
   show ∃ v' H',SpecCall _ _ _ _ v' H'∧dB v' (.bool (kC A B I J g m))
   rw [e]
   exact bV aj xh (das:=[.one (.sl 5 m g),.cl 80 [.sl 1 A B,.sl 1 I J,.rr 1 n M f,.i .i64 r,.sl 5 O E]]) (lv := .ret ⟨[.bool false],[]⟩) (by kernel_rfl) (by kernel_rfl) (eC A B I J n M f r O E m g).ok (bz (body:=bC) (fun _ e=>by cases e) N (sC A B I J n M f r O E m g) (fun k hk =>
    aP aj xh (rC1 A B I J n M f r O E m g k t1 t2 t3 t4 (by omega) hb (h2 k hk)).ok (by kernel_rfl) (by kernel_rfl)) (aP aj xh (rC2 A B I J n M f r O E m g N t1 t2 t3 t4 h1 hb h3).ok (by kernel_rfl) (by kernel_rfl))) fC2.ok
 ·cases hv
def XCs:Ext:=jO [(56,cf HY),(81,cf Uo)] false
theorem Ac:dM Tryz.prog XCs:=dW (aA (dR Td)<|aA (dR abG) bK)
theorem ck1 (r:Int) (O:Nat) (E:Nat→Nat→Int) (s1:A≤1000) (s2:I≤1000) (s3:n≤1000) (s4:fU n M=true) (h:¬ aT A B I J n M f=0):VC (dh Tryz.prog XCs 300 30 (enc [.st [.sl 1 A B,.sl 1 I J,.rr 1 n M f,.i .i64 r,.sl 5 O E]] 0) 4 (fun v=>dB v (.int .i64 (aT A B I J n M f)))) (.go 21 .nil):=ai (((cond (cond (aZ 2 A B I J n M f) true false) (cond (Nat.ble A 1000) (cond (Nat.ble I 1000) (cond (Nat.ble n 1000) (fU n M) false) false) false) false)=true∧((not (bY (aT A B I J n M f) 0))=true∧(((aT A B I J n M f):Int)=(aT A B I J n M f)))))
theorem ck2 (r:Int) (O:Nat) (E:Nat→Nat→Int) (s1:A≤1000) (s2:I≤1000) (s3:n≤1000) (s4:fU n M=true) (h:aT A B I J n M f=0) (h2:¬ O≤6) (h3:O≤1000):VC (dh Tryz.prog XCs 300 30 (enc [.st [.sl 1 A B,.sl 1 I J,.rr 1 n M f,.i .i64 r,.sl 5 O E]] 0) 4 (fun v=>dB v (.int .i64 3))) (.go 89 .nil):=ai (((cond (cond (aZ 2 A B I J n M f) true false) (cond (Nat.ble A 1000) (cond (Nat.ble I 1000) (cond (Nat.ble n 1000) (fU n M) false) false) false) false)=true∧((not (bY (aT A B I J n M f) 0))=false∧((not (ak (O:Int) 6))=true∧(((3):Int)=3)))))
theorem ck3 (r:Int) (O:Nat) (E:Nat→Nat→Int) (s1:A≤1000) (s2:I≤1000) (s3:n≤1000) (s4:fU n M=true) (t1:2≤A) (t2:A≤5) (t3:2≤I) (t4:I≤5) (h:aT A B I J n M f=0) (h2:O≤6) (h3:¬ (0≤r∧r≤200)):VC (dh Tryz.prog XCs 300 30 (enc [.st [.sl 1 A B,.sl 1 I J,.rr 1 n M f,.i .i64 r,.sl 5 O E]] 0) 4 (fun v=>dB v (.int .i64 1))) (.go 105 (.sp (.go 1536 .nil) .nil)):=ai (((cond (cond (aZ 2 A B I J n M f) true false) (cond (Nat.ble A 1000) (cond (Nat.ble I 1000) (cond (Nat.ble n 1000) (fU n M) false) false) false) false)=true∧((not (bY (aT A B I J n M f) 0))=false∧((not (ak (O:Int) 6))=false∧(((ak 0 r)=true→((ak r 200)=false∧(((1):Int)=1))) ∧
 ((ak (0) r)=false→(((1):Int)=(1))))))))
theorem ck5 (r:Int) (O:Nat) (E:Nat→Nat→Int) (s1:A≤1000) (s2:I≤1000) (s3:n≤1000) (s4:fU n M=true) (t1:2≤A) (t2:A≤5) (t3:2≤I) (t4:I≤5) (h:aT A B I J n M f=0) (h2:O≤6) (h3:0≤r) (h4:r≤200) (h5:kC A B I J E O=false):VC (dh Tryz.prog XCs 300 30 (enc [.st [.sl 1 A B,.sl 1 I J,.rr 1 n M f,.i .i64 r,.sl 5 O E]] 0) 4 (fun v=>dB v (.int .i64 1))) (.go 1359020137 .nil):=ai (((cond (cond (aZ 2 A B I J n M f) true false) (cond (Nat.ble A 1000) (cond (Nat.ble I 1000) (cond (Nat.ble n 1000) (fU n M) false) false) false) false)=true∧((not (bY (aT A B I J n M f) 0))=false∧((not (ak (O:Int) 6))=false∧((ak 0 r)=true∧((ak r 200)=true∧((cond (cond (ay .i64 (ae .i64 E) O 5) (cond (cond (ay .i64 (ae .i64 B) A 1) (cond (ay .i64 (ae .i64 J) I 1) (cond (cond true (fZ 2 (aQ 2 1 M f) n 1) false) (cond (ay .i64 (ae .i64 E) O 5) true false) false) false) false) true false) false) (cond (cond (Nat.ble 2 A) (cond (Nat.ble A 5) (cond (Nat.ble 2 I) (Nat.ble I 5) false) false) false) (Nat.ble O 1000000) false) false)=true∧((not (kC A B I J E O))=true∧(((1):Int)=1)))))))))
theorem ck4 (r:Int) (O:Nat) (E:Nat→Nat→Int) (s1:A≤1000) (s2:I≤1000) (s3:n≤1000) (s4:fU n M=true) (t1:2≤A) (t2:A≤5) (t3:2≤I) (t4:I≤5) (h:aT A B I J n M f=0) (h2:O≤6) (h3:0≤r) (h4:r≤200) (h5:kC A B I J E O=true):VC (dh Tryz.prog XCs 300 30 (enc [.st [.sl 1 A B,.sl 1 I J,.rr 1 n M f,.i .i64 r,.sl 5 O E]] 0) 4 (fun v=>dB v (.int .i64 0))) (.go 1627455593 .nil):=ai (((cond (cond (aZ 2 A B I J n M f) true false) (cond (Nat.ble A 1000) (cond (Nat.ble I 1000) (cond (Nat.ble n 1000) (fU n M) false) false) false) false)=true∧((not (bY (aT A B I J n M f) 0))=false∧((not (ak (O:Int) 6))=false∧((ak 0 r)=true∧((ak r 200)=true∧((cond (cond (ay .i64 (ae .i64 E) O 5) (cond (cond (ay .i64 (ae .i64 B) A 1) (cond (ay .i64 (ae .i64 J) I 1) (cond (cond true (fZ 2 (aQ 2 1 M f) n 1) false) (cond (ay .i64 (ae .i64 E) O 5) true false) false) false) false) true false) false) (cond (cond (Nat.ble 2 A) (cond (Nat.ble A 5) (cond (Nat.ble 2 I) (Nat.ble I 5) false) false) false) (Nat.ble O 1000000) false) false)=true∧((not (kC A B I J E O))=false∧(((0):Int)=0)))))))))
def Ee:Val:=fun das=>match das with | [.st [.sl 1 A B,.sl 1 I J,.rr 1 n M f,.i .i64 r,.sl 5 O E]]=>some (cond (oQ A I n M) (Nat.ble O 1000) false,.int .i64 (gW A B I J n M f r O E)) | _=>none
structure StOk (A:Nat) (B:Nat→Nat→Int) (I:Nat) (J:Nat→Nat→Int) (n:Nat) (M:Nat→Nat) (f:Nat→Nat→Nat→Int) (r:Int) (O:Nat) (E:Nat→Nat→Int):Prop where
 tab:aT A B I J n M f=0
 ok:TabOk A B I J n M f
 six:O≤6
 rate:0≤r∧r≤200
 cask:∀ i,i<O→(1≤E i 0∧E i 0≤99)∧qp A B (E i 1) (E i 2)∧qp I J (E i 3) (E i 4)
theorem xk (A:Nat) (B:Nat→Nat→Int) (I:Nat) (J:Nat→Nat→Int) (n:Nat) (M:Nat→Nat) (f:Nat→Nat→Nat→Int) (r:Int) (O:Nat) (E:Nat→Nat→Int):(¬ aT A B I J n M f=0∧gW A B I J n M f r O E=aT A B I J n M f)∨(aT A B I J n M f=0∧¬ O≤6∧gW A B I J n M f r O E=3) ∨
 (aT A B I J n M f=0∧O≤6∧¬ (0≤r∧r≤200∧kC A B I J E O=true)∧gW A B I J n M f r O E=1)∨(aT A B I J n M f=0∧O≤6∧(0≤r∧r≤200∧kC A B I J E O=true)∧gW A B I J n M f r O E=0):=by
 unfold gW
 by_cases h:aT A B I J n M f=0
 ·rw [(dQ _ _).mpr h]
  by_cases h2:O≤6
  ·rw [dV h2]
   by_cases h3:0≤r∧r≤200
   ·rw [raB_t.mpr h3]
    cases ha:kC A B I J E O with
    | true=>exact .inr (.inr (.inr ⟨h,h2,⟨h3.1,h3.2,rfl⟩,rfl⟩))
    | false=>exact .inr (.inr (.inl ⟨h,h2,fun q=>(by cases q.2.2),rfl⟩))
   ·have e:raB r=false:=by
     cases q:raB r with
     | false=>rfl
     | true=>exact absurd (raB_t.mp q) h3
    rw [e]
    exact .inr (.inr (.inl ⟨h,h2,fun q=>h3 ⟨q.1,q.2.1⟩,rfl⟩))
  ·have e:Nat.ble O 6=false:=(gZ _ _).mpr (by omega)
   rw [e]
   exact .inr (.inl ⟨h,h2,rfl⟩)
 ·rw [(fD _ _).mpr h]
  exact .inl ⟨h,rfl⟩
theorem FW (A:Nat) (B:Nat→Nat→Int) (I:Nat) (J:Nat→Nat→Int) (n:Nat) (M:Nat→Nat) (f:Nat→Nat→Nat→Int) (r:Int) (O:Nat) (E:Nat→Nat→Int) (h:gW A B I J n M f r O E=0):StOk A B I J n M f r O E:=by
 rcases xk A B I J n M f r O E with ⟨h1,h2⟩ | ⟨_,_,h3⟩ | ⟨_,_,_,h3⟩ | ⟨h1,h2,h3,_⟩
 ·rw [h2] at h;exact absurd h h1
 ·rw [h3] at h;cases h
 ·rw [h3] at h;cases h
 ·exact ⟨h1,lq h1,h2,⟨h3.1,h3.2.1⟩,fun i hi=>soB_t.mp (aX h3.2.2 i hi)⟩
theorem SH:qi Tryz.prog 30 Ee:=by
 intro das v hv
 unfold Ee at hv
 split at hv
 ·rename_i A B I J n M f r O E
  have hb:=congrArg Prod.fst (Option.some.inj hv)
  have hv:=congrArg Prod.snd (Option.some.inj hv)
  subst hv
  obtain ⟨hb,hn⟩:=ah hb
  have hn:=Nat.le_of_ble_eq_true hn
  obtain ⟨s1,s2,s3,s4⟩:=Ou hb
  rcases xk A B I J n M f r O E with ⟨h1,h2⟩ | ⟨h1,h2,h3⟩ | ⟨h1,h2,h3,h4⟩ | ⟨h1,h2,h3,h4⟩
  ·rw [h2];exact bn aj Ac rfl (das:=[.st [.sl 1 A B,.sl 1 I J,.rr 1 n M f,.i .i64 r,.sl 5 O E]]) (ck1 A B I J n M f r O E s1 s2 s3 s4 h1)
  ·rw [h3];exact bn aj Ac rfl (das:=[.st [.sl 1 A B,.sl 1 I J,.rr 1 n M f,.i .i64 r,.sl 5 O E]]) (ck2 A B I J n M f r O E s1 s2 s3 s4 h1 h2 hn)
  ·rw [h4]
   have ok:=lq h1
   by_cases hr:0≤r∧r≤200
   ·have ha:kC A B I J E O=false:=by
     cases ha:kC A B I J E O with
     | false=>rfl
     | true=>exact absurd ⟨hr.1,hr.2,ha⟩ h3
    exact bn aj Ac rfl (das:=[.st [.sl 1 A B,.sl 1 I J,.rr 1 n M f,.i .i64 r,.sl 5 O E]]) (ck5 A B I J n M f r O E s1 s2 s3 s4 ok.w.two ok.w.five ok.m.two ok.m.five h1 h2 hr.1 hr.2 ha)
   ·exact bn aj Ac rfl (das:=[.st [.sl 1 A B,.sl 1 I J,.rr 1 n M f,.i .i64 r,.sl 5 O E]]) (ck3 A B I J n M f r O E s1 s2 s3 s4 ok.w.two ok.w.five ok.m.two ok.m.five h1 h2 hr)
  ·rw [h4]
   have ok:=lq h1
   exact bn aj Ac rfl (das:=[.st [.sl 1 A B,.sl 1 I J,.rr 1 n M f,.i .i64 r,.sl 5 O E]]) (ck4 A B I J n M f r O E s1 s2 s3 s4 ok.w.two ok.w.five ok.m.two ok.m.five h1 h2 h3.1 h3.2.1 h3.2.2)
 ·cases hv
end
end Go.Proofs.YtiplgejpopellaaGreat
