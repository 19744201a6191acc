/- Tables: contracts: the reference's error of a table: Fault. -/
import Derived.Test.YtpfcfonplmhmiaaGreatYTaF1
set_option linter.all false
set_option linter.unusedSimpArgs false
set_option linter.unusedVariables false
namespace Go.Proofs.YtpfcfonplmhmiaaGreat
open Go Go.Ev
set_option maxRecDepth 1000000
noncomputable section
variable (A:Nat) (B:Nat→Nat→Int) (I:Nat) (J:Nat→Nat→Int) (n:Nat) (M:Nat→Nat) (f:Nat→Nat→Nat→Int)
def XF:Ext:=jy [(90,cf U3)] false
theorem qX:dE Tryz.prog XF:=dG (ay (dA aar) bn)
def Jn (I k:Nat) (g:Nat→Nat→Int):Bool:=cond (aP (k:Int) I) (allIn 0 2000 g I) false
def zU (I n:Nat) (M:Nat→Nat) (f:Nat→Nat→Nat→Int):Bool:=fH (fun i=>Jn I (M i) (f i)) n
def xB (A:Nat) (B:Nat→Nat→Int) (I:Nat) (J:Nat→Nat→Int) (n:Nat) (M:Nat→Nat) (f:Nat→Nat→Nat→Int):Bool:=cond (ak 2 (A:Int)) (cond (ak 2 (I:Int)) (cond (jJ A B 40) (cond (jJ I J 60) (aP (n:Int) (A:Int)) false) false) false) false
def faE (A:Nat) (B:Nat→Nat→Int) (I:Nat) (J:Nat→Nat→Int) (n:Nat) (M:Nat→Nat) (f:Nat→Nat→Nat→Int):Int:=cond (ak (A:Int) 5) (cond (ak (I:Int) 5) (cond (ak (n:Int) 5) (cond (xB A B I J n M f) (cond (zU I n M f) 0 1) 1) 3) 3) 3
def fQ (A:Nat) (B:Nat→Nat→Int) (I:Nat) (J:Nat→Nat→Int) (n:Nat) (M:Nat→Nat) (f:Nat→Nat→Nat→Int):EH:=⟨setAt [(4,rowT A B I J n M f 0)] .lf,7,.lf,big⟩
def ltG:LT:=⟨[1,3],[],[2],7⟩
def ltH:LT:=⟨[1,3,4],[1,3],[2],7⟩
def sG (k:Nat):LS:=⟨[.ptr 4 0,.int .i64 k],[]⟩
def sH (i k:Nat):LS:=⟨[.ptr 4 0,.int .i64 i,.int .i64 k],[]⟩
def xH (i:Nat):Lv := .exit 2 ⟨[.ptr 4 0,.int .i64 i],[]⟩
def Ff:Lv := .ret ⟨[.int .i64 1],[]⟩
def bG:Code:=sub [1,1,1,0,1,0,0] (dm Tryz.prog 76)
def bH:Code:=sub [1,0,0,1,1,0,0] bG
theorem g1 (h:¬ (A≤5∧I≤5∧n≤5)):VC (bZ Tryz.prog XF 300 76 (enc [.st [.sl 1 A B,.sl 1 I J,.rr 1 n M f]] 0) 3 (fun v=>bJ v (.int .i64 3))) (.sp .nil (.go 256 (.sp .nil (.go 1280 .nil)))):=ai ((((not (ak (A:Int) 5))=true→(((3):Int)=3)) ∧
 ((not (ak ((A:Nat):Int) (5)))=false→(((not (ak ((I:Nat):Int) (5)))=true→(((3):Int)=(3))) ∧
 ((not (ak ((I:Nat):Int) (5)))=false→((not (ak ((n:Nat):Int) (5)))=true∧(((3):Int)=(3))))))))
theorem g2 (h1:A≤5) (h2:I≤5) (h3:n≤5) (h:A<2):VC (bZ Tryz.prog XF 300 76 (enc [.st [.sl 1 A B,.sl 1 I J,.rr 1 n M f]] 0) 3 (fun v=>bJ v (.int .i64 1))) (.go 23070722 .nil):=ai (((not (ak (A:Int) 5))=false∧((not (ak (I:Int) 5))=false∧((not (ak (n:Int) 5))=false∧((not (ak 2 (A:Int)))=true∧(((1):Int)=1))))))
theorem g3 (h1:A≤5) (h2:I≤5) (h3:n≤5) (h4:2≤A) (h:I<2):VC (bZ Tryz.prog XF 300 76 (enc [.st [.sl 1 A B,.sl 1 I J,.rr 1 n M f]] 0) 3 (fun v=>bJ v (.int .i64 1))) (.go 21485324290 .nil):=ai (((not (ak (A:Int) 5))=false∧((not (ak (I:Int) 5))=false∧((not (ak (n:Int) 5))=false∧((not (ak 2 (A:Int)))=false∧((not (ak 2 (I:Int)))=true∧(((1):Int)=1)))))))
theorem g4 (h1:A≤5) (h2:I≤5) (h3:n≤5) (h4:2≤A) (h5:2≤I) (h:jJ A B 40=false):VC (bZ Tryz.prog XF 300 76 (enc [.st [.sl 1 A B,.sl 1 I J,.rr 1 n M f]] 0) 3 (fun v=>bJ v (.int .i64 1))) (.go 88244408551426 .nil):=ai (((not (ak (A:Int) 5))=false∧((not (ak (I:Int) 5))=false∧((not (ak (n:Int) 5))=false∧((not (ak 2 (A:Int)))=false∧((not (ak 2 (I:Int)))=false∧((cond (cond (aJ .i64 (ae .i64 B) A 1) true false) (Nat.ble A 1000) false)=true∧((not (jJ A B 40))=true∧(((1):Int)=1)))))))))
theorem g5 (h1:A≤5) (h2:I≤5) (h3:n≤5) (h4:2≤A) (h5:2≤I) (h6:jJ A B 40=true) (h:jJ I J 60=false):VC (bZ Tryz.prog XF 300 76 (enc [.st [.sl 1 A B,.sl 1 I J,.rr 1 n M f]] 0) 3 (fun v=>bJ v (.int .i64 1))) (.go 361449337946900482 .nil):=ai (((not (ak (A:Int) 5))=false∧((not (ak (I:Int) 5))=false∧((not (ak (n:Int) 5))=false∧((not (ak 2 (A:Int)))=false∧((not (ak 2 (I:Int)))=false∧((cond (cond (aJ .i64 (ae .i64 B) A 1) true false) (Nat.ble A 1000) false)=true∧((not (jJ A B 40))=false∧((cond (cond (aJ .i64 (ae .i64 J) I 1) true false) (Nat.ble I 1000) false)=true∧((not (jJ I J 60))=true∧(((1):Int)=1)))))))))))
theorem g6 (h1:A≤5) (h2:I≤5) (h3:n≤5) (h4:2≤A) (h5:2≤I) (h6:jJ A B 40=true) (h7:jJ I J 60=true) (h:¬ n=A):VC (bZ Tryz.prog XF 300 76 (enc [.st [.sl 1 A B,.sl 1 I J,.rr 1 n M f]] 0) 3 (fun v=>bJ v (.int .i64 1))) (.go 23611977690904059185154 .nil):=ai (((not (ak (A:Int) 5))=false∧((not (ak (I:Int) 5))=false∧((not (ak (n:Int) 5))=false∧((not (ak 2 (A:Int)))=false∧((not (ak 2 (I:Int)))=false∧((cond (cond (aJ .i64 (ae .i64 B) A 1) true false) (Nat.ble A 1000) false)=true∧((not (jJ A B 40))=false∧((cond (cond (aJ .i64 (ae .i64 J) I 1) true false) (Nat.ble I 1000) false)=true∧((not (jJ I J 60))=false∧((not (aP (n:Int) (A:Int)))=true∧(((1):Int)=1))))))))))))
theorem g7 (h1:A≤5) (h2:I≤5) (h3:n≤5) (h4:2≤A) (h5:2≤I) (h6:jJ A B 40=true) (h7:jJ I J 60=true) (h:n=A):VC (ng Tryz.prog XF 300 76 [1,1,1,0,1,0] [.st [.sl 1 A B,.sl 1 I J,.rr 1 n M f]] (fQ A B I J n M f) ltG 86 80 (sG 0)) (.go 28334344173773704398850 .nil):=ai (((not (ak (A:Int) 5))=false∧((not (ak (I:Int) 5))=false∧((not (ak (n:Int) 5))=false∧((not (ak 2 (A:Int)))=false∧((not (ak 2 (I:Int)))=false∧((cond (cond (aJ .i64 (ae .i64 B) A 1) true false) (Nat.ble A 1000) false)=true∧((not (jJ A B 40))=false∧((cond (cond (aJ .i64 (ae .i64 J) I 1) true false) (Nat.ble I 1000) false)=true∧((not (jJ I J 60))=false∧((not (aP (n:Int) (A:Int)))=false∧((True∧(True∧(True∧((((((V.fz true 0 (ae .i64 B) A 1):V)=(V.fz true 0 (ae .i64 B) A 1))∧(((((V.fz true 1 (ae .i64 J) I 1):V)=(V.fz true 1 (ae .i64 J) I 1))∧(True∧True))∧((((V.fz true 2 (fun i x=>V.fz true (jq (D0.sl 1 I J) (jq (D0.sl 1 A B) 0)) (ae .i64 (f i)) (M i) 1) n 1):V)=(V.fz true 2 (fun i x=>V.fz true (jq (D0.sl 1 I J) (jq (D0.sl 1 A B) 0)) (ae .i64 (f i)) (M i) 1) n 1))∧(True∧True))))∧(True∧True))∧True))))∧(((((V.ptr 4 0):V)=(V.ptr 4 0))∧((((0):Int)=((0:Nat):Int))∧True))∧True)))))))))))))
theorem g8 (i k:Nat) (h1:i<n) (h2:n≤5) (h3:k<I) (h4:I≤5) (h5:M i=I) (h6:0≤f i k 0) (h7:f i k 0≤2000):VC (bW Tryz.prog XF 300 bH (fQ A B I J n M f) ltH 86 60 (sH i k) (.next (sH i (k+1)))) (.go 360533 .nil):=ai (((not (ak (I:Int) (k:Int)))=true∧((Nat.blt i n)=true∧((Nat.blt k (M i))=true∧((ak 0 (f i k 0))=true∧((not (ak (f i k 0) 2000))=false∧((small ((k:Int)+1))=true∧(((((V.ptr 4 0):V)=(V.ptr 4 0))∧((((i:Int):Int)=(i:Int))∧(((((k:Int)+1):Int)=(((k+1):Nat):Int))∧True)))∧True))))))))
theorem g9 (i k:Nat) (h1:i<n) (h2:n≤5) (h3:k<I) (h4:I≤5) (h5:M i=I) (h6:¬ (0≤f i k 0∧f i k 0≤2000)):VC (bW Tryz.prog XF 300 bH (fQ A B I J n M f) ltH 86 60 (sH i k) Ff) (.go 85 (.sp (.go 320 .nil) .nil)):=ai (((not (ak (I:Int) (k:Int)))=true∧((Nat.blt i n)=true∧((Nat.blt k (M i))=true∧(((ak 0 (f i k 0))=true→((not (ak (f i k 0) 2000))=true∧(((((1):Int)=1)∧True)∧True))) ∧
 ((ak (0) (f i k 0))=false→(((((1):Int)=(1))∧True)∧True)))))))
theorem g10 (i k:Nat) (h1:¬ k<I):VC (bW Tryz.prog XF 300 bH (fQ A B I J n M f) ltH 86 60 (sH i k) (xH i)) (.go 6 .nil):=ai (((not (ak (I:Int) (k:Int)))=false∧(((((V.ptr 4 0):V)=(V.ptr 4 0))∧((((i:Int):Int)=(i:Int))∧True))∧True)))
theorem g11 (i:Nat) (h1:i<n) (h2:n≤5) (h4:I≤5) (h5:M i=I):VC (JO Tryz.prog XF 300 [1,0,0,1,1,0] bG (fQ A B I J n M f) ltG 86 (sG i) (fQ A B I J n M f) ltH 60 (sH i 0)) (.go 101 .nil):=ai (((not (ak (n:Int) (i:Int)))=true∧((Nat.blt i n)=true∧((not (aP (((M i):Nat):Int) (I:Int)))=false∧((True∧(True∧(True∧((((((V.fz true 0 (ae .i64 B) A 1):V)=(V.fz true 0 (ae .i64 B) A 1))∧(((((V.fz true 1 (ae .i64 J) I 1):V)=(V.fz true 1 (ae .i64 J) I 1))∧(True∧True))∧((((V.fz true 2 (fun i x=>V.fz true (jq (D0.sl 1 I J) (jq (D0.sl 1 A B) 0)) (ae .i64 (f i)) (M i) 1) n 1):V)=(V.fz true 2 (fun i x=>V.fz true (jq (D0.sl 1 I J) (jq (D0.sl 1 A B) 0)) (ae .i64 (f i)) (M i) 1) n 1))∧(True∧True))))∧(True∧True))∧True))))∧(((((V.ptr 4 0):V)=(V.ptr 4 0))∧((((i:Int):Int)=(i:Int))∧((((0):Int)=((0:Nat):Int))∧True)))∧True))))))
theorem g12 (i:Nat) (h1:i<n) (h2:n≤5):VC (uw Tryz.prog XF 300 [1,0,0,1,1,0] bG (fQ A B I J n M f) ltG 86 80 (.next (sG (i+1))) (fQ A B I J n M f) ltH 60 (xH i)) (.go 5 .nil):=ai (((small ((i:Int)+1))=true∧(((((V.ptr 4 0):V)=(V.ptr 4 0))∧(((((i:Int)+1):Int)=(((i+1):Nat):Int))∧True))∧True)))
theorem g13:VC (uw Tryz.prog XF 300 [1,0,0,1,1,0] bG (fQ A B I J n M f) ltG 86 80 Ff (fQ A B I J n M f) ltH 60 Ff) .nil:=ai ((((((1):Int)=1)∧True)∧True))
theorem g14 (i:Nat) (h1:i<n) (h2:n≤5) (h4:I≤5) (h5:¬ M i=I):VC (bW Tryz.prog XF 300 bG (fQ A B I J n M f) ltG 86 80 (sG i) Ff) (.go 85 .nil):=ai (((not (ak (n:Int) (i:Int)))=true∧((Nat.blt i n)=true∧((not (aP (((M i):Nat):Int) (I:Int)))=true∧(((((1):Int)=1)∧True)∧True)))))
theorem g15 (i:Nat) (h1:¬ i<n):VC (bW Tryz.prog XF 300 bG (fQ A B I J n M f) ltG 86 80 (sG i) (.exit 0 ⟨[],[]⟩)) (.go 6 .nil):=ai (((not (ak (n:Int) (i:Int)))=false∧(True∧True)))
theorem g16:VC (fromD Tryz.prog XF 300 76 [1,1,1,0,1,0] (Lv.res ltG 86 (gX (fQ A B I J n M f) ltG 80 (.exit 0 ⟨[],[]⟩)) (.exit 0 ⟨[],[]⟩)) (.int .i64 0)) .nil:=ai ((((0):Int)=0))
theorem g17:VC (fromD Tryz.prog XF 300 76 [1,1,1,0,1,0] (Lv.res ltG 86 (gX (fQ A B I J n M f) ltG 80 Ff) Ff) (.int .i64 1)) .nil:=ai ((((1):Int)=1))
def Xw:Val:=fun das=>match das with | [.st [.sl 1 A B,.sl 1 I J,.rr 1 n M f]]=>some (dS A I n M,.int .i64 (faE A B I J n M f)) | _=>none
theorem Zc:oI Tryz.prog 76 Xw:=by
 intro das v hv
 unfold Xw at hv
 split at hv
 ·rename_i A B I J n M f
  have hb:=congrArg Prod.fst (Option.some.inj hv)
  have hv:=congrArg Prod.snd (Option.some.inj hv)
  subst hv
  have fin:∀ {x:Int} {h:HT},VC (bZ Tryz.prog XF 300 76 (enc [.st [.sl 1 A B,.sl 1 I J,.rr 1 n M f]] 0) 3 (fun v=>bJ v (.int .i64 x))) h→wZ (.int .i64 x)=true∧∃ v' H',SpecCall Tryz.prog 76 (enc [.st [.sl 1 A B,.sl 1 I J,.rr 1 n M f]] 0) (aW 4) v' H'∧bJ v' (.int .i64 x):=fun {x h} hvc=>aT (v := .int .i64 x) aj qX rfl (das:=[.st [.sl 1 A B,.sl 1 I J,.rr 1 n M f]]) hvc
  by_cases h:A≤5∧I≤5∧n≤5
  ·obtain ⟨h1,h2,h3⟩:=h
   have e0:faE A B I J n M f=cond (xB A B I J n M f) (cond (zU I n M f) 0 1) 1:=by unfold faE;rw [(aY _ _).mpr (by omega),(aY _ _).mpr (by omega),(aY _ _).mpr (by omega)];rfl
   rw [e0]
   by_cases h4:2≤A
   ·by_cases h5:2≤I
    ·have e1:xB A B I J n M f=cond (jJ A B 40) (cond (jJ I J 60) (aP (n:Int) (A:Int)) false) false:=by unfold xB;rw [(aY _ _).mpr (by omega),(aY _ _).mpr (by omega)];rfl
     cases h6:jJ A B 40 with
     | false=>rw [e1,h6];exact fin (g4 A B I J n M f h1 h2 h3 h4 h5 h6)
     | true =>
     cases h7:jJ I J 60 with
     | false=>rw [e1,h6,h7];exact fin (g5 A B I J n M f h1 h2 h3 h4 h5 h6 h7)
     | true =>
     by_cases h8:n=A
     ·have e2:xB A B I J n M f=true:=by rw [e1,h6,h7,(eu _ _).mpr (by omega)];rfl
      rw [e2]
      refine ⟨rfl,?_⟩
      have inner:∀ i,i<n→M i=I→∀ k,k<I→inB 0 2000 (f i) k=true→JL Tryz.prog (fQ A B I J n M f) ltH 86 60 none bH (sH i k) (.next (sH i (k+1))):=fun i hi hl k hk q=>by
       simp only [inB,decide_eq_true_eq] at q
       exact aQ aj qX (g8 A B I J n M f i k hi h3 hk h2 hl q.1 q.2).ok (by kernel_rfl) (by kernel_rfl)
      have good:∀ i,i<n→Jn I (M i) (f i)=true→JL Tryz.prog (fQ A B I J n M f) ltG 86 80 none bG (sG i) (.next (sG (i+1))):=fun i hi q=>by
       obtain ⟨q1,q2⟩:=ah q
       have hl:M i=I:=by have:=(eu _ _).mp q1;omega
       exact Em aj qX (by kernel_rfl) (by kernel_rfl) (g11 A B I J n M f i hi h3 h2 hl)
        (bD (body:=bH) (lv:=xH i) (fun _ e=>by cases e) I (sH i) (fun k hk=>inner i hi hl k hk (aZ q2 k hk)) (aQ aj qX (g10 A B I J n M f i I (by omega)).ok (by kernel_rfl) (by kernel_rfl)))
        (g12 A B I J n M f i hi h3)
      have bad:∀ i,i<n→Jn I (M i) (f i)=false→JL Tryz.prog (fQ A B I J n M f) ltG 86 80 none bG (sG i) Ff:=fun i hi q=>by
       by_cases hl:M i=I
       ·have q2:allIn 0 2000 (f i) I=false:=by
         cases q2:allIn 0 2000 (f i) I with
         | false=>rfl
         | true=>rw [show Jn I (M i) (f i)=true from aV ((eu _ _).mpr (by omega)) q2] at q;cases q
        rcases fU (inB 0 2000 (f i)) I with p | ⟨N,p1,p2,p3⟩
        ·rw [show allIn 0 2000 (f i) I=true from bF p] at q2;cases q2
        ·simp only [inB,decide_eq_false_iff_not] at p3
         exact Em aj qX (by kernel_rfl) (by kernel_rfl) (g11 A B I J n M f i hi h3 h2 hl)
          (bD (body:=bH) (lv:=Ff) (fun _ e=>by cases e) N (sH i) (fun k hk=>inner i hi hl k (by omega) (p2 k hk)) (aQ aj qX (g9 A B I J n M f i N hi h3 p1 h2 hl p3).ok (by kernel_rfl) (by kernel_rfl)))
          (g13 A B I J n M f)
       ·exact aQ aj qX (g14 A B I J n M f i hi h3 h2 hl).ok (by kernel_rfl) (by kernel_rfl)
      rcases fU (fun i=>Jn I (M i) (f i)) n with p | ⟨N,p1,p2,p3⟩
      ·have e3:zU I n M f=true:=bF p
       rw [e3]
       exact cZ aj qX (das:=[.st [.sl 1 A B,.sl 1 I J,.rr 1 n M f]]) (v := .int .i64 0) (lv := .exit 0 ⟨[],[]⟩) (by kernel_rfl) (by kernel_rfl) (g7 A B I J n M f h1 h2 h3 h4 h5 h6 h7 h8).ok
        (bD (body:=bG) (fun _ e=>by cases e) n sG (fun i hi=>good i hi (p i hi)) (aQ aj qX (g15 A B I J n M f n (by omega)).ok (by kernel_rfl) (by kernel_rfl))) (g16 A B I J n M f).ok
      ·have e3:zU I n M f=false:=fF p1 p3
       rw [e3]
       exact cZ aj qX (das:=[.st [.sl 1 A B,.sl 1 I J,.rr 1 n M f]]) (v := .int .i64 1) (lv:=Ff) (by kernel_rfl) (by kernel_rfl) (g7 A B I J n M f h1 h2 h3 h4 h5 h6 h7 h8).ok
        (bD (body:=bG) (fun _ e=>by cases e) N sG (fun i hi=>good i (by omega) (p2 i hi)) (bad N p1 p3)) (g17 A B I J n M f).ok
     ·have e2:xB A B I J n M f=false:=by rw [e1,h6,h7,(gZ _ _).mpr (by omega)];rfl
      rw [e2];exact fin (g6 A B I J n M f h1 h2 h3 h4 h5 h6 h7 h8)
    ·have e1:xB A B I J n M f=false:=by unfold xB;rw [(aY _ _).mpr (by omega),(iJ 2 (I:Int)).mpr (by omega)];rfl
     rw [e1];exact fin (g3 A B I J n M f h1 h2 h3 h4 (by omega))
   ·have e1:xB A B I J n M f=false:=by unfold xB;rw [(iJ 2 (A:Int)).mpr (by omega)];rfl
    rw [e1];exact fin (g2 A B I J n M f h1 h2 h3 (by omega))
  ·have e0:faE A B I J n M f=3:=by
    unfold faE
    by_cases q1:A≤5
    ·by_cases q2:I≤5
     ·rw [(aY _ _).mpr (by omega),(aY _ _).mpr (by omega),(iJ (n:Int) 5).mpr (by omega)];rfl
     ·rw [(aY _ _).mpr (by omega),(iJ (I:Int) 5).mpr (by omega)];rfl
    ·rw [(iJ (A:Int) 5).mpr (by omega)];rfl
   rw [e0];exact fin (g1 A B I J n M f h)
 ·cases hv
end
end Go.Proofs.YtpfcfonplmhmiaaGreat
