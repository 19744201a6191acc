/- Tables: contracts: the reference's error of a table: Fault. -/
import Derived.Test.YtiplgejpopellaaGreatYTaF1
set_option linter.all false
set_option linter.unusedSimpArgs false
set_option linter.unusedVariables false
namespace Go.Proofs.YtiplgejpopellaaGreat
open Go Go.Ev
set_option maxRecDepth 1000000
noncomputable section
variable (A:Nat) (B:Nat→Nat→Int) (I:Nat) (J:Nat→Nat→Int) (n:Nat) (M:Nat→Nat) (f:Nat→Nat→Nat→Int)
def XF:Ext:=jO [(85,cf VD)] false
theorem sW:dM Tryz.prog XF:=dW (aA (dR Z7) bK)
def L8 (I k:Nat) (g:Nat→Nat→Int):Bool:=cond (bY (k:Int) I) (allIn 0 2000 g I) false
def Bg (I n:Nat) (M:Nat→Nat) (f:Nat→Nat→Nat→Int):Bool:=eX (fun i=>L8 I (M i) (f i)) n
def yC (A:Nat) (B:Nat→Nat→Int) (I:Nat) (J:Nat→Nat→Int) (n:Nat) (M:Nat→Nat) (f:Nat→Nat→Nat→Int):Bool:=cond (ak 2 (A:Int)) (cond (ak 2 (I:Int)) (cond (jZ A B 40) (cond (jZ I J 60) (bY (n:Int) (A:Int)) false) false) false) false
def faE (A:Nat) (B:Nat→Nat→Int) (I:Nat) (J:Nat→Nat→Int) (n:Nat) (M:Nat→Nat) (f:Nat→Nat→Nat→Int):Int:=cond (ak (A:Int) 5) (cond (ak (I:Int) 5) (cond (ak (n:Int) 5) (cond (yC A B I J n M f) (cond (Bg I n M f) 0 1) 1) 3) 3) 3
def iR (A:Nat) (B:Nat→Nat→Int) (I:Nat) (J:Nat→Nat→Int) (n:Nat) (M:Nat→Nat) (f:Nat→Nat→Nat→Int):EH:=⟨setAt [(4,rowT A B I J n M f 0)] .lf,7,.lf,big⟩
def ltG:LT:=⟨[1,3],[],[2],7⟩
def ltH:LT:=⟨[1,3,4],[1,3],[2],7⟩
def sG (k:Nat):LS:=⟨[.ptr 4 0,.int .i64 k],[]⟩
def sH (i k:Nat):LS:=⟨[.ptr 4 0,.int .i64 i,.int .i64 k],[]⟩
def xH (i:Nat):Lv := .exit 2 ⟨[.ptr 4 0,.int .i64 i],[]⟩
def Eu:Lv := .ret ⟨[.int .i64 1],[]⟩
def bG:Code:=sub [1,1,1,0,1,0,0] (cZ Tryz.prog 63)
def bH:Code:=sub [1,0,0,1,1,0,0] bG
theorem g1 (h:¬ (A≤5∧I≤5∧n≤5)):VC (dh Tryz.prog XF 300 63 (enc [.st [.sl 1 A B,.sl 1 I J,.rr 1 n M f]] 0) 3 (fun v=>dB v (.int .i64 3))) (.sp .nil (.go 256 (.sp .nil (.go 1280 .nil)))):=ai ((((not (ak (A:Int) 5))=true→(((3):Int)=3)) ∧
 ((not (ak ((A:Nat):Int) (5)))=false→(((not (ak ((I:Nat):Int) (5)))=true→(((3):Int)=(3))) ∧
 ((not (ak ((I:Nat):Int) (5)))=false→((not (ak ((n:Nat):Int) (5)))=true∧(((3):Int)=(3))))))))
theorem g2 (h1:A≤5) (h2:I≤5) (h3:n≤5) (h:A<2):VC (dh Tryz.prog XF 300 63 (enc [.st [.sl 1 A B,.sl 1 I J,.rr 1 n M f]] 0) 3 (fun v=>dB v (.int .i64 1))) (.go 23070722 .nil):=ai (((not (ak (A:Int) 5))=false∧((not (ak (I:Int) 5))=false∧((not (ak (n:Int) 5))=false∧((not (ak 2 (A:Int)))=true∧(((1):Int)=1))))))
theorem g3 (h1:A≤5) (h2:I≤5) (h3:n≤5) (h4:2≤A) (h:I<2):VC (dh Tryz.prog XF 300 63 (enc [.st [.sl 1 A B,.sl 1 I J,.rr 1 n M f]] 0) 3 (fun v=>dB v (.int .i64 1))) (.go 21485324290 .nil):=ai (((not (ak (A:Int) 5))=false∧((not (ak (I:Int) 5))=false∧((not (ak (n:Int) 5))=false∧((not (ak 2 (A:Int)))=false∧((not (ak 2 (I:Int)))=true∧(((1):Int)=1)))))))
theorem g4 (h1:A≤5) (h2:I≤5) (h3:n≤5) (h4:2≤A) (h5:2≤I) (h:jZ A B 40=false):VC (dh Tryz.prog XF 300 63 (enc [.st [.sl 1 A B,.sl 1 I J,.rr 1 n M f]] 0) 3 (fun v=>dB v (.int .i64 1))) (.go 88244408551426 .nil):=ai (((not (ak (A:Int) 5))=false∧((not (ak (I:Int) 5))=false∧((not (ak (n:Int) 5))=false∧((not (ak 2 (A:Int)))=false∧((not (ak 2 (I:Int)))=false∧((cond (cond (ay .i64 (ae .i64 B) A 1) true false) (Nat.ble A 1000) false)=true∧((not (jZ A B 40))=true∧(((1):Int)=1)))))))))
theorem g5 (h1:A≤5) (h2:I≤5) (h3:n≤5) (h4:2≤A) (h5:2≤I) (h6:jZ A B 40=true) (h:jZ I J 60=false):VC (dh Tryz.prog XF 300 63 (enc [.st [.sl 1 A B,.sl 1 I J,.rr 1 n M f]] 0) 3 (fun v=>dB v (.int .i64 1))) (.go 361449337946900482 .nil):=ai (((not (ak (A:Int) 5))=false∧((not (ak (I:Int) 5))=false∧((not (ak (n:Int) 5))=false∧((not (ak 2 (A:Int)))=false∧((not (ak 2 (I:Int)))=false∧((cond (cond (ay .i64 (ae .i64 B) A 1) true false) (Nat.ble A 1000) false)=true∧((not (jZ A B 40))=false∧((cond (cond (ay .i64 (ae .i64 J) I 1) true false) (Nat.ble I 1000) false)=true∧((not (jZ I J 60))=true∧(((1):Int)=1)))))))))))
theorem g6 (h1:A≤5) (h2:I≤5) (h3:n≤5) (h4:2≤A) (h5:2≤I) (h6:jZ A B 40=true) (h7:jZ I J 60=true) (h:¬ n=A):VC (dh Tryz.prog XF 300 63 (enc [.st [.sl 1 A B,.sl 1 I J,.rr 1 n M f]] 0) 3 (fun v=>dB v (.int .i64 1))) (.go 23611977690904059185154 .nil):=ai (((not (ak (A:Int) 5))=false∧((not (ak (I:Int) 5))=false∧((not (ak (n:Int) 5))=false∧((not (ak 2 (A:Int)))=false∧((not (ak 2 (I:Int)))=false∧((cond (cond (ay .i64 (ae .i64 B) A 1) true false) (Nat.ble A 1000) false)=true∧((not (jZ A B 40))=false∧((cond (cond (ay .i64 (ae .i64 J) I 1) true false) (Nat.ble I 1000) false)=true∧((not (jZ I J 60))=false∧((not (bY (n:Int) (A:Int)))=true∧(((1):Int)=1))))))))))))
theorem g7 (h1:A≤5) (h2:I≤5) (h3:n≤5) (h4:2≤A) (h5:2≤I) (h6:jZ A B 40=true) (h7:jZ I J 60=true) (h:n=A):VC (ql Tryz.prog XF 300 63 [1,1,1,0,1,0] [.st [.sl 1 A B,.sl 1 I J,.rr 1 n M f]] (iR A B I J n M f) ltG 86 80 (sG 0)) (.go 28334344173773704398850 .nil):=ai (((not (ak (A:Int) 5))=false∧((not (ak (I:Int) 5))=false∧((not (ak (n:Int) 5))=false∧((not (ak 2 (A:Int)))=false∧((not (ak 2 (I:Int)))=false∧((cond (cond (ay .i64 (ae .i64 B) A 1) true false) (Nat.ble A 1000) false)=true∧((not (jZ A B 40))=false∧((cond (cond (ay .i64 (ae .i64 J) I 1) true false) (Nat.ble I 1000) false)=true∧((not (jZ I J 60))=false∧((not (bY (n:Int) (A:Int)))=false∧((True∧(True∧(True∧((((((V.fz true 0 (ae .i64 B) A 1):V)=(V.fz true 0 (ae .i64 B) A 1))∧(((((V.fz true 1 (ae .i64 J) I 1):V)=(V.fz true 1 (ae .i64 J) I 1))∧(True∧True))∧((((V.fz true 2 (fun i x=>V.fz true (jV (D0.sl 1 I J) (jV (D0.sl 1 A B) 0)) (ae .i64 (f i)) (M i) 1) n 1):V)=(V.fz true 2 (fun i x=>V.fz true (jV (D0.sl 1 I J) (jV (D0.sl 1 A B) 0)) (ae .i64 (f i)) (M i) 1) n 1))∧(True∧True))))∧(True∧True))∧True))))∧(((((V.ptr 4 0):V)=(V.ptr 4 0))∧((((0):Int)=((0:Nat):Int))∧True))∧True)))))))))))))
theorem g8 (i k:Nat) (h1:i<n) (h2:n≤5) (h3:k<I) (h4:I≤5) (h5:M i=I) (h6:0≤f i k 0) (h7:f i k 0≤2000):VC (bM Tryz.prog XF 300 bH (iR A B I J n M f) ltH 86 60 (sH i k) (.next (sH i (k+1)))) (.go 360533 .nil):=ai (((not (ak (I:Int) (k:Int)))=true∧((Nat.blt i n)=true∧((Nat.blt k (M i))=true∧((ak 0 (f i k 0))=true∧((not (ak (f i k 0) 2000))=false∧((small ((k:Int)+1))=true∧(((((V.ptr 4 0):V)=(V.ptr 4 0))∧((((i:Int):Int)=(i:Int))∧(((((k:Int)+1):Int)=(((k+1):Nat):Int))∧True)))∧True))))))))
theorem g9 (i k:Nat) (h1:i<n) (h2:n≤5) (h3:k<I) (h4:I≤5) (h5:M i=I) (h6:¬ (0≤f i k 0∧f i k 0≤2000)):VC (bM Tryz.prog XF 300 bH (iR A B I J n M f) ltH 86 60 (sH i k) Eu) (.go 85 (.sp (.go 320 .nil) .nil)):=ai (((not (ak (I:Int) (k:Int)))=true∧((Nat.blt i n)=true∧((Nat.blt k (M i))=true∧(((ak 0 (f i k 0))=true→((not (ak (f i k 0) 2000))=true∧(((((1):Int)=1)∧True)∧True))) ∧
 ((ak (0) (f i k 0))=false→(((((1):Int)=(1))∧True)∧True)))))))
theorem g10 (i k:Nat) (h1:¬ k<I):VC (bM Tryz.prog XF 300 bH (iR A B I J n M f) ltH 86 60 (sH i k) (xH i)) (.go 6 .nil):=ai (((not (ak (I:Int) (k:Int)))=false∧(((((V.ptr 4 0):V)=(V.ptr 4 0))∧((((i:Int):Int)=(i:Int))∧True))∧True)))
theorem g11 (i:Nat) (h1:i<n) (h2:n≤5) (h4:I≤5) (h5:M i=I):VC (Kv Tryz.prog XF 300 [1,0,0,1,1,0] bG (iR A B I J n M f) ltG 86 (sG i) (iR A B I J n M f) ltH 60 (sH i 0)) (.go 101 .nil):=ai (((not (ak (n:Int) (i:Int)))=true∧((Nat.blt i n)=true∧((not (bY (((M i):Nat):Int) (I:Int)))=false∧((True∧(True∧(True∧((((((V.fz true 0 (ae .i64 B) A 1):V)=(V.fz true 0 (ae .i64 B) A 1))∧(((((V.fz true 1 (ae .i64 J) I 1):V)=(V.fz true 1 (ae .i64 J) I 1))∧(True∧True))∧((((V.fz true 2 (fun i x=>V.fz true (jV (D0.sl 1 I J) (jV (D0.sl 1 A B) 0)) (ae .i64 (f i)) (M i) 1) n 1):V)=(V.fz true 2 (fun i x=>V.fz true (jV (D0.sl 1 I J) (jV (D0.sl 1 A B) 0)) (ae .i64 (f i)) (M i) 1) n 1))∧(True∧True))))∧(True∧True))∧True))))∧(((((V.ptr 4 0):V)=(V.ptr 4 0))∧((((i:Int):Int)=(i:Int))∧((((0):Int)=((0:Nat):Int))∧True)))∧True))))))
theorem g12 (i:Nat) (h1:i<n) (h2:n≤5):VC (uy Tryz.prog XF 300 [1,0,0,1,1,0] bG (iR A B I J n M f) ltG 86 80 (.next (sG (i+1))) (iR A B I J n M f) ltH 60 (xH i)) (.go 5 .nil):=ai (((small ((i:Int)+1))=true∧(((((V.ptr 4 0):V)=(V.ptr 4 0))∧(((((i:Int)+1):Int)=(((i+1):Nat):Int))∧True))∧True)))
theorem g13:VC (uy Tryz.prog XF 300 [1,0,0,1,1,0] bG (iR A B I J n M f) ltG 86 80 Eu (iR A B I J n M f) ltH 60 Eu) .nil:=ai ((((((1):Int)=1)∧True)∧True))
theorem g14 (i:Nat) (h1:i<n) (h2:n≤5) (h4:I≤5) (h5:¬ M i=I):VC (bM Tryz.prog XF 300 bG (iR A B I J n M f) ltG 86 80 (sG i) Eu) (.go 85 .nil):=ai (((not (ak (n:Int) (i:Int)))=true∧((Nat.blt i n)=true∧((not (bY (((M i):Nat):Int) (I:Int)))=true∧(((((1):Int)=1)∧True)∧True)))))
theorem g15 (i:Nat) (h1:¬ i<n):VC (bM Tryz.prog XF 300 bG (iR A B I J n M f) ltG 86 80 (sG i) (.exit 0 ⟨[],[]⟩)) (.go 6 .nil):=ai (((not (ak (n:Int) (i:Int)))=false∧(True∧True)))
theorem g16:VC (fromD Tryz.prog XF 300 63 [1,1,1,0,1,0] (Lv.res ltG 86 (iw (iR A B I J n M f) ltG 80 (.exit 0 ⟨[],[]⟩)) (.exit 0 ⟨[],[]⟩)) (.int .i64 0)) .nil:=ai ((((0):Int)=0))
theorem g17:VC (fromD Tryz.prog XF 300 63 [1,1,1,0,1,0] (Lv.res ltG 86 (iw (iR A B I J n M f) ltG 80 Eu) Eu) (.int .i64 1)) .nil:=ai ((((1):Int)=1))
def Yf:Val:=fun das=>match das with | [.st [.sl 1 A B,.sl 1 I J,.rr 1 n M f]]=>some (iW A I n M,.int .i64 (faE A B I J n M f)) | _=>none
theorem abu:qi Tryz.prog 63 Yf:=by
 intro das v hv
 unfold Yf at hv
 split at hv
 ·rename_i A B I J n M f
  have hb:=congrArg Prod.fst (Option.some.inj hv)
  have hv:=congrArg Prod.snd (Option.some.inj hv)
  subst hv
  have fin:∀ {x:Int} {h:HT},VC (dh Tryz.prog XF 300 63 (enc [.st [.sl 1 A B,.sl 1 I J,.rr 1 n M f]] 0) 3 (fun v=>dB v (.int .i64 x))) h→vZ (.int .i64 x)=true∧∃ v' H',SpecCall Tryz.prog 63 (enc [.st [.sl 1 A B,.sl 1 I J,.rr 1 n M f]] 0) (aU 4) v' H'∧dB v' (.int .i64 x):=fun {x h} hvc=>bn (v := .int .i64 x) aj sW rfl (das:=[.st [.sl 1 A B,.sl 1 I J,.rr 1 n M f]]) hvc
  by_cases h:A≤5∧I≤5∧n≤5
  ·obtain ⟨h1,h2,h3⟩:=h
   have e0:faE A B I J n M f=cond (yC A B I J n M f) (cond (Bg I n M f) 0 1) 1:=by unfold faE;rw [(aW _ _).mpr (by omega),(aW _ _).mpr (by omega),(aW _ _).mpr (by omega)];rfl
   rw [e0]
   by_cases h4:2≤A
   ·by_cases h5:2≤I
    ·have e1:yC A B I J n M f=cond (jZ A B 40) (cond (jZ I J 60) (bY (n:Int) (A:Int)) false) false:=by unfold yC;rw [(aW _ _).mpr (by omega),(aW _ _).mpr (by omega)];rfl
     cases h6:jZ A B 40 with
     | false=>rw [e1,h6];exact fin (g4 A B I J n M f h1 h2 h3 h4 h5 h6)
     | true =>
     cases h7:jZ I J 60 with
     | false=>rw [e1,h6,h7];exact fin (g5 A B I J n M f h1 h2 h3 h4 h5 h6 h7)
     | true =>
     by_cases h8:n=A
     ·have e2:yC A B I J n M f=true:=by rw [e1,h6,h7,(dQ _ _).mpr (by omega)];rfl
      rw [e2]
      refine ⟨rfl,?_⟩
      have inner:∀ i,i<n→M i=I→∀ k,k<I→inB 0 2000 (f i) k=true→JL Tryz.prog (iR A B I J n M f) ltH 86 60 none bH (sH i k) (.next (sH i (k+1))):=fun i hi hl k hk q=>by
       simp only [inB,decide_eq_true_eq] at q
       exact aP aj sW (g8 A B I J n M f i k hi h3 hk h2 hl q.1 q.2).ok (by kernel_rfl) (by kernel_rfl)
      have good:∀ i,i<n→L8 I (M i) (f i)=true→JL Tryz.prog (iR A B I J n M f) ltG 86 80 none bG (sG i) (.next (sG (i+1))):=fun i hi q=>by
       obtain ⟨q1,q2⟩:=ah q
       have hl:M i=I:=by have:=(dQ _ _).mp q1;omega
       exact FM aj sW (by kernel_rfl) (by kernel_rfl) (g11 A B I J n M f i hi h3 h2 hl)
        (bz (body:=bH) (lv:=xH i) (fun _ e=>by cases e) I (sH i) (fun k hk=>inner i hi hl k hk (aX q2 k hk)) (aP aj sW (g10 A B I J n M f i I (by omega)).ok (by kernel_rfl) (by kernel_rfl)))
        (g12 A B I J n M f i hi h3)
      have bad:∀ i,i<n→L8 I (M i) (f i)=false→JL Tryz.prog (iR A B I J n M f) ltG 86 80 none bG (sG i) Eu:=fun i hi q=>by
       by_cases hl:M i=I
       ·have q2:allIn 0 2000 (f i) I=false:=by
         cases q2:allIn 0 2000 (f i) I with
         | false=>rfl
         | true=>rw [show L8 I (M i) (f i)=true from aI ((dQ _ _).mpr (by omega)) q2] at q;cases q
        rcases gu (inB 0 2000 (f i)) I with p | ⟨N,p1,p2,p3⟩
        ·rw [show allIn 0 2000 (f i) I=true from bW p] at q2;cases q2
        ·simp only [inB,decide_eq_false_iff_not] at p3
         exact FM aj sW (by kernel_rfl) (by kernel_rfl) (g11 A B I J n M f i hi h3 h2 hl)
          (bz (body:=bH) (lv:=Eu) (fun _ e=>by cases e) N (sH i) (fun k hk=>inner i hi hl k (by omega) (p2 k hk)) (aP aj sW (g9 A B I J n M f i N hi h3 p1 h2 hl p3).ok (by kernel_rfl) (by kernel_rfl)))
          (g13 A B I J n M f)
       ·exact aP aj sW (g14 A B I J n M f i hi h3 h2 hl).ok (by kernel_rfl) (by kernel_rfl)
      rcases gu (fun i=>L8 I (M i) (f i)) n with p | ⟨N,p1,p2,p3⟩
      ·have e3:Bg I n M f=true:=bW p
       rw [e3]
       exact bV aj sW (das:=[.st [.sl 1 A B,.sl 1 I J,.rr 1 n M f]]) (v := .int .i64 0) (lv := .exit 0 ⟨[],[]⟩) (by kernel_rfl) (by kernel_rfl) (g7 A B I J n M f h1 h2 h3 h4 h5 h6 h7 h8).ok
        (bz (body:=bG) (fun _ e=>by cases e) n sG (fun i hi=>good i hi (p i hi)) (aP aj sW (g15 A B I J n M f n (by omega)).ok (by kernel_rfl) (by kernel_rfl))) (g16 A B I J n M f).ok
      ·have e3:Bg I n M f=false:=gK p1 p3
       rw [e3]
       exact bV aj sW (das:=[.st [.sl 1 A B,.sl 1 I J,.rr 1 n M f]]) (v := .int .i64 1) (lv:=Eu) (by kernel_rfl) (by kernel_rfl) (g7 A B I J n M f h1 h2 h3 h4 h5 h6 h7 h8).ok
        (bz (body:=bG) (fun _ e=>by cases e) N sG (fun i hi=>good i (by omega) (p2 i hi)) (bad N p1 p3)) (g17 A B I J n M f).ok
     ·have e2:yC A B I J n M f=false:=by rw [e1,h6,h7,(fD _ _).mpr (by omega)];rfl
      rw [e2];exact fin (g6 A B I J n M f h1 h2 h3 h4 h5 h6 h7 h8)
    ·have e1:yC A B I J n M f=false:=by unfold yC;rw [(aW _ _).mpr (by omega),(dY 2 (I:Int)).mpr (by omega)];rfl
     rw [e1];exact fin (g3 A B I J n M f h1 h2 h3 h4 (by omega))
   ·have e1:yC A B I J n M f=false:=by unfold yC;rw [(dY 2 (A:Int)).mpr (by omega)];rfl
    rw [e1];exact fin (g2 A B I J n M f h1 h2 h3 (by omega))
  ·have e0:faE A B I J n M f=3:=by
    unfold faE
    by_cases q1:A≤5
    ·by_cases q2:I≤5
     ·rw [(aW _ _).mpr (by omega),(aW _ _).mpr (by omega),(dY (n:Int) 5).mpr (by omega)];rfl
     ·rw [(aW _ _).mpr (by omega),(dY (I:Int) 5).mpr (by omega)];rfl
    ·rw [(dY (A:Int) 5).mpr (by omega)];rfl
   rw [e0];exact fin (g1 A B I J n M f h)
 ·cases hv
end
end Go.Proofs.YtiplgejpopellaaGreat
