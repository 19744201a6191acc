/- Casks: contracts of the law's side: the reference's error of a store, the law's copy of it. -/
import Derived.Test.YtiplgejpopellaaGreatYPrC4
import Derived.Test.YtiplgejpopellaaGreatYTaM5
set_option linter.all false
set_option linter.unusedSimpArgs false
set_option linter.unusedVariables false
namespace Go.Proofs.YtiplgejpopellaaGreat
open Go Go.Ev
set_option maxRecDepth 1000000
set_option maxHeartbeats 0
noncomputable section
variable (A:Nat) (B:Nat→Nat→Int) (I:Nat) (J:Nat→Nat→Int) (n:Nat) (M:Nat→Nat) (f:Nat→Nat→Nat→Int)
def Si:Val:=fun das=>match das with | [.st [.sl 1 A B,.sl 1 I J,.rr 1 n M f]]=>some (gQ A I n M,.int .i64 (aX A B I J n M f)) | _=>none
theorem Zz:oC Tryz.prog 63 Si:=by
 intro das v hv
 unfold Si at hv
 split at hv
 ·rename_i A B I J n M f
  refine ZY [.st [.sl 1 A B,.sl 1 I J,.rr 1 n M f]] v ?_
  rw [← hv]
  show some (gQ A I n M,V.int .i64 (faE A B I J n M f))=some (gQ A I n M,V.int .i64 (aX A B I J n M f))
  rw [Xk]
 ·cases hv
def XFt:Ext:=jI [(63,cf Si)] false
theorem pK:dH Tryz.prog XFt:=dJ (aB (dB Zz) bD)
def xG (A:Nat) (B:Nat→Nat→Int) (I:Nat) (J:Nat→Nat→Int) (n:Nat) (M:Nat→Nat) (f:Nat→Nat→Nat→Int) (r:Int) (O:Nat) (E:Nat→Nat→Int):EH:=⟨setAt [(5,lu [.sl 1 A B,.sl 1 I J,.rr 1 n M f,.i .i64 r,.sl 5 O E] 0)] .lf,7,.lf,big⟩
def CV:LT:=⟨[1,4],[],[2],7⟩
def sF4 (i:Nat):LS:=⟨[.ptr 5 0,.int .i64 i],[]⟩
def bF4:Code:=sub [1,1,1,1,0,1,0,0] (dD Tryz.prog 35)
theorem ft1 (r:Int) (O:Nat) (E:Nat→Nat→Int) (g:gQ A I n M=true) (h:¬ aX A B I J n M f=0):VC (bQ Tryz.prog XFt 300 35 (enc [.st [.sl 1 A B,.sl 1 I J,.rr 1 n M f,.i .i64 r,.sl 5 O E]] 0) 4 (fun v=>bZ v (.int .i64 (aX A B I J n M f)))) (.go 21 .nil):=ak (((cond (cond (aI 2 A B I J n M f) true false) (gQ A I n M) false)=true∧((not (cu (aX A B I J n M f) 0))=true∧(((aX A B I J n M f):Int)=(aX A B I J n M f)))))
theorem ft2 (r:Int) (O:Nat) (E:Nat→Nat→Int) (g:gQ A I n M=true) (h:aX A B I J n M f=0) (h2:¬ O≤6):VC (bQ Tryz.prog XFt 300 35 (enc [.st [.sl 1 A B,.sl 1 I J,.rr 1 n M f,.i .i64 r,.sl 5 O E]] 0) 4 (fun v=>bZ v (.int .i64 3))) (.go 89 .nil):=ak (((cond (cond (aI 2 A B I J n M f) true false) (gQ A I n M) false)=true∧((not (cu (aX A B I J n M f) 0))=false∧((not (az (O:Int) 6))=true∧(((3):Int)=3)))))
theorem ft3 (r:Int) (O:Nat) (E:Nat→Nat→Int) (g:gQ A I n M=true) (h:aX A B I J n M f=0) (h2:O≤6) (h3:¬ (0≤r∧r≤200)):VC (bQ Tryz.prog XFt 300 35 (enc [.st [.sl 1 A B,.sl 1 I J,.rr 1 n M f,.i .i64 r,.sl 5 O E]] 0) 4 (fun v=>bZ v (.int .i64 1))) (.go 105 (.sp (.go 320 .nil) .nil)):=ak (((cond (cond (aI 2 A B I J n M f) true false) (gQ A I n M) false)=true∧((not (cu (aX A B I J n M f) 0))=false∧((not (az (O:Int) 6))=false∧(((az 0 r)=true→((not (az r 200))=true∧(((1):Int)=1))) ∧
 ((az (0) r)=false→(((1):Int)=(1))))))))
theorem eF4 (r:Int) (O:Nat) (E:Nat→Nat→Int) (g:gQ A I n M=true) (h:aX A B I J n M f=0) (h2:O≤6) (h3:0≤r) (h4:r≤200):VC (qx Tryz.prog XFt 300 35 [1,1,1,1,0,1,0] [.st [.sl 1 A B,.sl 1 I J,.rr 1 n M f,.i .i64 r,.sl 5 O E]] (xG A B I J n M f r O E) CV 54 90 (sF4 0)) (.go 98409 .nil):=ak (((cond (cond (aI 2 A B I J n M f) true false) (gQ A I n M) false)=true∧((not (cu (aX A B I J n M f) 0))=false∧((not (az (O:Int) 6))=false∧((az 0 r)=true∧((not (az r 200))=false∧((True∧((True∧(True∧(((((V.fz true 0 (ae .i64 B) A 1):V)=(V.fz true 0 (ae .i64 B) A 1))∧(((((V.fz true 1 (ae .i64 J) I 1):V)=(V.fz true 1 (ae .i64 J) I 1))∧((((r:Int)=r)∧(True∧True))∧True))∧((((V.fz true 2 (aQ 2 1 M f) n 1):V)=(V.fz true 2 (aQ 2 1 M f) n 1))∧(((((V.fz true 3 (ae .i64 E) O 5):V)=(V.fz true 3 (ae .i64 E) O 5))∧(True∧True))∧True))))∧(True∧True))))∧True))∧(((((V.ptr 5 0):V)=(V.ptr 5 0))∧((((0):Int)=0)∧True))∧True))))))))
theorem aaK (r:Int) (O:Nat) (E:Nat→Nat→Int) (i:Nat) (h1:i<O) (h2:O≤6) (t1:2≤A) (t2:A≤5) (t3:2≤I) (t4:I≤5) (h3:1≤E i 0∧E i 0≤99∧E i 1≤E i 2∧B 0 0≤E i 1∧E i 2≤(B (Int.toNat ((A:Int)-1)) 0)∧E i 3≤E i 4∧J 0 0≤E i 3∧E i 4≤(J (Int.toNat ((I:Int)-1)) 0)):VC (bK Tryz.prog XFt 300 bF4 (xG A B I J n M f r O E) CV 54 90 (sF4 i) (.next (sF4 (i+1)))) (.go 7139804631996619625611455637757973 .nil):=ak (((not (az (O:Int) (i:Int)))=true∧((Nat.blt i O)=true∧((az 1 (E i 0))=true∧((not (az (E i 0) 99))=false∧((az (E i 1) (E i 2))=true∧((Nat.blt 0 A)=true∧((az (B 0 0) (E i 1))=true∧((small ((A:Int)-(1)))=true∧((ku ((A:Int)-(1)) A)=true∧((not (az (E i 2) (B (Int.toNat ((A:Int)-(1))) 0)))=false∧((az (E i 3) (E i 4))=true∧((Nat.blt 0 I)=true∧((az (J 0 0) (E i 3))=true∧((small ((I:Int)-(1)))=true∧((ku ((I:Int)-(1)) I)=true∧((not (az (E i 4) (J (Int.toNat ((I:Int)-(1))) 0)))=false∧((small ((i:Int)+1))=true∧(((((V.ptr 5 0):V)=(V.ptr 5 0))∧(((((i:Int)+1):Int)=(((i+1):Nat):Int))∧True))∧True)))))))))))))))))))
theorem abt (r:Int) (O:Nat) (E:Nat→Nat→Int) (i:Nat) (h1:i<O) (h2:O≤6) (t1:2≤A) (t2:A≤5) (t3:2≤I) (t4:I≤5) (h3:¬ (1≤E i 0∧E i 0≤99∧E i 1≤E i 2∧B 0 0≤E i 1∧E i 2≤(B (Int.toNat ((A:Int)-1)) 0)∧E i 3≤E i 4∧J 0 0≤E i 3∧E i 4≤(J (Int.toNat ((I:Int)-1)) 0))):VC (bK Tryz.prog XFt 300 bF4 (xG A B I J n M f r O E) CV 54 90 (sF4 i) (.ret ⟨[.int .i64 1],[]⟩)) (.go 21 (.sp (.go 64 (.sp .nil (.go 1024 (.sp (.go 16448 (.sp (.go 262464 (.sp .nil (.go 1024 (.sp (.go 16448 (.sp (.go 1311040 .nil) .nil)) .nil)))) .nil)) .nil)))) .nil)):=ak (((not (az (O:Int) (i:Int)))=true∧((Nat.blt i O)=true∧(((az 1 (E i 0))=true→(((not (az (E i 0) 99))=true→(((((1):Int)=1)∧True)∧True)) ∧
 ((not (az (E i 0) (99)))=false→(((az (E i 1) (E i 2))=true→((Nat.blt 0 A)=true∧(((az (B 0 0) (E i 1))=true→((small (((A:Nat):Int)-(1)))=true∧((ku (((A:Nat):Int)-(1)) A)=true∧(((not (az (E i 2) (B (Int.toNat (((A:Nat):Int)-(1))) 0)))=true→(((((1):Int)=(1))∧True)∧True)) ∧
 ((not (az (E i 2) (B (Int.toNat (((A:Nat):Int)-(1))) 0)))=false→(((az (E i 3) (E i 4))=true→((Nat.blt 0 I)=true∧(((az (J 0 0) (E i 3))=true→((small (((I:Nat):Int)-(1)))=true∧((ku (((I:Nat):Int)-(1)) I)=true∧((not (az (E i 4) (J (Int.toNat (((I:Nat):Int)-(1))) 0)))=true∧(((((1):Int)=(1))∧True)∧True))))) ∧
 ((az (J 0 0) (E i 3))=false→(((((1):Int)=(1))∧True)∧True))))) ∧
 ((az (E i 3) (E i 4))=false→(((((1):Int)=(1))∧True)∧True)))))))) ∧
 ((az (B 0 0) (E i 1))=false→(((((1):Int)=(1))∧True)∧True))))) ∧
 ((az (E i 1) (E i 2))=false→(((((1):Int)=(1))∧True)∧True)))))) ∧
 ((az (1) (E i 0))=false→(((((1):Int)=(1))∧True)∧True))))))
theorem abH (r:Int) (O:Nat) (E:Nat→Nat→Int) (i:Nat) (h1:¬ i<O):VC (bK Tryz.prog XFt 300 bF4 (xG A B I J n M f r O E) CV 54 90 (sF4 i) (.exit 0 ⟨[],[]⟩)) (.go 6 .nil):=ak (((not (az (O:Int) (i:Int)))=false∧(True∧True)))
theorem aaJ (r:Int) (O:Nat) (E:Nat→Nat→Int):VC (fromD Tryz.prog XFt 300 35 [1,1,1,1,0,1,0] (Lv.res CV 54 (iL (xG A B I J n M f r O E) CV 90 (.exit 0 ⟨[],[]⟩)) (.exit 0 ⟨[],[]⟩)) (.int .i64 0)) .nil:=ak ((((0):Int)=0))
theorem aaC (r:Int) (O:Nat) (E:Nat→Nat→Int):VC (fromD Tryz.prog XFt 300 35 [1,1,1,1,0,1,0] (Lv.res CV 54 (iL (xG A B I J n M f r O E) CV 90 (.ret ⟨[.int .i64 1],[]⟩)) (.ret ⟨[.int .i64 1],[]⟩)) (.int .i64 1)) .nil:=ak ((((1):Int)=1))
def Px:Val:=fun das=>match das with | [.st [.sl 1 A B,.sl 1 I J,.rr 1 n M f,.i .i64 r,.sl 5 O E]]=>some (gQ A I n M,.int .i64 (iH A B I J n M f r O E)) | _=>none
theorem Y9:oC Tryz.prog 35 Px:=by
 intro das v hv
 unfold Px at hv
 split at hv
 ·rename_i A B I J n M f r O E
  have hb:=congrArg Prod.fst (Option.some.inj hv)
  have hv:=congrArg Prod.snd (Option.some.inj hv)
  subst hv
  by_cases h:aX A B I J n M f=0
  ·have ok:=mF h
   have e1:=pg ok.w.two
   have e2:=pg ok.m.two
   by_cases h2:O≤6
   ·by_cases h3:0≤r∧r≤200
    ·have key:∀ i,caB A B I J E i=true↔(1≤E i 0∧E i 0≤99∧E i 1≤E i 2∧B 0 0≤E i 1∧E i 2≤(B (Int.toNat ((A:Int)-1)) 0)∧E i 3≤E i 4∧J 0 0≤E i 3∧E i 4≤(J (Int.toNat ((I:Int)-1)) 0)):=fun i=>by
      unfold caB
      rw [soB_t,e1,e2]
      unfold rgB onB
      omega
     refine ⟨rfl,?_⟩
     have rd:∀ i,i<O→caB A B I J E i=true→JL Tryz.prog (xG A B I J n M f r O E) CV 54 90 none bF4 (sF4 i) (.next (sF4 (i+1))):=fun i hi q =>
      aT ax pK (aaK A B I J n M f r O E i hi h2 ok.w.two ok.w.five ok.m.two ok.m.five ((key i).mp q)).ok (by kernel_rfl) (by kernel_rfl)
     rcases fA (caB A B I J E) O with hh | ⟨N,k1,k2,k3⟩
     ·have e:iH A B I J n M f r O E=0:=by unfold iH;rw [(dG _ _).mpr h,dN h2,raB_t.mpr h3,show jY A B I J E O=true from bJ hh];rfl
      rw [e]
      exact bF ax pK (das:=[.st [.sl 1 A B,.sl 1 I J,.rr 1 n M f,.i .i64 r,.sl 5 O E]]) (lv := .exit 0 ⟨[],[]⟩) (by kernel_rfl) (by kernel_rfl) (eF4 A B I J n M f r O E hb h h2 h3.1 h3.2).ok (bi (body:=bF4) (fun _ e=>by cases e) O sF4 (fun i hi=>rd i hi (hh i hi)) (aT ax pK (abH A B I J n M f r O E O (by omega)).ok (by kernel_rfl) (by kernel_rfl))) (aaJ A B I J n M f r O E).ok
     ·have e:iH A B I J n M f r O E=1:=by unfold iH;rw [(dG _ _).mpr h,dN h2,raB_t.mpr h3,show jY A B I J E O=false from fB k1 k3];rfl
      rw [e]
      exact bF ax pK (das:=[.st [.sl 1 A B,.sl 1 I J,.rr 1 n M f,.i .i64 r,.sl 5 O E]]) (lv := .ret ⟨[.int .i64 1],[]⟩) (by kernel_rfl) (by kernel_rfl) (eF4 A B I J n M f r O E hb h h2 h3.1 h3.2).ok (bi (body:=bF4) (fun _ e=>by cases e) N sF4 (fun i hi=>rd i (by omega) (k2 i hi)) (aT ax pK (abt A B I J n M f r O E N k1 h2 ok.w.two ok.w.five ok.m.two ok.m.five (fun q=>by rw [(key N).mpr q] at k3;cases k3)).ok (by kernel_rfl) (by kernel_rfl))) (aaC A B I J n M f r O E).ok
    ·have e:iH A B I J n M f r O E=1:=by
      have e:raB r=false:=by
       cases q:raB r with
       | false=>rfl
       | true=>exact absurd (raB_t.mp q) h3
      unfold iH;rw [(dG _ _).mpr h,dN h2,e];rfl
     rw [e]
     exact aY ax pK rfl (das:=[.st [.sl 1 A B,.sl 1 I J,.rr 1 n M f,.i .i64 r,.sl 5 O E]]) (ft3 A B I J n M f r O E hb h h2 h3)
   ·have e:iH A B I J n M f r O E=3:=by unfold iH;rw [(dG _ _).mpr h,(fV _ _).mpr (by omega)];rfl
    rw [e]
    exact aY ax pK rfl (das:=[.st [.sl 1 A B,.sl 1 I J,.rr 1 n M f,.i .i64 r,.sl 5 O E]]) (ft2 A B I J n M f r O E hb h h2)
  ·have e:iH A B I J n M f r O E=aX A B I J n M f:=by unfold iH;rw [(eF _ _).mpr h];rfl
   rw [e]
   exact aY ax pK rfl (das:=[.st [.sl 1 A B,.sl 1 I J,.rr 1 n M f,.i .i64 r,.sl 5 O E]]) (ft1 A B I J n M f r O E hb h)
 ·cases hv
def XCo:Ext:=jI [(34,cfG Su)] false
theorem lW:dH Tryz.prog XCo:=dJ (aB (Us ZW) bD)
def coS (A:Nat) (B:Nat→Nat→Int) (I:Nat) (J:Nat→Nat→Int) (n:Nat) (M:Nat→Nat) (f:Nat→Nat→Nat→Int) (r:Int) (O:Nat) (E:Nat→Nat→Int):SV := .one (.ag [.new (.sl 1 A B),.new (.sl 1 I J),.new (.rr 1 n M f),.new (.i .i64 r),.new (.sl 5 O E)])
theorem co0 (r:Int) (E:Nat→Nat→Int) (h:gQ A I n M=true):VC (aN Tryz.prog XCo 900 9 (enc [.st [.sl 1 A B,.sl 1 I J,.rr 1 n M f,.i .i64 r,.sl 5 0 E]] 0) 4 (fun v H=>iw 4 H v (coS A B I J n M f r 0 E))) (.go 5 .nil):=ak (((cond (cond (aI 2 A B I J n M f) true false) (gQ A I n M) false)=true∧((((V.fz true 7 (ae .i64 B) A 1):V)=(V.fz true 7 (ae .i64 B) A 1))∧((((V.fz true 7 (ae .i64 J) I 1):V)=(V.fz true 7 (ae .i64 J) I 1))∧((((V.fz true 7 (aQ 7 1 M f) n 1):V)=(V.fz true 7 (aQ 7 1 M f) n 1))∧(((r:Int)=r)∧((((0):Int)=0)∧True)))))))
theorem co1 (r:Int) (E:Nat→Nat→Int) (h:gQ A I n M=true):VC (aN Tryz.prog XCo 900 9 (enc [.st [.sl 1 A B,.sl 1 I J,.rr 1 n M f,.i .i64 r,.sl 5 1 E]] 0) 4 (fun v H=>iw 4 H v (coS A B I J n M f r 1 E))) (.go 5 .nil):=ak (((cond (cond (aI 2 A B I J n M f) true false) (gQ A I n M) false)=true∧((((V.fz true 7 (ae .i64 B) A 1):V)=(V.fz true 7 (ae .i64 B) A 1))∧((((V.fz true 7 (ae .i64 J) I 1):V)=(V.fz true 7 (ae .i64 J) I 1))∧((((V.fz true 7 (aQ 7 1 M f) n 1):V)=(V.fz true 7 (aQ 7 1 M f) n 1))∧(((r:Int)=r)∧((((((1:Nat):Int):Int)=1)∧(((((E 0 0):Int)=(E 0 0))∧((((E 0 1):Int)=(E 0 1))∧((((E 0 2):Int)=(E 0 2))∧((((E 0 3):Int)=(E 0 3))∧((((E 0 4):Int)=(E 0 4))∧True)))))∧True))∧True)))))))
theorem co2 (r:Int) (E:Nat→Nat→Int) (h:gQ A I n M=true):VC (aN Tryz.prog XCo 900 9 (enc [.st [.sl 1 A B,.sl 1 I J,.rr 1 n M f,.i .i64 r,.sl 5 2 E]] 0) 4 (fun v H=>iw 4 H v (coS A B I J n M f r 2 E))) (.go 5 .nil):=ak (((cond (cond (aI 2 A B I J n M f) true false) (gQ A I n M) false)=true∧((((V.fz true 7 (ae .i64 B) A 1):V)=(V.fz true 7 (ae .i64 B) A 1))∧((((V.fz true 7 (ae .i64 J) I 1):V)=(V.fz true 7 (ae .i64 J) I 1))∧((((V.fz true 7 (aQ 7 1 M f) n 1):V)=(V.fz true 7 (aQ 7 1 M f) n 1))∧(((r:Int)=r)∧(((((((1+1):Nat):Int):Int)=2)∧(((((E 0 0):Int)=(E 0 0))∧((((E 0 1):Int)=(E 0 1))∧((((E 0 2):Int)=(E 0 2))∧((((E 0 3):Int)=(E 0 3))∧((((E 0 4):Int)=(E 0 4))∧True)))))∧(((((E 1 0):Int)=(E 1 0))∧((((E 1 1):Int)=(E 1 1))∧((((E 1 2):Int)=(E 1 2))∧((((E 1 3):Int)=(E 1 3))∧((((E 1 4):Int)=(E 1 4))∧True)))))∧True)))∧True)))))))
theorem co3 (r:Int) (E:Nat→Nat→Int) (h:gQ A I n M=true):VC (aN Tryz.prog XCo 900 9 (enc [.st [.sl 1 A B,.sl 1 I J,.rr 1 n M f,.i .i64 r,.sl 5 3 E]] 0) 4 (fun v H=>iw 4 H v (coS A B I J n M f r 3 E))) (.go 5 .nil):=ak (((cond (cond (aI 2 A B I J n M f) true false) (gQ A I n M) false)=true∧((((V.fz true 7 (ae .i64 B) A 1):V)=(V.fz true 7 (ae .i64 B) A 1))∧((((V.fz true 7 (ae .i64 J) I 1):V)=(V.fz true 7 (ae .i64 J) I 1))∧((((V.fz true 7 (aQ 7 1 M f) n 1):V)=(V.fz true 7 (aQ 7 1 M f) n 1))∧(((r:Int)=r)∧((((((((1+1)+1):Nat):Int):Int)=3)∧(((((E 0 0):Int)=(E 0 0))∧((((E 0 1):Int)=(E 0 1))∧((((E 0 2):Int)=(E 0 2))∧((((E 0 3):Int)=(E 0 3))∧((((E 0 4):Int)=(E 0 4))∧True)))))∧(((((E 1 0):Int)=(E 1 0))∧((((E 1 1):Int)=(E 1 1))∧((((E 1 2):Int)=(E 1 2))∧((((E 1 3):Int)=(E 1 3))∧((((E 1 4):Int)=(E 1 4))∧True)))))∧(((((E 2 0):Int)=(E 2 0))∧((((E 2 1):Int)=(E 2 1))∧((((E 2 2):Int)=(E 2 2))∧((((E 2 3):Int)=(E 2 3))∧((((E 2 4):Int)=(E 2 4))∧True)))))∧True))))∧True)))))))
theorem co4 (r:Int) (E:Nat→Nat→Int) (h:gQ A I n M=true):VC (aN Tryz.prog XCo 900 9 (enc [.st [.sl 1 A B,.sl 1 I J,.rr 1 n M f,.i .i64 r,.sl 5 4 E]] 0) 4 (fun v H=>iw 4 H v (coS A B I J n M f r 4 E))) (.go 5 .nil):=ak (((cond (cond (aI 2 A B I J n M f) true false) (gQ A I n M) false)=true∧((((V.fz true 7 (ae .i64 B) A 1):V)=(V.fz true 7 (ae .i64 B) A 1))∧((((V.fz true 7 (ae .i64 J) I 1):V)=(V.fz true 7 (ae .i64 J) I 1))∧((((V.fz true 7 (aQ 7 1 M f) n 1):V)=(V.fz true 7 (aQ 7 1 M f) n 1))∧(((r:Int)=r)∧(((((((((1+1)+1)+1):Nat):Int):Int)=4)∧(((((E 0 0):Int)=(E 0 0))∧((((E 0 1):Int)=(E 0 1))∧((((E 0 2):Int)=(E 0 2))∧((((E 0 3):Int)=(E 0 3))∧((((E 0 4):Int)=(E 0 4))∧True)))))∧(((((E 1 0):Int)=(E 1 0))∧((((E 1 1):Int)=(E 1 1))∧((((E 1 2):Int)=(E 1 2))∧((((E 1 3):Int)=(E 1 3))∧((((E 1 4):Int)=(E 1 4))∧True)))))∧(((((E 2 0):Int)=(E 2 0))∧((((E 2 1):Int)=(E 2 1))∧((((E 2 2):Int)=(E 2 2))∧((((E 2 3):Int)=(E 2 3))∧((((E 2 4):Int)=(E 2 4))∧True)))))∧(((((E 3 0):Int)=(E 3 0))∧((((E 3 1):Int)=(E 3 1))∧((((E 3 2):Int)=(E 3 2))∧((((E 3 3):Int)=(E 3 3))∧((((E 3 4):Int)=(E 3 4))∧True)))))∧True)))))∧True)))))))
theorem co5 (r:Int) (E:Nat→Nat→Int) (h:gQ A I n M=true):VC (aN Tryz.prog XCo 900 9 (enc [.st [.sl 1 A B,.sl 1 I J,.rr 1 n M f,.i .i64 r,.sl 5 5 E]] 0) 4 (fun v H=>iw 4 H v (coS A B I J n M f r 5 E))) (.go 5 .nil):=ak (((cond (cond (aI 2 A B I J n M f) true false) (gQ A I n M) false)=true∧((((V.fz true 7 (ae .i64 B) A 1):V)=(V.fz true 7 (ae .i64 B) A 1))∧((((V.fz true 7 (ae .i64 J) I 1):V)=(V.fz true 7 (ae .i64 J) I 1))∧((((V.fz true 7 (aQ 7 1 M f) n 1):V)=(V.fz true 7 (aQ 7 1 M f) n 1))∧(((r:Int)=r)∧((((((((((1+1)+1)+1)+1):Nat):Int):Int)=5)∧(((((E 0 0):Int)=(E 0 0))∧((((E 0 1):Int)=(E 0 1))∧((((E 0 2):Int)=(E 0 2))∧((((E 0 3):Int)=(E 0 3))∧((((E 0 4):Int)=(E 0 4))∧True)))))∧(((((E 1 0):Int)=(E 1 0))∧((((E 1 1):Int)=(E 1 1))∧((((E 1 2):Int)=(E 1 2))∧((((E 1 3):Int)=(E 1 3))∧((((E 1 4):Int)=(E 1 4))∧True)))))∧(((((E 2 0):Int)=(E 2 0))∧((((E 2 1):Int)=(E 2 1))∧((((E 2 2):Int)=(E 2 2))∧((((E 2 3):Int)=(E 2 3))∧((((E 2 4):Int)=(E 2 4))∧True)))))∧(((((E 3 0):Int)=(E 3 0))∧((((E 3 1):Int)=(E 3 1))∧((((E 3 2):Int)=(E 3 2))∧((((E 3 3):Int)=(E 3 3))∧((((E 3 4):Int)=(E 3 4))∧True)))))∧(((((E 4 0):Int)=(E 4 0))∧((((E 4 1):Int)=(E 4 1))∧((((E 4 2):Int)=(E 4 2))∧((((E 4 3):Int)=(E 4 3))∧((((E 4 4):Int)=(E 4 4))∧True)))))∧True))))))∧True)))))))
theorem co6 (r:Int) (E:Nat→Nat→Int) (h:gQ A I n M=true):VC (aN Tryz.prog XCo 900 9 (enc [.st [.sl 1 A B,.sl 1 I J,.rr 1 n M f,.i .i64 r,.sl 5 6 E]] 0) 4 (fun v H=>iw 4 H v (coS A B I J n M f r 6 E))) (.go 5 .nil):=ak (((cond (cond (aI 2 A B I J n M f) true false) (gQ A I n M) false)=true∧((((V.fz true 7 (ae .i64 B) A 1):V)=(V.fz true 7 (ae .i64 B) A 1))∧((((V.fz true 7 (ae .i64 J) I 1):V)=(V.fz true 7 (ae .i64 J) I 1))∧((((V.fz true 7 (aQ 7 1 M f) n 1):V)=(V.fz true 7 (aQ 7 1 M f) n 1))∧(((r:Int)=r)∧(((((((((((1+1)+1)+1)+1)+1):Nat):Int):Int)=6)∧(((((E 0 0):Int)=(E 0 0))∧((((E 0 1):Int)=(E 0 1))∧((((E 0 2):Int)=(E 0 2))∧((((E 0 3):Int)=(E 0 3))∧((((E 0 4):Int)=(E 0 4))∧True)))))∧(((((E 1 0):Int)=(E 1 0))∧((((E 1 1):Int)=(E 1 1))∧((((E 1 2):Int)=(E 1 2))∧((((E 1 3):Int)=(E 1 3))∧((((E 1 4):Int)=(E 1 4))∧True)))))∧(((((E 2 0):Int)=(E 2 0))∧((((E 2 1):Int)=(E 2 1))∧((((E 2 2):Int)=(E 2 2))∧((((E 2 3):Int)=(E 2 3))∧((((E 2 4):Int)=(E 2 4))∧True)))))∧(((((E 3 0):Int)=(E 3 0))∧((((E 3 1):Int)=(E 3 1))∧((((E 3 2):Int)=(E 3 2))∧((((E 3 3):Int)=(E 3 3))∧((((E 3 4):Int)=(E 3 4))∧True)))))∧(((((E 4 0):Int)=(E 4 0))∧((((E 4 1):Int)=(E 4 1))∧((((E 4 2):Int)=(E 4 2))∧((((E 4 3):Int)=(E 4 3))∧((((E 4 4):Int)=(E 4 4))∧True)))))∧(((((E 5 0):Int)=(E 5 0))∧((((E 5 1):Int)=(E 5 1))∧((((E 5 2):Int)=(E 5 2))∧((((E 5 3):Int)=(E 5 3))∧((((E 5 4):Int)=(E 5 4))∧True)))))∧True)))))))∧True)))))))
theorem co7 (r:Int) (E:Nat→Nat→Int) (h:gQ A I n M=true):VC (aN Tryz.prog XCo 900 9 (enc [.st [.sl 1 A B,.sl 1 I J,.rr 1 n M f,.i .i64 r,.sl 5 7 E]] 0) 4 (fun v H=>iw 4 H v (coS A B I J n M f r 7 E))) (.go 5 .nil):=ak (((cond (cond (aI 2 A B I J n M f) true false) (gQ A I n M) false)=true∧((((V.fz true 7 (ae .i64 B) A 1):V)=(V.fz true 7 (ae .i64 B) A 1))∧((((V.fz true 7 (ae .i64 J) I 1):V)=(V.fz true 7 (ae .i64 J) I 1))∧((((V.fz true 7 (aQ 7 1 M f) n 1):V)=(V.fz true 7 (aQ 7 1 M f) n 1))∧(((r:Int)=r)∧((((((((((((1+1)+1)+1)+1)+1)+1):Nat):Int):Int)=7)∧(((((E 0 0):Int)=(E 0 0))∧((((E 0 1):Int)=(E 0 1))∧((((E 0 2):Int)=(E 0 2))∧((((E 0 3):Int)=(E 0 3))∧((((E 0 4):Int)=(E 0 4))∧True)))))∧(((((E 1 0):Int)=(E 1 0))∧((((E 1 1):Int)=(E 1 1))∧((((E 1 2):Int)=(E 1 2))∧((((E 1 3):Int)=(E 1 3))∧((((E 1 4):Int)=(E 1 4))∧True)))))∧(((((E 2 0):Int)=(E 2 0))∧((((E 2 1):Int)=(E 2 1))∧((((E 2 2):Int)=(E 2 2))∧((((E 2 3):Int)=(E 2 3))∧((((E 2 4):Int)=(E 2 4))∧True)))))∧(((((E 3 0):Int)=(E 3 0))∧((((E 3 1):Int)=(E 3 1))∧((((E 3 2):Int)=(E 3 2))∧((((E 3 3):Int)=(E 3 3))∧((((E 3 4):Int)=(E 3 4))∧True)))))∧(((((E 4 0):Int)=(E 4 0))∧((((E 4 1):Int)=(E 4 1))∧((((E 4 2):Int)=(E 4 2))∧((((E 4 3):Int)=(E 4 3))∧((((E 4 4):Int)=(E 4 4))∧True)))))∧(((((E 5 0):Int)=(E 5 0))∧((((E 5 1):Int)=(E 5 1))∧((((E 5 2):Int)=(E 5 2))∧((((E 5 3):Int)=(E 5 3))∧((((E 5 4):Int)=(E 5 4))∧True)))))∧(((((E 6 0):Int)=(E 6 0))∧((((E 6 1):Int)=(E 6 1))∧((((E 6 2):Int)=(E 6 2))∧((((E 6 3):Int)=(E 6 3))∧((((E 6 4):Int)=(E 6 4))∧True)))))∧True))))))))∧True)))))))
theorem co8 (r:Int) (E:Nat→Nat→Int) (h:gQ A I n M=true):VC (aN Tryz.prog XCo 900 9 (enc [.st [.sl 1 A B,.sl 1 I J,.rr 1 n M f,.i .i64 r,.sl 5 8 E]] 0) 4 (fun v H=>iw 4 H v (coS A B I J n M f r 8 E))) (.go 5 .nil):=ak (((cond (cond (aI 2 A B I J n M f) true false) (gQ A I n M) false)=true∧((((V.fz true 7 (ae .i64 B) A 1):V)=(V.fz true 7 (ae .i64 B) A 1))∧((((V.fz true 7 (ae .i64 J) I 1):V)=(V.fz true 7 (ae .i64 J) I 1))∧((((V.fz true 7 (aQ 7 1 M f) n 1):V)=(V.fz true 7 (aQ 7 1 M f) n 1))∧(((r:Int)=r)∧(((((((((((((1+1)+1)+1)+1)+1)+1)+1):Nat):Int):Int)=8)∧(((((E 0 0):Int)=(E 0 0))∧((((E 0 1):Int)=(E 0 1))∧((((E 0 2):Int)=(E 0 2))∧((((E 0 3):Int)=(E 0 3))∧((((E 0 4):Int)=(E 0 4))∧True)))))∧(((((E 1 0):Int)=(E 1 0))∧((((E 1 1):Int)=(E 1 1))∧((((E 1 2):Int)=(E 1 2))∧((((E 1 3):Int)=(E 1 3))∧((((E 1 4):Int)=(E 1 4))∧True)))))∧(((((E 2 0):Int)=(E 2 0))∧((((E 2 1):Int)=(E 2 1))∧((((E 2 2):Int)=(E 2 2))∧((((E 2 3):Int)=(E 2 3))∧((((E 2 4):Int)=(E 2 4))∧True)))))∧(((((E 3 0):Int)=(E 3 0))∧((((E 3 1):Int)=(E 3 1))∧((((E 3 2):Int)=(E 3 2))∧((((E 3 3):Int)=(E 3 3))∧((((E 3 4):Int)=(E 3 4))∧True)))))∧(((((E 4 0):Int)=(E 4 0))∧((((E 4 1):Int)=(E 4 1))∧((((E 4 2):Int)=(E 4 2))∧((((E 4 3):Int)=(E 4 3))∧((((E 4 4):Int)=(E 4 4))∧True)))))∧(((((E 5 0):Int)=(E 5 0))∧((((E 5 1):Int)=(E 5 1))∧((((E 5 2):Int)=(E 5 2))∧((((E 5 3):Int)=(E 5 3))∧((((E 5 4):Int)=(E 5 4))∧True)))))∧(((((E 6 0):Int)=(E 6 0))∧((((E 6 1):Int)=(E 6 1))∧((((E 6 2):Int)=(E 6 2))∧((((E 6 3):Int)=(E 6 3))∧((((E 6 4):Int)=(E 6 4))∧True)))))∧(((((E 7 0):Int)=(E 7 0))∧((((E 7 1):Int)=(E 7 1))∧((((E 7 2):Int)=(E 7 2))∧((((E 7 3):Int)=(E 7 3))∧((((E 7 4):Int)=(E 7 4))∧True)))))∧True)))))))))∧True)))))))
theorem co9 (r:Int) (E:Nat→Nat→Int) (h:gQ A I n M=true):VC (aN Tryz.prog XCo 900 9 (enc [.st [.sl 1 A B,.sl 1 I J,.rr 1 n M f,.i .i64 r,.sl 5 9 E]] 0) 4 (fun v H=>iw 4 H v (coS A B I J n M f r 9 E))) (.go 5 .nil):=ak (((cond (cond (aI 2 A B I J n M f) true false) (gQ A I n M) false)=true∧((((V.fz true 7 (ae .i64 B) A 1):V)=(V.fz true 7 (ae .i64 B) A 1))∧((((V.fz true 7 (ae .i64 J) I 1):V)=(V.fz true 7 (ae .i64 J) I 1))∧((((V.fz true 7 (aQ 7 1 M f) n 1):V)=(V.fz true 7 (aQ 7 1 M f) n 1))∧(((r:Int)=r)∧((((((((((((((1+1)+1)+1)+1)+1)+1)+1)+1):Nat):Int):Int)=9)∧(((((E 0 0):Int)=(E 0 0))∧((((E 0 1):Int)=(E 0 1))∧((((E 0 2):Int)=(E 0 2))∧((((E 0 3):Int)=(E 0 3))∧((((E 0 4):Int)=(E 0 4))∧True)))))∧(((((E 1 0):Int)=(E 1 0))∧((((E 1 1):Int)=(E 1 1))∧((((E 1 2):Int)=(E 1 2))∧((((E 1 3):Int)=(E 1 3))∧((((E 1 4):Int)=(E 1 4))∧True)))))∧(((((E 2 0):Int)=(E 2 0))∧((((E 2 1):Int)=(E 2 1))∧((((E 2 2):Int)=(E 2 2))∧((((E 2 3):Int)=(E 2 3))∧((((E 2 4):Int)=(E 2 4))∧True)))))∧(((((E 3 0):Int)=(E 3 0))∧((((E 3 1):Int)=(E 3 1))∧((((E 3 2):Int)=(E 3 2))∧((((E 3 3):Int)=(E 3 3))∧((((E 3 4):Int)=(E 3 4))∧True)))))∧(((((E 4 0):Int)=(E 4 0))∧((((E 4 1):Int)=(E 4 1))∧((((E 4 2):Int)=(E 4 2))∧((((E 4 3):Int)=(E 4 3))∧((((E 4 4):Int)=(E 4 4))∧True)))))∧(((((E 5 0):Int)=(E 5 0))∧((((E 5 1):Int)=(E 5 1))∧((((E 5 2):Int)=(E 5 2))∧((((E 5 3):Int)=(E 5 3))∧((((E 5 4):Int)=(E 5 4))∧True)))))∧(((((E 6 0):Int)=(E 6 0))∧((((E 6 1):Int)=(E 6 1))∧((((E 6 2):Int)=(E 6 2))∧((((E 6 3):Int)=(E 6 3))∧((((E 6 4):Int)=(E 6 4))∧True)))))∧(((((E 7 0):Int)=(E 7 0))∧((((E 7 1):Int)=(E 7 1))∧((((E 7 2):Int)=(E 7 2))∧((((E 7 3):Int)=(E 7 3))∧((((E 7 4):Int)=(E 7 4))∧True)))))∧(((((E 8 0):Int)=(E 8 0))∧((((E 8 1):Int)=(E 8 1))∧((((E 8 2):Int)=(E 8 2))∧((((E 8 3):Int)=(E 8 3))∧((((E 8 4):Int)=(E 8 4))∧True)))))∧True))))))))))∧True)))))))
def PE:JQ:=fun das=>match das with | [.st [.sl 1 A B,.sl 1 I J,.rr 1 n M f,.i .i64 r,.sl 5 O E]]=>some (cond (gQ A I n M) (Nat.ble O 9) false,coS A B I J n M f r O E) | _=>none
theorem YY:RQ Tryz.prog 9 PE:=by
 intro das v hv
 unfold PE at hv
 split at hv
 ·rename_i A B I J n M f r O E
  have hb:=congrArg Prod.fst (Option.some.inj hv)
  have hv:=congrArg Prod.snd (Option.some.inj hv)
  subst hv
  obtain ⟨h1,h2⟩:=ah hb
  have h2:=Nat.le_of_ble_eq_true h2
  have:O=0∨O=1∨O=2∨O=3∨O=4∨O=5∨O=6∨O=7∨O=8∨O=9:=by omega
  rcases this with rfl | rfl | rfl | rfl | rfl | rfl | rfl | rfl | rfl | rfl
  ·exact aW ax lW (co0 A B I J n M f r E h1)
  ·exact aW ax lW (co1 A B I J n M f r E h1)
  ·exact aW ax lW (co2 A B I J n M f r E h1)
  ·exact aW ax lW (co3 A B I J n M f r E h1)
  ·exact aW ax lW (co4 A B I J n M f r E h1)
  ·exact aW ax lW (co5 A B I J n M f r E h1)
  ·exact aW ax lW (co6 A B I J n M f r E h1)
  ·exact aW ax lW (co7 A B I J n M f r E h1)
  ·exact aW ax lW (co8 A B I J n M f r E h1)
  ·exact aW ax lW (co9 A B I J n M f r E h1)
 ·cases hv
end
end Go.Proofs.YtiplgejpopellaaGreat
