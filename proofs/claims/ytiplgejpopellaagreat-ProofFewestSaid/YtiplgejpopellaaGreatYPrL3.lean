/- Casks: contracts of the law's side: the reference's error of a store, the law's copy of it. -/
import Derived.Test.YtiplgejpopellaaGreatYPrC4
import Derived.Test.YtiplgejpopellaaGreatYTaM5
set_option linter.all false
set_option linter.unusedSimpArgs false
set_option linter.unusedVariables false
namespace Go.Proofs.YtiplgejpopellaaGreat
open Go Go.Ev
set_option maxRecDepth 1000000
set_option maxHeartbeats 0
noncomputable section
variable (A:Nat) (B:Nat→Nat→Int) (I:Nat) (J:Nat→Nat→Int) (n:Nat) (M:Nat→Nat) (f:Nat→Nat→Nat→Int)
def Vx:Val:=fun das=>match das with | [.st [.sl 1 A B,.sl 1 I J,.rr 1 n M f]]=>some (iW A I n M,.int .i64 (aT A B I J n M f)) | _=>none
theorem abo:qi Tryz.prog 63 Vx:=by
 intro das v hv
 unfold Vx at hv
 split at hv
 ·rename_i A B I J n M f
  refine abu [.st [.sl 1 A B,.sl 1 I J,.rr 1 n M f]] v ?_
  rw [← hv]
  show some (iW A I n M,V.int .i64 (faE A B I J n M f))=some (iW A I n M,V.int .i64 (aT A B I J n M f))
  rw [ZX]
 ·cases hv
def XFt:Ext:=jO [(63,cf Vx)] false
theorem qX:dM Tryz.prog XFt:=dW (aA (dR abo) bK)
def zG (A:Nat) (B:Nat→Nat→Int) (I:Nat) (J:Nat→Nat→Int) (n:Nat) (M:Nat→Nat) (f:Nat→Nat→Nat→Int) (r:Int) (O:Nat) (E:Nat→Nat→Int):EH:=⟨setAt [(5,mX [.sl 1 A B,.sl 1 I J,.rr 1 n M f,.i .i64 r,.sl 5 O E] 0)] .lf,7,.lf,big⟩
def FY:LT:=⟨[1,4],[],[2],7⟩
def sF4 (i:Nat):LS:=⟨[.ptr 5 0,.int .i64 i],[]⟩
def bF4:Code:=sub [1,1,1,1,0,1,0,0] (cZ Tryz.prog 35)
theorem ft1 (r:Int) (O:Nat) (E:Nat→Nat→Int) (g:iW A I n M=true) (h:¬ aT A B I J n M f=0):VC (dh Tryz.prog XFt 300 35 (enc [.st [.sl 1 A B,.sl 1 I J,.rr 1 n M f,.i .i64 r,.sl 5 O E]] 0) 4 (fun v=>dB v (.int .i64 (aT A B I J n M f)))) (.go 21 .nil):=ai (((cond (cond (aZ 2 A B I J n M f) true false) (iW A I n M) false)=true∧((not (bY (aT A B I J n M f) 0))=true∧(((aT A B I J n M f):Int)=(aT A B I J n M f)))))
theorem ft2 (r:Int) (O:Nat) (E:Nat→Nat→Int) (g:iW A I n M=true) (h:aT A B I J n M f=0) (h2:¬ O≤6):VC (dh Tryz.prog XFt 300 35 (enc [.st [.sl 1 A B,.sl 1 I J,.rr 1 n M f,.i .i64 r,.sl 5 O E]] 0) 4 (fun v=>dB v (.int .i64 3))) (.go 89 .nil):=ai (((cond (cond (aZ 2 A B I J n M f) true false) (iW A I n M) false)=true∧((not (bY (aT A B I J n M f) 0))=false∧((not (ak (O:Int) 6))=true∧(((3):Int)=3)))))
theorem ft3 (r:Int) (O:Nat) (E:Nat→Nat→Int) (g:iW A I n M=true) (h:aT A B I J n M f=0) (h2:O≤6) (h3:¬ (0≤r∧r≤200)):VC (dh Tryz.prog XFt 300 35 (enc [.st [.sl 1 A B,.sl 1 I J,.rr 1 n M f,.i .i64 r,.sl 5 O E]] 0) 4 (fun v=>dB v (.int .i64 1))) (.go 105 (.sp (.go 320 .nil) .nil)):=ai (((cond (cond (aZ 2 A B I J n M f) true false) (iW A I n M) false)=true∧((not (bY (aT A B I J n M f) 0))=false∧((not (ak (O:Int) 6))=false∧(((ak 0 r)=true→((not (ak r 200))=true∧(((1):Int)=1))) ∧
 ((ak (0) r)=false→(((1):Int)=(1))))))))
theorem eF4 (r:Int) (O:Nat) (E:Nat→Nat→Int) (g:iW A I n M=true) (h:aT A B I J n M f=0) (h2:O≤6) (h3:0≤r) (h4:r≤200):VC (ql Tryz.prog XFt 300 35 [1,1,1,1,0,1,0] [.st [.sl 1 A B,.sl 1 I J,.rr 1 n M f,.i .i64 r,.sl 5 O E]] (zG A B I J n M f r O E) FY 54 90 (sF4 0)) (.go 98409 .nil):=ai (((cond (cond (aZ 2 A B I J n M f) true false) (iW A I n M) false)=true∧((not (bY (aT A B I J n M f) 0))=false∧((not (ak (O:Int) 6))=false∧((ak 0 r)=true∧((not (ak r 200))=false∧((True∧((True∧(True∧(((((V.fz true 0 (ae .i64 B) A 1):V)=(V.fz true 0 (ae .i64 B) A 1))∧(((((V.fz true 1 (ae .i64 J) I 1):V)=(V.fz true 1 (ae .i64 J) I 1))∧((((r:Int)=r)∧(True∧True))∧True))∧((((V.fz true 2 (aQ 2 1 M f) n 1):V)=(V.fz true 2 (aQ 2 1 M f) n 1))∧(((((V.fz true 3 (ae .i64 E) O 5):V)=(V.fz true 3 (ae .i64 E) O 5))∧(True∧True))∧True))))∧(True∧True))))∧True))∧(((((V.ptr 5 0):V)=(V.ptr 5 0))∧((((0):Int)=0)∧True))∧True))))))))
theorem acn (r:Int) (O:Nat) (E:Nat→Nat→Int) (i:Nat) (h1:i<O) (h2:O≤6) (t1:2≤A) (t2:A≤5) (t3:2≤I) (t4:I≤5) (h3:1≤E i 0∧E i 0≤99∧E i 1≤E i 2∧B 0 0≤E i 1∧E i 2≤(B (Int.toNat ((A:Int)-1)) 0)∧E i 3≤E i 4∧J 0 0≤E i 3∧E i 4≤(J (Int.toNat ((I:Int)-1)) 0)):VC (bM Tryz.prog XFt 300 bF4 (zG A B I J n M f r O E) FY 54 90 (sF4 i) (.next (sF4 (i+1)))) (.go 7139804631996619625611455637757973 .nil):=ai (((not (ak (O:Int) (i:Int)))=true∧((Nat.blt i O)=true∧((ak 1 (E i 0))=true∧((not (ak (E i 0) 99))=false∧((ak (E i 1) (E i 2))=true∧((Nat.blt 0 A)=true∧((ak (B 0 0) (E i 1))=true∧((small ((A:Int)-(1)))=true∧((kE ((A:Int)-(1)) A)=true∧((not (ak (E i 2) (B (Int.toNat ((A:Int)-(1))) 0)))=false∧((ak (E i 3) (E i 4))=true∧((Nat.blt 0 I)=true∧((ak (J 0 0) (E i 3))=true∧((small ((I:Int)-(1)))=true∧((kE ((I:Int)-(1)) I)=true∧((not (ak (E i 4) (J (Int.toNat ((I:Int)-(1))) 0)))=false∧((small ((i:Int)+1))=true∧(((((V.ptr 5 0):V)=(V.ptr 5 0))∧(((((i:Int)+1):Int)=(((i+1):Nat):Int))∧True))∧True)))))))))))))))))))
theorem adT (r:Int) (O:Nat) (E:Nat→Nat→Int) (i:Nat) (h1:i<O) (h2:O≤6) (t1:2≤A) (t2:A≤5) (t3:2≤I) (t4:I≤5) (h3:¬ (1≤E i 0∧E i 0≤99∧E i 1≤E i 2∧B 0 0≤E i 1∧E i 2≤(B (Int.toNat ((A:Int)-1)) 0)∧E i 3≤E i 4∧J 0 0≤E i 3∧E i 4≤(J (Int.toNat ((I:Int)-1)) 0))):VC (bM Tryz.prog XFt 300 bF4 (zG A B I J n M f r O E) FY 54 90 (sF4 i) (.ret ⟨[.int .i64 1],[]⟩)) (.go 21 (.sp (.go 64 (.sp .nil (.go 1024 (.sp (.go 16448 (.sp (.go 262464 (.sp .nil (.go 1024 (.sp (.go 16448 (.sp (.go 1311040 .nil) .nil)) .nil)))) .nil)) .nil)))) .nil)):=ai (((not (ak (O:Int) (i:Int)))=true∧((Nat.blt i O)=true∧(((ak 1 (E i 0))=true→(((not (ak (E i 0) 99))=true→(((((1):Int)=1)∧True)∧True)) ∧
 ((not (ak (E i 0) (99)))=false→(((ak (E i 1) (E i 2))=true→((Nat.blt 0 A)=true∧(((ak (B 0 0) (E i 1))=true→((small (((A:Nat):Int)-(1)))=true∧((kE (((A:Nat):Int)-(1)) A)=true∧(((not (ak (E i 2) (B (Int.toNat (((A:Nat):Int)-(1))) 0)))=true→(((((1):Int)=(1))∧True)∧True)) ∧
 ((not (ak (E i 2) (B (Int.toNat (((A:Nat):Int)-(1))) 0)))=false→(((ak (E i 3) (E i 4))=true→((Nat.blt 0 I)=true∧(((ak (J 0 0) (E i 3))=true→((small (((I:Nat):Int)-(1)))=true∧((kE (((I:Nat):Int)-(1)) I)=true∧((not (ak (E i 4) (J (Int.toNat (((I:Nat):Int)-(1))) 0)))=true∧(((((1):Int)=(1))∧True)∧True))))) ∧
 ((ak (J 0 0) (E i 3))=false→(((((1):Int)=(1))∧True)∧True))))) ∧
 ((ak (E i 3) (E i 4))=false→(((((1):Int)=(1))∧True)∧True)))))))) ∧
 ((ak (B 0 0) (E i 1))=false→(((((1):Int)=(1))∧True)∧True))))) ∧
 ((ak (E i 1) (E i 2))=false→(((((1):Int)=(1))∧True)∧True)))))) ∧
 ((ak (1) (E i 0))=false→(((((1):Int)=(1))∧True)∧True))))))
theorem acr (r:Int) (O:Nat) (E:Nat→Nat→Int) (i:Nat) (h1:¬ i<O):VC (bM Tryz.prog XFt 300 bF4 (zG A B I J n M f r O E) FY 54 90 (sF4 i) (.exit 0 ⟨[],[]⟩)) (.go 6 .nil):=ai (((not (ak (O:Int) (i:Int)))=false∧(True∧True)))
theorem adl (r:Int) (O:Nat) (E:Nat→Nat→Int):VC (fromD Tryz.prog XFt 300 35 [1,1,1,1,0,1,0] (Lv.res FY 54 (iw (zG A B I J n M f r O E) FY 90 (.exit 0 ⟨[],[]⟩)) (.exit 0 ⟨[],[]⟩)) (.int .i64 0)) .nil:=ai ((((0):Int)=0))
theorem ad8 (r:Int) (O:Nat) (E:Nat→Nat→Int):VC (fromD Tryz.prog XFt 300 35 [1,1,1,1,0,1,0] (Lv.res FY 54 (iw (zG A B I J n M f r O E) FY 90 (.ret ⟨[.int .i64 1],[]⟩)) (.ret ⟨[.int .i64 1],[]⟩)) (.int .i64 1)) .nil:=ai ((((1):Int)=1))
def UD:Val:=fun das=>match das with | [.st [.sl 1 A B,.sl 1 I J,.rr 1 n M f,.i .i64 r,.sl 5 O E]]=>some (iW A I n M,.int .i64 (gW A B I J n M f r O E)) | _=>none
theorem aam:qi Tryz.prog 35 UD:=by
 intro das v hv
 unfold UD at hv
 split at hv
 ·rename_i A B I J n M f r O E
  have hb:=congrArg Prod.fst (Option.some.inj hv)
  have hv:=congrArg Prod.snd (Option.some.inj hv)
  subst hv
  by_cases h:aT A B I J n M f=0
  ·have ok:=lq h
   have e1:=qy ok.w.two
   have e2:=qy ok.m.two
   by_cases h2:O≤6
   ·by_cases h3:0≤r∧r≤200
    ·have key:∀ i,caB A B I J E i=true↔(1≤E i 0∧E i 0≤99∧E i 1≤E i 2∧B 0 0≤E i 1∧E i 2≤(B (Int.toNat ((A:Int)-1)) 0)∧E i 3≤E i 4∧J 0 0≤E i 3∧E i 4≤(J (Int.toNat ((I:Int)-1)) 0)):=fun i=>by
      unfold caB
      rw [soB_t,e1,e2]
      unfold qp Aw
      omega
     refine ⟨rfl,?_⟩
     have rd:∀ i,i<O→caB A B I J E i=true→JL Tryz.prog (zG A B I J n M f r O E) FY 54 90 none bF4 (sF4 i) (.next (sF4 (i+1))):=fun i hi q =>
      aP aj qX (acn A B I J n M f r O E i hi h2 ok.w.two ok.w.five ok.m.two ok.m.five ((key i).mp q)).ok (by kernel_rfl) (by kernel_rfl)
     rcases gu (caB A B I J E) O with hh | ⟨N,k1,k2,k3⟩
     ·have e:gW A B I J n M f r O E=0:=by unfold gW;rw [(dQ _ _).mpr h,dV h2,raB_t.mpr h3,show kC A B I J E O=true from bW hh];rfl
      rw [e]
      exact bV aj qX (das:=[.st [.sl 1 A B,.sl 1 I J,.rr 1 n M f,.i .i64 r,.sl 5 O E]]) (lv := .exit 0 ⟨[],[]⟩) (by kernel_rfl) (by kernel_rfl) (eF4 A B I J n M f r O E hb h h2 h3.1 h3.2).ok (bz (body:=bF4) (fun _ e=>by cases e) O sF4 (fun i hi=>rd i hi (hh i hi)) (aP aj qX (acr A B I J n M f r O E O (by omega)).ok (by kernel_rfl) (by kernel_rfl))) (adl A B I J n M f r O E).ok
     ·have e:gW A B I J n M f r O E=1:=by unfold gW;rw [(dQ _ _).mpr h,dV h2,raB_t.mpr h3,show kC A B I J E O=false from gK k1 k3];rfl
      rw [e]
      exact bV aj qX (das:=[.st [.sl 1 A B,.sl 1 I J,.rr 1 n M f,.i .i64 r,.sl 5 O E]]) (lv := .ret ⟨[.int .i64 1],[]⟩) (by kernel_rfl) (by kernel_rfl) (eF4 A B I J n M f r O E hb h h2 h3.1 h3.2).ok (bz (body:=bF4) (fun _ e=>by cases e) N sF4 (fun i hi=>rd i (by omega) (k2 i hi)) (aP aj qX (adT A B I J n M f r O E N k1 h2 ok.w.two ok.w.five ok.m.two ok.m.five (fun q=>by rw [(key N).mpr q] at k3;cases k3)).ok (by kernel_rfl) (by kernel_rfl))) (ad8 A B I J n M f r O E).ok
    ·have e:gW A B I J n M f r O E=1:=by
      have e:raB r=false:=by
       cases q:raB r with
       | false=>rfl
       | true=>exact absurd (raB_t.mp q) h3
      unfold gW;rw [(dQ _ _).mpr h,dV h2,e];rfl
     rw [e]
     exact bn aj qX rfl (das:=[.st [.sl 1 A B,.sl 1 I J,.rr 1 n M f,.i .i64 r,.sl 5 O E]]) (ft3 A B I J n M f r O E hb h h2 h3)
   ·have e:gW A B I J n M f r O E=3:=by unfold gW;rw [(dQ _ _).mpr h,(gZ _ _).mpr (by omega)];rfl
    rw [e]
    exact bn aj qX rfl (das:=[.st [.sl 1 A B,.sl 1 I J,.rr 1 n M f,.i .i64 r,.sl 5 O E]]) (ft2 A B I J n M f r O E hb h h2)
  ·have e:gW A B I J n M f r O E=aT A B I J n M f:=by unfold gW;rw [(fD _ _).mpr h];rfl
   rw [e]
   exact bn aj qX rfl (das:=[.st [.sl 1 A B,.sl 1 I J,.rr 1 n M f,.i .i64 r,.sl 5 O E]]) (ft1 A B I J n M f r O E hb h)
 ·cases hv
def XCo:Ext:=jO [(34,cfG U4)] false
theorem nS:dM Tryz.prog XCo:=dW (aA (Xd aas) bK)
def coS (A:Nat) (B:Nat→Nat→Int) (I:Nat) (J:Nat→Nat→Int) (n:Nat) (M:Nat→Nat) (f:Nat→Nat→Nat→Int) (r:Int) (O:Nat) (E:Nat→Nat→Int):SV := .one (.ag [.new (.sl 1 A B),.new (.sl 1 I J),.new (.rr 1 n M f),.new (.i .i64 r),.new (.sl 5 O E)])
theorem co0 (r:Int) (E:Nat→Nat→Int) (h:iW A I n M=true):VC (aJ Tryz.prog XCo 900 9 (enc [.st [.sl 1 A B,.sl 1 I J,.rr 1 n M f,.i .i64 r,.sl 5 0 E]] 0) 4 (fun v H=>fV 4 H v (coS A B I J n M f r 0 E))) (.go 5 .nil):=ai (((cond (cond (aZ 2 A B I J n M f) true false) (iW A I n M) false)=true∧((((V.fz true 7 (ae .i64 B) A 1):V)=(V.fz true 7 (ae .i64 B) A 1))∧((((V.fz true 7 (ae .i64 J) I 1):V)=(V.fz true 7 (ae .i64 J) I 1))∧((((V.fz true 7 (aQ 7 1 M f) n 1):V)=(V.fz true 7 (aQ 7 1 M f) n 1))∧(((r:Int)=r)∧((((0):Int)=0)∧True)))))))
theorem co1 (r:Int) (E:Nat→Nat→Int) (h:iW A I n M=true):VC (aJ Tryz.prog XCo 900 9 (enc [.st [.sl 1 A B,.sl 1 I J,.rr 1 n M f,.i .i64 r,.sl 5 1 E]] 0) 4 (fun v H=>fV 4 H v (coS A B I J n M f r 1 E))) (.go 5 .nil):=ai (((cond (cond (aZ 2 A B I J n M f) true false) (iW A I n M) false)=true∧((((V.fz true 7 (ae .i64 B) A 1):V)=(V.fz true 7 (ae .i64 B) A 1))∧((((V.fz true 7 (ae .i64 J) I 1):V)=(V.fz true 7 (ae .i64 J) I 1))∧((((V.fz true 7 (aQ 7 1 M f) n 1):V)=(V.fz true 7 (aQ 7 1 M f) n 1))∧(((r:Int)=r)∧((((((1:Nat):Int):Int)=1)∧(((((E 0 0):Int)=(E 0 0))∧((((E 0 1):Int)=(E 0 1))∧((((E 0 2):Int)=(E 0 2))∧((((E 0 3):Int)=(E 0 3))∧((((E 0 4):Int)=(E 0 4))∧True)))))∧True))∧True)))))))
theorem co2 (r:Int) (E:Nat→Nat→Int) (h:iW A I n M=true):VC (aJ Tryz.prog XCo 900 9 (enc [.st [.sl 1 A B,.sl 1 I J,.rr 1 n M f,.i .i64 r,.sl 5 2 E]] 0) 4 (fun v H=>fV 4 H v (coS A B I J n M f r 2 E))) (.go 5 .nil):=ai (((cond (cond (aZ 2 A B I J n M f) true false) (iW A I n M) false)=true∧((((V.fz true 7 (ae .i64 B) A 1):V)=(V.fz true 7 (ae .i64 B) A 1))∧((((V.fz true 7 (ae .i64 J) I 1):V)=(V.fz true 7 (ae .i64 J) I 1))∧((((V.fz true 7 (aQ 7 1 M f) n 1):V)=(V.fz true 7 (aQ 7 1 M f) n 1))∧(((r:Int)=r)∧(((((((1+1):Nat):Int):Int)=2)∧(((((E 0 0):Int)=(E 0 0))∧((((E 0 1):Int)=(E 0 1))∧((((E 0 2):Int)=(E 0 2))∧((((E 0 3):Int)=(E 0 3))∧((((E 0 4):Int)=(E 0 4))∧True)))))∧(((((E 1 0):Int)=(E 1 0))∧((((E 1 1):Int)=(E 1 1))∧((((E 1 2):Int)=(E 1 2))∧((((E 1 3):Int)=(E 1 3))∧((((E 1 4):Int)=(E 1 4))∧True)))))∧True)))∧True)))))))
theorem co3 (r:Int) (E:Nat→Nat→Int) (h:iW A I n M=true):VC (aJ Tryz.prog XCo 900 9 (enc [.st [.sl 1 A B,.sl 1 I J,.rr 1 n M f,.i .i64 r,.sl 5 3 E]] 0) 4 (fun v H=>fV 4 H v (coS A B I J n M f r 3 E))) (.go 5 .nil):=ai (((cond (cond (aZ 2 A B I J n M f) true false) (iW A I n M) false)=true∧((((V.fz true 7 (ae .i64 B) A 1):V)=(V.fz true 7 (ae .i64 B) A 1))∧((((V.fz true 7 (ae .i64 J) I 1):V)=(V.fz true 7 (ae .i64 J) I 1))∧((((V.fz true 7 (aQ 7 1 M f) n 1):V)=(V.fz true 7 (aQ 7 1 M f) n 1))∧(((r:Int)=r)∧((((((((1+1)+1):Nat):Int):Int)=3)∧(((((E 0 0):Int)=(E 0 0))∧((((E 0 1):Int)=(E 0 1))∧((((E 0 2):Int)=(E 0 2))∧((((E 0 3):Int)=(E 0 3))∧((((E 0 4):Int)=(E 0 4))∧True)))))∧(((((E 1 0):Int)=(E 1 0))∧((((E 1 1):Int)=(E 1 1))∧((((E 1 2):Int)=(E 1 2))∧((((E 1 3):Int)=(E 1 3))∧((((E 1 4):Int)=(E 1 4))∧True)))))∧(((((E 2 0):Int)=(E 2 0))∧((((E 2 1):Int)=(E 2 1))∧((((E 2 2):Int)=(E 2 2))∧((((E 2 3):Int)=(E 2 3))∧((((E 2 4):Int)=(E 2 4))∧True)))))∧True))))∧True)))))))
theorem co4 (r:Int) (E:Nat→Nat→Int) (h:iW A I n M=true):VC (aJ Tryz.prog XCo 900 9 (enc [.st [.sl 1 A B,.sl 1 I J,.rr 1 n M f,.i .i64 r,.sl 5 4 E]] 0) 4 (fun v H=>fV 4 H v (coS A B I J n M f r 4 E))) (.go 5 .nil):=ai (((cond (cond (aZ 2 A B I J n M f) true false) (iW A I n M) false)=true∧((((V.fz true 7 (ae .i64 B) A 1):V)=(V.fz true 7 (ae .i64 B) A 1))∧((((V.fz true 7 (ae .i64 J) I 1):V)=(V.fz true 7 (ae .i64 J) I 1))∧((((V.fz true 7 (aQ 7 1 M f) n 1):V)=(V.fz true 7 (aQ 7 1 M f) n 1))∧(((r:Int)=r)∧(((((((((1+1)+1)+1):Nat):Int):Int)=4)∧(((((E 0 0):Int)=(E 0 0))∧((((E 0 1):Int)=(E 0 1))∧((((E 0 2):Int)=(E 0 2))∧((((E 0 3):Int)=(E 0 3))∧((((E 0 4):Int)=(E 0 4))∧True)))))∧(((((E 1 0):Int)=(E 1 0))∧((((E 1 1):Int)=(E 1 1))∧((((E 1 2):Int)=(E 1 2))∧((((E 1 3):Int)=(E 1 3))∧((((E 1 4):Int)=(E 1 4))∧True)))))∧(((((E 2 0):Int)=(E 2 0))∧((((E 2 1):Int)=(E 2 1))∧((((E 2 2):Int)=(E 2 2))∧((((E 2 3):Int)=(E 2 3))∧((((E 2 4):Int)=(E 2 4))∧True)))))∧(((((E 3 0):Int)=(E 3 0))∧((((E 3 1):Int)=(E 3 1))∧((((E 3 2):Int)=(E 3 2))∧((((E 3 3):Int)=(E 3 3))∧((((E 3 4):Int)=(E 3 4))∧True)))))∧True)))))∧True)))))))
theorem co5 (r:Int) (E:Nat→Nat→Int) (h:iW A I n M=true):VC (aJ Tryz.prog XCo 900 9 (enc [.st [.sl 1 A B,.sl 1 I J,.rr 1 n M f,.i .i64 r,.sl 5 5 E]] 0) 4 (fun v H=>fV 4 H v (coS A B I J n M f r 5 E))) (.go 5 .nil):=ai (((cond (cond (aZ 2 A B I J n M f) true false) (iW A I n M) false)=true∧((((V.fz true 7 (ae .i64 B) A 1):V)=(V.fz true 7 (ae .i64 B) A 1))∧((((V.fz true 7 (ae .i64 J) I 1):V)=(V.fz true 7 (ae .i64 J) I 1))∧((((V.fz true 7 (aQ 7 1 M f) n 1):V)=(V.fz true 7 (aQ 7 1 M f) n 1))∧(((r:Int)=r)∧((((((((((1+1)+1)+1)+1):Nat):Int):Int)=5)∧(((((E 0 0):Int)=(E 0 0))∧((((E 0 1):Int)=(E 0 1))∧((((E 0 2):Int)=(E 0 2))∧((((E 0 3):Int)=(E 0 3))∧((((E 0 4):Int)=(E 0 4))∧True)))))∧(((((E 1 0):Int)=(E 1 0))∧((((E 1 1):Int)=(E 1 1))∧((((E 1 2):Int)=(E 1 2))∧((((E 1 3):Int)=(E 1 3))∧((((E 1 4):Int)=(E 1 4))∧True)))))∧(((((E 2 0):Int)=(E 2 0))∧((((E 2 1):Int)=(E 2 1))∧((((E 2 2):Int)=(E 2 2))∧((((E 2 3):Int)=(E 2 3))∧((((E 2 4):Int)=(E 2 4))∧True)))))∧(((((E 3 0):Int)=(E 3 0))∧((((E 3 1):Int)=(E 3 1))∧((((E 3 2):Int)=(E 3 2))∧((((E 3 3):Int)=(E 3 3))∧((((E 3 4):Int)=(E 3 4))∧True)))))∧(((((E 4 0):Int)=(E 4 0))∧((((E 4 1):Int)=(E 4 1))∧((((E 4 2):Int)=(E 4 2))∧((((E 4 3):Int)=(E 4 3))∧((((E 4 4):Int)=(E 4 4))∧True)))))∧True))))))∧True)))))))
theorem co6 (r:Int) (E:Nat→Nat→Int) (h:iW A I n M=true):VC (aJ Tryz.prog XCo 900 9 (enc [.st [.sl 1 A B,.sl 1 I J,.rr 1 n M f,.i .i64 r,.sl 5 6 E]] 0) 4 (fun v H=>fV 4 H v (coS A B I J n M f r 6 E))) (.go 5 .nil):=ai (((cond (cond (aZ 2 A B I J n M f) true false) (iW A I n M) false)=true∧((((V.fz true 7 (ae .i64 B) A 1):V)=(V.fz true 7 (ae .i64 B) A 1))∧((((V.fz true 7 (ae .i64 J) I 1):V)=(V.fz true 7 (ae .i64 J) I 1))∧((((V.fz true 7 (aQ 7 1 M f) n 1):V)=(V.fz true 7 (aQ 7 1 M f) n 1))∧(((r:Int)=r)∧(((((((((((1+1)+1)+1)+1)+1):Nat):Int):Int)=6)∧(((((E 0 0):Int)=(E 0 0))∧((((E 0 1):Int)=(E 0 1))∧((((E 0 2):Int)=(E 0 2))∧((((E 0 3):Int)=(E 0 3))∧((((E 0 4):Int)=(E 0 4))∧True)))))∧(((((E 1 0):Int)=(E 1 0))∧((((E 1 1):Int)=(E 1 1))∧((((E 1 2):Int)=(E 1 2))∧((((E 1 3):Int)=(E 1 3))∧((((E 1 4):Int)=(E 1 4))∧True)))))∧(((((E 2 0):Int)=(E 2 0))∧((((E 2 1):Int)=(E 2 1))∧((((E 2 2):Int)=(E 2 2))∧((((E 2 3):Int)=(E 2 3))∧((((E 2 4):Int)=(E 2 4))∧True)))))∧(((((E 3 0):Int)=(E 3 0))∧((((E 3 1):Int)=(E 3 1))∧((((E 3 2):Int)=(E 3 2))∧((((E 3 3):Int)=(E 3 3))∧((((E 3 4):Int)=(E 3 4))∧True)))))∧(((((E 4 0):Int)=(E 4 0))∧((((E 4 1):Int)=(E 4 1))∧((((E 4 2):Int)=(E 4 2))∧((((E 4 3):Int)=(E 4 3))∧((((E 4 4):Int)=(E 4 4))∧True)))))∧(((((E 5 0):Int)=(E 5 0))∧((((E 5 1):Int)=(E 5 1))∧((((E 5 2):Int)=(E 5 2))∧((((E 5 3):Int)=(E 5 3))∧((((E 5 4):Int)=(E 5 4))∧True)))))∧True)))))))∧True)))))))
theorem co7 (r:Int) (E:Nat→Nat→Int) (h:iW A I n M=true):VC (aJ Tryz.prog XCo 900 9 (enc [.st [.sl 1 A B,.sl 1 I J,.rr 1 n M f,.i .i64 r,.sl 5 7 E]] 0) 4 (fun v H=>fV 4 H v (coS A B I J n M f r 7 E))) (.go 5 .nil):=ai (((cond (cond (aZ 2 A B I J n M f) true false) (iW A I n M) false)=true∧((((V.fz true 7 (ae .i64 B) A 1):V)=(V.fz true 7 (ae .i64 B) A 1))∧((((V.fz true 7 (ae .i64 J) I 1):V)=(V.fz true 7 (ae .i64 J) I 1))∧((((V.fz true 7 (aQ 7 1 M f) n 1):V)=(V.fz true 7 (aQ 7 1 M f) n 1))∧(((r:Int)=r)∧((((((((((((1+1)+1)+1)+1)+1)+1):Nat):Int):Int)=7)∧(((((E 0 0):Int)=(E 0 0))∧((((E 0 1):Int)=(E 0 1))∧((((E 0 2):Int)=(E 0 2))∧((((E 0 3):Int)=(E 0 3))∧((((E 0 4):Int)=(E 0 4))∧True)))))∧(((((E 1 0):Int)=(E 1 0))∧((((E 1 1):Int)=(E 1 1))∧((((E 1 2):Int)=(E 1 2))∧((((E 1 3):Int)=(E 1 3))∧((((E 1 4):Int)=(E 1 4))∧True)))))∧(((((E 2 0):Int)=(E 2 0))∧((((E 2 1):Int)=(E 2 1))∧((((E 2 2):Int)=(E 2 2))∧((((E 2 3):Int)=(E 2 3))∧((((E 2 4):Int)=(E 2 4))∧True)))))∧(((((E 3 0):Int)=(E 3 0))∧((((E 3 1):Int)=(E 3 1))∧((((E 3 2):Int)=(E 3 2))∧((((E 3 3):Int)=(E 3 3))∧((((E 3 4):Int)=(E 3 4))∧True)))))∧(((((E 4 0):Int)=(E 4 0))∧((((E 4 1):Int)=(E 4 1))∧((((E 4 2):Int)=(E 4 2))∧((((E 4 3):Int)=(E 4 3))∧((((E 4 4):Int)=(E 4 4))∧True)))))∧(((((E 5 0):Int)=(E 5 0))∧((((E 5 1):Int)=(E 5 1))∧((((E 5 2):Int)=(E 5 2))∧((((E 5 3):Int)=(E 5 3))∧((((E 5 4):Int)=(E 5 4))∧True)))))∧(((((E 6 0):Int)=(E 6 0))∧((((E 6 1):Int)=(E 6 1))∧((((E 6 2):Int)=(E 6 2))∧((((E 6 3):Int)=(E 6 3))∧((((E 6 4):Int)=(E 6 4))∧True)))))∧True))))))))∧True)))))))
theorem co8 (r:Int) (E:Nat→Nat→Int) (h:iW A I n M=true):VC (aJ Tryz.prog XCo 900 9 (enc [.st [.sl 1 A B,.sl 1 I J,.rr 1 n M f,.i .i64 r,.sl 5 8 E]] 0) 4 (fun v H=>fV 4 H v (coS A B I J n M f r 8 E))) (.go 5 .nil):=ai (((cond (cond (aZ 2 A B I J n M f) true false) (iW A I n M) false)=true∧((((V.fz true 7 (ae .i64 B) A 1):V)=(V.fz true 7 (ae .i64 B) A 1))∧((((V.fz true 7 (ae .i64 J) I 1):V)=(V.fz true 7 (ae .i64 J) I 1))∧((((V.fz true 7 (aQ 7 1 M f) n 1):V)=(V.fz true 7 (aQ 7 1 M f) n 1))∧(((r:Int)=r)∧(((((((((((((1+1)+1)+1)+1)+1)+1)+1):Nat):Int):Int)=8)∧(((((E 0 0):Int)=(E 0 0))∧((((E 0 1):Int)=(E 0 1))∧((((E 0 2):Int)=(E 0 2))∧((((E 0 3):Int)=(E 0 3))∧((((E 0 4):Int)=(E 0 4))∧True)))))∧(((((E 1 0):Int)=(E 1 0))∧((((E 1 1):Int)=(E 1 1))∧((((E 1 2):Int)=(E 1 2))∧((((E 1 3):Int)=(E 1 3))∧((((E 1 4):Int)=(E 1 4))∧True)))))∧(((((E 2 0):Int)=(E 2 0))∧((((E 2 1):Int)=(E 2 1))∧((((E 2 2):Int)=(E 2 2))∧((((E 2 3):Int)=(E 2 3))∧((((E 2 4):Int)=(E 2 4))∧True)))))∧(((((E 3 0):Int)=(E 3 0))∧((((E 3 1):Int)=(E 3 1))∧((((E 3 2):Int)=(E 3 2))∧((((E 3 3):Int)=(E 3 3))∧((((E 3 4):Int)=(E 3 4))∧True)))))∧(((((E 4 0):Int)=(E 4 0))∧((((E 4 1):Int)=(E 4 1))∧((((E 4 2):Int)=(E 4 2))∧((((E 4 3):Int)=(E 4 3))∧((((E 4 4):Int)=(E 4 4))∧True)))))∧(((((E 5 0):Int)=(E 5 0))∧((((E 5 1):Int)=(E 5 1))∧((((E 5 2):Int)=(E 5 2))∧((((E 5 3):Int)=(E 5 3))∧((((E 5 4):Int)=(E 5 4))∧True)))))∧(((((E 6 0):Int)=(E 6 0))∧((((E 6 1):Int)=(E 6 1))∧((((E 6 2):Int)=(E 6 2))∧((((E 6 3):Int)=(E 6 3))∧((((E 6 4):Int)=(E 6 4))∧True)))))∧(((((E 7 0):Int)=(E 7 0))∧((((E 7 1):Int)=(E 7 1))∧((((E 7 2):Int)=(E 7 2))∧((((E 7 3):Int)=(E 7 3))∧((((E 7 4):Int)=(E 7 4))∧True)))))∧True)))))))))∧True)))))))
theorem co9 (r:Int) (E:Nat→Nat→Int) (h:iW A I n M=true):VC (aJ Tryz.prog XCo 900 9 (enc [.st [.sl 1 A B,.sl 1 I J,.rr 1 n M f,.i .i64 r,.sl 5 9 E]] 0) 4 (fun v H=>fV 4 H v (coS A B I J n M f r 9 E))) (.go 5 .nil):=ai (((cond (cond (aZ 2 A B I J n M f) true false) (iW A I n M) false)=true∧((((V.fz true 7 (ae .i64 B) A 1):V)=(V.fz true 7 (ae .i64 B) A 1))∧((((V.fz true 7 (ae .i64 J) I 1):V)=(V.fz true 7 (ae .i64 J) I 1))∧((((V.fz true 7 (aQ 7 1 M f) n 1):V)=(V.fz true 7 (aQ 7 1 M f) n 1))∧(((r:Int)=r)∧((((((((((((((1+1)+1)+1)+1)+1)+1)+1)+1):Nat):Int):Int)=9)∧(((((E 0 0):Int)=(E 0 0))∧((((E 0 1):Int)=(E 0 1))∧((((E 0 2):Int)=(E 0 2))∧((((E 0 3):Int)=(E 0 3))∧((((E 0 4):Int)=(E 0 4))∧True)))))∧(((((E 1 0):Int)=(E 1 0))∧((((E 1 1):Int)=(E 1 1))∧((((E 1 2):Int)=(E 1 2))∧((((E 1 3):Int)=(E 1 3))∧((((E 1 4):Int)=(E 1 4))∧True)))))∧(((((E 2 0):Int)=(E 2 0))∧((((E 2 1):Int)=(E 2 1))∧((((E 2 2):Int)=(E 2 2))∧((((E 2 3):Int)=(E 2 3))∧((((E 2 4):Int)=(E 2 4))∧True)))))∧(((((E 3 0):Int)=(E 3 0))∧((((E 3 1):Int)=(E 3 1))∧((((E 3 2):Int)=(E 3 2))∧((((E 3 3):Int)=(E 3 3))∧((((E 3 4):Int)=(E 3 4))∧True)))))∧(((((E 4 0):Int)=(E 4 0))∧((((E 4 1):Int)=(E 4 1))∧((((E 4 2):Int)=(E 4 2))∧((((E 4 3):Int)=(E 4 3))∧((((E 4 4):Int)=(E 4 4))∧True)))))∧(((((E 5 0):Int)=(E 5 0))∧((((E 5 1):Int)=(E 5 1))∧((((E 5 2):Int)=(E 5 2))∧((((E 5 3):Int)=(E 5 3))∧((((E 5 4):Int)=(E 5 4))∧True)))))∧(((((E 6 0):Int)=(E 6 0))∧((((E 6 1):Int)=(E 6 1))∧((((E 6 2):Int)=(E 6 2))∧((((E 6 3):Int)=(E 6 3))∧((((E 6 4):Int)=(E 6 4))∧True)))))∧(((((E 7 0):Int)=(E 7 0))∧((((E 7 1):Int)=(E 7 1))∧((((E 7 2):Int)=(E 7 2))∧((((E 7 3):Int)=(E 7 3))∧((((E 7 4):Int)=(E 7 4))∧True)))))∧(((((E 8 0):Int)=(E 8 0))∧((((E 8 1):Int)=(E 8 1))∧((((E 8 2):Int)=(E 8 2))∧((((E 8 3):Int)=(E 8 3))∧((((E 8 4):Int)=(E 8 4))∧True)))))∧True))))))))))∧True)))))))
def RY:Cf:=fun das=>match das with | [.st [.sl 1 A B,.sl 1 I J,.rr 1 n M f,.i .i64 r,.sl 5 O E]]=>some (cond (iW A I n M) (Nat.ble O 9) false,coS A B I J n M f r O E) | _=>none
theorem aad:Jj Tryz.prog 9 RY:=by
 intro das v hv
 unfold RY at hv
 split at hv
 ·rename_i A B I J n M f r O E
  have hb:=congrArg Prod.fst (Option.some.inj hv)
  have hv:=congrArg Prod.snd (Option.some.inj hv)
  subst hv
  obtain ⟨h1,h2⟩:=ah hb
  have h2:=Nat.le_of_ble_eq_true h2
  have:O=0∨O=1∨O=2∨O=3∨O=4∨O=5∨O=6∨O=7∨O=8∨O=9:=by omega
  rcases this with rfl | rfl | rfl | rfl | rfl | rfl | rfl | rfl | rfl | rfl
  ·exact aY aj nS (co0 A B I J n M f r E h1)
  ·exact aY aj nS (co1 A B I J n M f r E h1)
  ·exact aY aj nS (co2 A B I J n M f r E h1)
  ·exact aY aj nS (co3 A B I J n M f r E h1)
  ·exact aY aj nS (co4 A B I J n M f r E h1)
  ·exact aY aj nS (co5 A B I J n M f r E h1)
  ·exact aY aj nS (co6 A B I J n M f r E h1)
  ·exact aY aj nS (co7 A B I J n M f r E h1)
  ·exact aY aj nS (co8 A B I J n M f r E h1)
  ·exact aY aj nS (co9 A B I J n M f r E h1)
 ·cases hv
end
end Go.Proofs.YtiplgejpopellaaGreat
