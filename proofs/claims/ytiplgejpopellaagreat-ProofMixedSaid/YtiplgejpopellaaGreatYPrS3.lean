/- Casks: a list is one of casks of a blend: the contracts. -/
import Derived.Test.YtiplgejpopellaaGreatYPrS2
set_option linter.all false
set_option linter.unusedSimpArgs false
set_option linter.unusedVariables false
namespace Go.Proofs.YtiplgejpopellaaGreat
namespace BL
open Go Go.Ev
set_option maxRecDepth 1000000
set_option maxHeartbeats 0
noncomputable section
variable (A:Nat) (B:Nat→Nat→Int) (I:Nat) (J:Nat→Nat→Int) (n:Nat) (M:Nat→Nat) (f:Nat→Nat→Nat→Int)
def inH (O:Nat) (g:Nat→Nat→Int) (i:Nat):Bool:=dZ (g i 0) O
def allH (O:Nat) (g:Nat→Nat→Int) (m:Nat):Bool:=fD (inH O g) m
def upH (g:Nat→Nat→Int) (i:Nat):Bool:=cond (ax (g (i+1) 0) (g i 0)) false true
def risH (g:Nat→Nat→Int) (m:Nat):Bool:=fD (upH g) (Nat.sub m 1)
def hbB (O:Nat) (g:Nat→Nat→Int) (m:Nat):Bool:=cond (Nat.blt 0 m) (cond (allH O g m) (risH g m) false) false
def clH (A:Nat) (B:Nat→Nat→Int) (I:Nat) (J:Nat→Nat→Int) (n:Nat) (M:Nat→Nat) (f:Nat→Nat→Nat→Int) (r:Int) (O:Nat) (E:Nat→Nat→Int):V := .func 53 [.agg 5 (T.setL .lf 0 [.fz true 1 (ae .i64 B) A 1,.fz true 2 (ae .i64 J) I 1,.fz true 3 (aC 3 1 M f) n 1,.int .i64 r,.fz true 4 (ae .i64 E) O 5])] []
def ltH:LT:=⟨[1,7,8,9],[],[4],6⟩
def sH (A:Nat) (B:Nat→Nat→Int) (I:Nat) (J:Nat→Nat→Int) (n:Nat) (M:Nat→Nat) (f:Nat→Nat→Nat→Int) (r:Int) (O:Nat) (E:Nat→Nat→Int) (m:Nat) (g:Nat→Nat→Int) (k:Nat):LS:=⟨[clH A B I J n M f r O E,.fz true 0 (ae .i64 g) m 1,.int .i64 m,.int .i64 k],[]⟩
def bH:Code:=sub [1,0,1,0,0] (dB Tryz.prog 71)
def ltU:LT:=⟨[0,3],[],[2],2⟩
def sU (m:Nat) (g:Nat→Nat→Int) (k:Nat):LS:=⟨[.fz true 0 (ae .i64 g) m 1,.int .i64 ((k:Int)+1)],[]⟩
def bU:Code:=sub [1,0,1,0,0] (dB Tryz.prog 72)
theorem eH (r:Int) (O:Nat) (E:Nat→Nat→Int) (m:Nat) (g:Nat→Nat→Int):VC (lY Tryz.prog az 300 71 [1,0,1,0] [.one (.sl 1 m g),.cl 53 [.sl 1 A B,.sl 1 I J,.rr 1 n M f,.i .i64 r,.sl 5 O E]] (aP 6) ltH 18 60 (sH A B I J n M f r O E m g 0)) .nil:=ai ((True∧((((V.func 53
 [V.agg (gG [D0.sl 1 A B,D0.sl 1 I J,D0.rr 1 n M f,D0.i IntKind.i64 r,D0.sl 5 O E])
  (T.lf.setL 0
   (jG [D0.sl 1 A B,D0.sl 1 I J,D0.rr 1 n M f,D0.i IntKind.i64 r,D0.sl 5 O E]
    (nxD (DA.one (D0.sl 1 m g)) 0)))]
 []:V)=V.func 53
 [V.agg 5
  (T.lf.setL 0
   [V.fz true 1 (ae .i64 B) A 1,V.fz true 2 (ae .i64 J) I 1,
    V.fz true 3 (aC 3 1 M f) n 1,V.int IntKind.i64 r,V.fz true 4 (ae .i64 E) O 5])]
 [])∧((((V.fz true 0 (ae .i64 g) m 1):V)=(V.fz true 0 (ae .i64 g) m 1))∧(((((m:Nat):Int):Int)=((m:Nat):Int))∧((((0):Int)=(0))∧True))))∧True)))
theorem rH1 (r:Int) (O:Nat) (E:Nat→Nat→Int) (m:Nat) (g:Nat→Nat→Int) (k:Nat) (k1:k<m) (k2:m≤1000000) (k4:O≤1000000) (k3:0≤g k 0∧g k 0<O):VC (aT Tryz.prog az 300 bH (aP 6) ltH 18 60 (sH A B I J n M f r O E m g k) (.next (sH A B I J n M f r O E m g (k+1)))) (.go 1441813 .nil):=ai (((not (ax (m:Int) (k:Int)))=true∧((Nat.blt k m)=true∧((ax 0 (g k 0))=true∧((not (not (ax (O:Int) (g k 0))))=false∧((small ((k:Int)+1))=true∧((((V.func 53
 [V.agg 5
  (T.lf.setL 0
   [V.fz true 1 (ae .i64 B) A 1,V.fz true 2 (ae .i64 J) I 1,
    V.fz true 3 (aC 3 1 M f) n 1,V.int IntKind.i64 r,V.fz true 4 (ae .i64 E) O 5])]
 []:V)=V.func 53
 [V.agg 5
  (T.lf.setL 0
   [V.fz true 1 (ae .i64 B) A 1,V.fz true 2 (ae .i64 J) I 1,
    V.fz true 3 (aC 3 1 M f) n 1,V.int IntKind.i64 r,V.fz true 4 (ae .i64 E) O 5])]
 [])∧((((V.fz true 0 (ae .i64 g) m 1):V)=(V.fz true 0 (ae .i64 g) m 1))∧(((((m:Nat):Int):Int)=((m:Nat):Int))∧((((((k:Nat):Int)+(1)):Int)=(((k+1):Nat):Int))∧True))))∧True)))))))
theorem rH2 (r:Int) (O:Nat) (E:Nat→Nat→Int) (m:Nat) (g:Nat→Nat→Int) (k:Nat) (k1:k<m) (k2:m≤1000000) (k4:O≤1000000) (k3:¬ (0≤g k 0∧g k 0<O)):VC (aT Tryz.prog az 300 bH (aP 6) ltH 18 60 (sH A B I J n M f r O E m g k) (.ret ⟨[.bool false],[]⟩)) (.go 21 (.sp (.go 5120 .nil) .nil)):=ai (((not (ax (m:Int) (k:Int)))=true∧((Nat.blt k m)=true∧(((ax 0 (g k 0))=true→((not (not (ax (O:Int) (g k 0))))=true∧(((false=false)∧True)∧True))) ∧
 ((ax (0) (g k 0))=false→(((false=false)∧True)∧True))))))
theorem rH3 (r:Int) (O:Nat) (E:Nat→Nat→Int) (m:Nat) (g:Nat→Nat→Int) (k:Nat) (k1:¬ k<m):VC (aT Tryz.prog az 300 bH (aP 6) ltH 18 60 (sH A B I J n M f r O E m g k) (.exit 0 ⟨[],[]⟩)) (.go 6 .nil):=ai (((not (ax (m:Int) (k:Int)))=false∧(True∧True)))
theorem fH1  : VC (fromD Tryz.prog az 300 71 [1,0,1,0] (Lv.res ltH 18 (jo (aP 6) ltH 60 (.exit 0 ⟨[],[]⟩)) (.exit 0 ⟨[],[]⟩)) (.bool true)) .nil:=ai ((true=true))
theorem fH2  : VC (fromD Tryz.prog az 300 71 [1,0,1,0] (Lv.res ltH 18 (jo (aP 6) ltH 60 (.ret ⟨[.bool false],[]⟩)) (.ret ⟨[.bool false],[]⟩)) (.bool false)) .nil:=ai ((false=false))
theorem eU (m:Nat) (g:Nat→Nat→Int):VC (lY Tryz.prog az 300 72 [1,0,1,0] [.one (.sl 1 m g)] (aP 2) ltU 20 60 (sU m g 0)) .nil:=ai ((True∧(((((V.fz true 0 (ae .i64 g) m 1):V)=(V.fz true 0 (ae .i64 g) m 1))∧((((1):Int)=1)∧True))∧True)))
theorem rU1 (m:Nat) (g:Nat→Nat→Int) (k:Nat) (k1:k+1<m) (k2:m≤1000000) (k3:¬ g (k+1) 0≤g (Int.toNat ((k:Int)+1-1)) 0):VC (aT Tryz.prog az 300 bU (aP 2) ltU 20 60 (sU m g k) (.next (sU m g (k+1)))) (.go 5717 .nil):=ai (((not (ax (m:Int) ((k:Int)+1)))=true∧((Nat.blt (k+1) m)=true∧((small (((k:Int)+1)-(1)))=true∧((dZ (((k:Int)+1)-(1)) m)=true∧((ax (g (k+1) 0) (g (Int.toNat (((k:Int)+1)-(1))) 0))=false∧((small (((k:Int)+1)+1))=true∧(((((V.fz true 0 (ae .i64 g) m 1):V)=(V.fz true 0 (ae .i64 g) m 1))∧((((((k:Int)+1)+1):Int)=((((k+1):Nat):Int)+1))∧True))∧True))))))))
theorem rU2 (m:Nat) (g:Nat→Nat→Int) (k:Nat) (k1:k+1<m) (k2:m≤1000000) (k3:g (k+1) 0≤g (Int.toNat ((k:Int)+1-1)) 0):VC (aT Tryz.prog az 300 bU (aP 2) ltU 20 60 (sU m g k) (.ret ⟨[.bool false],[]⟩)) (.go 1365 .nil):=ai (((not (ax (m:Int) ((k:Int)+1)))=true∧((Nat.blt (k+1) m)=true∧((small (((k:Int)+1)-(1)))=true∧((dZ (((k:Int)+1)-(1)) m)=true∧((ax (g (k+1) 0) (g (Int.toNat (((k:Int)+1)-(1))) 0))=true∧(((false=false)∧True)∧True)))))))
theorem rU3 (m:Nat) (g:Nat→Nat→Int) (k:Nat) (k1:¬ k+1<m):VC (aT Tryz.prog az 300 bU (aP 2) ltU 20 60 (sU m g k) (.exit 0 ⟨[],[]⟩)) (.go 6 .nil):=ai (((not (ax (m:Int) ((k:Int)+1)))=false∧(True∧True)))
theorem fU1  : VC (fromD Tryz.prog az 300 72 [1,0,1,0] (Lv.res ltU 20 (jo (aP 2) ltU 60 (.exit 0 ⟨[],[]⟩)) (.exit 0 ⟨[],[]⟩)) (.bool true)) .nil:=ai ((true=true))
theorem fU2  : VC (fromD Tryz.prog az 300 72 [1,0,1,0] (Lv.res ltU 20 (jo (aP 2) ltU 60 (.ret ⟨[.bool false],[]⟩)) (.ret ⟨[.bool false],[]⟩)) (.bool false)) .nil:=ai ((false=false))
def SH:Val:=fun das=>match das with | [.one (.sl 1 m g),.cl 53 [.sl 1 A B,.sl 1 I J,.rr 1 n M f,.i .i64 r,.sl 5 O E]]=>some (cond (Nat.ble O 1000000) (Nat.ble m 1000000) false,.bool (allH O g m)) | _=>none
def Uj:Val:=fun das=>match das with | [.one (.sl 1 m g)]=>some (Nat.ble m 1000000,.bool (risH g m)) | _=>none
theorem aak:qi Tryz.prog 71 SH:=by
 intro das v hv
 unfold SH at hv
 split at hv
 ·rename_i m g A B I J n M f r O E
  have hb:=congrArg Prod.fst (Option.some.inj hv)
  have hv:=congrArg Prod.snd (Option.some.inj hv)
  subst hv
  obtain ⟨hc,hb⟩:=ah hb
  have hb:=Nat.le_of_ble_eq_true hb
  have hc:=Nat.le_of_ble_eq_true hc
  refine ⟨rfl,?_⟩
  have ht:∀ k,inH O g k=true→0≤g k 0∧g k 0<O:=fun k h=>by unfold inH at h;rw [iZ] at h;exact h
  have hf:∀ k,inH O g k=false→¬ (0≤g k 0∧g k 0<O):=fun k h q=>by
   have:inH O g k=true:=by unfold inH;rw [iZ];exact q
   rw [this] at h;cases h
  rcases fC (inH O g) m with h | ⟨N,z1,z2,z3⟩
  ·have e:allH O g m=true:=bF h
   show ∃ v' H',SpecCall _ _ _ _ v' H'∧bW v' (.bool (allH O g m))
   rw [e]
   exact bn aj ak (das:=[.one (.sl 1 m g),.cl 53 [.sl 1 A B,.sl 1 I J,.rr 1 n M f,.i .i64 r,.sl 5 O E]]) (lv := .exit 0 ⟨[],[]⟩) (by kernel_rfl) (by kernel_rfl) (eH A B I J n M f r O E m g).ok (bg (body:=bH) (fun _ e=>by cases e) m (sH A B I J n M f r O E m g) (fun k hk =>
    aF aj ak (rH1 A B I J n M f r O E m g k hk hb hc (ht k (h k hk))).ok (by kernel_rfl) (by kernel_rfl)) (aF aj ak (rH3 A B I J n M f r O E m g m (by omega)).ok (by kernel_rfl) (by kernel_rfl))) fH1.ok
  ·have e:allH O g m=false:=eP z1 z3
   show ∃ v' H',SpecCall _ _ _ _ v' H'∧bW v' (.bool (allH O g m))
   rw [e]
   exact bn aj ak (das:=[.one (.sl 1 m g),.cl 53 [.sl 1 A B,.sl 1 I J,.rr 1 n M f,.i .i64 r,.sl 5 O E]]) (lv := .ret ⟨[.bool false],[]⟩) (by kernel_rfl) (by kernel_rfl) (eH A B I J n M f r O E m g).ok (bg (body:=bH) (fun _ e=>by cases e) N (sH A B I J n M f r O E m g) (fun k hk =>
    aF aj ak (rH1 A B I J n M f r O E m g k (by omega) hb hc (ht k (z2 k hk))).ok (by kernel_rfl) (by kernel_rfl)) (aF aj ak (rH2 A B I J n M f r O E m g N z1 hb hc (hf N z3)).ok (by kernel_rfl) (by kernel_rfl))) fH2.ok
 ·cases hv
theorem Xq {g:Nat→Nat→Int} {k:Nat} (h:upH g k=true):¬ g (k+1) 0≤g (Int.toNat (((k:Nat):Int)+1-1)) 0:=by
 rw [show Int.toNat (((k:Nat):Int)+1-1)=k by omega]
 intro q
 unfold upH at h
 rw [← aU] at q
 rw [q] at h;cases h
theorem Y4 {g:Nat→Nat→Int} {k:Nat} (h:upH g k=false):g (k+1) 0≤g (Int.toNat (((k:Nat):Int)+1-1)) 0:=by
 rw [show Int.toNat (((k:Nat):Int)+1-1)=k by omega]
 unfold upH at h
 cases hq:ax (g (k+1) 0) (g k 0) with
 | true=>rw [aU] at hq;exact hq
 | false=>rw [hq] at h;cases h
theorem Y7:qi Tryz.prog 72 Uj:=by
 intro das v hv
 unfold Uj at hv
 split at hv
 ·rename_i m g
  have hb:=Nat.le_of_ble_eq_true (congrArg Prod.fst (Option.some.inj hv))
  have hv:=congrArg Prod.snd (Option.some.inj hv)
  subst hv
  refine ⟨rfl,?_⟩
  rcases fC (upH g) (Nat.sub m 1) with h | ⟨N,z1,z2,z3⟩
  ·have e:risH g m=true:=bF h
   have hm:∀ k,k<Nat.sub m 1→k+1<m:=fun k hk=>by have:k<m-1:=hk;omega
   show ∃ v' H',SpecCall _ _ _ _ v' H'∧bW v' (.bool (risH g m))
   rw [e]
   exact bn aj ak (das:=[.one (.sl 1 m g)]) (lv := .exit 0 ⟨[],[]⟩) (by kernel_rfl) (by kernel_rfl) (eU m g).ok (bg (body:=bU) (fun _ e=>by cases e) (Nat.sub m 1) (sU m g) (fun k hk =>
    aF aj ak (rU1 m g k (hm k hk) hb (Xq (h k hk))).ok (by kernel_rfl) (by kernel_rfl)) (aF aj ak (rU3 m g (Nat.sub m 1) (by show ¬ (m-1)+1<m;omega)).ok (by kernel_rfl) (by kernel_rfl))) fU1.ok
  ·have e:risH g m=false:=eP z1 z3
   have hm:∀ k,k<Nat.sub m 1→k+1<m:=fun k hk=>by have:k<m-1:=hk;omega
   show ∃ v' H',SpecCall _ _ _ _ v' H'∧bW v' (.bool (risH g m))
   rw [e]
   exact bn aj ak (das:=[.one (.sl 1 m g)]) (lv := .ret ⟨[.bool false],[]⟩) (by kernel_rfl) (by kernel_rfl) (eU m g).ok (bg (body:=bU) (fun _ e=>by cases e) N (sU m g) (fun k hk =>
    aF aj ak (rU1 m g k (hm k (Nat.lt_trans hk z1)) hb (Xq (z2 k hk))).ok (by kernel_rfl) (by kernel_rfl)) (aF aj ak (rU2 m g N (hm N z1) hb (Y4 z3)).ok (by kernel_rfl) (by kernel_rfl))) fU2.ok
 ·cases hv
def XHb:Ext:=ku [(71,cf SH),(72,cf Uj)] false
theorem JG:dE Tryz.prog XHb:=dH (aA (dw aak)<|aA (dw Y7) bJ)
theorem hb0 (r:Int) (O:Nat) (E:Nat→Nat→Int) (g:Nat→Nat→Int):VC (bK Tryz.prog XHb 300 41 (enc [.st [.sl 1 A B,.sl 1 I J,.rr 1 n M f,.i .i64 r,.sl 5 O E],.one (.sl 1 0 g)] 0) 5 (fun v=>bW v (.bool false))) .nil:=ai ((false=false))
theorem hb1 (r:Int) (O:Nat) (E:Nat→Nat→Int) (m:Nat) (g:Nat→Nat→Int) (k1:0<m) (k2:m≤1000000) (k4:O≤1000000) (k3:allH O g m=false):VC (bK Tryz.prog XHb 300 41 (enc [.st [.sl 1 A B,.sl 1 I J,.rr 1 n M f,.i .i64 r,.sl 5 O E],.one (.sl 1 m g)] 0) 5 (fun v=>bW v (.bool false))) (.go 6209 .nil):=ai (((not (ax (m:Int) 0))=true∧((cond (cond (aV .i64 (ae .i64 g) m 1) (cond (cond (aV .i64 (ae .i64 B) A 1) (cond (aV .i64 (ae .i64 J) I 1) (cond (cond true (je 2 (aC 2 1 M f) n 1) false) (cond (aV .i64 (ae .i64 E) O 5) true false) false) false) false) true false) false) (cond (Nat.ble O 1000000) (Nat.ble m 1000000) false) false)=true∧((BL.allH O g m)=false∧(false=false)))))
theorem hb2 (r:Int) (O:Nat) (E:Nat→Nat→Int) (m:Nat) (g:Nat→Nat→Int) (k1:0<m) (k2:m≤1000000) (k4:O≤1000000) (k3:allH O g m=true):VC (bK Tryz.prog XHb 300 41 (enc [.st [.sl 1 A B,.sl 1 I J,.rr 1 n M f,.i .i64 r,.sl 5 O E],.one (.sl 1 m g)] 0) 5 (fun v=>bW v (.bool (risH g m)))) (.go 83009 .nil):=ai (((not (ax (m:Int) 0))=true∧((cond (cond (aV .i64 (ae .i64 g) m 1) (cond (cond (aV .i64 (ae .i64 B) A 1) (cond (aV .i64 (ae .i64 J) I 1) (cond (cond true (je 2 (aC 2 1 M f) n 1) false) (cond (aV .i64 (ae .i64 E) O 5) true false) false) false) false) true false) false) (cond (Nat.ble O 1000000) (Nat.ble m 1000000) false) false)=true∧((BL.allH O g m)=true∧((cond (cond (aV .i64 (ae .i64 g) m 1) true false) (Nat.ble m 1000000) false)=true∧((BL.risH g m)=(BL.risH g m)))))))
def RH:Val:=fun das=>match das with | [.st [.sl 1 A B,.sl 1 I J,.rr 1 n M f,.i .i64 r,.sl 5 O E],.one (.sl 1 m g)]=>some (cond (Nat.ble O 1000000) (Nat.ble m 1000000) false,.bool (hbB O g m)) | _=>none
theorem Zm:qi Tryz.prog 41 RH:=by
 intro das v hv
 unfold RH at hv
 split at hv
 ·rename_i A B I J n M f r O E m g
  have hb:=congrArg Prod.fst (Option.some.inj hv)
  have hv:=congrArg Prod.snd (Option.some.inj hv)
  subst hv
  obtain ⟨hc,hb⟩:=ah hb
  have hb:=Nat.le_of_ble_eq_true hb
  have hc:=Nat.le_of_ble_eq_true hc
  cases m with
  | zero=>exact aK aj JG rfl (das:=[.st [.sl 1 A B,.sl 1 I J,.rr 1 n M f,.i .i64 r,.sl 5 O E],.one (.sl 1 0 g)]) (hb0 A B I J n M f r O E g)
  | succ j =>
   cases ha:allH O g (Nat.succ j) with
   | false =>
    have e:hbB O g (Nat.succ j)=false:=by unfold hbB;rw [ha];rfl
    rw [e]
    exact aK aj JG rfl (das:=[.st [.sl 1 A B,.sl 1 I J,.rr 1 n M f,.i .i64 r,.sl 5 O E],.one (.sl 1 (Nat.succ j) g)]) (hb1 A B I J n M f r O E (Nat.succ j) g (by omega) hb hc ha)
   | true =>
    have e:hbB O g (Nat.succ j)=risH g (Nat.succ j):=by unfold hbB;rw [ha];rfl
    rw [e]
    exact aK aj JG rfl (das:=[.st [.sl 1 A B,.sl 1 I J,.rr 1 n M f,.i .i64 r,.sl 5 O E],.one (.sl 1 (Nat.succ j) g)]) (hb2 A B I J n M f r O E (Nat.succ j) g (by omega) hb hc ha)
 ·cases hv
end
end BL
end Go.Proofs.YtiplgejpopellaaGreat
