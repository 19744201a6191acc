/- Casks: a list is one of casks of a blend: the contracts. -/
import Derived.Test.YtiplgejpopellaaGreatYPrS2
set_option linter.all false
set_option linter.unusedSimpArgs false
set_option linter.unusedVariables false
namespace Go.Proofs.YtiplgejpopellaaGreat
namespace BL
open Go Go.Ev
set_option maxRecDepth 1000000
set_option maxHeartbeats 0
noncomputable section
variable (A:Nat) (B:Nat→Nat→Int) (I:Nat) (J:Nat→Nat→Int) (n:Nat) (M:Nat→Nat) (f:Nat→Nat→Nat→Int)
def inH (O:Nat) (g:Nat→Nat→Int) (i:Nat):Bool:=kE (g i 0) O
def allH (O:Nat) (g:Nat→Nat→Int) (m:Nat):Bool:=eX (inH O g) m
def upH (g:Nat→Nat→Int) (i:Nat):Bool:=cond (ak (g (i+1) 0) (g i 0)) false true
def Ez (g:Nat→Nat→Int) (m:Nat):Bool:=eX (upH g) (Nat.sub m 1)
def hbB (O:Nat) (g:Nat→Nat→Int) (m:Nat):Bool:=cond (Nat.blt 0 m) (cond (allH O g m) (Ez g m) false) false
def clH (A:Nat) (B:Nat→Nat→Int) (I:Nat) (J:Nat→Nat→Int) (n:Nat) (M:Nat→Nat) (f:Nat→Nat→Nat→Int) (r:Int) (O:Nat) (E:Nat→Nat→Int):V := .func 53 [.agg 5 (T.setL .lf 0 [.fz true 1 (ae .i64 B) A 1,.fz true 2 (ae .i64 J) I 1,.fz true 3 (aQ 3 1 M f) n 1,.int .i64 r,.fz true 4 (ae .i64 E) O 5])] []
def ltH:LT:=⟨[1,7,8,9],[],[4],6⟩
def sH (A:Nat) (B:Nat→Nat→Int) (I:Nat) (J:Nat→Nat→Int) (n:Nat) (M:Nat→Nat) (f:Nat→Nat→Nat→Int) (r:Int) (O:Nat) (E:Nat→Nat→Int) (m:Nat) (g:Nat→Nat→Int) (k:Nat):LS:=⟨[clH A B I J n M f r O E,.fz true 0 (ae .i64 g) m 1,.int .i64 m,.int .i64 k],[]⟩
def bH:Code:=sub [1,0,1,0,0] (cZ Tryz.prog 71)
def ltU:LT:=⟨[0,3],[],[2],2⟩
def sU (m:Nat) (g:Nat→Nat→Int) (k:Nat):LS:=⟨[.fz true 0 (ae .i64 g) m 1,.int .i64 ((k:Int)+1)],[]⟩
def bU:Code:=sub [1,0,1,0,0] (cZ Tryz.prog 72)
theorem eU (m:Nat) (g:Nat→Nat→Int):VC (ql Tryz.prog az 300 72 [1,0,1,0] [.one (.sl 1 m g)] (aU 2) ltU 20 60 (sU m g 0)) .nil:=ai ((True∧(((((V.fz true 0 (ae .i64 g) m 1):V)=(V.fz true 0 (ae .i64 g) m 1))∧((((1):Int)=1)∧True))∧True)))
theorem rU1 (m:Nat) (g:Nat→Nat→Int) (k:Nat) (k1:k+1<m) (k2:m≤1000000) (k3:¬ g (k+1) 0≤g (Int.toNat ((k:Int)+1-1)) 0):VC (bM Tryz.prog az 300 bU (aU 2) ltU 20 60 (sU m g k) (.next (sU m g (k+1)))) (.go 5717 .nil):=ai (((not (ak (m:Int) ((k:Int)+1)))=true∧((Nat.blt (k+1) m)=true∧((small (((k:Int)+1)-(1)))=true∧((kE (((k:Int)+1)-(1)) m)=true∧((ak (g (k+1) 0) (g (Int.toNat (((k:Int)+1)-(1))) 0))=false∧((small (((k:Int)+1)+1))=true∧(((((V.fz true 0 (ae .i64 g) m 1):V)=(V.fz true 0 (ae .i64 g) m 1))∧((((((k:Int)+1)+1):Int)=((((k+1):Nat):Int)+1))∧True))∧True))))))))
theorem rU2 (m:Nat) (g:Nat→Nat→Int) (k:Nat) (k1:k+1<m) (k2:m≤1000000) (k3:g (k+1) 0≤g (Int.toNat ((k:Int)+1-1)) 0):VC (bM Tryz.prog az 300 bU (aU 2) ltU 20 60 (sU m g k) (.ret ⟨[.bool false],[]⟩)) (.go 1365 .nil):=ai (((not (ak (m:Int) ((k:Int)+1)))=true∧((Nat.blt (k+1) m)=true∧((small (((k:Int)+1)-(1)))=true∧((kE (((k:Int)+1)-(1)) m)=true∧((ak (g (k+1) 0) (g (Int.toNat (((k:Int)+1)-(1))) 0))=true∧(((false=false)∧True)∧True)))))))
theorem rU3 (m:Nat) (g:Nat→Nat→Int) (k:Nat) (k1:¬ k+1<m):VC (bM Tryz.prog az 300 bU (aU 2) ltU 20 60 (sU m g k) (.exit 0 ⟨[],[]⟩)) (.go 6 .nil):=ai (((not (ak (m:Int) ((k:Int)+1)))=false∧(True∧True)))
theorem fU1  : VC (fromD Tryz.prog az 300 72 [1,0,1,0] (Lv.res ltU 20 (iw (aU 2) ltU 60 (.exit 0 ⟨[],[]⟩)) (.exit 0 ⟨[],[]⟩)) (.bool true)) .nil:=ai ((true=true))
theorem fU2  : VC (fromD Tryz.prog az 300 72 [1,0,1,0] (Lv.res ltU 20 (iw (aU 2) ltU 60 (.ret ⟨[.bool false],[]⟩)) (.ret ⟨[.bool false],[]⟩)) (.bool false)) .nil:=ai ((false=false))
def abI:Val:=fun das=>match das with | [.one (.sl 1 m g),.cl 53 [.sl 1 A B,.sl 1 I J,.rr 1 n M f,.i .i64 r,.sl 5 O E]]=>some (cond (Nat.ble O 1000000) (Nat.ble m 1000000) false,.bool (allH O g m)) | _=>none
def valRs:Val:=fun das=>match das with | [.one (.sl 1 m g)]=>some (Nat.ble m 1000000,.bool (Ez g m)) | _=>none
theorem YD {g:Nat→Nat→Int} {k:Nat} (h:upH g k=true):¬ g (k+1) 0≤g (Int.toNat (((k:Nat):Int)+1-1)) 0:=by
 rw [show Int.toNat (((k:Nat):Int)+1-1)=k by omega]
 intro q
 unfold upH at h
 rw [← aW] at q
 rw [q] at h;cases h
theorem aav {g:Nat→Nat→Int} {k:Nat} (h:upH g k=false):g (k+1) 0≤g (Int.toNat (((k:Nat):Int)+1-1)) 0:=by
 rw [show Int.toNat (((k:Nat):Int)+1-1)=k by omega]
 unfold upH at h
 cases hq:ak (g (k+1) 0) (g k 0) with
 | true=>rw [aW] at hq;exact hq
 | false=>rw [hq] at h;cases h
theorem conRs:qi Tryz.prog 72 valRs:=by
 intro das v hv
 unfold valRs at hv
 split at hv
 ·rename_i m g
  have hb:=Nat.le_of_ble_eq_true (congrArg Prod.fst (Option.some.inj hv))
  have hv:=congrArg Prod.snd (Option.some.inj hv)
  subst hv
  refine ⟨rfl,?_⟩
  rcases gu (upH g) (Nat.sub m 1) with h | ⟨N,z1,z2,z3⟩
  ·have e:Ez g m=true:=bW h
   have hm:∀ k,k<Nat.sub m 1→k+1<m:=fun k hk=>by have:k<m-1:=hk;omega
   show ∃ v' H',SpecCall _ _ _ _ v' H'∧dB v' (.bool (Ez g m))
   rw [e]
   exact bV aj aG (das:=[.one (.sl 1 m g)]) (lv := .exit 0 ⟨[],[]⟩) (by kernel_rfl) (by kernel_rfl) (eU m g).ok (bz (body:=bU) (fun _ e=>by cases e) (Nat.sub m 1) (sU m g) (fun k hk =>
    aP aj aG (rU1 m g k (hm k hk) hb (YD (h k hk))).ok (by kernel_rfl) (by kernel_rfl)) (aP aj aG (rU3 m g (Nat.sub m 1) (by show ¬ (m-1)+1<m;omega)).ok (by kernel_rfl) (by kernel_rfl))) fU1.ok
  ·have e:Ez g m=false:=gK z1 z3
   have hm:∀ k,k<Nat.sub m 1→k+1<m:=fun k hk=>by have:k<m-1:=hk;omega
   show ∃ v' H',SpecCall _ _ _ _ v' H'∧dB v' (.bool (Ez g m))
   rw [e]
   exact bV aj aG (das:=[.one (.sl 1 m g)]) (lv := .ret ⟨[.bool false],[]⟩) (by kernel_rfl) (by kernel_rfl) (eU m g).ok (bz (body:=bU) (fun _ e=>by cases e) N (sU m g) (fun k hk =>
    aP aj aG (rU1 m g k (hm k (Nat.lt_trans hk z1)) hb (YD (z2 k hk))).ok (by kernel_rfl) (by kernel_rfl)) (aP aj aG (rU2 m g N (hm N z1) hb (aav z3)).ok (by kernel_rfl) (by kernel_rfl))) fU2.ok
 ·cases hv
def XHb:Ext:=jO [(71,cf abI),(72,cf valRs)] false
theorem hb0 (r:Int) (O:Nat) (E:Nat→Nat→Int) (g:Nat→Nat→Int):VC (dh Tryz.prog XHb 300 41 (enc [.st [.sl 1 A B,.sl 1 I J,.rr 1 n M f,.i .i64 r,.sl 5 O E],.one (.sl 1 0 g)] 0) 5 (fun v=>dB v (.bool false))) .nil:=ai ((false=false))
theorem hb1 (r:Int) (O:Nat) (E:Nat→Nat→Int) (m:Nat) (g:Nat→Nat→Int) (k1:0<m) (k2:m≤1000000) (k4:O≤1000000) (k3:allH O g m=false):VC (dh Tryz.prog XHb 300 41 (enc [.st [.sl 1 A B,.sl 1 I J,.rr 1 n M f,.i .i64 r,.sl 5 O E],.one (.sl 1 m g)] 0) 5 (fun v=>dB v (.bool false))) (.go 6209 .nil):=ai (((not (ak (m:Int) 0))=true∧((cond (cond (ay .i64 (ae .i64 g) m 1) (cond (cond (ay .i64 (ae .i64 B) A 1) (cond (ay .i64 (ae .i64 J) I 1) (cond (cond true (fZ 2 (aQ 2 1 M f) n 1) false) (cond (ay .i64 (ae .i64 E) O 5) true false) false) false) false) true false) false) (cond (Nat.ble O 1000000) (Nat.ble m 1000000) false) false)=true∧((allH O g m)=false∧(false=false)))))
theorem hb2 (r:Int) (O:Nat) (E:Nat→Nat→Int) (m:Nat) (g:Nat→Nat→Int) (k1:0<m) (k2:m≤1000000) (k4:O≤1000000) (k3:allH O g m=true):VC (dh Tryz.prog XHb 300 41 (enc [.st [.sl 1 A B,.sl 1 I J,.rr 1 n M f,.i .i64 r,.sl 5 O E],.one (.sl 1 m g)] 0) 5 (fun v=>dB v (.bool (Ez g m)))) (.go 83009 .nil):=ai (((not (ak (m:Int) 0))=true∧((cond (cond (ay .i64 (ae .i64 g) m 1) (cond (cond (ay .i64 (ae .i64 B) A 1) (cond (ay .i64 (ae .i64 J) I 1) (cond (cond true (fZ 2 (aQ 2 1 M f) n 1) false) (cond (ay .i64 (ae .i64 E) O 5) true false) false) false) false) true false) false) (cond (Nat.ble O 1000000) (Nat.ble m 1000000) false) false)=true∧((allH O g m)=true∧((cond (cond (ay .i64 (ae .i64 g) m 1) true false) (Nat.ble m 1000000) false)=true∧((Ez g m)=(Ez g m)))))))
def aaS:Val:=fun das=>match das with | [.st [.sl 1 A B,.sl 1 I J,.rr 1 n M f,.i .i64 r,.sl 5 O E],.one (.sl 1 m g)]=>some (cond (Nat.ble O 1000000) (Nat.ble m 1000000) false,.bool (hbB O g m)) | _=>none
end
end BL
end Go.Proofs.YtiplgejpopellaaGreat
