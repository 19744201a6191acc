/- Tables: contracts: the law's Thin, and its copy of a table. -/
import Derived.Test.YtiplgejpopellaaGreatYTaA0
import Derived.Test.YtiplgejpopellaaGreatYEe
set_option linter.all false
set_option linter.unusedSimpArgs false
set_option linter.unusedVariables false
namespace Go.Proofs.YtiplgejpopellaaGreat
open Go Go.Ev
set_option maxRecDepth 1000000
noncomputable section
variable (A:Nat) (B:Nat→Nat→Int) (I:Nat) (J:Nat→Nat→Int) (n:Nat) (M:Nat→Nat) (f:Nat→Nat→Nat→Int)
def shB (M:Nat→Nat) (i:Nat):Bool:=Nat.ble (M i) 8
def iW (A I n:Nat) (M:Nat→Nat):Bool:=cond (Nat.ble A 8) (cond (Nat.ble I 8) (cond (Nat.ble n 8) (eX (shB M) n) false) false) false
theorem Fa {A I n:Nat} {M:Nat→Nat} (h:iW A I n M=true):A≤8∧I≤8∧n≤8∧∀ i,i<n→M i≤8:=by
 obtain ⟨h1,h⟩:=ah h
 obtain ⟨h2,h⟩:=ah h
 obtain ⟨h3,h4⟩:=ah h
 exact ⟨Nat.le_of_ble_eq_true h1,Nat.le_of_ble_eq_true h2,Nat.le_of_ble_eq_true h3,fun i hi=>Nat.le_of_ble_eq_true (aX h4 i hi)⟩
def rowT (A:Nat) (B:Nat→Nat→Int) (I:Nat) (J:Nat→Nat→Int) (n:Nat) (M:Nat→Nat) (f:Nat→Nat→Nat→Int) (a:Nat):List V:=mX [.sl 1 A B,.sl 1 I J,.rr 1 n M f] a
def lI (A:Nat) (B:Nat→Nat→Int) (I:Nat) (J:Nat→Nat→Int) (n:Nat) (M:Nat→Nat) (f:Nat→Nat→Nat→Int):EH:=⟨setAt [(4,rowT A B I J n M f 0)] .lf,5,.lf,big⟩
def ltT:LT:=⟨[1,3],[],[2],5⟩
def sT (k:Nat):LS:=⟨[.ptr 4 0,.int .i64 k],[]⟩
def bT:Code:=sub [1,1,0,1,0,0] (cZ Tryz.prog 23)
theorem eT (h1:A≤8) (h2:I≤8) (h3:n≤8):VC (ql Tryz.prog az 300 23 [1,1,0,1,0] [.st [.sl 1 A B,.sl 1 I J,.rr 1 n M f]] (lI A B I J n M f) ltT 34 60 (sT 0)) (.go 6293506 .nil):=ai (((not (ak (A:Int) 8))=false∧((not (ak (I:Int) 8))=false∧((not (ak (n:Int) 8))=false∧((True∧(True∧(True∧((((((V.fz true 0 (ae .i64 B) A 1):V)=(V.fz true 0 (ae .i64 B) A 1))∧(((((V.fz true 1 (ae .i64 J) I 1):V)=(V.fz true 1 (ae .i64 J) I 1))∧(True∧True))∧((((V.fz true 2 (fun i x=>V.fz true (jV (D0.sl 1 I J) (jV (D0.sl 1 A B) 0)) (ae .i64 (f i)) (M i) 1) n 1):V)=(V.fz true 2 (fun i x=>V.fz true (jV (D0.sl 1 I J) (jV (D0.sl 1 A B) 0)) (ae .i64 (f i)) (M i) 1) n 1))∧(True∧True))))∧(True∧True))∧True))))∧(((((V.ptr 4 0):V)=(V.ptr 4 0))∧((((0):Int)=((0:Nat):Int))∧True))∧True))))))
theorem rT1 (k:Nat) (h1:k<n) (h2:n≤8) (h3:M k≤8):VC (bM Tryz.prog az 300 bT (lI A B I J n M f) ltT 34 60 (sT k) (.next (sT (k+1)))) (.go 357 .nil):=ai (((not (ak (n:Int) (k:Int)))=true∧((Nat.blt k n)=true∧((not (ak (((M k):Nat):Int) 8))=false∧((small ((k:Int)+1))=true∧(((((V.ptr 4 0):V)=(V.ptr 4 0))∧(((((k:Int)+1):Int)=(((k+1):Nat):Int))∧True))∧True))))))
theorem rT2 (k:Nat) (h1:k<n) (h2:n≤8) (h3:¬ M k≤8):VC (bM Tryz.prog az 300 bT (lI A B I J n M f) ltT 34 60 (sT k) (.ret ⟨[.bool false],[]⟩)) (.go 85 .nil):=ai (((not (ak (n:Int) (k:Int)))=true∧((Nat.blt k n)=true∧((not (ak (((M k):Nat):Int) 8))=true∧(((false=false)∧True)∧True)))))
theorem rT3 (k:Nat) (h1:¬ k<n):VC (bM Tryz.prog az 300 bT (lI A B I J n M f) ltT 34 60 (sT k) (.exit 0 ⟨[],[]⟩)) (.go 6 .nil):=ai (((not (ak (n:Int) (k:Int)))=false∧(True∧True)))
theorem fT1:VC (fromD Tryz.prog az 300 23 [1,1,0,1,0] (Lv.res ltT 34 (iw (lI A B I J n M f) ltT 60 (.exit 0 ⟨[],[]⟩)) (.exit 0 ⟨[],[]⟩)) (.bool true)) .nil:=ai ((true=true))
theorem fT2:VC (fromD Tryz.prog az 300 23 [1,1,0,1,0] (Lv.res ltT 34 (iw (lI A B I J n M f) ltT 60 (.ret ⟨[.bool false],[]⟩)) (.ret ⟨[.bool false],[]⟩)) (.bool false)) .nil:=ai ((false=false))
theorem lT (h:¬ (A≤8∧I≤8∧n≤8)):VC (dh Tryz.prog az 300 23 (enc [.st [.sl 1 A B,.sl 1 I J,.rr 1 n M f]] 0) 3 (fun v=>dB v (.bool false))) (.sp .nil (.go 256 (.sp .nil (.go 1280 .nil)))):=ai ((((not (ak (A:Int) 8))=true→(false=false)) ∧
 ((not (ak ((A:Nat):Int) (8)))=false→(((not (ak ((I:Nat):Int) (8)))=true→(false=false)) ∧
 ((not (ak ((I:Nat):Int) (8)))=false→((not (ak ((n:Nat):Int) (8)))=true∧(false=false)))))))
def U7:Val:=fun das=>match das with | [.st [.sl 1 A B,.sl 1 I J,.rr 1 n M f]]=>some (true,.bool (iW A I n M)) | _=>none
theorem aa8:qi Tryz.prog 23 U7:=by
 intro das v hv
 unfold U7 at hv
 split at hv
 ·rename_i A B I J n M f
  have hv:=congrArg Prod.snd (Option.some.inj hv)
  subst hv
  refine ⟨rfl,?_⟩
  by_cases h:A≤8∧I≤8∧n≤8
  ·obtain ⟨h1,h2,h3⟩:=h
   have e0:iW A I n M=eX (shB M) n:=by unfold iW;rw [dV h1,dV h2,dV h3];rfl
   rw [e0]
   rcases gu (shB M) n with h | ⟨N,k1,k2,k3⟩
   ·rw [bW h]
    exact bV aj aG (das:=[.st [.sl 1 A B,.sl 1 I J,.rr 1 n M f]]) (lv := .exit 0 ⟨[],[]⟩) (by kernel_rfl) (by kernel_rfl) (eT A B I J n M f h1 h2 h3).ok (bz (body:=bT) (fun _ e=>by cases e) n sT (fun k hk =>
     aP aj aG (rT1 A B I J n M f k hk h3 (Nat.le_of_ble_eq_true (h k hk))).ok (by kernel_rfl) (by kernel_rfl)) (aP aj aG (rT3 A B I J n M f n (by omega)).ok (by kernel_rfl) (by kernel_rfl))) (fT1 A B I J n M f).ok
   ·rw [gK k1 k3]
    have k4:¬ M N≤8:=fun q=>by
     have:shB M N=true:=dV q
     rw [this] at k3;cases k3
    exact bV aj aG (das:=[.st [.sl 1 A B,.sl 1 I J,.rr 1 n M f]]) (lv := .ret ⟨[.bool false],[]⟩) (by kernel_rfl) (by kernel_rfl) (eT A B I J n M f h1 h2 h3).ok (bz (body:=bT) (fun _ e=>by cases e) N sT (fun k hk =>
     aP aj aG (rT1 A B I J n M f k (by omega) h3 (Nat.le_of_ble_eq_true (k2 k hk))).ok (by kernel_rfl) (by kernel_rfl)) (aP aj aG (rT2 A B I J n M f N k1 h3 k4).ok (by kernel_rfl) (by kernel_rfl))) (fT2 A B I J n M f).ok
  ·have e0:iW A I n M=false:=by
    cases q:iW A I n M with
    | false=>rfl
    | true=>have:=Fa q;exact absurd ⟨this.1,this.2.1,this.2.2.1⟩ h
   rw [e0]
   exact (bn aj aG rfl (das:=[.st [.sl 1 A B,.sl 1 I J,.rr 1 n M f]]) (lT A B I J n M f h)).2
 ·cases hv
end
end Go.Proofs.YtiplgejpopellaaGreat
