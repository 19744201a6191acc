/- Tables: contracts: the law's Thin, and its copy of a table. -/
import Derived.Test.YtclagbonpachfaaGreatYTaA0
import Derived.Test.YtclagbonpachfaaGreatYEe
set_option linter.all false
set_option linter.unusedSimpArgs false
set_option linter.unusedVariables false
namespace Go.Proofs.YtclagbonpachfaaGreat
open Go Go.Ev
set_option maxRecDepth 1000000
noncomputable section
variable (lw:Nat) (fw:Nat→Nat→Int) (lm:Nat) (fm:Nat→Nat→Int) (n:Nat) (ls:Nat→Nat) (f:Nat→Nat→Nat→Int)
def shB (ls:Nat→Nat) (i:Nat):Bool:=Nat.ble (ls i) 8
def thB (lw lm n:Nat) (ls:Nat→Nat):Bool:=cond (Nat.ble lw 8) (cond (Nat.ble lm 8) (cond (Nat.ble n 8) (allN (shB ls) n) false) false) false
theorem thB_get {lw lm n:Nat} {ls:Nat→Nat} (h:thB lw lm n ls=true):lw≤8∧lm≤8∧n≤8∧∀ i,i<n→ls i≤8:=by
  obtain ⟨h1,h⟩:=cond_tt h
  obtain ⟨h2,h⟩:=cond_tt h
  obtain ⟨h3,h4⟩:=cond_tt h
  exact ⟨Nat.le_of_ble_eq_true h1,Nat.le_of_ble_eq_true h2,Nat.le_of_ble_eq_true h3,fun i hi=>Nat.le_of_ble_eq_true (allN_get h4 i hi)⟩
def rowT (lw:Nat) (fw:Nat→Nat→Int) (lm:Nat) (fm:Nat→Nat→Int) (n:Nat) (ls:Nat→Nat) (f:Nat→Nat→Nat→Int) (a:Nat):List V:=encL [.sl 1 lw fw,.sl 1 lm fm,.rr 1 n ls f] a
def baseT (lw:Nat) (fw:Nat→Nat→Int) (lm:Nat) (fm:Nat→Nat→Int) (n:Nat) (ls:Nat→Nat) (f:Nat→Nat→Nat→Int):EH:=⟨setAt [(4,rowT lw fw lm fm n ls f 0)] .lf,5,.lf,big⟩
def ltT:LT:=⟨[1,3],[],[2],5⟩
def sT (k:Nat):LS:=⟨[.ptr 4 0,.int .i64 k],[]⟩
def bT:Code:=sub [1,1,0,1,0,0] (bodyOf Tryz.prog 29)
theorem eT (h1:lw≤8) (h2:lm≤8) (h3:n≤8):VC (entD Tryz.prog noExt 300 29 [1,1,0,1,0] [.st [.sl 1 lw fw,.sl 1 lm fm,.rr 1 n ls f]] (baseT lw fw lm fm n ls f) ltT 34 60 (sT 0)) (.go 6293506 .nil):=VC_of (((not (iLe ((lw:Nat):Int) (8)))=false∧((not (iLe ((lm:Nat):Int) (8)))=false∧((not (iLe ((n:Nat):Int) (8)))=false∧((True∧(True∧(True∧((((((V.fz true 0 (cellsI .i64 fw) lw 1):V)=(V.fz true 0 (cellsI .i64 fw) lw 1))∧(((((V.fz true 1 (cellsI .i64 fm) lm 1):V)=(V.fz true 1 (cellsI .i64 fm) lm 1))∧(True∧True))∧((((V.fz true 2 (fun i x=>V.fz true (nxA (D0.sl 1 lm fm) (nxA (D0.sl 1 lw fw) 0)) (cellsI .i64 (f i)) (ls i) 1) n 1):V)=(V.fz true 2 (fun i x=>V.fz true (nxA (D0.sl 1 lm fm) (nxA (D0.sl 1 lw fw) 0)) (cellsI .i64 (f i)) (ls i) 1) n 1))∧(True∧True))))∧(True∧True))∧True))))∧(((((V.ptr 4 0):V)=(V.ptr 4 0))∧((((0):Int)=((0:Nat):Int))∧True))∧True))))))
theorem rT1 (k:Nat) (h1:k<n) (h2:n≤8) (h3:ls k≤8):VC (roundD Tryz.prog noExt 300 bT (baseT lw fw lm fm n ls f) ltT 34 60 (sT k) (.next (sT (k+1)))) (.go 357 .nil):=VC_of (((not (iLe ((n:Nat):Int) ((k:Nat):Int)))=true∧((Nat.blt k n)=true∧((not (iLe (((ls k):Nat):Int) (8)))=false∧((small (((k:Nat):Int)+(1)))=true∧(((((V.ptr 4 0):V)=(V.ptr 4 0))∧((((((k:Nat):Int)+(1)):Int)=(((k+1):Nat):Int))∧True))∧True))))))
theorem rT2 (k:Nat) (h1:k<n) (h2:n≤8) (h3:¬ ls k≤8):VC (roundD Tryz.prog noExt 300 bT (baseT lw fw lm fm n ls f) ltT 34 60 (sT k) (.ret ⟨[.bool false],[]⟩)) (.go 85 .nil):=VC_of (((not (iLe ((n:Nat):Int) ((k:Nat):Int)))=true∧((Nat.blt k n)=true∧((not (iLe (((ls k):Nat):Int) (8)))=true∧(((false=false)∧True)∧True)))))
theorem rT3 (k:Nat) (h1:¬ k<n):VC (roundD Tryz.prog noExt 300 bT (baseT lw fw lm fm n ls f) ltT 34 60 (sT k) (.exit 0 ⟨[],[]⟩)) (.go 6 .nil):=VC_of (((not (iLe ((n:Nat):Int) ((k:Nat):Int)))=false∧(True∧True)))
theorem fT1:VC (fromD Tryz.prog noExt 300 29 [1,1,0,1,0] (Lv.res ltT 34 (endH (baseT lw fw lm fm n ls f) ltT 60 (.exit 0 ⟨[],[]⟩)) (.exit 0 ⟨[],[]⟩)) (.bool true)) .nil:=VC_of ((true=true))
theorem fT2:VC (fromD Tryz.prog noExt 300 29 [1,1,0,1,0] (Lv.res ltT 34 (endH (baseT lw fw lm fm n ls f) ltT 60 (.ret ⟨[.bool false],[]⟩)) (.ret ⟨[.bool false],[]⟩)) (.bool false)) .nil:=VC_of ((false=false))
theorem lT (h:¬ (lw≤8∧lm≤8∧n≤8)):VC (runD0 Tryz.prog noExt 300 29 (enc [.st [.sl 1 lw fw,.sl 1 lm fm,.rr 1 n ls f]] 0) 3 (fun v=>valP v (.bool false))) (.sp .nil (.go 256 (.sp .nil (.go 1280 .nil)))):=VC_of ((((not (iLe ((lw:Nat):Int) (8)))=true→(false=false)) ∧
  ((not (iLe ((lw:Nat):Int) (8)))=false→(((not (iLe ((lm:Nat):Int) (8)))=true→(false=false)) ∧
  ((not (iLe ((lm:Nat):Int) (8)))=false→((not (iLe ((n:Nat):Int) (8)))=true∧(false=false)))))))
def valTh:Val:=fun das=>match das with | [.st [.sl 1 lw fw,.sl 1 lm fm,.rr 1 n ls f]]=>some (true,.bool (thB lw lm n ls)) | _=>none
theorem conTh:Con Tryz.prog 29 valTh:=by
  intro das v hv
  unfold valTh at hv
  split at hv
  · rename_i lw fw lm fm n ls f
    have hv:=congrArg Prod.snd (Option.some.inj hv)
    subst hv
    refine ⟨rfl,?_⟩
    by_cases h:lw≤8∧lm≤8∧n≤8
    · obtain ⟨h1,h2,h3⟩:=h
      have e0:thB lw lm n ls=allN (shB ls) n:=by unfold thB;rw [ble_mk h1,ble_mk h2,ble_mk h3];rfl
      rw [e0]
      rcases first_bad (shB ls) n with h | ⟨N,k1,k2,k3⟩
      · rw [allN_true h]
        exact con_loopD drawnC noExt_ok (das:=[.st [.sl 1 lw fw,.sl 1 lm fm,.rr 1 n ls f]]) (lv := .exit 0 ⟨[],[]⟩) (by kernel_rfl) (by kernel_rfl) (eT lw fw lm fm n ls f h1 h2 h3).ok (loop_rule (body:=bT) (fun _ e=>by cases e) n sT (fun k hk =>
          round_of drawnC noExt_ok (rT1 lw fw lm fm n ls f k hk h3 (Nat.le_of_ble_eq_true (h k hk))).ok (by kernel_rfl) (by kernel_rfl)) (round_of drawnC noExt_ok (rT3 lw fw lm fm n ls f n (by omega)).ok (by kernel_rfl) (by kernel_rfl))) (fT1 lw fw lm fm n ls f).ok
      · rw [allN_false k1 k3]
        have k4:¬ ls N≤8:=fun q=>by
          have:shB ls N=true:=ble_mk q
          rw [this] at k3;cases k3
        exact con_loopD drawnC noExt_ok (das:=[.st [.sl 1 lw fw,.sl 1 lm fm,.rr 1 n ls f]]) (lv := .ret ⟨[.bool false],[]⟩) (by kernel_rfl) (by kernel_rfl) (eT lw fw lm fm n ls f h1 h2 h3).ok (loop_rule (body:=bT) (fun _ e=>by cases e) N sT (fun k hk =>
          round_of drawnC noExt_ok (rT1 lw fw lm fm n ls f k (by omega) h3 (Nat.le_of_ble_eq_true (k2 k hk))).ok (by kernel_rfl) (by kernel_rfl)) (round_of drawnC noExt_ok (rT2 lw fw lm fm n ls f N k1 h3 k4).ok (by kernel_rfl) (by kernel_rfl))) (fT2 lw fw lm fm n ls f).ok
    · have e0:thB lw lm n ls=false:=by
        cases q:thB lw lm n ls with
        | false=>rfl
        | true=>have:=thB_get q;exact absurd ⟨this.1,this.2.1,this.2.2.1⟩ h
      rw [e0]
      exact (con_runV drawnC noExt_ok rfl (das:=[.st [.sl 1 lw fw,.sl 1 lm fm,.rr 1 n ls f]]) (lT lw fw lm fm n ls f h)).2
  · cases hv
end
end Go.Proofs.YtclagbonpachfaaGreat
