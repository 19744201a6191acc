/- Casks: lists by bits are of casks of a blend; the reference's strength of a blend is the program's. -/
import Derived.Test.YtclagbonpachfaaGreatYPrE2
set_option linter.all false
set_option linter.unusedSimpArgs false
set_option linter.unusedVariables false
namespace Go.Proofs.YtclagbonpachfaaGreat
namespace BL
open Go Go.Ev
set_option maxRecDepth 1000000
noncomputable section
theorem gsm_w (fc g:Nat→Nat→Int) (w:Int):∀ i,gsm fc g w i=gsm fc g 0 i+w:=by
  intro i
  induction i with
  | zero=>show w=0+w;omega
  | succ i ih=>rw [gsm_s,gsm_s,ih];omega
theorem hb_get {nc m:Nat} {g:Nat→Nat→Int} (h:hbB nc g m=true):0<m∧∀ i,i<m→0≤g i 0∧g i 0<nc:=by
  obtain ⟨p1,p2⟩:=cond_tt h
  obtain ⟨p2,_⟩:=cond_tt p2
  refine ⟨by have:0+1≤m:=Nat.le_of_ble_eq_true p1;omega,fun i hi=>?_⟩
  have q:=allN_get p2 i hi
  unfold inH at q
  rw [iIn_t] at q
  exact q
theorem ss_rs {nc m:Nat} {fc g t S:Nat→Nat→Int} {t0 t1 t2 t3 t4 t5:Int} (hg:∀ i,i<m→0≤g i 0∧g i 0<nc) (hs:∀ k,k<nc→selI [t0,t1,t2,t3,t4,t5] (Int.ofNat k)=t k 0):∀ i,i≤m→ssm fc g t0 t1 t2 t3 t4 t5 i=rsm fc g t i:=by
  intro i
  induction i with
  | zero=>intro _;rfl
  | succ i ih =>
    intro hi
    have q:=hg i (by omega)
    have e:g i 0=Int.ofNat (Int.toNat (g i 0)):=by have:(Int.toNat (g i 0):Int)=g i 0:=Int.toNat_of_nonneg q.1;exact this.symm
    have z:=hs (Int.toNat (g i 0)) (by omega)
    rw [← e] at z
    rw [ssm_s,rsm_s,ih (by omega),z]
theorem rs_bl {nc m:Nat} {fc g t:Nat→Nat→Int} {w t0 t1 t2 t3 t4 t5:Int} (hg:∀ i,i<m→0≤g i 0∧g i 0<nc) (hs:∀ k,k<nc→selI [t0,t1,t2,t3,t4,t5] (Int.ofNat k)=t k 0):rsV fc g w t m=blV fc g w t0 t1 t2 t3 t4 t5 m:=by
  unfold rsV blV
  rw [ss_rs (S:=t) hg hs m (Nat.le_refl m),← gsm_w]
theorem rs_ok (lw:Nat) (fw:Nat→Nat→Int) (lm:Nat) (fm:Nat→Nat→Int) (n:Nat) (ls:Nat→Nat) (f:Nat→Nat→Nat→Int) (r:Int) (nc:Nat) (fc:Nat→Nat→Int) (m:Nat) (g:Nat→Nat→Int) {w:Int} {t:Nat→Nat→Int} (ok:StOk lw fw lm fm n ls f r nc fc) (hb:hbB nc g m=true) (km:m≤1000) (h5:0≤w) (h6:w≤99) (ht:∀ i,i<nc→0≤t i 0∧t i 0≤2000):rsOk nc fc m g w nc t=true:=by
  obtain ⟨p,q⟩:=hb_get hb
  have ga:gaOk nc fc m g=true:=cond_mk (ble_mk km) (cond_mk (ble_mk ok.six) (allN_true fun i hi=>by
    have a:=q i hi
    have c:=(ok.cask (Int.toNat (g i 0)) (by omega)).1
    exact cond_mk (by rw [iIn_t];exact a) (cond_mk (by rw [iLe_t];exact c.1) (by rw [iLe_t];exact c.2))))
  exact cond_mk ga (cond_mk (blt_t' p) (cond_mk (by rw [iLe_t];exact h5) (cond_mk (by rw [iLe_t];omega) (allN_true fun i hi=>by
    have a:=q i hi
    have c:=ht (Int.toNat (g i 0)) (by omega)
    exact cond_mk (by rw [iIn_t];exact a) (cond_mk (by rw [iLe_t];exact c.1) (by rw [iLe_t];exact c.2))))))
end
end BL
end Go.Proofs.YtclagbonpachfaaGreat
