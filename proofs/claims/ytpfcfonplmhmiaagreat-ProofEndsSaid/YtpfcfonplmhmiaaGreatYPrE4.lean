/- Casks: lists by bits are of casks of a blend; the reference's strength of a blend is the program's. -/
import Derived.Test.YtpfcfonplmhmiaaGreatYPrE2
set_option linter.all false
set_option linter.unusedSimpArgs false
set_option linter.unusedVariables false
namespace Go.Proofs.YtpfcfonplmhmiaaGreat
namespace BL
open Go Go.Ev
set_option maxRecDepth 1000000
noncomputable section
theorem lv_lo (lw:Nat) (fw:Nat→Nat→Int) (lm:Nat) (fm:Nat→Nat→Int) (n:Nat) (ls:Nat→Nat) (f:Nat→Nat→Nat→Int) (r:Int) (nc:Nat) (fc:Nat→Nat→Int) {t:Nat→Nat→Int} (h:∀ i,i<nc→t i 0=loS lw fw lm fm f fc i) (i:Nat):lvT nc t i=loV lw fw lm fm f nc fc i:=by
  unfold lvT loV
  by_cases hi:i<nc
  · rw [blt_t' hi,h i hi]
  · rw [blt_f' hi];rfl
theorem lv_hi (lw:Nat) (fw:Nat→Nat→Int) (lm:Nat) (fm:Nat→Nat→Int) (n:Nat) (ls:Nat→Nat) (f:Nat→Nat→Nat→Int) (r:Int) (nc:Nat) (fc:Nat→Nat→Int) {t:Nat→Nat→Int} (h:∀ i,i<nc→t i 0=hiS lw fw lm fm f fc i) (i:Nat):lvT nc t i=hiV lw fw lm fm f nc fc i:=by
  unfold lvT hiV
  by_cases hi:i<nc
  · rw [blt_t' hi,h i hi]
  · rw [blt_f' hi];rfl
theorem te_ok (lw:Nat) (fw:Nat→Nat→Int) (lm:Nat) (fm:Nat→Nat→Int) (n:Nat) (ls:Nat→Nat) (f:Nat→Nat→Nat→Int) (r:Int) (nc:Nat) (fc:Nat→Nat→Int) {t:Nat→Nat→Int} (hc:ckE lw fw lm fm n ls f r nc fc=0) (h:Tru lw fw lm fm f nc fc nc t):teE lw fw lm fm n ls f r nc fc nc t=0:=by
  rcases teE_cases lw fw lm fm n ls f r nc fc nc t with ⟨q,_⟩ | ⟨_,_,q,_⟩ | ⟨_,_,_,_,e⟩
  · exact absurd hc q
  · exact absurd h q
  · exact e
theorem dy_lo (lw:Nat) (fw:Nat→Nat→Int) (lm:Nat) (fm:Nat→Nat→Int) (n:Nat) (ls:Nat→Nat) (f:Nat→Nat→Nat→Int) (r:Int) (nc:Nat) (fc:Nat→Nat→Int) {t:Nat→Nat→Int} (hc:ckE lw fw lm fm n ls f r nc fc=0) (ok:StOk lw fw lm fm n ls f r nc fc) (h:∀ i,i<nc→t i 0=loS lw fw lm fm f fc i):teE lw fw lm fm n ls f r nc fc nc t=0∧dyV lw fw lm fm n ls f r nc fc nc t=dsL lw fw lm fm n ls f r nc fc:=by
  have e:=te_ok lw fw lm fm n ls f r nc fc (t:=t) hc ⟨rfl,fun i hi=>by have:=st_bd lw fw lm fm n ls f r nc fc ok hi;rw [h i hi];omega⟩
  have k:=lv_lo lw fw lm fm n ls f r nc fc h
  refine ⟨e,?_⟩
  unfold dyV dsL
  rw [e,hc,k 0,k 1,k 2,k 3,k 4,k 5]
theorem dy_hi (lw:Nat) (fw:Nat→Nat→Int) (lm:Nat) (fm:Nat→Nat→Int) (n:Nat) (ls:Nat→Nat) (f:Nat→Nat→Nat→Int) (r:Int) (nc:Nat) (fc:Nat→Nat→Int) {t:Nat→Nat→Int} (hc:ckE lw fw lm fm n ls f r nc fc=0) (ok:StOk lw fw lm fm n ls f r nc fc) (h:∀ i,i<nc→t i 0=hiS lw fw lm fm f fc i):teE lw fw lm fm n ls f r nc fc nc t=0∧dyV lw fw lm fm n ls f r nc fc nc t=dsH lw fw lm fm n ls f r nc fc:=by
  have e:=te_ok lw fw lm fm n ls f r nc fc (t:=t) hc ⟨rfl,fun i hi=>by have:=st_bd lw fw lm fm n ls f r nc fc ok hi;rw [h i hi];omega⟩
  have k:=lv_hi lw fw lm fm n ls f r nc fc h
  refine ⟨e,?_⟩
  unfold dyV dsH
  rw [e,hc,k 0,k 1,k 2,k 3,k 4,k 5]
theorem gsm_w (fc g:Nat→Nat→Int) (w:Int):∀ i,gsm fc g w i=gsm fc g 0 i+w:=by
  intro i
  induction i with
  | zero=>show w=0+w;omega
  | succ i ih=>rw [gsm_s,gsm_s,ih];omega
theorem hb_get {nc m:Nat} {g:Nat→Nat→Int} (h:hbB nc g m=true):0<m∧∀ i,i<m→0≤g i 0∧g i 0<nc:=by
  obtain ⟨p1,p2⟩:=cond_tt h
  obtain ⟨p2,_⟩:=cond_tt p2
  refine ⟨by have:0+1≤m:=Nat.le_of_ble_eq_true p1;omega,fun i hi=>?_⟩
  have q:=allN_get p2 i hi
  unfold inH at q
  rw [iIn_t] at q
  exact q
theorem ss_rs {nc m:Nat} {fc g t S:Nat→Nat→Int} {t0 t1 t2 t3 t4 t5:Int} (hg:∀ i,i<m→0≤g i 0∧g i 0<nc) (hs:∀ k,k<nc→selI [t0,t1,t2,t3,t4,t5] (Int.ofNat k)=t k 0):∀ i,i≤m→ssm fc g t0 t1 t2 t3 t4 t5 i=rsm fc g t i:=by
  intro i
  induction i with
  | zero=>intro _;rfl
  | succ i ih =>
    intro hi
    have q:=hg i (by omega)
    have e:g i 0=Int.ofNat (Int.toNat (g i 0)):=by have:(Int.toNat (g i 0):Int)=g i 0:=Int.toNat_of_nonneg q.1;exact this.symm
    have z:=hs (Int.toNat (g i 0)) (by omega)
    rw [← e] at z
    rw [ssm_s,rsm_s,ih (by omega),z]
theorem rs_bl {nc m:Nat} {fc g t:Nat→Nat→Int} {w t0 t1 t2 t3 t4 t5:Int} (hg:∀ i,i<m→0≤g i 0∧g i 0<nc) (hs:∀ k,k<nc→selI [t0,t1,t2,t3,t4,t5] (Int.ofNat k)=t k 0):rsV fc g w t m=blV fc g w t0 t1 t2 t3 t4 t5 m:=by
  unfold rsV blV
  rw [ss_rs (S:=t) hg hs m (Nat.le_refl m),← gsm_w]
theorem rs_ok (lw:Nat) (fw:Nat→Nat→Int) (lm:Nat) (fm:Nat→Nat→Int) (n:Nat) (ls:Nat→Nat) (f:Nat→Nat→Nat→Int) (r:Int) (nc:Nat) (fc:Nat→Nat→Int) (m:Nat) (g:Nat→Nat→Int) {w:Int} {t:Nat→Nat→Int} (ok:StOk lw fw lm fm n ls f r nc fc) (hb:hbB nc g m=true) (km:m≤1000) (h5:0≤w) (h6:w≤99) (ht:∀ i,i<nc→0≤t i 0∧t i 0≤2000):rsOk nc fc m g w nc t=true:=by
  obtain ⟨p,q⟩:=hb_get hb
  have ga:gaOk nc fc m g=true:=cond_mk (ble_mk km) (cond_mk (ble_mk ok.six) (allN_true fun i hi=>by
    have a:=q i hi
    have c:=(ok.cask (Int.toNat (g i 0)) (by omega)).1
    exact cond_mk (by rw [iIn_t];exact a) (cond_mk (by rw [iLe_t];exact c.1) (by rw [iLe_t];exact c.2))))
  exact cond_mk ga (cond_mk (blt_t' p) (cond_mk (by rw [iLe_t];exact h5) (cond_mk (by rw [iLe_t];omega) (allN_true fun i hi=>by
    have a:=q i hi
    have c:=ht (Int.toNat (g i 0)) (by omega)
    exact cond_mk (by rw [iIn_t];exact a) (cond_mk (by rw [iLe_t];exact c.1) (by rw [iLe_t];exact c.2))))))
def chk (nc:Nat) (x:Nat):Bool:=cond (Nat.beq (biN (Int.ofNat x)) 0) true (hbB nc (biF (Int.ofNat x)) (biN (Int.ofNat x)))
theorem chk1:allN (chk 1) 2=true:=by kernel_rfl
theorem chk2:allN (chk 2) 4=true:=by kernel_rfl
theorem chk3:allN (chk 3) 8=true:=by kernel_rfl
theorem chk4:allN (chk 4) 16=true:=by kernel_rfl
theorem chk5:allN (chk 5) 32=true:=by kernel_rfl
theorem chk6:allN (chk 6) 64=true:=by kernel_rfl
theorem so_hb {nc:Nat} {b:Int} (h1:1≤nc) (h2:nc≤6) (hb:0≤b∧b≤255):hbB nc (soF nc b) (soN nc b)=true:=by
  by_cases z:biN (soM nc b)=0
  · obtain ⟨e1,e2⟩:=so_z z
    rw [e1,e2]
    have q:=tm_bd (p:=(nc:Int)) hb.1 (by omega)
    refine cond_mk rfl (cond_mk (allN_true fun i _=>?_) rfl)
    unfold inH
    rw [iIn_t]
    exact q
  · obtain ⟨e1,e2⟩:=so_n z
    rw [e1,e2]
    have q:=tm_bd (p:=Int.ofNat (Nat.pow 2 nc)) hb.1 (by have:0<2^nc:=Nat.two_pow_pos nc;exact Int.ofNat_lt.mpr this)
    have q:0≤soM nc b∧soM nc b<Int.ofNat (Nat.pow 2 nc):=q
    obtain ⟨x,e⟩:∃ x:Nat,soM nc b=Int.ofNat x:=⟨Int.toNat (soM nc b),by have:(Int.toNat (soM nc b):Int)=soM nc b:=Int.toNat_of_nonneg q.1;exact this.symm⟩
    rw [e] at z q ⊢
    have hx:x<Nat.pow 2 nc:=Int.ofNat_lt.mp q.2
    have key:chk nc x=true:=by
      have hn:nc=1∨nc=2∨nc=3∨nc=4∨nc=5∨nc=6:=by omega
      rcases hn with rfl | rfl | rfl | rfl | rfl | rfl
      · exact allN_get chk1 x hx
      · exact allN_get chk2 x hx
      · exact allN_get chk3 x hx
      · exact allN_get chk4 x hx
      · exact allN_get chk5 x hx
      · exact allN_get chk6 x hx
    unfold chk at key
    rw [(beq_f _ _).mpr z] at key
    exact key
theorem bd_so (lw:Nat) (fw:Nat→Nat→Int) (lm:Nat) (fm:Nat→Nat→Int) (n:Nat) (ls:Nat→Nat) (f:Nat→Nat→Nat→Int) (r:Int) (nc:Nat) (fc:Nat→Nat→Int) (m:Nat) (g:Nat→Nat→Int) {w:Int} (hc:ckE lw fw lm fm n ls f r nc fc=0) (hb:hbB nc g m=true) (h5:0≤w) (h6:w≤99):bdE lw fw lm fm n ls f r nc fc m g w=0∧bdL lw fw lm fm n ls f r nc fc m g w=blV fc g w (loV lw fw lm fm f nc fc 0) (loV lw fw lm fm f nc fc 1) (loV lw fw lm fm f nc fc 2) (loV lw fw lm fm f nc fc 3) (loV lw fw lm fm f nc fc 4) (loV lw fw lm fm f nc fc 5) m∧bdH lw fw lm fm n ls f r nc fc m g w=blV fc g w (hiV lw fw lm fm f nc fc 0) (hiV lw fw lm fm f nc fc 1) (hiV lw fw lm fm f nc fc 2) (hiV lw fw lm fm f nc fc 3) (hiV lw fw lm fm f nc fc 4) (hiV lw fw lm fm f nc fc 5) m:=by
  have e:bdE lw fw lm fm n ls f r nc fc m g w=0:=by unfold bdE;rw [hc,hb,(iLe_t 0 w).mpr h5,(iLe_t w 99).mpr h6];rfl
  exact ⟨e,by unfold bdL;rw [e];rfl,by unfold bdH;rw [e];rfl⟩
end
end BL
end Go.Proofs.YtpfcfonplmhmiaaGreat
