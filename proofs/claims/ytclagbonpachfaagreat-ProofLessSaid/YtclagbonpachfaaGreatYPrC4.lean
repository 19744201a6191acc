/- Casks: contracts: Strengths, Tenths, Duty, Duties: what they are, in words. -/
import Derived.Test.YtclagbonpachfaaGreatYPrC3
set_option linter.all false
set_option linter.unusedSimpArgs false
set_option linter.unusedVariables false
namespace Go.Proofs.YtclagbonpachfaaGreat
open Go Go.Ev
set_option maxRecDepth 1000000
set_option maxHeartbeats 0
noncomputable section
theorem st_bd (lw:Nat) (fw:Nat→Nat→Int) (lm:Nat) (fm:Nat→Nat→Int) (n:Nat) (ls:Nat→Nat) (f:Nat→Nat→Nat→Int) (r:Int) (nc:Nat) (fc:Nat→Nat→Int) (h:StOk lw fw lm fm n ls f r nc fc) {i:Nat} (hi:i<nc):0≤loS lw fw lm fm f fc i∧loS lw fw lm fm f fc i≤hiS lw fw lm fm f fc i∧hiS lw fw lm fm f fc i≤2000:=by
  obtain ⟨_,hw,hm⟩:=h.cask i hi
  obtain ⟨x,y,hx,hy,e1⟩:=bdL_at (lw:=lw) (fw:=fw) (lm:=lm) (fm:=fm) (f:=f) hw.1 hm.1
  obtain ⟨x',y',hx',hy',e2⟩:=bdH_at (lw:=lw) (fw:=fw) (lm:=lm) (fm:=fm) (f:=f) hw.1 hm.1
  have b:=bd_in (lw:=lw) (fw:=fw) (lm:=lm) (fm:=fm) (f:=f) hw.1 hm.1 hx hy
  have hw':=hw
  have hm':=hm
  unfold rgB onB at hw' hm'
  have s1:=str_bd h.ok (x:=x) (y:=y) (by unfold onB;omega) (by unfold onB;omega)
  have s2:=str_bd h.ok (x:=x') (y:=y') (by unfold onB;omega) (by unfold onB;omega)
  unfold loS hiS
  omega
theorem sel_6 (x0 x1 x2 x3 x4 x5:Int) {i:Nat} (g:Nat→Int) (h0:g 0=x0) (h1:g 1=x1) (h2:g 2=x2) (h3:g 3=x3) (h4:g 4=x4) (h5:g 5=x5) (hi:i<6):selI [x0,x1,x2,x3,x4,x5] (Int.ofNat i)=g i:=by
  have:i=0∨i=1∨i=2∨i=3∨i=4∨i=5:=by omega
  rcases this with rfl | rfl | rfl | rfl | rfl | rfl
  · exact h0.symm
  · exact h1.symm
  · exact h2.symm
  · exact h3.symm
  · exact h4.symm
  · exact h5.symm
theorem blt_t' {a b:Nat} (h:a<b):Nat.blt a b=true:=(blt_t _ _).mpr h
theorem lo_sel {lw:Nat} {fw:Nat→Nat→Int} {lm:Nat} {fm:Nat→Nat→Int} {f:Nat→Nat→Nat→Int} {nc:Nat} {fc:Nat→Nat→Int} {i:Nat} (h6:nc≤6) (hi:i<nc):selI [loV lw fw lm fm f nc fc 0,loV lw fw lm fm f nc fc 1,loV lw fw lm fm f nc fc 2,loV lw fw lm fm f nc fc 3,loV lw fw lm fm f nc fc 4,loV lw fw lm fm f nc fc 5] (Int.ofNat i)=loS lw fw lm fm f fc i:=by
  rw [sel_6 _ _ _ _ _ _ (loV lw fw lm fm f nc fc) rfl rfl rfl rfl rfl rfl (by omega)]
  unfold loV
  rw [blt_t' hi];rfl
theorem hi_sel {lw:Nat} {fw:Nat→Nat→Int} {lm:Nat} {fm:Nat→Nat→Int} {f:Nat→Nat→Nat→Int} {nc:Nat} {fc:Nat→Nat→Int} {i:Nat} (h6:nc≤6) (hi:i<nc):selI [hiV lw fw lm fm f nc fc 0,hiV lw fw lm fm f nc fc 1,hiV lw fw lm fm f nc fc 2,hiV lw fw lm fm f nc fc 3,hiV lw fw lm fm f nc fc 4,hiV lw fw lm fm f nc fc 5] (Int.ofNat i)=hiS lw fw lm fm f fc i:=by
  rw [sel_6 _ _ _ _ _ _ (hiV lw fw lm fm f nc fc) rfl rfl rfl rfl rfl rfl (by omega)]
  unfold hiV
  rw [blt_t' hi];rfl
theorem tnB_mk {nc:Nat} {fc:Nat→Nat→Int} {t0 t1 t2 t3 t4 t5:Int} (h6:nc≤6) (h:∀ i,i<nc→(1≤fc i 0∧fc i 0≤99)∧0≤selI [t0,t1,t2,t3,t4,t5] (Int.ofNat i)∧selI [t0,t1,t2,t3,t4,t5] (Int.ofNat i)≤2000):tnB nc fc t0 t1 t2 t3 t4 t5=true :=
  cond_mk (ble_mk h6) (allN_true fun i hi=>cond_mk (gaB_t.mpr (h i hi).1) (srB_t.mpr (h i hi).2))
theorem tn_lo (lw:Nat) (fw:Nat→Nat→Int) (lm:Nat) (fm:Nat→Nat→Int) (n:Nat) (ls:Nat→Nat) (f:Nat→Nat→Nat→Int) (r:Int) (nc:Nat) (fc:Nat→Nat→Int) (h:StOk lw fw lm fm n ls f r nc fc):tnB nc fc (loV lw fw lm fm f nc fc 0) (loV lw fw lm fm f nc fc 1) (loV lw fw lm fm f nc fc 2) (loV lw fw lm fm f nc fc 3) (loV lw fw lm fm f nc fc 4) (loV lw fw lm fm f nc fc 5)=true:=tnB_mk h.six fun i hi=>by
  rw [lo_sel h.six hi]
  have:=st_bd lw fw lm fm n ls f r nc fc h hi
  exact ⟨(h.cask i hi).1,by omega,by omega⟩
theorem tn_hi (lw:Nat) (fw:Nat→Nat→Int) (lm:Nat) (fm:Nat→Nat→Int) (n:Nat) (ls:Nat→Nat) (f:Nat→Nat→Nat→Int) (r:Int) (nc:Nat) (fc:Nat→Nat→Int) (h:StOk lw fw lm fm n ls f r nc fc):tnB nc fc (hiV lw fw lm fm f nc fc 0) (hiV lw fw lm fm f nc fc 1) (hiV lw fw lm fm f nc fc 2) (hiV lw fw lm fm f nc fc 3) (hiV lw fw lm fm f nc fc 4) (hiV lw fw lm fm f nc fc 5)=true:=tnB_mk h.six fun i hi=>by
  rw [hi_sel h.six hi]
  have:=st_bd lw fw lm fm n ls f r nc fc h hi
  exact ⟨(h.cask i hi).1,by omega,by omega⟩
theorem ck_hyp (lw:Nat) (fw:Nat→Nat→Int) (lm:Nat) (fm:Nat→Nat→Int) (n:Nat) (ls:Nat→Nat) (f:Nat→Nat→Nat→Int) (r:Int) (nc:Nat) (fc:Nat→Nat→Int) (h:ckE lw fw lm fm n ls f r nc fc=0):tabE lw fw lm fm n ls f=0∧nc≤6∧acB lw fw lm fm fc nc=true:=by
  have ok:=ckE_get lw fw lm fm n ls f r nc fc h
  rcases ckE_cases lw fw lm fm n ls f r nc fc with ⟨h1,h2⟩ | ⟨_,_,h3⟩ | ⟨_,_,_,h3⟩ | ⟨h1,h2,h3,_⟩
  · rw [h2] at h;exact absurd h h1
  · rw [h3] at h;cases h
  · rw [h3] at h;cases h
  · exact ⟨h1,h2,h3.2.2⟩
end
end Go.Proofs.YtclagbonpachfaaGreat
