/- Casks: lists by bits are of casks of a blend; the reference's strength of a blend is the program's. -/
import Derived.Test.YtclagbonpachfaaGreatYPrE2
set_option linter.all false
set_option linter.unusedSimpArgs false
set_option linter.unusedVariables false
namespace Go.Proofs.YtclagbonpachfaaGreat
namespace BL
open Go Go.Ev
set_option maxRecDepth 1000000
noncomputable section
theorem hb_get {nc m:Nat} {g:Nat→Nat→Int} (h:hbB nc g m=true):0<m∧∀ i,i<m→0≤g i 0∧g i 0<nc:=by
  obtain ⟨p1,p2⟩:=cond_tt h
  obtain ⟨p2,_⟩:=cond_tt p2
  refine ⟨by have:0+1≤m:=Nat.le_of_ble_eq_true p1;omega,fun i hi=>?_⟩
  have q:=allN_get p2 i hi
  unfold inH at q
  rw [iIn_t] at q
  exact q
def chk (nc:Nat) (x:Nat):Bool:=cond (Nat.beq (biN (Int.ofNat x)) 0) true (hbB nc (biF (Int.ofNat x)) (biN (Int.ofNat x)))
theorem chk1:allN (chk 1) 2=true:=by kernel_rfl
theorem chk2:allN (chk 2) 4=true:=by kernel_rfl
theorem chk3:allN (chk 3) 8=true:=by kernel_rfl
theorem chk4:allN (chk 4) 16=true:=by kernel_rfl
theorem chk5:allN (chk 5) 32=true:=by kernel_rfl
theorem chk6:allN (chk 6) 64=true:=by kernel_rfl
theorem so_hb {nc:Nat} {b:Int} (h1:1≤nc) (h2:nc≤6) (hb:0≤b∧b≤255):hbB nc (soF nc b) (soN nc b)=true:=by
  by_cases z:biN (soM nc b)=0
  · obtain ⟨e1,e2⟩:=so_z z
    rw [e1,e2]
    have q:=tm_bd (p:=(nc:Int)) hb.1 (by omega)
    refine cond_mk rfl (cond_mk (allN_true fun i _=>?_) rfl)
    unfold inH
    rw [iIn_t]
    exact q
  · obtain ⟨e1,e2⟩:=so_n z
    rw [e1,e2]
    have q:=tm_bd (p:=Int.ofNat (Nat.pow 2 nc)) hb.1 (by have:0<2^nc:=Nat.two_pow_pos nc;exact Int.ofNat_lt.mpr this)
    have q:0≤soM nc b∧soM nc b<Int.ofNat (Nat.pow 2 nc):=q
    obtain ⟨x,e⟩:∃ x:Nat,soM nc b=Int.ofNat x:=⟨Int.toNat (soM nc b),by have:(Int.toNat (soM nc b):Int)=soM nc b:=Int.toNat_of_nonneg q.1;exact this.symm⟩
    rw [e] at z q ⊢
    have hx:x<Nat.pow 2 nc:=Int.ofNat_lt.mp q.2
    have key:chk nc x=true:=by
      have hn:nc=1∨nc=2∨nc=3∨nc=4∨nc=5∨nc=6:=by omega
      rcases hn with rfl | rfl | rfl | rfl | rfl | rfl
      · exact allN_get chk1 x hx
      · exact allN_get chk2 x hx
      · exact allN_get chk3 x hx
      · exact allN_get chk4 x hx
      · exact allN_get chk5 x hx
      · exact allN_get chk6 x hx
    unfold chk at key
    rw [(beq_f _ _).mpr z] at key
    exact key
theorem bd_so (lw:Nat) (fw:Nat→Nat→Int) (lm:Nat) (fm:Nat→Nat→Int) (n:Nat) (ls:Nat→Nat) (f:Nat→Nat→Nat→Int) (r:Int) (nc:Nat) (fc:Nat→Nat→Int) (m:Nat) (g:Nat→Nat→Int) {w:Int} (hc:ckE lw fw lm fm n ls f r nc fc=0) (hb:hbB nc g m=true) (h5:0≤w) (h6:w≤99):bdE lw fw lm fm n ls f r nc fc m g w=0∧bdL lw fw lm fm n ls f r nc fc m g w=blV fc g w (loV lw fw lm fm f nc fc 0) (loV lw fw lm fm f nc fc 1) (loV lw fw lm fm f nc fc 2) (loV lw fw lm fm f nc fc 3) (loV lw fw lm fm f nc fc 4) (loV lw fw lm fm f nc fc 5) m∧bdH lw fw lm fm n ls f r nc fc m g w=blV fc g w (hiV lw fw lm fm f nc fc 0) (hiV lw fw lm fm f nc fc 1) (hiV lw fw lm fm f nc fc 2) (hiV lw fw lm fm f nc fc 3) (hiV lw fw lm fm f nc fc 4) (hiV lw fw lm fm f nc fc 5) m:=by
  have e:bdE lw fw lm fm n ls f r nc fc m g w=0:=by unfold bdE;rw [hc,hb,(iLe_t 0 w).mpr h5,(iLe_t w 99).mpr h6];rfl
  exact ⟨e,by unfold bdL;rw [e];rfl,by unfold bdH;rw [e];rfl⟩
end
end BL
end Go.Proofs.YtclagbonpachfaaGreat
