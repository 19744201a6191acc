/- Casks: lists by bits are of casks of a blend; the reference's strength of a blend is the program's. -/
import Derived.Test.YtiplgejpopellaaGreatYPrE2
set_option linter.all false
set_option linter.unusedSimpArgs false
set_option linter.unusedVariables false
namespace Go.Proofs.YtiplgejpopellaaGreat
namespace BL
open Go Go.Ev
set_option maxRecDepth 1000000
noncomputable section
theorem aae (E g:Nat→Nat→Int) (w:Int):∀ i,lD E g w i=lD E g 0 i+w:=by
 intro i
 induction i with
 | zero=>show w=0+w;omega
 | succ i ih=>rw [xE,xE,ih];omega
theorem RD {O m:Nat} {g:Nat→Nat→Int} (h:hbB O g m=true):0<m∧∀ i,i<m→0≤g i 0∧g i 0<O:=by
 obtain ⟨p1,p2⟩:=ah h
 obtain ⟨p2,_⟩:=ah p2
 refine ⟨by have:0+1≤m:=Nat.le_of_ble_eq_true p1;omega,fun i hi=>?_⟩
 have q:=aX p2 i hi
 unfold inH at q
 rw [gp] at q
 exact q
theorem aaJ {O m:Nat} {E g t S:Nat→Nat→Int} {t0 t1 t2 t3 t4 t5:Int} (hg:∀ i,i<m→0≤g i 0∧g i 0<O) (hs:∀ k,k<O→jH [t0,t1,t2,t3,t4,t5] (Int.ofNat k)=t k 0):∀ i,i≤m→xY E g t0 t1 t2 t3 t4 t5 i=rsm E g t i:=by
 intro i
 induction i with
 | zero=>intro _;rfl
 | succ i ih =>
  intro hi
  have q:=hg i (by omega)
  have e:g i 0=Int.ofNat (Int.toNat (g i 0)):=by have:(Int.toNat (g i 0):Int)=g i 0:=Int.toNat_of_nonneg q.1;exact this.symm
  have z:=hs (Int.toNat (g i 0)) (by omega)
  rw [← e] at z
  rw [IV,Oe,ih (by omega),z]
theorem X4 {O m:Nat} {E g t:Nat→Nat→Int} {w t0 t1 t2 t3 t4 t5:Int} (hg:∀ i,i<m→0≤g i 0∧g i 0<O) (hs:∀ k,k<O→jH [t0,t1,t2,t3,t4,t5] (Int.ofNat k)=t k 0):rsV E g w t m=blV E g w t0 t1 t2 t3 t4 t5 m:=by
 unfold rsV blV
 rw [aaJ (S:=t) hg hs m (Nat.le_refl m),← aae]
theorem Ye (A:Nat) (B:Nat→Nat→Int) (I:Nat) (J:Nat→Nat→Int) (n:Nat) (M:Nat→Nat) (f:Nat→Nat→Nat→Int) (r:Int) (O:Nat) (E:Nat→Nat→Int) (m:Nat) (g:Nat→Nat→Int) {w:Int} {t:Nat→Nat→Int} (ok:StOk A B I J n M f r O E) (hb:hbB O g m=true) (km:m≤1000) (h5:0≤w) (h6:w≤99) (ht:∀ i,i<O→0≤t i 0∧t i 0≤2000):pX O E m g w O t=true:=by
 obtain ⟨p,q⟩:=RD hb
 have ga:EX O E m g=true:=aI (dV km) (aI (dV ok.six) (bW fun i hi=>by
  have a:=q i hi
  have c:=(ok.cask (Int.toNat (g i 0)) (by omega)).1
  exact aI (by rw [gp];exact a) (aI (by rw [aW];exact c.1) (by rw [aW];exact c.2))))
 exact aI ga (aI (wW p) (aI (by rw [aW];exact h5) (aI (by rw [aW];omega) (bW fun i hi=>by
  have a:=q i hi
  have c:=ht (Int.toNat (g i 0)) (by omega)
  exact aI (by rw [gp];exact a) (aI (by rw [aW];exact c.1) (by rw [aW];exact c.2))))))
def chk (O:Nat) (x:Nat):Bool:=cond (Nat.beq (aC (Int.ofNat x)) 0) true (hbB O (aH (Int.ofNat x)) (aC (Int.ofNat x)))
theorem acF:eX (chk 1) 2=true:=by kernel_rfl
theorem acJ:eX (chk 2) 4=true:=by kernel_rfl
theorem ad4:eX (chk 3) 8=true:=by kernel_rfl
theorem adS:eX (chk 4) 16=true:=by kernel_rfl
theorem adV:eX (chk 5) 32=true:=by kernel_rfl
theorem acw:eX (chk 6) 64=true:=by kernel_rfl
end
end BL
end Go.Proofs.YtiplgejpopellaaGreat
