/- Casks: lists by bits are of casks of a blend; the reference's strength of a blend is the program's. -/
import Derived.Test.YtiplgejpopellaaGreatYPrE2
set_option linter.all false
set_option linter.unusedSimpArgs false
set_option linter.unusedVariables false
namespace Go.Proofs.YtiplgejpopellaaGreat
namespace BL
open Go Go.Ev
set_option maxRecDepth 1000000
noncomputable section
theorem ZT (E g:Nat→Nat→Int) (w:Int):∀ i,gsm E g w i=gsm E g 0 i+w:=by
 intro i
 induction i with
 | zero=>show w=0+w;omega
 | succ i ih=>rw [BO,BO,ih];omega
theorem QB {O m:Nat} {g:Nat→Nat→Int} (h:hbB O g m=true):0<m∧∀ i,i<m→0≤g i 0∧g i 0<O:=by
 obtain ⟨p1,p2⟩:=ah h
 obtain ⟨p2,_⟩:=ah p2
 refine ⟨by have:0+1≤m:=Nat.le_of_ble_eq_true p1;omega,fun i hi=>?_⟩
 have q:=aW p2 i hi
 unfold inH at q
 rw [iZ] at q
 exact q
theorem Zb {O m:Nat} {E g t S:Nat→Nat→Int} {t0 t1 t2 t3 t4 t5:Int} (hg:∀ i,i<m→0≤g i 0∧g i 0<O) (hs:∀ k,k<O→fZ [t0,t1,t2,t3,t4,t5] (Int.ofNat k)=t k 0):∀ i,i≤m→ssm E g t0 t1 t2 t3 t4 t5 i=rsm E g t i:=by
 intro i
 induction i with
 | zero=>intro _;rfl
 | succ i ih =>
  intro hi
  have q:=hg i (by omega)
  have e:g i 0=Int.ofNat (Int.toNat (g i 0)):=by have:(Int.toNat (g i 0):Int)=g i 0:=Int.toNat_of_nonneg q.1;exact this.symm
  have z:=hs (Int.toNat (g i 0)) (by omega)
  rw [← e] at z
  rw [PW,Un,ih (by omega),z]
theorem Xw {O m:Nat} {E g t:Nat→Nat→Int} {w t0 t1 t2 t3 t4 t5:Int} (hg:∀ i,i<m→0≤g i 0∧g i 0<O) (hs:∀ k,k<O→fZ [t0,t1,t2,t3,t4,t5] (Int.ofNat k)=t k 0):rsV E g w t m=blV E g w t0 t1 t2 t3 t4 t5 m:=by
 unfold rsV blV
 rw [Zb (S:=t) hg hs m (Nat.le_refl m),← ZT]
theorem ZH (A:Nat) (B:Nat→Nat→Int) (I:Nat) (J:Nat→Nat→Int) (n:Nat) (M:Nat→Nat) (f:Nat→Nat→Nat→Int) (r:Int) (O:Nat) (E:Nat→Nat→Int) (m:Nat) (g:Nat→Nat→Int) {w:Int} {t:Nat→Nat→Int} (ok:StOk A B I J n M f r O E) (hb:hbB O g m=true) (km:m≤1000) (h5:0≤w) (h6:w≤99) (ht:∀ i,i<O→0≤t i 0∧t i 0≤2000):TQ O E m g w O t=true:=by
 obtain ⟨p,q⟩:=QB hb
 have ga:Kr O E m g=true:=aN (dL km) (aN (dL ok.six) (bF fun i hi=>by
  have a:=q i hi
  have c:=(ok.cask (Int.toNat (g i 0)) (by omega)).1
  exact aN (by rw [iZ];exact a) (aN (by rw [aU];exact c.1) (by rw [aU];exact c.2))))
 exact aN ga (aN (Ie p) (aN (by rw [aU];exact h5) (aN (by rw [aU];omega) (bF fun i hi=>by
  have a:=q i hi
  have c:=ht (Int.toNat (g i 0)) (by omega)
  exact aN (by rw [iZ];exact a) (aN (by rw [aU];exact c.1) (by rw [aU];exact c.2))))))
def chk (O:Nat) (x:Nat):Bool:=cond (Nat.beq (biN (Int.ofNat x)) 0) true (hbB O (biF (Int.ofNat x)) (biN (Int.ofNat x)))
theorem aa7:fD (chk 1) 2=true:=by kernel_rfl
theorem ab9:fD (chk 2) 4=true:=by kernel_rfl
theorem aa3:fD (chk 3) 8=true:=by kernel_rfl
theorem abD:fD (chk 4) 16=true:=by kernel_rfl
theorem aaS:fD (chk 5) 32=true:=by kernel_rfl
theorem aa9:fD (chk 6) 64=true:=by kernel_rfl
theorem aau {O:Nat} {b:Int} (h1:1≤O) (h2:O≤6) (hb:0≤b∧b≤255):hbB O (soF O b) (soN O b)=true:=by
 by_cases z:biN (zH O b)=0
 ·obtain ⟨e1,e2⟩:=E8 z
  rw [e1,e2]
  have q:=lL (p:=(O:Int)) hb.1 (by omega)
  refine aN rfl (aN (bF fun i _=>?_) rfl)
  unfold inH
  rw [iZ]
  exact q
 ·obtain ⟨e1,e2⟩:=FI z
  rw [e1,e2]
  have q:=lL (p:=Int.ofNat (Nat.pow 2 O)) hb.1 (by have:0<2^O:=Nat.two_pow_pos O;exact Int.ofNat_lt.mpr this)
  have q:0≤zH O b∧zH O b<Int.ofNat (Nat.pow 2 O):=q
  obtain ⟨x,e⟩:∃ x:Nat,zH O b=Int.ofNat x:=⟨Int.toNat (zH O b),by have:(Int.toNat (zH O b):Int)=zH O b:=Int.toNat_of_nonneg q.1;exact this.symm⟩
  rw [e] at z q ⊢
  have hx:x<Nat.pow 2 O:=Int.ofNat_lt.mp q.2
  have key:chk O x=true:=by
   have hn:O=1∨O=2∨O=3∨O=4∨O=5∨O=6:=by omega
   rcases hn with rfl | rfl | rfl | rfl | rfl | rfl
   ·exact aW aa7 x hx
   ·exact aW ab9 x hx
   ·exact aW aa3 x hx
   ·exact aW abD x hx
   ·exact aW aaS x hx
   ·exact aW aa9 x hx
  unfold chk at key
  rw [(oQ _ _).mpr z] at key
  exact key
theorem Z8 (A:Nat) (B:Nat→Nat→Int) (I:Nat) (J:Nat→Nat→Int) (n:Nat) (M:Nat→Nat) (f:Nat→Nat→Nat→Int) (r:Int) (O:Nat) (E:Nat→Nat→Int) (m:Nat) (g:Nat→Nat→Int) {w:Int} (hc:fM A B I J n M f r O E=0) (hb:hbB O g m=true) (h5:0≤w) (h6:w≤99):bdE A B I J n M f r O E m g w=0∧bdL A B I J n M f r O E m g w=blV E g w (iC A B I J f O E 0) (iC A B I J f O E 1) (iC A B I J f O E 2) (iC A B I J f O E 3) (iC A B I J f O E 4) (iC A B I J f O E 5) m∧bdH A B I J n M f r O E m g w=blV E g w (iy A B I J f O E 0) (iy A B I J f O E 1) (iy A B I J f O E 2) (iy A B I J f O E 3) (iy A B I J f O E 4) (iy A B I J f O E 5) m:=by
 have e:bdE A B I J n M f r O E m g w=0:=by unfold bdE;rw [hc,hb,(aU 0 w).mpr h5,(aU w 99).mpr h6];rfl
 exact ⟨e,by unfold bdL;rw [e];rfl,by unfold bdH;rw [e];rfl⟩
end
end BL
end Go.Proofs.YtiplgejpopellaaGreat
