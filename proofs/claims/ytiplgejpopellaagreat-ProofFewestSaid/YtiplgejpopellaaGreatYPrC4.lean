/- Casks: contracts: Strengths, Tenths, Duty, Duties: what they are, in words. -/
import Derived.Test.YtiplgejpopellaaGreatYPrC3
set_option linter.all false
set_option linter.unusedSimpArgs false
set_option linter.unusedVariables false
namespace Go.Proofs.YtiplgejpopellaaGreat
open Go Go.Ev
set_option maxRecDepth 1000000
set_option maxHeartbeats 0
noncomputable section
theorem RN (A:Nat) (B:Nat→Nat→Int) (I:Nat) (J:Nat→Nat→Int) (n:Nat) (M:Nat→Nat) (f:Nat→Nat→Nat→Int) (r:Int) (O:Nat) (E:Nat→Nat→Int) (h:StOk A B I J n M f r O E) {i:Nat} (hi:i<O):0≤iK A B I J f E i∧iK A B I J f E i≤iL A B I J f E i∧iL A B I J f E i≤2000:=by
 obtain ⟨_,hw,hm⟩:=h.cask i hi
 obtain ⟨x,y,hx,hy,e1⟩:=Y4 (A:=A) (B:=B) (I:=I) (J:=J) (f:=f) hw.1 hm.1
 obtain ⟨x',y',hx',hy',e2⟩:=Y8 (A:=A) (B:=B) (I:=I) (J:=J) (f:=f) hw.1 hm.1
 have b:=aay (A:=A) (B:=B) (I:=I) (J:=J) (f:=f) hw.1 hm.1 hx hy
 have hw':=hw
 have hm':=hm
 unfold qp Aw at hw' hm'
 have s1:=JS h.ok (x:=x) (y:=y) (by unfold Aw;omega) (by unfold Aw;omega)
 have s2:=JS h.ok (x:=x') (y:=y') (by unfold Aw;omega) (by unfold Aw;omega)
 unfold iK iL
 omega
theorem Yk (x0 x1 x2 x3 x4 x5:Int) {i:Nat} (g:Nat→Int) (h0:g 0=x0) (h1:g 1=x1) (h2:g 2=x2) (h3:g 3=x3) (h4:g 4=x4) (h5:g 5=x5) (hi:i<6):jH [x0,x1,x2,x3,x4,x5] (Int.ofNat i)=g i:=by
 have:i=0∨i=1∨i=2∨i=3∨i=4∨i=5:=by omega
 rcases this with rfl | rfl | rfl | rfl | rfl | rfl
 ·exact h0.symm
 ·exact h1.symm
 ·exact h2.symm
 ·exact h3.symm
 ·exact h4.symm
 ·exact h5.symm
theorem wW {a b:Nat} (h:a<b):Nat.blt a b=true:=(iT _ _).mpr h
theorem FD {a b:Nat} (h:¬ a<b):Nat.blt a b=false:=(iY _ _).mpr (by omega)
theorem Uk {A:Nat} {B:Nat→Nat→Int} {I:Nat} {J:Nat→Nat→Int} {f:Nat→Nat→Nat→Int} {O:Nat} {E:Nat→Nat→Int} {i:Nat} (h6:O≤6) (hi:i<O):jH [jG A B I J f O E 0,jG A B I J f O E 1,jG A B I J f O E 2,jG A B I J f O E 3,jG A B I J f O E 4,jG A B I J f O E 5] (Int.ofNat i)=iK A B I J f E i:=by
 rw [Yk _ _ _ _ _ _ (jG A B I J f O E) rfl rfl rfl rfl rfl rfl (by omega)]
 unfold jG
 rw [wW hi];rfl
theorem VU {A:Nat} {B:Nat→Nat→Int} {I:Nat} {J:Nat→Nat→Int} {f:Nat→Nat→Nat→Int} {O:Nat} {E:Nat→Nat→Int} {i:Nat} (h6:O≤6) (hi:i<O):jH [jo A B I J f O E 0,jo A B I J f O E 1,jo A B I J f O E 2,jo A B I J f O E 3,jo A B I J f O E 4,jo A B I J f O E 5] (Int.ofNat i)=iL A B I J f E i:=by
 rw [Yk _ _ _ _ _ _ (jo A B I J f O E) rfl rfl rfl rfl rfl rfl (by omega)]
 unfold jo
 rw [wW hi];rfl
theorem Vh {O:Nat} {E:Nat→Nat→Int} {t0 t1 t2 t3 t4 t5:Int} (h6:O≤6) (h:∀ i,i<O→(1≤E i 0∧E i 0≤99)∧0≤jH [t0,t1,t2,t3,t4,t5] (Int.ofNat i)∧jH [t0,t1,t2,t3,t4,t5] (Int.ofNat i)≤2000):tnB O E t0 t1 t2 t3 t4 t5=true :=
 aI (dV h6) (bW fun i hi=>aI (gaB_t.mpr (h i hi).1) (srB_t.mpr (h i hi).2))
theorem aak (A:Nat) (B:Nat→Nat→Int) (I:Nat) (J:Nat→Nat→Int) (n:Nat) (M:Nat→Nat) (f:Nat→Nat→Nat→Int) (r:Int) (O:Nat) (E:Nat→Nat→Int) (h:StOk A B I J n M f r O E):tnB O E (jG A B I J f O E 0) (jG A B I J f O E 1) (jG A B I J f O E 2) (jG A B I J f O E 3) (jG A B I J f O E 4) (jG A B I J f O E 5)=true:=Vh h.six fun i hi=>by
 rw [Uk h.six hi]
 have:=RN A B I J n M f r O E h hi
 exact ⟨(h.cask i hi).1,by omega,by omega⟩
theorem abL (A:Nat) (B:Nat→Nat→Int) (I:Nat) (J:Nat→Nat→Int) (n:Nat) (M:Nat→Nat) (f:Nat→Nat→Nat→Int) (r:Int) (O:Nat) (E:Nat→Nat→Int) (h:StOk A B I J n M f r O E):tnB O E (jo A B I J f O E 0) (jo A B I J f O E 1) (jo A B I J f O E 2) (jo A B I J f O E 3) (jo A B I J f O E 4) (jo A B I J f O E 5)=true:=Vh h.six fun i hi=>by
 rw [VU h.six hi]
 have:=RN A B I J n M f r O E h hi
 exact ⟨(h.cask i hi).1,by omega,by omega⟩
theorem F6 (A:Nat) (B:Nat→Nat→Int) (I:Nat) (J:Nat→Nat→Int) (n:Nat) (M:Nat→Nat) (f:Nat→Nat→Nat→Int) (r:Int) (O:Nat) (E:Nat→Nat→Int) (h:gW A B I J n M f r O E=0):aT A B I J n M f=0∧O≤6∧kC A B I J E O=true:=by
 have ok:=FW A B I J n M f r O E h
 rcases xk A B I J n M f r O E with ⟨h1,h2⟩ | ⟨_,_,h3⟩ | ⟨_,_,_,h3⟩ | ⟨h1,h2,h3,_⟩
 ·rw [h2] at h;exact absurd h h1
 ·rw [h3] at h;cases h
 ·rw [h3] at h;cases h
 ·exact ⟨h1,h2,h3.2.2⟩
end
end Go.Proofs.YtiplgejpopellaaGreat
