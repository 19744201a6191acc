/- Casks: contracts: Strengths, Tenths, Duty, Duties: what they are, in words. -/
import Derived.Test.YtiplgejpopellaaGreatYPrC3
set_option linter.all false
set_option linter.unusedSimpArgs false
set_option linter.unusedVariables false
namespace Go.Proofs.YtiplgejpopellaaGreat
open Go Go.Ev
set_option maxRecDepth 1000000
set_option maxHeartbeats 0
noncomputable section
theorem WW (A:Nat) (B:Nat→Nat→Int) (I:Nat) (J:Nat→Nat→Int) (n:Nat) (M:Nat→Nat) (f:Nat→Nat→Nat→Int) (r:Int) (O:Nat) (E:Nat→Nat→Int) (h:StOk A B I J n M f r O E) {i:Nat} (hi:i<O):0≤gW A B I J f E i∧gW A B I J f E i≤gU A B I J f E i∧gU A B I J f E i≤2000:=by
 obtain ⟨_,hw,hm⟩:=h.cask i hi
 obtain ⟨x,y,hx,hy,e1⟩:=Xq (A:=A) (B:=B) (I:=I) (J:=J) (f:=f) hw.1 hm.1
 obtain ⟨x',y',hx',hy',e2⟩:=XJ (A:=A) (B:=B) (I:=I) (J:=J) (f:=f) hw.1 hm.1
 have b:=Zf (A:=A) (B:=B) (I:=I) (J:=J) (f:=f) hw.1 hm.1 hx hy
 have hw':=hw
 have hm':=hm
 unfold rgB onB at hw' hm'
 have s1:=Ur h.ok (x:=x) (y:=y) (by unfold onB;omega) (by unfold onB;omega)
 have s2:=Ur h.ok (x:=x') (y:=y') (by unfold onB;omega) (by unfold onB;omega)
 unfold gW gU
 omega
theorem WX (x0 x1 x2 x3 x4 x5:Int) {i:Nat} (g:Nat→Int) (h0:g 0=x0) (h1:g 1=x1) (h2:g 2=x2) (h3:g 3=x3) (h4:g 4=x4) (h5:g 5=x5) (hi:i<6):jo [x0,x1,x2,x3,x4,x5] (Int.ofNat i)=g i:=by
 have:i=0∨i=1∨i=2∨i=3∨i=4∨i=5:=by omega
 rcases this with rfl | rfl | rfl | rfl | rfl | rfl
 ·exact h0.symm
 ·exact h1.symm
 ·exact h2.symm
 ·exact h3.symm
 ·exact h4.symm
 ·exact h5.symm
theorem CE {a b:Nat} (h:a<b):Nat.blt a b=true:=(gZ _ _).mpr h
theorem Ua {a b:Nat} (h:¬ a<b):Nat.blt a b=false:=(iC _ _).mpr (by omega)
theorem XK {A:Nat} {B:Nat→Nat→Int} {I:Nat} {J:Nat→Nat→Int} {f:Nat→Nat→Nat→Int} {O:Nat} {E:Nat→Nat→Int} {i:Nat} (h6:O≤6) (hi:i<O):jo [ai A B I J f O E 0,ai A B I J f O E 1,ai A B I J f O E 2,ai A B I J f O E 3,ai A B I J f O E 4,ai A B I J f O E 5] (Int.ofNat i)=gW A B I J f E i:=by
 rw [WX _ _ _ _ _ _ (ai A B I J f O E) rfl rfl rfl rfl rfl rfl (by omega)]
 unfold ai
 rw [CE hi];rfl
theorem Xu {A:Nat} {B:Nat→Nat→Int} {I:Nat} {J:Nat→Nat→Int} {f:Nat→Nat→Nat→Int} {O:Nat} {E:Nat→Nat→Int} {i:Nat} (h6:O≤6) (hi:i<O):jo [aj A B I J f O E 0,aj A B I J f O E 1,aj A B I J f O E 2,aj A B I J f O E 3,aj A B I J f O E 4,aj A B I J f O E 5] (Int.ofNat i)=gU A B I J f E i:=by
 rw [WX _ _ _ _ _ _ (aj A B I J f O E) rfl rfl rfl rfl rfl rfl (by omega)]
 unfold aj
 rw [CE hi];rfl
theorem Q3 {O:Nat} {E:Nat→Nat→Int} {t0 t1 t2 t3 t4 t5:Int} (h6:O≤6) (h:∀ i,i<O→(1≤E i 0∧E i 0≤99)∧0≤jo [t0,t1,t2,t3,t4,t5] (Int.ofNat i)∧jo [t0,t1,t2,t3,t4,t5] (Int.ofNat i)≤2000):tnB O E t0 t1 t2 t3 t4 t5=true :=
 aO (dN h6) (bJ fun i hi=>aO (gaB_t.mpr (h i hi).1) (srB_t.mpr (h i hi).2))
theorem V9 (A:Nat) (B:Nat→Nat→Int) (I:Nat) (J:Nat→Nat→Int) (n:Nat) (M:Nat→Nat) (f:Nat→Nat→Nat→Int) (r:Int) (O:Nat) (E:Nat→Nat→Int) (h:StOk A B I J n M f r O E):tnB O E (ai A B I J f O E 0) (ai A B I J f O E 1) (ai A B I J f O E 2) (ai A B I J f O E 3) (ai A B I J f O E 4) (ai A B I J f O E 5)=true:=Q3 h.six fun i hi=>by
 rw [XK h.six hi]
 have:=WW A B I J n M f r O E h hi
 exact ⟨(h.cask i hi).1,by omega,by omega⟩
theorem WY (A:Nat) (B:Nat→Nat→Int) (I:Nat) (J:Nat→Nat→Int) (n:Nat) (M:Nat→Nat) (f:Nat→Nat→Nat→Int) (r:Int) (O:Nat) (E:Nat→Nat→Int) (h:StOk A B I J n M f r O E):tnB O E (aj A B I J f O E 0) (aj A B I J f O E 1) (aj A B I J f O E 2) (aj A B I J f O E 3) (aj A B I J f O E 4) (aj A B I J f O E 5)=true:=Q3 h.six fun i hi=>by
 rw [Xu h.six hi]
 have:=WW A B I J n M f r O E h hi
 exact ⟨(h.cask i hi).1,by omega,by omega⟩
theorem JX (A:Nat) (B:Nat→Nat→Int) (I:Nat) (J:Nat→Nat→Int) (n:Nat) (M:Nat→Nat) (f:Nat→Nat→Nat→Int) (r:Int) (O:Nat) (E:Nat→Nat→Int) (h:iH A B I J n M f r O E=0):aX A B I J n M f=0∧O≤6∧jY A B I J E O=true:=by
 have ok:=Dh A B I J n M f r O E h
 rcases uM A B I J n M f r O E with ⟨h1,h2⟩ | ⟨_,_,h3⟩ | ⟨_,_,_,h3⟩ | ⟨h1,h2,h3,_⟩
 ·rw [h2] at h;exact absurd h h1
 ·rw [h3] at h;cases h
 ·rw [h3] at h;cases h
 ·exact ⟨h1,h2,h3.2.2⟩
end
end Go.Proofs.YtiplgejpopellaaGreat
