/- Casks: contracts: Strengths, Tenths, Duty, Duties: what they are, in words. -/
import Derived.Test.YtiplgejpopellaaGreatYPrC3
set_option linter.all false
set_option linter.unusedSimpArgs false
set_option linter.unusedVariables false
namespace Go.Proofs.YtiplgejpopellaaGreat
open Go Go.Ev
set_option maxRecDepth 1000000
set_option maxHeartbeats 0
noncomputable section
theorem Uk (A:Nat) (B:Nat→Nat→Int) (I:Nat) (J:Nat→Nat→Int) (n:Nat) (M:Nat→Nat) (f:Nat→Nat→Nat→Int) (r:Int) (O:Nat) (E:Nat→Nat→Int) (h:StOk A B I J n M f r O E) {i:Nat} (hi:i<O):0≤gz A B I J f E i∧gz A B I J f E i≤gB A B I J f E i∧gB A B I J f E i≤2000:=by
 obtain ⟨_,hw,hm⟩:=h.cask i hi
 obtain ⟨x,y,hx,hy,e1⟩:=UA (A:=A) (B:=B) (I:=I) (J:=J) (f:=f) hw.1 hm.1
 obtain ⟨x',y',hx',hy',e2⟩:=Qp (A:=A) (B:=B) (I:=I) (J:=J) (f:=f) hw.1 hm.1
 have b:=ZG (A:=A) (B:=B) (I:=I) (J:=J) (f:=f) hw.1 hm.1 hx hy
 have hw':=hw
 have hm':=hm
 unfold rgB onB at hw' hm'
 have s1:=Ue h.ok (x:=x) (y:=y) (by unfold onB;omega) (by unfold onB;omega)
 have s2:=Ue h.ok (x:=x') (y:=y') (by unfold onB;omega) (by unfold onB;omega)
 unfold gz gB
 omega
theorem W9 (x0 x1 x2 x3 x4 x5:Int) {i:Nat} (g:Nat→Int) (h0:g 0=x0) (h1:g 1=x1) (h2:g 2=x2) (h3:g 3=x3) (h4:g 4=x4) (h5:g 5=x5) (hi:i<6):fZ [x0,x1,x2,x3,x4,x5] (Int.ofNat i)=g i:=by
 have:i=0∨i=1∨i=2∨i=3∨i=4∨i=5:=by omega
 rcases this with rfl | rfl | rfl | rfl | rfl | rfl
 ·exact h0.symm
 ·exact h1.symm
 ·exact h2.symm
 ·exact h3.symm
 ·exact h4.symm
 ·exact h5.symm
theorem Ie {a b:Nat} (h:a<b):Nat.blt a b=true:=(qR _ _).mpr h
theorem QV {A:Nat} {B:Nat→Nat→Int} {I:Nat} {J:Nat→Nat→Int} {f:Nat→Nat→Nat→Int} {O:Nat} {E:Nat→Nat→Int} {i:Nat} (h6:O≤6) (hi:i<O):fZ [iC A B I J f O E 0,iC A B I J f O E 1,iC A B I J f O E 2,iC A B I J f O E 3,iC A B I J f O E 4,iC A B I J f O E 5] (Int.ofNat i)=gz A B I J f E i:=by
 rw [W9 _ _ _ _ _ _ (iC A B I J f O E) rfl rfl rfl rfl rfl rfl (by omega)]
 unfold iC
 rw [Ie hi];rfl
theorem Uh {A:Nat} {B:Nat→Nat→Int} {I:Nat} {J:Nat→Nat→Int} {f:Nat→Nat→Nat→Int} {O:Nat} {E:Nat→Nat→Int} {i:Nat} (h6:O≤6) (hi:i<O):fZ [iy A B I J f O E 0,iy A B I J f O E 1,iy A B I J f O E 2,iy A B I J f O E 3,iy A B I J f O E 4,iy A B I J f O E 5] (Int.ofNat i)=gB A B I J f E i:=by
 rw [W9 _ _ _ _ _ _ (iy A B I J f O E) rfl rfl rfl rfl rfl rfl (by omega)]
 unfold iy
 rw [Ie hi];rfl
theorem Qs {O:Nat} {E:Nat→Nat→Int} {t0 t1 t2 t3 t4 t5:Int} (h6:O≤6) (h:∀ i,i<O→(1≤E i 0∧E i 0≤99)∧0≤fZ [t0,t1,t2,t3,t4,t5] (Int.ofNat i)∧fZ [t0,t1,t2,t3,t4,t5] (Int.ofNat i)≤2000):yl O E t0 t1 t2 t3 t4 t5=true :=
 aN (dL h6) (bF fun i hi=>aN (gaB_t.mpr (h i hi).1) (srB_t.mpr (h i hi).2))
theorem Zk (A:Nat) (B:Nat→Nat→Int) (I:Nat) (J:Nat→Nat→Int) (n:Nat) (M:Nat→Nat) (f:Nat→Nat→Nat→Int) (r:Int) (O:Nat) (E:Nat→Nat→Int) (h:StOk A B I J n M f r O E):yl O E (iC A B I J f O E 0) (iC A B I J f O E 1) (iC A B I J f O E 2) (iC A B I J f O E 3) (iC A B I J f O E 4) (iC A B I J f O E 5)=true:=Qs h.six fun i hi=>by
 rw [QV h.six hi]
 have:=Uk A B I J n M f r O E h hi
 exact ⟨(h.cask i hi).1,by omega,by omega⟩
theorem YU (A:Nat) (B:Nat→Nat→Int) (I:Nat) (J:Nat→Nat→Int) (n:Nat) (M:Nat→Nat) (f:Nat→Nat→Nat→Int) (r:Int) (O:Nat) (E:Nat→Nat→Int) (h:StOk A B I J n M f r O E):yl O E (iy A B I J f O E 0) (iy A B I J f O E 1) (iy A B I J f O E 2) (iy A B I J f O E 3) (iy A B I J f O E 4) (iy A B I J f O E 5)=true:=Qs h.six fun i hi=>by
 rw [Uh h.six hi]
 have:=Uk A B I J n M f r O E h hi
 exact ⟨(h.cask i hi).1,by omega,by omega⟩
theorem CY (A:Nat) (B:Nat→Nat→Int) (I:Nat) (J:Nat→Nat→Int) (n:Nat) (M:Nat→Nat) (f:Nat→Nat→Nat→Int) (r:Int) (O:Nat) (E:Nat→Nat→Int) (h:fM A B I J n M f r O E=0):aX A B I J n M f=0∧O≤6∧mf A B I J E O=true:=by
 have ok:=xN A B I J n M f r O E h
 rcases qG A B I J n M f r O E with ⟨h1,h2⟩ | ⟨_,_,h3⟩ | ⟨_,_,_,h3⟩ | ⟨h1,h2,h3,_⟩
 ·rw [h2] at h;exact absurd h h1
 ·rw [h3] at h;cases h
 ·rw [h3] at h;cases h
 ·exact ⟨h1,h2,h3.2.2⟩
def jH (A:Nat) (B:Nat→Nat→Int) (I:Nat) (J:Nat→Nat→Int) (n:Nat) (M:Nat→Nat) (f:Nat→Nat→Nat→Int) (r:Int) (O:Nat) (E:Nat→Nat→Int):Nat:=cond (aY (fM A B I J n M f r O E) 0) O 0
def TT:wU:=fun das=>match das with | [.st [.sl 1 A B,.sl 1 I J,.rr 1 n M f,.i .i64 r,.sl 5 O E]]=>some (cond (nT A I n M) (Nat.ble O 1000) false,.tup [.one (.new (.sl 2 (jH A B I J n M f r O E) (bZ A B I J f E))),.one (.new (.i .i64 (fM A B I J n M f r O E)))]) | _=>none
theorem ZW:G5 Tryz.prog 17 TT:=by
 intro das v hv
 unfold TT at hv
 split at hv
 ·rename_i A B I J n M f r O E
  have hb:=congrArg Prod.fst (Option.some.inj hv)
  have hv:=congrArg Prod.snd (Option.some.inj hv)
  subst hv
  obtain ⟨hb,hn⟩:=ah hb
  have hn:=Nat.le_of_ble_eq_true hn
  by_cases h:fM A B I J n M f r O E=0
  ·obtain ⟨c1,c2,c3⟩:=CY A B I J n M f r O E h
   have e:jH A B I J n M f r O E=O:=by unfold jH;rw [h];rfl
   rw [h,e]
   exact aO aj Pv (ss2 A B I J n M f r O E hb h c1 c2 c3)
  ·have e:jH A B I J n M f r O E=0:=by unfold jH;rw [(ji _ _).mpr h];rfl
   rw [e]
   exact aO aj Pv (ss1 A B I J n M f r O E hb hn h)
 ·cases hv
end
end Go.Proofs.YtiplgejpopellaaGreat
