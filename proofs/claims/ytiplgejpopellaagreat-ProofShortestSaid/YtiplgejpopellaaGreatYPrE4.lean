/- Casks: lists by bits are of casks of a blend; the reference's strength of a blend is the program's. -/
import Derived.Test.YtiplgejpopellaaGreatYPrE2
set_option linter.all false
set_option linter.unusedSimpArgs false
set_option linter.unusedVariables false
namespace Go.Proofs.YtiplgejpopellaaGreat
namespace BL
open Go Go.Ev
set_option maxRecDepth 1000000
noncomputable section
def chk (O:Nat) (x:Nat):Bool:=cond (Nat.beq (biN (Int.ofNat x)) 0) true (hbB O (biF (Int.ofNat x)) (biN (Int.ofNat x)))
theorem Zx:eu (chk 1) 2=true:=by kernel_rfl
theorem ZZ:eu (chk 2) 4=true:=by kernel_rfl
theorem ZV:eu (chk 3) 8=true:=by kernel_rfl
theorem Y2:eu (chk 4) 16=true:=by kernel_rfl
theorem Y7:eu (chk 5) 32=true:=by kernel_rfl
theorem ZP:eu (chk 6) 64=true:=by kernel_rfl
theorem Zg {O:Nat} {b:Int} (h1:1≤O) (h2:O≤6) (hb:0≤b∧b≤255):hbB O (soF O b) (soN O b)=true:=by
 by_cases z:biN (uB O b)=0
 ·obtain ⟨e1,e2⟩:=F9 z
  rw [e1,e2]
  have q:=jq (p:=(O:Int)) hb.1 (by omega)
  refine aO rfl (aO (bJ fun i _=>?_) rfl)
  unfold inH
  rw [fC]
  exact q
 ·obtain ⟨e1,e2⟩:=FV z
  rw [e1,e2]
  have q:=jq (p:=Int.ofNat (Nat.pow 2 O)) hb.1 (by have:0<2^O:=Nat.two_pow_pos O;exact Int.ofNat_lt.mpr this)
  have q:0≤uB O b∧uB O b<Int.ofNat (Nat.pow 2 O):=q
  obtain ⟨x,e⟩:∃ x:Nat,uB O b=Int.ofNat x:=⟨Int.toNat (uB O b),by have:(Int.toNat (uB O b):Int)=uB O b:=Int.toNat_of_nonneg q.1;exact this.symm⟩
  rw [e] at z q ⊢
  have hx:x<Nat.pow 2 O:=Int.ofNat_lt.mp q.2
  have key:chk O x=true:=by
   have hn:O=1∨O=2∨O=3∨O=4∨O=5∨O=6:=by omega
   rcases hn with rfl | rfl | rfl | rfl | rfl | rfl
   ·exact aU Zx x hx
   ·exact aU ZZ x hx
   ·exact aU ZV x hx
   ·exact aU Y2 x hx
   ·exact aU Y7 x hx
   ·exact aU ZP x hx
  unfold chk at key
  rw [(fJ _ _).mpr z] at key
  exact key
theorem Za (A:Nat) (B:Nat→Nat→Int) (I:Nat) (J:Nat→Nat→Int) (n:Nat) (M:Nat→Nat) (f:Nat→Nat→Nat→Int) (r:Int) (O:Nat) (E:Nat→Nat→Int) (m:Nat) (g:Nat→Nat→Int) {w:Int} (hc:iH A B I J n M f r O E=0) (hb:hbB O g m=true) (h5:0≤w) (h6:w≤99):bdE A B I J n M f r O E m g w=0∧bdL A B I J n M f r O E m g w=blV E g w (ai A B I J f O E 0) (ai A B I J f O E 1) (ai A B I J f O E 2) (ai A B I J f O E 3) (ai A B I J f O E 4) (ai A B I J f O E 5) m∧bdH A B I J n M f r O E m g w=blV E g w (aj A B I J f O E 0) (aj A B I J f O E 1) (aj A B I J f O E 2) (aj A B I J f O E 3) (aj A B I J f O E 4) (aj A B I J f O E 5) m:=by
 have e:bdE A B I J n M f r O E m g w=0:=by unfold bdE;rw [hc,hb,(aV 0 w).mpr h5,(aV w 99).mpr h6];rfl
 exact ⟨e,by unfold bdL;rw [e];rfl,by unfold bdH;rw [e];rfl⟩
end
end BL
end Go.Proofs.YtiplgejpopellaaGreat
