/- Casks: a store, and a list of numbers, that are read from the world. -/
import Derived.Test.YtiplgejpopellaaGreatRows
import Derived.Test.YtiplgejpopellaaGreatYEd
set_option linter.all false
set_option linter.unusedSimpArgs false
set_option linter.unusedVariables false
namespace Go.Proofs.YtiplgejpopellaaGreat
open Go Go.Ev Go.ChangeShapes Go.WideShapes Go.ChangeAt Go.RowKit
set_option maxRecDepth 1000000
theorem own:ownKnob Tryz.prog.godebug=none:=by kernel_rfl
theorem laidOut:laidOutB Tryz.prog=true:=by kernel_rfl
theorem E8 {R:Ren} {a len e:Nat} {c:Nat→Nat→V} (h:ay .i64 c len e=true) {x:Value} (hx:VR R (.fz true a c len e) x):VR R (.fz true a (ae .i64 fun i j=>dK (c i j)) len e) x :=
 hx.fz_as (fun _ _ q=>q) (fun _ _ _ _=>rfl) (fun _ _ _ _ => .int _ _) fun i j hi hj y hy=>by
  rw [vO h hi hj] at hy;exact hy
theorem O8 {W:World} {H:Type} {enc:TypeId×Value→H} {sp:Nat→Bool} {x:Value} {d:DataW H} {ps:List MemPlace} (h:DataW.Trod enc Tryz.prog W 0 sp true 28 x d ps) :
 ∃ A B I J n M f r O E,VR (qC W) (.agg 5 (T.setL .lf 0 [.fz true 0 (ae .i64 B) A 1,.fz true 0 (ae .i64 J) I 1,.fz true 0 (aQ 0 1 M f) n 1,.int .i64 r,.fz true 0 (ae .i64 E) O 5])) x:=by
 have ht:dI Tryz.prog 8 28=[22,22,23,3,26]:=by kernel_rfl
 obtain ⟨fs,hu⟩:∃ fs,Tryz.prog.underlying 28=some (.struct fs):=⟨_,Tryz.underlying28⟩
 obtain ⟨vs,h1,h2,h3⟩:=zl (P:=Tryz.prog) (t:=28) (n:=5) (by kernel_rfl) hu (by kernel_rfl) (by rw [ht];rfl) (by decide) h
 match vs,h1,h2,h3 with
 | [v0,v1,v2,v3,v4],_,h2,h3 =>
  have i3:Tryz.prog.underlying 3=some (.int .i64):=Tryz.underlying3
  obtain ⟨cw,A,rfl,hw,_⟩:=vz (q:=3) (n:=1) Tryz.underlying22 (by kernel_rfl) (by kernel_rfl) i3 (h3 0 (by simp) 22 (by rw [ht];rfl))
  obtain ⟨cm,I,rfl,hm,_⟩:=vz (q:=3) (n:=1) Tryz.underlying22 (by kernel_rfl) (by kernel_rfl) i3 (h3 1 (by simp) 22 (by rw [ht];rfl))
  obtain ⟨cv,n,e0,hv⟩:=CS Tryz.underlying23 (h3 2 (by simp) 23 (by rw [ht];rfl))
  obtain ⟨r,e3,_⟩:=yR i3 (h3 3 (by simp) 3 (by rw [ht];rfl))
  obtain ⟨cc,O,e4,hc,_⟩:=vz (q:=3) (n:=5) Tryz.underlying26 (by kernel_rfl) (by kernel_rfl) i3 (h3 4 (by simp) 26 (by rw [ht];rfl))
  have e0:v2 = .fz true 0 cv n 1:=e0
  have e3:v3 = .int .i64 r:=e3
  have e4:v4 = .fz true 0 cc O 5:=e4
  subst e0;subst e3;subst e4
  have hrow:∀ i,i<n→∃ c len,cv i 0 = .fz true 0 c len 1∧ay .i64 c len 1=true:=fun i hi=>by
   obtain ⟨c,len,q1,q2,_⟩:=vz (q:=3) (n:=1) Tryz.underlying22 (by kernel_rfl) (by kernel_rfl) i3 (hv i hi 0 22 (by kernel_rfl))
   exact ⟨c,len,q1,q2⟩
  refine ⟨A,fun i j=>dK (cw i j),I,fun i j=>dK (cm i j),n,fun i=>MO (cv i 0),fun i j k=>dK (pV (cv i 0) j k),r,O,fun i j=>dK (cc i j),?_⟩
  refine h2.agg_as (fun i=>([V.fz true 0 cw A 1,V.fz true 0 cm I 1,V.fz true 0 cv n 1,V.int .i64 r,V.fz true 0 cc O 5]:List V).getD i .bad)
   (fun i=>([V.fz true 0 (ae .i64 fun i j=>dK (cw i j)) A 1,V.fz true 0 (ae .i64 fun i j=>dK (cm i j)) I 1,V.fz true 0 (aQ 0 1 (fun i=>MO (cv i 0)) fun i j k=>dK (pV (cv i 0) j k)) n 1,V.int .i64 r,V.fz true 0 (ae .i64 fun i j=>dK (cc i j)) O 5]:List V).getD i .bad) (fun i hi=>?_) (fun i hi=>?_) (fun i hi=>?_) (fun i hi y hy=>?_)
  ·have:i=0∨i=1∨i=2∨i=3∨i=4:=by omega
   rcases this with rfl | rfl | rfl | rfl | rfl<;>rfl
  ·have:i=0∨i=1∨i=2∨i=3∨i=4:=by omega
   rcases this with rfl | rfl | rfl | rfl | rfl<;>rfl
  ·have:i=0∨i=1∨i=2∨i=3∨i=4:=by omega
   rcases this with rfl | rfl | rfl | rfl | rfl<;>rfl
  ·have:i=0∨i=1∨i=2∨i=3∨i=4:=by omega
   rcases this with rfl | rfl | rfl | rfl | rfl
   ·exact E8 hw hy
   ·exact E8 hm hy
   ·refine VR.fz_as (show VR (qC W) (.fz true 0 cv n 1) y from hy) (fun _ _ q=>q) (fun _ _ _ _=>rfl) (fun _ _ _ _ => .fz _ (Nat.le_refl _) fun _ _ _ _ => .int _ _) fun i j hi hj z hz=>?_
    have:j=0:=by omega
    subst this
    obtain ⟨c,len,q1,q2⟩:=hrow i hi
    rw [q1] at hz
    show VR (qC W) (.fz true 0 (ae .i64 fun j k=>dK (pV (cv i 0) j k)) (MO (cv i 0)) 1) z
    rw [q1]
    exact E8 q2 hz
   ·exact hy
   ·exact E8 hc hy
end Go.Proofs.YtiplgejpopellaaGreat
