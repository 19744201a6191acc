/- Casks: a cellar that is read from the world. -/
import Derived.Test.YtflblednifbleaaRows
import Derived.Test.YtflblednifbleaaYEd
import Derived.Test.YtflblednifbleaaYCaC6
set_option linter.all false
set_option linter.unusedSimpArgs false
set_option linter.unusedVariables false
namespace Go.Proofs.Ytflblednifbleaa
open Go Go.Ev Go.ChangeShapes Go.WideShapes Go.ChangeAt Go.RowKit
set_option maxRecDepth 1000000
theorem VA {R:Ren} {a len e:Nat} {c:Nat→Nat→V} (h:aO .i64 c len e=true) {x:Value} (hx:VR R (.fz true a c len e) x):VR R (.fz true a (ae .i64 fun i j=>cO (c i j)) len e) x :=
 hx.fz_as (fun _ _ q=>q) (fun _ _ _ _=>rfl) (fun _ _ _ _ => .int _ _) fun i j hi hj y hy=>by
  rw [oz h hi hj] at hy;exact hy
theorem JX {R:Ren} {a len e:Nat} {c:Nat→Nat→V} (ks:List CK) (h:aF a c ks len e=true) {x:Value} (hx:VR R (.fz true a c len e) x):VR R (.fz true a (ah a ks (fun i j=>cO (c i j)) (fun i j=>jQ (c i j)) (fun i j=>uT (c i j)) (fun i j k m=>cO (jK (c i j) k m))) len e) x :=
 hx.fz_as (fun _ _ q=>q) (fun i j _ _=>(jF a _ _ _ _ i j _).1) (fun i j _ _=>(jF a _ _ _ _ i j _).2) fun i j hi hj y hv=>by
  have q:=aQ (aQ h i hi) j hj
  show VR _ (cellW a _ _ _ _ i j (lJ ks j)) y
  generalize lJ ks j=kd at q
  cases kd with
  | i =>
   have q:isI .i64 (c i j)=true:=q
   show VR _ (.int .i64 (cO (c i j))) y
   cases hc:c i j with
   | int k' m'=>rw [hc] at q hv;have q:gz k' .i64=true:=q;have:=mi q;subst this;exact hv
   | _=>rw [hc] at q;cases q
  | b =>
   have q:(match c i j with | .bool _=>true | _=>false)=true:=q
   show VR _ (.bool (jQ (c i j))) y
   cases hc:c i j with
   | bool b=>rw [hc] at hv;exact hv
   | _=>rw [hc] at q;cases q
  | r e' =>
   obtain ⟨q',e1,e2⟩:=Di (show isR a e' (c i j)=true from q)
   rw [e1] at hv
   show VR _ (.fz true a (ae .i64 (fun k m=>cO (jK (c i j) k m))) (uT (c i j)) e') y
   refine hv.fz_as (fun _ _ q=>q) (fun _ _ _ _=>rfl) (fun _ _ _ _ => .int _ _) (fun i' j' hi' hj' y' hv'=>?_)
   show VR _ (.int .i64 (cO (jK (c i j) i' j'))) y'
   rw [oz e2 hi' hj'] at hv'
   exact hv'
theorem nZ {v:V} (h:∃ n,v = .int .i64 n):isI .i64 v=true:=by obtain ⟨n,rfl⟩:=h;rfl
theorem Iu {W:World} {H:Type} {enc:TypeId×Value→H} {sp:Nat→Bool} {x:Value} {d:DataW H} {ps:List MemPlace} (h:DataW.Trod enc Try.prog W 0 sp true 26 x d ps) :
 ∃ nc fi fb ls fr nm fm ng gi gb gl gr,VR (qW W) (.agg 3 (T.setL .lf 0 [.fz true 0 (ah 0 [.r 2,.i,.i,.i,.i] fi fb ls fr) nc 5,.fz true 0 (ae .i64 fm) nm 4,.fz true 0 (ah 0 [.i,.i,.i,.i,.b] gi gb gl gr) ng 5])) x:=by
 have ht:bP Try.prog 8 26=[22,23,24]:=by kernel_rfl
 obtain ⟨fs,hu⟩:∃ fs,Try.prog.underlying 26=some (.struct fs):=⟨_,Try.underlying26⟩
 obtain ⟨vs,h1,h2,h3⟩:=IB (P:=Try.prog) (t:=26) (n:=3) (by kernel_rfl) hu (by kernel_rfl) (by rw [ht];rfl) (by decide) h
 match vs,h1,h2,h3 with
 | [v0,v1,v2],_,h2,h3 =>
  have i3:Try.prog.underlying 3=some (.int .i64):=Try.underlying3
  have b4:Try.prog.underlying 4=some .bool:=Try.underlying4
  obtain ⟨cv,nc,e0,hv⟩:=uM Try.underlying22 (h3 0 (by simp) 22 (by rw [ht];rfl))
  obtain ⟨cm,nm,e1,hm,_⟩:=DY (q:=3) (n:=4) Try.underlying23 (by kernel_rfl) (by kernel_rfl) i3 (h3 1 (by simp) 23 (by rw [ht];rfl))
  obtain ⟨cg,ng,e2,hg⟩:=uM Try.underlying24 (h3 2 (by simp) 24 (by rw [ht];rfl))
  have e0:v0 = .fz true 0 cv nc 5:=e0
  have e1:v1 = .fz true 0 cm nm 4:=e1
  have e2:v2 = .fz true 0 cg ng 5:=e2
  subst e0;subst e1;subst e2
  have hK:aF 0 cv [.r 2,.i,.i,.i,.i] nc 5=true:=bu fun i hi=>bu fun j hj=>by
   have:j=0∨j=1∨j=2∨j=3∨j=4:=by omega
   rcases this with rfl | rfl | rfl | rfl | rfl
   ·obtain ⟨c,len,q1,q2,_⟩:=DY (q:=3) (n:=2) Try.underlying50 (by kernel_rfl) (by kernel_rfl) i3 (hv i hi 0 50 (by kernel_rfl))
    show isR 0 2 (cv i 0)=true
    rw [q1]
    exact q2
   ·exact nZ ((jU i3 (hv i hi 1 3 (by kernel_rfl))).imp fun _ h=>h.1)
   ·exact nZ ((jU i3 (hv i hi 2 3 (by kernel_rfl))).imp fun _ h=>h.1)
   ·exact nZ ((jU i3 (hv i hi 3 3 (by kernel_rfl))).imp fun _ h=>h.1)
   ·exact nZ ((jU i3 (hv i hi 4 3 (by kernel_rfl))).imp fun _ h=>h.1)
  have hG:aF 0 cg [.i,.i,.i,.i,.b] ng 5=true:=bu fun i hi=>bu fun j hj=>by
   have:j=0∨j=1∨j=2∨j=3∨j=4:=by omega
   rcases this with rfl | rfl | rfl | rfl | rfl
   ·exact nZ ((jU i3 (hg i hi 0 3 (by kernel_rfl))).imp fun _ h=>h.1)
   ·exact nZ ((jU i3 (hg i hi 1 3 (by kernel_rfl))).imp fun _ h=>h.1)
   ·exact nZ ((jU i3 (hg i hi 2 3 (by kernel_rfl))).imp fun _ h=>h.1)
   ·exact nZ ((jU i3 (hg i hi 3 3 (by kernel_rfl))).imp fun _ h=>h.1)
   ·obtain ⟨b,hb⟩:=SL b4 (hg i hi 4 4 (by kernel_rfl))
    show (match cg i 4 with | .bool _=>true | _=>false)=true
    rw [hb]
  refine ⟨nc,fun i j=>cO (cv i j),fun i j=>jQ (cv i j),fun i j=>uT (cv i j),fun i j k m=>cO (jK (cv i j) k m),nm,fun i j=>cO (cm i j),ng,fun i j=>cO (cg i j),fun i j=>jQ (cg i j),fun i j=>uT (cg i j),fun i j k m=>cO (jK (cg i j) k m),?_⟩
  refine h2.agg_as (fun i=>([V.fz true 0 cv nc 5,V.fz true 0 cm nm 4,V.fz true 0 cg ng 5]:List V).getD i .bad)
   (fun i=>([V.fz true 0 (ah 0 [.r 2,.i,.i,.i,.i] (fun i j=>cO (cv i j)) (fun i j=>jQ (cv i j)) (fun i j=>uT (cv i j)) (fun i j k m=>cO (jK (cv i j) k m))) nc 5,V.fz true 0 (ae .i64 fun i j=>cO (cm i j)) nm 4,V.fz true 0 (ah 0 [.i,.i,.i,.i,.b] (fun i j=>cO (cg i j)) (fun i j=>jQ (cg i j)) (fun i j=>uT (cg i j)) (fun i j k m=>cO (jK (cg i j) k m))) ng 5]:List V).getD i .bad) (fun i hi=>?_) (fun i hi=>?_) (fun i hi=>?_) (fun i hi y hy=>?_)
  ·have:i=0∨i=1∨i=2:=by omega
   rcases this with rfl | rfl | rfl<;>rfl
  ·have:i=0∨i=1∨i=2:=by omega
   rcases this with rfl | rfl | rfl<;>rfl
  ·have:i=0∨i=1∨i=2:=by omega
   rcases this with rfl | rfl | rfl<;>rfl
  ·have:i=0∨i=1∨i=2:=by omega
   rcases this with rfl | rfl | rfl
   ·exact JX [.r 2,.i,.i,.i,.i] hK hy
   ·exact VA hm hy
   ·exact JX [.i,.i,.i,.i,.b] hG hy
end Go.Proofs.Ytflblednifbleaa
