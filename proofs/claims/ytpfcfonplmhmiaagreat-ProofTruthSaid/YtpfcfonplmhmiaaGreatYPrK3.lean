/- Casks: a truth by words: its strengths lie in their ranges; so do the duty and the strength of a blend; the tenths are those of each cask. -/
import Derived.Test.YtpfcfonplmhmiaaGreatYPrK1
import Derived.Test.YtpfcfonplmhmiaaGreatYPrE4
import Derived.Test.YtpfcfonplmhmiaaGreatYPrB1
set_option linter.all false
set_option linter.unusedSimpArgs false
set_option linter.unusedVariables false
namespace Go.Proofs.YtpfcfonplmhmiaaGreat
namespace BL
open Go Go.Ev PD
set_option maxRecDepth 1000000
noncomputable section
theorem Vy {v:V} (h:bJ v (.bool true)):v = .bool true:=by cases v<;>exact gu h
theorem Zz {g:Nat→Nat→Int} {k:Nat} {c:Nat→Nat→V} {i:Nat} (hu:∀ i,i<k→0≤bi (c i 0)) (h:g i 0≤g i 1):g i 0≤pkR g k c i 0∧pkR g k c i 0≤g i 1:=by
 by_cases k0:k=0
 ·subst k0
  show g i 0≤g i 0+0∧g i 0+0≤g i 1
  omega
 ·have e:pkR g k c=pkP g k (fun i j=>bi (c i j)):=by unfold pkR pkF;rw [(lu _ _).mpr k0];rfl
  rw [e]
  have ix:Int.toNat (Int.tmod ((i:Nat):Int) ((k:Nat):Int))<k:=by
   have:=jA (b:=((i:Nat):Int)) (p:=((k:Nat):Int)) (by omega) (by omega)
   omega
  have q:=jA (p:=g i 1-g i 0+1) (hu _ ix) (by omega)
  show g i 0≤g i 0+Int.tmod (bi (c (Int.toNat (Int.tmod ((i:Nat):Int) ((k:Nat):Int))) 0)) (g i 1-g i 0+1)∧g i 0+Int.tmod (bi (c (Int.toNat (Int.tmod ((i:Nat):Int) ((k:Nat):Int))) 0)) (g i 1-g i 0+1)≤g i 1
  omega
theorem Wj {a s t:Int} (ha:1≤a∧a≤99) (hs:0≤s∧s≤t) (ht:t≤2000):(0≤Int.tdiv (a*s) 100∧Int.tdiv (a*s) 100≤Int.tdiv (a*t) 100∧Int.tdiv (a*t) 100≤1980):=by
 have h1:=Hg ha ⟨hs.1,by omega⟩
 have h2:=Hg (t:=t) ha ⟨by omega,ht⟩
 have h3:=Int.mul_le_mul_of_nonneg_left hs.2 (show 0≤a by omega)
 rw [Int.tdiv_eq_ediv_of_nonneg h1.1,Int.tdiv_eq_ediv_of_nonneg h2.1]
 omega
theorem V9 {x y r:Int} (hx:0≤x∧x≤y) (hy:y≤1980) (hr:0≤r∧r≤200):Int.tdiv (x*r+9) 10≤Int.tdiv (y*r+9) 10:=by
 have h1:=MH (x:=x) ⟨hx.1,by omega⟩ hr
 have h2:=MH (x:=y) ⟨by omega,hy⟩ hr
 have h3:=Int.mul_le_mul_of_nonneg_right hx.2 hr.1
 rw [Int.tdiv_eq_ediv_of_nonneg (by omega),Int.tdiv_eq_ediv_of_nonneg (by omega)]
 omega
theorem XD {E:Nat→Nat→Int} {r:Int} {m:Nat} {s0 s1 s2 s3 s4 s5 t0 t1 t2 t3 t4 t5:Int} (hr:0≤r∧r≤200) (h:∀ i,i<m→(1≤E i 0∧E i 0≤99)∧0≤fA [s0,s1,s2,s3,s4,s5] (Int.ofNat i)∧fA [s0,s1,s2,s3,s4,s5] (Int.ofNat i)≤fA [t0,t1,t2,t3,t4,t5] (Int.ofNat i)∧fA [t0,t1,t2,t3,t4,t5] (Int.ofNat i)≤2000):∀ j,j≤m→qQ j E r s0 s1 s2 s3 s4 s5≤qQ j E r t0 t1 t2 t3 t4 t5:=by
 intro j
 induction j with
 | zero=>intro _;exact Int.le_refl _
 | succ j ih =>
  intro hj
  have a:=ih (by omega)
  have b:=h j (by omega)
  have c:=Wj b.1 ⟨b.2.1,b.2.2.1⟩ b.2.2.2
  have d:=V9 (r:=r) ⟨c.1,c.2.1⟩ c.2.2 hr
  have e1:qQ (j+1) E r s0 s1 s2 s3 s4 s5=qQ j E r s0 s1 s2 s3 s4 s5+Int.tdiv (Int.tdiv (E j 0*fA [s0,s1,s2,s3,s4,s5] (Int.ofNat j)) 100*r+9) 10:=rfl
  have e2:qQ (j+1) E r t0 t1 t2 t3 t4 t5=qQ j E r t0 t1 t2 t3 t4 t5+Int.tdiv (Int.tdiv (E j 0*fA [t0,t1,t2,t3,t4,t5] (Int.ofNat j)) 100*r+9) 10:=rfl
  rw [e1,e2]
  omega
theorem Z8 {O:Nat} {E t:Nat→Nat→Int} {r:Int} {i:Nat} (h6:O≤6) (hi:i<O) (ha:1≤E i 0∧E i 0≤99) (ht:0≤t i 0∧t i 0≤2000) (hr:0≤r∧r≤200):(0≤E i 0*t i 0∧E i 0*t i 0≤198000)∧(0≤aX E (aG O t 0) (aG O t 1) (aG O t 2) (aG O t 3) (aG O t 4) (aG O t 5) i 0∧aX E (aG O t 0) (aG O t 1) (aG O t 2) (aG O t 3) (aG O t 4) (aG O t 5) i 0≤1980)∧(100*aX E (aG O t 0) (aG O t 1) (aG O t 2) (aG O t 3) (aG O t 4) (aG O t 5) i 0≤E i 0*t i 0∧E i 0*t i 0<100*(aX E (aG O t 0) (aG O t 1) (aG O t 2) (aG O t 3) (aG O t 4) (aG O t 5) i 0+1))∧(0≤aX E (aG O t 0) (aG O t 1) (aG O t 2) (aG O t 3) (aG O t 4) (aG O t 5) i 0*r∧aX E (aG O t 0) (aG O t 1) (aG O t 2) (aG O t 3) (aG O t 4) (aG O t 5) i 0*r≤396000)∧(0≤Int.tdiv (aX E (aG O t 0) (aG O t 1) (aG O t 2) (aG O t 3) (aG O t 4) (aG O t 5) i 0*r+9) 10∧Int.tdiv (aX E (aG O t 0) (aG O t 1) (aG O t 2) (aG O t 3) (aG O t 4) (aG O t 5) i 0*r+9) 10≤1000000):=by
 have e:aX E (aG O t 0) (aG O t 1) (aG O t 2) (aG O t 3) (aG O t 4) (aG O t 5) i 0=Int.tdiv (E i 0*t i 0) 100:=by
  show Int.tdiv (E i 0*fA [aG O t 0,aG O t 1,aG O t 2,aG O t 3,aG O t 4,aG O t 5] (Int.ofNat i)) 100=_
  rw [DT h6 hi]
 have b:=Hg ha ht
 rw [Int.tdiv_eq_ediv_of_nonneg b.1] at e
 have n1:0≤aX E (aG O t 0) (aG O t 1) (aG O t 2) (aG O t 3) (aG O t 4) (aG O t 5) i 0∧aX E (aG O t 0) (aG O t 1) (aG O t 2) (aG O t 3) (aG O t 4) (aG O t 5) i 0≤1980:=by omega
 have z1:=Int.mul_nonneg n1.1 hr.1
 have z2:=Int.mul_le_mul (a:=aX E (aG O t 0) (aG O t 1) (aG O t 2) (aG O t 3) (aG O t 4) (aG O t 5) i 0) (b:=r) (c:=1980) (d:=200) n1.2 hr.2 hr.1 (by omega)
 exact ⟨b,n1,by omega,by omega,(MH n1 hr).2⟩
theorem Vx (A:Nat) (B:Nat→Nat→Int) (I:Nat) (J:Nat→Nat→Int) (n:Nat) (M:Nat→Nat) (f:Nat→Nat→Nat→Int) (r:Int) (O:Nat) (E:Nat→Nat→Int) (m:Nat) (g:Nat→Nat→Int) {w:Int} {t:Nat→Nat→Int} (hc:dO A B I J n M f r O E=0) (ok:StOk A B I J n M f r O E) (hb:hbB O g m=true) (km:m≤1000) (h5:0≤w) (h6:w≤99) (ht:∀ i,i<O→gm A B I J f E i≤t i 0∧t i 0≤gp A B I J f E i) :
 vF A B I J n M f r O E O t=0∧dW A B I J n M f r O E O t=O∧kT A B I J n M f r O E O t=qQ O E r (aG O t 0) (aG O t 1) (aG O t 2) (aG O t 3) (aG O t 4) (aG O t 5)∧dsL A B I J n M f r O E≤kT A B I J n M f r O E O t∧kT A B I J n M f r O E O t≤BK A B I J n M f r O E∧bdE A B I J n M f r O E m g w=0∧bdL A B I J n M f r O E m g w≤rsV E g w t m∧rsV E g w t m≤bdH A B I J n M f r O E m g w∧rsOk O E m g w O t=true:=by
 obtain ⟨c1,c2,c3⟩:=nG A B I J n M f r O E hc
 have hB:∀ i,i<O→0≤gm A B I J f E i∧gm A B I J f E i≤gp A B I J f E i∧gp A B I J f E i≤2000:=fun i hi=>Dh A B I J n M f r O E ok hi
 have e:=Zh A B I J n M f r O E (t:=t) hc ⟨rfl,ht⟩
 have d:kT A B I J n M f r O E O t=qQ O E r (aG O t 0) (aG O t 1) (aG O t 2) (aG O t 3) (aG O t 4) (aG O t 5):=by unfold kT;rw [e];rfl
 have dl:dsL A B I J n M f r O E=qQ O E r (bQ A B I J f O E 0) (bQ A B I J f O E 1) (bQ A B I J f O E 2) (bQ A B I J f O E 3) (bQ A B I J f O E 4) (bQ A B I J f O E 5):=by unfold dsL;rw [hc];rfl
 have dh:BK A B I J n M f r O E=qQ O E r (bM A B I J f O E 0) (bM A B I J f O E 1) (bM A B I J f O E 2) (bM A B I J f O E 3) (bM A B I J f O E 4) (bM A B I J f O E 5):=by unfold BK;rw [hc];rfl
 have o1:=ZU A B I J n M f r O E m g (w:=w) (t:=t) ok hb km h5 h6 (fun i hi=>by have:=hB i hi;have:=ht i hi;omega)
 obtain ⟨p0,p1⟩:=QK hb
 have ga:=(yO o1).1
 obtain ⟨b0,b1,b2⟩:=aah A B I J n M f r O E m g (w:=w) hc hb h5 h6
 have l1:rsV E g w (loG (fC A B I J f E)) m=blV E g w (bQ A B I J f O E 0) (bQ A B I J f O E 1) (bQ A B I J f O E 2) (bQ A B I J f O E 3) (bQ A B I J f O E 4) (bQ A B I J f O E 5) m:=Xc p1 (fun k hk=>Jr c2 hk)
 have l2:rsV E g w (hiG (fC A B I J f E)) m=blV E g w (bM A B I J f O E 0) (bM A B I J f O E 1) (bM A B I J f O E 2) (bM A B I J f O E 3) (bM A B I J f O E 4) (bM A B I J f O E 5) m:=Xc p1 (fun k hk=>Jd c2 hk)
 have m1:=(Nu (s:=loG (fC A B I J f E)) (t:=t) ga p0 h5 p1 (fun i hi=>by
  have a:=hB i hi
  have b:=ht i hi
  show 0≤gm A B I J f E i∧gm A B I J f E i≤t i 0∧t i 0≤2000
  omega)).1
 have m2:=(Nu (s:=t) (t:=hiG (fC A B I J f E)) ga p0 h5 p1 (fun i hi=>by
  have a:=hB i hi
  have b:=ht i hi
  show 0≤t i 0∧t i 0≤gp A B I J f E i∧gp A B I J f E i≤2000
  omega)).1
 refine ⟨e,by unfold dW;rw [e];rfl,d,?_,?_,b0,?_,?_,o1⟩
 ·rw [dl,d]
  exact XD ok.rate (fun i hi=>by
   rw [Jr c2 hi,DT c2 hi]
   exact ⟨(ok.cask i hi).1,(hB i hi).1,(ht i hi).1,by have:=hB i hi;have:=ht i hi;omega⟩) O (Nat.le_refl _)
 ·rw [dh,d]
  exact XD ok.rate (fun i hi=>by
   rw [Jd c2 hi,DT c2 hi]
   exact ⟨(ok.cask i hi).1,by have:=hB i hi;have:=ht i hi;omega,(ht i hi).2,(hB i hi).2.2⟩) O (Nat.le_refl _)
 ·rw [b1,← l1];exact m1
 ·rw [b2,← l2];exact m2
end
end BL
end Go.Proofs.YtpfcfonplmhmiaaGreat
