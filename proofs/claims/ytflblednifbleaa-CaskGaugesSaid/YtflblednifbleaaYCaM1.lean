/- Casks: what the content at a dip is like: it rises; the greatest dip of a content. -/
import Derived.Test.YtflblednifbleaaYCaC2
set_option linter.all false
set_option linter.unusedSimpArgs false
set_option linter.unusedVariables false
namespace Go.Proofs.Ytflblednifbleaa
open Go Go.Ev
theorem E8 {n:Nat} {f:Nat→Nat→Int} (h:Mk n f) {d:Int} {s:Nat} (h1:s+1<n) (h2:f s 0≤d) (h3:d≤f (s+1) 0):f s 1≤sgI f s d∧sgI f s d≤f (s+1) 1:=by
 have q:=(Gq h h1 h2 h3).2.2
 have e:sgI f s d=f s 1+Int.tdiv ((f (s+1) 1-f s 1)*(d-f s 0)) (f (s+1) 0-f s 0):=rfl
 rw [e]
 exact ⟨by omega,by omega⟩
theorem Py {n:Nat} {f:Nat→Nat→Int} (h:Mk n f) {d u:Int} (h1:0≤d) (h2:d≤u) (h3:u≤f (n-1) 0):aZ n f d≤aZ n f u:=by
 obtain ⟨s,e1,e2,e3,e4,e5⟩:=xW h h1 (d:=d) (by omega)
 obtain ⟨t,g1,g2,g3,g4,g5⟩:=xW h (d:=u) (by omega) h3
 have a:=E8 h e1 e2 e3
 have b:=E8 h g1 g2 g3
 rw [e5,g5]
 by_cases st:s<t
 ·have m:=(h.mono (t-(s+1)) (s+1) (by omega)).2
  rw [show s+1+(t-(s+1))=t by omega] at m
  omega
 ·by_cases ts:t<s
  ·have x:=e4 (t+1) (by omega) (by omega)
   omega
  ·have e:s=t:=by omega
   subst e
   have up:=h.up s e1
   have q1:=(Gq h e1 e2 e3).2.1.1
   have q2:=(Gq h g1 g2 g3).2.1.1
   have m:(f (s+1) 1-f s 1)*(d-f s 0)≤(f (s+1) 1-f s 1)*(u-f s 0):=Int.mul_le_mul_of_nonneg_left (by omega) (by omega)
   show f s 1+Int.tdiv ((f (s+1) 1-f s 1)*(d-f s 0)) (f (s+1) 0-f s 0)≤f s 1+Int.tdiv ((f (s+1) 1-f s 1)*(u-f s 0)) (f (s+1) 0-f s 0)
   rw [Int.tdiv_eq_ediv_of_nonneg q1,Int.tdiv_eq_ediv_of_nonneg q2]
   have:=Int.ediv_le_ediv (c:=f (s+1) 0-f s 0) (by omega) m
   omega
theorem Ri {n:Nat} {f:Nat→Nat→Int} (h:Mk n f) {c:Int} (h0:0≤c):0≤rq n f c∧rq n f c≤f (n-1) 0∧aZ n f (rq n f c)≤c∧∀ x,rq n f c<x→x≤f (n-1) 0→c<aZ n f x:=by
 have lp:=(h.pos (n-1) (by have:=h.two;omega)).1
 obtain ⟨k,hk⟩:∃ k:Nat,f (n-1) 0=(k:Int):=⟨Int.toNat (f (n-1) 0),by omega⟩
 have eg:rq n f c=Int.ofNat (gdN n f c k):=by unfold rq;rw [hk];rfl
 obtain ⟨g1,g2,g3⟩:=Hg (n:=n) (f:=f) (c:=c) (by rw [FM h];exact h0) k
 rw [eg,hk]
 generalize gdN n f c k=g at g1 g2 g3
 refine ⟨Int.natCast_nonneg g,Int.ofNat_le.mpr g1,g2,fun x hx1 hx2=>?_⟩
 have hx1:(g:Int)<x:=hx1
 have:=g3 (Int.toNat x) (by omega) (by omega)
 rw [show Int.ofNat (Int.toNat x)=x by show ((Int.toNat x:Nat):Int)=x;omega] at this
 exact this
noncomputable def nP (n:Nat) (f:Nat→Nat→Int) (c:Int) (k:Nat):Int:=Nat.rec (motive:=fun _=>Int) 0 (fun k ih=>cond (ai (aZ n f (Int.ofNat k)) c) (Int.ofNat k) ih) k
theorem Rx {n:Nat} {f:Nat→Nat→Int} (h:Mk n f) {c:Int} (h0:0≤c):∀ k:Nat,(k:Int)≤f (n-1) 0+1→1≤k→nP n f c k=min (rq n f c) ((k:Int)-1)
 | 0,_,h1=>by omega
 | k+1,hk,_=>by
  obtain ⟨a1,a2,a3,a4⟩:=Ri h h0
  have e:nP n f c (k+1)=cond (ai (aZ n f (Int.ofNat k)) c) (Int.ofNat k) (nP n f c k):=rfl
  have ek:Int.ofNat k=(k:Int):=rfl
  by_cases q:(k:Int)≤rq n f c
  ·have m:aZ n f (k:Int)≤c:=by
    have:=Py h (d:=(k:Int)) (by omega) q a2
    omega
   rw [e,ek,(aW _ _).mpr m]
   show (k:Int)=_
   rw [Int.min_def]
   split<;>omega
  ·have m:=a4 (k:Int) (by omega) (by omega)
   rw [e,ek,(nV _ _).mpr (by omega)]
   show nP n f c k=_
   by_cases k0:k=0
   ·omega
   ·rw [Rx h h0 k (by omega) (by omega)]
    rw [Int.min_def,Int.min_def]
    split<;>split<;>omega
theorem BV {n:Nat} {f:Nat→Nat→Int} (h:Mk n f) {c:Int} (h0:0≤c):nP n f c (Int.toNat (f (n-1) 0+1))=rq n f c:=by
 have lp:=(h.pos (n-1) (by have:=h.two;omega)).1
 obtain ⟨a1,a2,_,_⟩:=Ri h h0
 rw [Rx h h0 _ (by omega) (by omega),Int.min_def]
 split<;>omega
end Go.Proofs.Ytflblednifbleaa
