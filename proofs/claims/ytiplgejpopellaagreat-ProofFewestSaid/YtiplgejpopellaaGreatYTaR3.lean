/- Tables: the reference's bounds, as a contract. -/
import Derived.Test.YtiplgejpopellaaGreatYTaR2
set_option linter.all false
set_option linter.unusedSimpArgs false
set_option linter.unusedVariables false
namespace Go.Proofs.YtiplgejpopellaaGreat
open Go Go.Ev
set_option maxRecDepth 1000000
noncomputable section
theorem QQ {g:Nat→Nat→Int} {x:Int} {n:Nat} (hn:0<n) (hx:∀ i,i<n→g i 0≤x):mP g x n=mP g (g 0 0) n:=by
 have a1:=yY (g:=g) (x:=x) (n:=n) (k:=0) hn
 have p:∃ k,k<n∧mP g x n=g k 0:=by
  rcases FI (g:=g) (x:=x) n with h | h
  ·exact ⟨0,hn,by have:=hx 0 hn;omega⟩
  ·exact h
 have q:∃ k,k<n∧mP g (g 0 0) n=g k 0:=by
  rcases FI (g:=g) (x:=g 0 0) n with h | h
  ·exact ⟨0,hn,h⟩
  ·exact h
 obtain ⟨k,k1,k2⟩:=p
 obtain ⟨j,j1,j2⟩:=q
 have b1:=yY (g:=g) (x:=x) (n:=n) (k:=j) j1
 have b2:=yY (g:=g) (x:=g 0 0) (n:=n) (k:=k) k1
 omega
theorem Qc {g:Nat→Nat→Int} {x:Int} {n:Nat} (hn:0<n) (hx:∀ i,i<n→x≤g i 0):mW g x n=mW g (g 0 0) n:=by
 have a1:=yS (g:=g) (x:=x) (n:=n) (k:=0) hn
 have p:∃ k,k<n∧mW g x n=g k 0:=by
  rcases EP (g:=g) (x:=x) n with h | h
  ·exact ⟨0,hn,by have:=hx 0 hn;omega⟩
  ·exact h
 have q:∃ k,k<n∧mW g (g 0 0) n=g k 0:=by
  rcases EP (g:=g) (x:=g 0 0) n with h | h
  ·exact ⟨0,hn,h⟩
  ·exact h
 obtain ⟨k,k1,k2⟩:=p
 obtain ⟨j,j1,j2⟩:=q
 have b1:=yS (g:=g) (x:=x) (n:=n) (k:=j) j1
 have b2:=yS (g:=g) (x:=g 0 0) (n:=n) (k:=k) k1
 omega
def SC:Val:=fun das=>match das with | [.st [.sl 1 A B,.sl 1 I J,.rr 1 n M f],.st [.i .i64 a,.i .i64 b],.st [.i .i64 c,.i .i64 d]]=>some (cond (bY (aT A B I J n M f) 0) (cond (cO A B a b) (cO I J c d) false) false,.agg 2 (T.setL .lf 0 [.int .i64 (dO A B I J f a b c d),.int .i64 (dP A B I J f a b c d)])) | _=>none
theorem abm:qi Tryz.prog 69 SC:=by
 intro das x hv
 unfold SC at hv
 split at hv
 ·rename_i A B I J n M f a b c d
  have hb:=congrArg Prod.fst (Option.some.inj hv)
  have hv:=congrArg Prod.snd (Option.some.inj hv)
  subst hv
  obtain ⟨h1,h2⟩:=ah hb
  obtain ⟨h2,h3⟩:=ah h2
  have ht:=(dQ _ _).mp h1
  have ok:=lq ht
  have rw1:=rgI_t.mp h2
  have rm1:=rgI_t.mp h3
  have w2:=ok.w.two
  have m2:=ok.m.two
  have w0:=ok.w.inn 0 (by omega)
  have w9:=ok.w.inn (A-1) (by omega)
  have m0:=ok.m.inn 0 (by omega)
  have m9:=ok.m.inn (I-1) (by omega)
  have rw1':=rw1
  have rm1':=rm1
  unfold qp Aw at rw1' rm1'
  have hM:=kT c d rm1.1
  have hW:(nW a b:Int)=b-a+1:=kT a b rw1.1
  let mn:Nat→Int:=fun t=>mP (fun i _=>dZ A B I J f a c d i) 9999 t
  let mx:Nat→Int:=fun t=>mW (fun i _=>dZ A B I J f a c d i) (-1) t
  have inner:∀ i:Nat,a+((i:Nat):Int)≤b→JL Tryz.prog (mJ A B I J n M f a b c d (mn (i*nM c d)) (mx (i*nM c d)) big) ltQ 43 60 none (.loop bQ2) (sQ (mn (i*nM c d)) (mx (i*nM c d)) (a+((i:Nat):Int)) c) (xQ (mn ((i+1)*nM c d)) (mx ((i+1)*nM c d)) (a+((i:Nat):Int))):=fun i hi=>by
   have e0:sQ (mn (i*nM c d)) (mx (i*nM c d)) (a+((i:Nat):Int)) c=(fun k:Nat=>sQ (mn (i*nM c d+k)) (mx (i*nM c d+k)) (a+((i:Nat):Int)) (c+((k:Nat):Int))) 0:=by
    show _=sQ _ _ _ (c+((0:Nat):Int))
    rw [show c+((0:Nat):Int)=c by omega];rfl
   rw [e0]
   refine bz (lv:=xQ (mn ((i+1)*nM c d)) (mx ((i+1)*nM c d)) (a+((i:Nat):Int))) (body:=bQ2) (fun _ e=>by cases e) (nM c d) (fun k:Nat=>sQ (mn (i*nM c d+k)) (mx (i*nM c d+k)) (a+((i:Nat):Int)) (c+((k:Nat):Int))) (fun k hk=>?_) ?_
   ·have va:=zI A B I J f a c d (i:=i) (k:=k) rm1.1 hk
    have hr:=qb A B I J n M f a b c d (mn (i*nM c d+k)) (mx (i*nM c d+k)) (mn (i*nM c d)) (mx (i*nM c d)) (a+((i:Nat):Int)) (c+((k:Nat):Int)) ht ⟨by omega,by omega⟩ ⟨by omega,by omega⟩ (by omega) (onI_t.mpr (by unfold Aw;omega)) (onI_t.mpr (by unfold Aw;omega))
    have hj:=aP aj Bl hr.ok (by kernel_rfl) (by kernel_rfl)
    rw [← va] at hj
    show JL _ _ _ _ _ _ _ _ (.next (sQ (mn (i*nM c d+(k+1))) (mx (i*nM c d+(k+1))) (a+((i:Nat):Int)) (c+((k+1:Nat):Int))))
    rw [show c+((k+1:Nat):Int)=c+((k:Nat):Int)+1 by omega]
    exact hj
   ·have e1:(i+1)*nM c d=i*nM c d+nM c d:=by rw [Nat.add_mul,Nat.one_mul]
    rw [e1]
    exact aP aj Bl (qc A B I J n M f a b c d _ _ _ _ (a+((i:Nat):Int)) (c+((nM c d:Nat):Int)) (by omega)).ok (by kernel_rfl) (by kernel_rfl)
  have outer:JL Tryz.prog (mJ A B I J n M f a b c d 9999 (-1) 8) ltP 43 90 none (.loop bP2) (sP 9999 (-1) a) (xP (mn (nW a b*nM c d)) (mx (nW a b*nM c d))):=by
   have e0:sP 9999 (-1) a=(fun i:Nat=>sP (mn (i*nM c d)) (mx (i*nM c d)) (a+((i:Nat):Int))) 0:=by
    show _=sP (mn (0*nM c d)) (mx (0*nM c d)) (a+((0:Nat):Int))
    rw [show a+((0:Nat):Int)=a by omega,Nat.zero_mul];rfl
   rw [e0]
   refine bz (lv:=xP (mn (nW a b*nM c d)) (mx (nW a b*nM c d))) (body:=bP2) (fun _ e=>by cases e) (nW a b) (fun i:Nat=>sP (mn (i*nM c d)) (mx (i*nM c d)) (a+((i:Nat):Int))) (fun i hi=>?_) ?_
   ·show JL _ _ _ _ _ _ _ _ (.next (sP (mn ((i+1)*nM c d)) (mx ((i+1)*nM c d)) (a+((i+1:Nat):Int))))
    rw [show a+((i+1:Nat):Int)=a+((i:Nat):Int)+1 by omega]
    have hc:sub [1,0,0,1,0] bP2 = .loop bQ2:=by kernel_rfl
    have hi2:=inner i (by omega)
    rw [← hc] at hi2
    exact FM aj Bl (by kernel_rfl) (by kernel_rfl) (qd A B I J n M f a b c d _ _ _ (by omega)) hi2 (qe A B I J n M f a b c d _ _ _ _ _ ⟨by omega,by omega⟩)
   ·exact aP aj Bl (qf A B I J n M f a b c d _ _ _ (by omega)).ok (by kernel_rfl) (by kernel_rfl)
  have np:=Kw (a:=a) (b:=b) (c:=c) (d:=d) rw1.1 rm1.1
  have bv:∀ t,t<nP a b c d→0≤dZ A B I J f a c d t∧dZ A B I J f a c d t≤2000:=fun t h=>by
   obtain ⟨x,y,hx,hy,e⟩:=Vw (A:=A) (B:=B) (I:=I) (J:=J) (f:=f) rw1.1 rm1.1 h
   rw [e]
   exact JS ok (by unfold Aw;omega) (by unfold Aw;omega)
  have e1:mn (nW a b*nM c d)=dO A B I J f a b c d:=QQ np (fun i hi=>by have:=bv i hi;show dZ A B I J f a c d i≤9999;omega)
  have e2:mx (nW a b*nM c d)=dP A B I J f a b c d:=Qc np (fun i hi=>by have:=bv i hi;show -1≤dZ A B I J f a c d i;omega)
  rw [e1,e2] at outer
  have hc:sub [1,1,0,1,0] (cZ Tryz.prog 69) = .loop bP2:=by kernel_rfl
  rw [← hc] at outer
  exact ⟨rfl,bV (das:=[.st [.sl 1 A B,.sl 1 I J,.rr 1 n M f],.st [.i .i64 a,.i .i64 b],.st [.i .i64 c,.i .i64 d]]) aj Bl (by kernel_rfl) (by kernel_rfl) (qa A B I J n M f a b c d).ok outer (qg A B I J n M f a b c d _ _).ok⟩
 ·cases hv
end
end Go.Proofs.YtiplgejpopellaaGreat
