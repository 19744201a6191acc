/- Tables: the reference's bounds, as a contract. -/
import Derived.Test.YtpfcfonplmhmiaaGreatYTaR2
set_option linter.all false
set_option linter.unusedSimpArgs false
set_option linter.unusedVariables false
namespace Go.Proofs.YtpfcfonplmhmiaaGreat
open Go Go.Ev
set_option maxRecDepth 1000000
noncomputable section
theorem OJ {g:Nat→Nat→Int} {x:Int} {n:Nat} (hn:0<n) (hx:∀ i,i<n→g i 0≤x):lL g x n=lL g (g 0 0) n:=by
 have a1:=yf (g:=g) (x:=x) (n:=n) (k:=0) hn
 have p:∃ k,k<n∧lL g x n=g k 0:=by
  rcases DW (g:=g) (x:=x) n with h | h
  ·exact ⟨0,hn,by have:=hx 0 hn;omega⟩
  ·exact h
 have q:∃ k,k<n∧lL g (g 0 0) n=g k 0:=by
  rcases DW (g:=g) (x:=g 0 0) n with h | h
  ·exact ⟨0,hn,h⟩
  ·exact h
 obtain ⟨k,k1,k2⟩:=p
 obtain ⟨j,j1,j2⟩:=q
 have b1:=yf (g:=g) (x:=x) (n:=n) (k:=j) j1
 have b2:=yf (g:=g) (x:=g 0 0) (n:=n) (k:=k) k1
 omega
theorem OX {g:Nat→Nat→Int} {x:Int} {n:Nat} (hn:0<n) (hx:∀ i,i<n→x≤g i 0):lG g x n=lG g (g 0 0) n:=by
 have a1:=xK (g:=g) (x:=x) (n:=n) (k:=0) hn
 have p:∃ k,k<n∧lG g x n=g k 0:=by
  rcases DF (g:=g) (x:=x) n with h | h
  ·exact ⟨0,hn,by have:=hx 0 hn;omega⟩
  ·exact h
 have q:∃ k,k<n∧lG g (g 0 0) n=g k 0:=by
  rcases DF (g:=g) (x:=g 0 0) n with h | h
  ·exact ⟨0,hn,h⟩
  ·exact h
 obtain ⟨k,k1,k2⟩:=p
 obtain ⟨j,j1,j2⟩:=q
 have b1:=xK (g:=g) (x:=x) (n:=n) (k:=j) j1
 have b2:=xK (g:=g) (x:=g 0 0) (n:=n) (k:=k) k1
 omega
def UB:Val:=fun das=>match das with | [.st [.sl 1 A B,.sl 1 I J,.rr 1 n M f],.st [.i .i64 a,.i .i64 b],.st [.i .i64 c,.i .i64 d]]=>some (cond (aP (aK A B I J n M f) 0) (cond (cu A B a b) (cu I J c d) false) false,.agg 2 (T.setL .lf 0 [.int .i64 (bdL A B I J f a b c d),.int .i64 (bdH A B I J f a b c d)])) | _=>none
theorem Za:oI Tryz.prog 74 UB:=by
 intro das x hv
 unfold UB at hv
 split at hv
 ·rename_i A B I J n M f a b c d
  have hb:=congrArg Prod.fst (Option.some.inj hv)
  have hv:=congrArg Prod.snd (Option.some.inj hv)
  subst hv
  obtain ⟨h1,h2⟩:=ah hb
  obtain ⟨h2,h3⟩:=ah h2
  have ht:=(eu _ _).mp h1
  have ok:=jU ht
  have rw1:=rgI_t.mp h2
  have rm1:=rgI_t.mp h3
  have w2:=ok.w.two
  have m2:=ok.m.two
  have w0:=ok.w.inn 0 (by omega)
  have w9:=ok.w.inn (A-1) (by omega)
  have m0:=ok.m.inn 0 (by omega)
  have m9:=ok.m.inn (I-1) (by omega)
  have rw1':=rw1
  have rm1':=rm1
  unfold rgB Ai at rw1' rm1'
  have hM:=ku c d rm1.1
  have hW:(nW a b:Int)=b-a+1:=ku a b rw1.1
  let mn:Nat→Int:=fun t=>lL (fun i _=>dM A B I J f a c d i) 9999 t
  let mx:Nat→Int:=fun t=>lG (fun i _=>dM A B I J f a c d i) (-1) t
  have inner:∀ i:Nat,a+((i:Nat):Int)≤b→JL Tryz.prog (lK A B I J n M f a b c d (mn (i*nM c d)) (mx (i*nM c d)) big) ltQ 43 60 none (.loop bQ2) (sQ (mn (i*nM c d)) (mx (i*nM c d)) (a+((i:Nat):Int)) c) (xQ (mn ((i+1)*nM c d)) (mx ((i+1)*nM c d)) (a+((i:Nat):Int))):=fun i hi=>by
   have e0:sQ (mn (i*nM c d)) (mx (i*nM c d)) (a+((i:Nat):Int)) c=(fun k:Nat=>sQ (mn (i*nM c d+k)) (mx (i*nM c d+k)) (a+((i:Nat):Int)) (c+((k:Nat):Int))) 0:=by
    show _=sQ _ _ _ (c+((0:Nat):Int))
    rw [show c+((0:Nat):Int)=c by omega];rfl
   rw [e0]
   refine bD (lv:=xQ (mn ((i+1)*nM c d)) (mx ((i+1)*nM c d)) (a+((i:Nat):Int))) (body:=bQ2) (fun _ e=>by cases e) (nM c d) (fun k:Nat=>sQ (mn (i*nM c d+k)) (mx (i*nM c d+k)) (a+((i:Nat):Int)) (c+((k:Nat):Int))) (fun k hk=>?_) ?_
   ·have va:=yF A B I J f a c d (i:=i) (k:=k) rm1.1 hk
    have hr:=qb A B I J n M f a b c d (mn (i*nM c d+k)) (mx (i*nM c d+k)) (mn (i*nM c d)) (mx (i*nM c d)) (a+((i:Nat):Int)) (c+((k:Nat):Int)) ht ⟨by omega,by omega⟩ ⟨by omega,by omega⟩ (by omega) (onI_t.mpr (by unfold Ai;omega)) (onI_t.mpr (by unfold Ai;omega))
    have hj:=aQ aj zJ hr.ok (by kernel_rfl) (by kernel_rfl)
    rw [← va] at hj
    show JL _ _ _ _ _ _ _ _ (.next (sQ (mn (i*nM c d+(k+1))) (mx (i*nM c d+(k+1))) (a+((i:Nat):Int)) (c+((k+1:Nat):Int))))
    rw [show c+((k+1:Nat):Int)=c+((k:Nat):Int)+1 by omega]
    exact hj
   ·have e1:(i+1)*nM c d=i*nM c d+nM c d:=by rw [Nat.add_mul,Nat.one_mul]
    rw [e1]
    exact aQ aj zJ (qc A B I J n M f a b c d _ _ _ _ (a+((i:Nat):Int)) (c+((nM c d:Nat):Int)) (by omega)).ok (by kernel_rfl) (by kernel_rfl)
  have outer:JL Tryz.prog (lK A B I J n M f a b c d 9999 (-1) 8) ltP 43 90 none (.loop bP2) (sP 9999 (-1) a) (xP (mn (nW a b*nM c d)) (mx (nW a b*nM c d))):=by
   have e0:sP 9999 (-1) a=(fun i:Nat=>sP (mn (i*nM c d)) (mx (i*nM c d)) (a+((i:Nat):Int))) 0:=by
    show _=sP (mn (0*nM c d)) (mx (0*nM c d)) (a+((0:Nat):Int))
    rw [show a+((0:Nat):Int)=a by omega,Nat.zero_mul];rfl
   rw [e0]
   refine bD (lv:=xP (mn (nW a b*nM c d)) (mx (nW a b*nM c d))) (body:=bP2) (fun _ e=>by cases e) (nW a b) (fun i:Nat=>sP (mn (i*nM c d)) (mx (i*nM c d)) (a+((i:Nat):Int))) (fun i hi=>?_) ?_
   ·show JL _ _ _ _ _ _ _ _ (.next (sP (mn ((i+1)*nM c d)) (mx ((i+1)*nM c d)) (a+((i+1:Nat):Int))))
    rw [show a+((i+1:Nat):Int)=a+((i:Nat):Int)+1 by omega]
    have hc:sub [1,0,0,1,0] bP2 = .loop bQ2:=by kernel_rfl
    have hi2:=inner i (by omega)
    rw [← hc] at hi2
    exact Em aj zJ (by kernel_rfl) (by kernel_rfl) (qd A B I J n M f a b c d _ _ _ (by omega)) hi2 (qe A B I J n M f a b c d _ _ _ _ _ ⟨by omega,by omega⟩)
   ·exact aQ aj zJ (qf A B I J n M f a b c d _ _ _ (by omega)).ok (by kernel_rfl) (by kernel_rfl)
  have np:=Lj (a:=a) (b:=b) (c:=c) (d:=d) rw1.1 rm1.1
  have bv:∀ t,t<nP a b c d→0≤dM A B I J f a c d t∧dM A B I J f a c d t≤2000:=fun t h=>by
   obtain ⟨x,y,hx,hy,e⟩:=QR (A:=A) (B:=B) (I:=I) (J:=J) (f:=f) rw1.1 rm1.1 h
   rw [e]
   exact KW ok (by unfold Ai;omega) (by unfold Ai;omega)
  have e1:mn (nW a b*nM c d)=bdL A B I J f a b c d:=OJ np (fun i hi=>by have:=bv i hi;show dM A B I J f a c d i≤9999;omega)
  have e2:mx (nW a b*nM c d)=bdH A B I J f a b c d:=OX np (fun i hi=>by have:=bv i hi;show -1≤dM A B I J f a c d i;omega)
  rw [e1,e2] at outer
  have hc:sub [1,1,0,1,0] (dm Tryz.prog 74) = .loop bP2:=by kernel_rfl
  rw [← hc] at outer
  exact ⟨rfl,cZ (das:=[.st [.sl 1 A B,.sl 1 I J,.rr 1 n M f],.st [.i .i64 a,.i .i64 b],.st [.i .i64 c,.i .i64 d]]) aj zJ (by kernel_rfl) (by kernel_rfl) (qa A B I J n M f a b c d).ok outer (qg A B I J n M f a b c d _ _).ok⟩
 ·cases hv
end
end Go.Proofs.YtpfcfonplmhmiaaGreat
