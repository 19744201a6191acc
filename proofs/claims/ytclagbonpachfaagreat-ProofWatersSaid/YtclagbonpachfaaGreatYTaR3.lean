/- Tables: the reference's bounds, as a contract. -/
import Derived.Test.YtclagbonpachfaaGreatYTaR2
set_option linter.all false
set_option linter.unusedSimpArgs false
set_option linter.unusedVariables false
namespace Go.Proofs.YtclagbonpachfaaGreat
open Go Go.Ev
set_option maxRecDepth 1000000
noncomputable section
theorem minF_init {g:Nat→Nat→Int} {x:Int} {n:Nat} (hn:0<n) (hx:∀ i,i<n→g i 0≤x):minF g x n=minF g (g 0 0) n:=by
  have a1:=minF_le (g:=g) (x:=x) (n:=n) (k:=0) hn
  have p:∃ k,k<n∧minF g x n=g k 0:=by
    rcases minF_at (g:=g) (x:=x) n with h | h
    · exact ⟨0,hn,by have:=hx 0 hn;omega⟩
    · exact h
  have q:∃ k,k<n∧minF g (g 0 0) n=g k 0:=by
    rcases minF_at (g:=g) (x:=g 0 0) n with h | h
    · exact ⟨0,hn,h⟩
    · exact h
  obtain ⟨k,k1,k2⟩:=p
  obtain ⟨j,j1,j2⟩:=q
  have b1:=minF_le (g:=g) (x:=x) (n:=n) (k:=j) j1
  have b2:=minF_le (g:=g) (x:=g 0 0) (n:=n) (k:=k) k1
  omega
theorem maxF_init {g:Nat→Nat→Int} {x:Int} {n:Nat} (hn:0<n) (hx:∀ i,i<n→x≤g i 0):maxF g x n=maxF g (g 0 0) n:=by
  have a1:=maxF_ge (g:=g) (x:=x) (n:=n) (k:=0) hn
  have p:∃ k,k<n∧maxF g x n=g k 0:=by
    rcases maxF_at (g:=g) (x:=x) n with h | h
    · exact ⟨0,hn,by have:=hx 0 hn;omega⟩
    · exact h
  have q:∃ k,k<n∧maxF g (g 0 0) n=g k 0:=by
    rcases maxF_at (g:=g) (x:=g 0 0) n with h | h
    · exact ⟨0,hn,h⟩
    · exact h
  obtain ⟨k,k1,k2⟩:=p
  obtain ⟨j,j1,j2⟩:=q
  have b1:=maxF_ge (g:=g) (x:=x) (n:=n) (k:=j) j1
  have b2:=maxF_ge (g:=g) (x:=g 0 0) (n:=n) (k:=k) k1
  omega
def valRb:Val:=fun das=>match das with | [.st [.sl 1 lw fw,.sl 1 lm fm,.rr 1 n ls f],.st [.i .i64 a,.i .i64 b],.st [.i .i64 c,.i .i64 d]]=>some (cond (iEq (tabE lw fw lm fm n ls f) 0) (cond (rgI lw fw a b) (rgI lm fm c d) false) false,.agg 2 (T.setL .lf 0 [.int .i64 (bdL lw fw lm fm f a b c d),.int .i64 (bdH lw fw lm fm f a b c d)])) | _=>none
theorem conRb:Con Tryz.prog 73 valRb:=by
  intro das x hv
  unfold valRb at hv
  split at hv
  · rename_i lw fw lm fm n ls f a b c d
    have hb:=congrArg Prod.fst (Option.some.inj hv)
    have hv:=congrArg Prod.snd (Option.some.inj hv)
    subst hv
    obtain ⟨h1,h2⟩:=cond_tt hb
    obtain ⟨h2,h3⟩:=cond_tt h2
    have ht:=(iEq_t _ _).mp h1
    have ok:=tabE_get ht
    have rw1:=rgI_t.mp h2
    have rm1:=rgI_t.mp h3
    have w2:=ok.w.two
    have m2:=ok.m.two
    have w0:=ok.w.inn 0 (by omega)
    have w9:=ok.w.inn (lw-1) (by omega)
    have m0:=ok.m.inn 0 (by omega)
    have m9:=ok.m.inn (lm-1) (by omega)
    have rw1':=rw1
    have rm1':=rm1
    unfold rgB onB at rw1' rm1'
    have hM:=nM_eq c d rm1.1
    have hW:(nW a b:Int)=b-a+1:=nM_eq a b rw1.1
    let mn:Nat→Int:=fun t=>minF (fun i _=>valsS lw fw lm fm f a c d i) 9999 t
    let mx:Nat→Int:=fun t=>maxF (fun i _=>valsS lw fw lm fm f a c d i) (-1) t
    have inner:∀ i:Nat,a+((i:Nat):Int)≤b→JL Tryz.prog (baseRL lw fw lm fm n ls f a b c d (mn (i*nM c d)) (mx (i*nM c d)) big) ltQ 43 60 none (.loop bQ2) (sQ (mn (i*nM c d)) (mx (i*nM c d)) (a+((i:Nat):Int)) c) (xQ (mn ((i+1)*nM c d)) (mx ((i+1)*nM c d)) (a+((i:Nat):Int))):=fun i hi=>by
      have e0:sQ (mn (i*nM c d)) (mx (i*nM c d)) (a+((i:Nat):Int)) c=(fun k:Nat=>sQ (mn (i*nM c d+k)) (mx (i*nM c d+k)) (a+((i:Nat):Int)) (c+((k:Nat):Int))) 0:=by
        show _=sQ _ _ _ (c+((0:Nat):Int))
        rw [show c+((0:Nat):Int)=c by omega];rfl
      rw [e0]
      refine loop_rule (lv:=xQ (mn ((i+1)*nM c d)) (mx ((i+1)*nM c d)) (a+((i:Nat):Int))) (body:=bQ2) (fun _ e=>by cases e) (nM c d) (fun k:Nat=>sQ (mn (i*nM c d+k)) (mx (i*nM c d+k)) (a+((i:Nat):Int)) (c+((k:Nat):Int))) (fun k hk=>?_) ?_
      · have va:=val_at lw fw lm fm f a c d (i:=i) (k:=k) rm1.1 hk
        have hr:=qb lw fw lm fm n ls f a b c d (mn (i*nM c d+k)) (mx (i*nM c d+k)) (mn (i*nM c d)) (mx (i*nM c d)) (a+((i:Nat):Int)) (c+((k:Nat):Int)) ht ⟨by omega,by omega⟩ ⟨by omega,by omega⟩ (by omega) (onI_t.mpr (by unfold onB;omega)) (onI_t.mpr (by unfold onB;omega))
        have hj:=round_of drawnC XRb_ok hr.ok (by kernel_rfl) (by kernel_rfl)
        rw [← va] at hj
        show JL _ _ _ _ _ _ _ _ (.next (sQ (mn (i*nM c d+(k+1))) (mx (i*nM c d+(k+1))) (a+((i:Nat):Int)) (c+((k+1:Nat):Int))))
        rw [show c+((k+1:Nat):Int)=c+((k:Nat):Int)+1 by omega]
        exact hj
      · have e1:(i+1)*nM c d=i*nM c d+nM c d:=by rw [Nat.add_mul,Nat.one_mul]
        rw [e1]
        exact round_of drawnC XRb_ok (qc lw fw lm fm n ls f a b c d _ _ _ _ (a+((i:Nat):Int)) (c+((nM c d:Nat):Int)) (by omega)).ok (by kernel_rfl) (by kernel_rfl)
    have outer:JL Tryz.prog (baseRL lw fw lm fm n ls f a b c d 9999 (-1) 8) ltP 43 90 none (.loop bP2) (sP 9999 (-1) a) (xP (mn (nW a b*nM c d)) (mx (nW a b*nM c d))):=by
      have e0:sP 9999 (-1) a=(fun i:Nat=>sP (mn (i*nM c d)) (mx (i*nM c d)) (a+((i:Nat):Int))) 0:=by
        show _=sP (mn (0*nM c d)) (mx (0*nM c d)) (a+((0:Nat):Int))
        rw [show a+((0:Nat):Int)=a by omega,Nat.zero_mul];rfl
      rw [e0]
      refine loop_rule (lv:=xP (mn (nW a b*nM c d)) (mx (nW a b*nM c d))) (body:=bP2) (fun _ e=>by cases e) (nW a b) (fun i:Nat=>sP (mn (i*nM c d)) (mx (i*nM c d)) (a+((i:Nat):Int))) (fun i hi=>?_) ?_
      · show JL _ _ _ _ _ _ _ _ (.next (sP (mn ((i+1)*nM c d)) (mx ((i+1)*nM c d)) (a+((i+1:Nat):Int))))
        rw [show a+((i+1:Nat):Int)=a+((i:Nat):Int)+1 by omega]
        have hc:sub [1,0,0,1,0] bP2 = .loop bQ2:=by kernel_rfl
        have hi2:=inner i (by omega)
        rw [← hc] at hi2
        exact JL_nest drawnC XRb_ok (by kernel_rfl) (by kernel_rfl) (qd lw fw lm fm n ls f a b c d _ _ _ (by omega)) hi2 (qe lw fw lm fm n ls f a b c d _ _ _ _ _ ⟨by omega,by omega⟩)
      · exact round_of drawnC XRb_ok (qf lw fw lm fm n ls f a b c d _ _ _ (by omega)).ok (by kernel_rfl) (by kernel_rfl)
    have np:=nP_pos (a:=a) (b:=b) (c:=c) (d:=d) rw1.1 rm1.1
    have bv:∀ t,t<nP a b c d→0≤valsS lw fw lm fm f a c d t∧valsS lw fw lm fm f a c d t≤2000:=fun t h=>by
      obtain ⟨x,y,hx,hy,e⟩:=at_pt (lw:=lw) (fw:=fw) (lm:=lm) (fm:=fm) (f:=f) rw1.1 rm1.1 h
      rw [e]
      exact str_bd ok (by unfold onB;omega) (by unfold onB;omega)
    have e1:mn (nW a b*nM c d)=bdL lw fw lm fm f a b c d:=minF_init np (fun i hi=>by have:=bv i hi;show valsS lw fw lm fm f a c d i≤9999;omega)
    have e2:mx (nW a b*nM c d)=bdH lw fw lm fm f a b c d:=maxF_init np (fun i hi=>by have:=bv i hi;show -1≤valsS lw fw lm fm f a c d i;omega)
    rw [e1,e2] at outer
    have hc:sub [1,1,0,1,0] (bodyOf Tryz.prog 73) = .loop bP2:=by kernel_rfl
    rw [← hc] at outer
    exact ⟨rfl,con_loopD (das:=[.st [.sl 1 lw fw,.sl 1 lm fm,.rr 1 n ls f],.st [.i .i64 a,.i .i64 b],.st [.i .i64 c,.i .i64 d]]) drawnC XRb_ok (by kernel_rfl) (by kernel_rfl) (qa lw fw lm fm n ls f a b c d).ok outer (qg lw fw lm fm n ls f a b c d _ _).ok⟩
  · cases hv
end
end Go.Proofs.YtclagbonpachfaaGreat
