/- Tables: bounds: within them, and reached. -/
import Derived.Test.YtclagbonpachfaaGreatYTaM4
set_option linter.all false
set_option linter.unusedSimpArgs false
set_option linter.unusedVariables false
namespace Go.Proofs.YtclagbonpachfaaGreat
open Go Go.Ev
set_option maxRecDepth 1000000
noncomputable section
theorem minF_le {g:Nat→Nat→Int} {x:Int}:∀ {n k:Nat},k<n→minF g x n≤g k 0:=by
  intro n
  induction n with
  | zero=>intro k hk;omega
  | succ n ih =>
    intro k hk
    have e:minF g x (n+1)=min (minF g x n) (g n 0):=rfl
    rw [e]
    by_cases q:k=n
    · subst q;omega
    · have:=ih (k:=k) (by omega);omega
theorem maxF_ge {g:Nat→Nat→Int} {x:Int}:∀ {n k:Nat},k<n→g k 0≤maxF g x n:=by
  intro n
  induction n with
  | zero=>intro k hk;omega
  | succ n ih =>
    intro k hk
    have e:maxF g x (n+1)=max (maxF g x n) (g n 0):=rfl
    rw [e]
    by_cases q:k=n
    · subst q;omega
    · have:=ih (k:=k) (by omega);omega
theorem minF_at {g:Nat→Nat→Int} {x:Int}:∀ (n:Nat),minF g x n=x∨∃ k,k<n∧minF g x n=g k 0:=by
  intro n
  induction n with
  | zero=>exact .inl rfl
  | succ n ih =>
    have e:minF g x (n+1)=min (minF g x n) (g n 0):=rfl
    by_cases q:minF g x n≤g n 0
    · rcases ih with h | ⟨k,h1,h2⟩
      · exact .inl (by rw [e];omega)
      · exact .inr ⟨k,by omega,by rw [e];omega⟩
    · exact .inr ⟨n,by omega,by rw [e];omega⟩
theorem maxF_at {g:Nat→Nat→Int} {x:Int}:∀ (n:Nat),maxF g x n=x∨∃ k,k<n∧maxF g x n=g k 0:=by
  intro n
  induction n with
  | zero=>exact .inl rfl
  | succ n ih =>
    have e:maxF g x (n+1)=max (maxF g x n) (g n 0):=rfl
    by_cases q:g n 0≤maxF g x n
    · rcases ih with h | ⟨k,h1,h2⟩
      · exact .inl (by rw [e];omega)
      · exact .inr ⟨k,by omega,by rw [e];omega⟩
    · exact .inr ⟨n,by omega,by rw [e];omega⟩
section
variable {lw:Nat} {fw:Nat→Nat→Int} {lm:Nat} {fm:Nat→Nat→Int} {f:Nat→Nat→Nat→Int} {a b c d:Int}
theorem pt_at (h1:a≤b) (h2:c≤d) {x y:Int} (hx:a≤x∧x≤b) (hy:c≤y∧y≤d):∃ t,t<nP a b c d∧valsS lw fw lm fm f a c d t=strI lw fw lm fm f x y:=by
  have hm:=nM_eq c d h2
  have hw:(nW a b:Int)=b-a+1:=nM_eq a b h1
  refine ⟨Int.toNat (x-a)*nM c d+Int.toNat (y-c),?_,?_⟩
  · unfold nP
    have e:(Int.toNat (x-a)+1)*nM c d≤nW a b*nM c d:=Nat.mul_le_mul_right _ (by omega)
    rw [Nat.add_mul] at e
    omega
  · rw [val_at lw fw lm fm f a c d h2 (i:=Int.toNat (x-a)) (k:=Int.toNat (y-c)) (by omega)]
    rw [show a+((Int.toNat (x-a):Nat):Int)=x by omega,show c+((Int.toNat (y-c):Nat):Int)=y by omega]
theorem at_pt (h1:a≤b) (h2:c≤d) {t:Nat} (ht:t<nP a b c d):∃ x y,(a≤x∧x≤b)∧(c≤y∧y≤d)∧valsS lw fw lm fm f a c d t=strI lw fw lm fm f x y:=by
  have hm:=nM_eq c d h2
  have hw:(nW a b:Int)=b-a+1:=nM_eq a b h1
  have p0:0<nM c d:=by omega
  have r1:=Nat.mod_lt t p0
  have r2:t/nM c d<nW a b:=Nat.div_lt_of_lt_mul (by unfold nP at ht;rw [Nat.mul_comm];exact ht)
  obtain ⟨q,eq⟩:∃ q,q=t/nM c d:=⟨_,rfl⟩
  obtain ⟨r,er⟩:∃ r,r=t%nM c d:=⟨_,rfl⟩
  refine ⟨a+((t/nM c d:Nat):Int),c+((t%nM c d:Nat):Int),?_,?_,rfl⟩
  · rw [← eq] at r2 ⊢;exact ⟨by omega,by omega⟩
  · rw [← er] at r1 ⊢;exact ⟨by omega,by omega⟩
theorem nP_pos (h1:a≤b) (h2:c≤d):0<nP a b c d:=by
  have hm:=nM_eq c d h2
  have hw:(nW a b:Int)=b-a+1:=nM_eq a b h1
  exact Nat.mul_pos (by omega) (by omega)
theorem bd_in (h1:a≤b) (h2:c≤d) {x y:Int} (hx:a≤x∧x≤b) (hy:c≤y∧y≤d):bdL lw fw lm fm f a b c d≤strI lw fw lm fm f x y∧strI lw fw lm fm f x y≤bdH lw fw lm fm f a b c d:=by
  obtain ⟨t,t1,t2⟩:=pt_at (lw:=lw) (fw:=fw) (lm:=lm) (fm:=fm) (f:=f) h1 h2 hx hy
  rw [← t2]
  exact ⟨minF_le (g:=fun i _=>valsS lw fw lm fm f a c d i) t1,maxF_ge (g:=fun i _=>valsS lw fw lm fm f a c d i) t1⟩
theorem bdL_at (h1:a≤b) (h2:c≤d):∃ x y,(a≤x∧x≤b)∧(c≤y∧y≤d)∧bdL lw fw lm fm f a b c d=strI lw fw lm fm f x y:=by
  have key:∃ t,t<nP a b c d∧bdL lw fw lm fm f a b c d=valsS lw fw lm fm f a c d t:=by
    rcases minF_at (g:=fun i _=>valsS lw fw lm fm f a c d i) (x:=valsS lw fw lm fm f a c d 0) (nP a b c d) with h | ⟨k,k1,k2⟩
    · exact ⟨0,nP_pos h1 h2,h⟩
    · exact ⟨k,k1,k2⟩
  obtain ⟨t,t1,t2⟩:=key
  obtain ⟨x,y,hx,hy,e⟩:=at_pt (lw:=lw) (fw:=fw) (lm:=lm) (fm:=fm) (f:=f) h1 h2 t1
  exact ⟨x,y,hx,hy,t2.trans e⟩
theorem bdH_at (h1:a≤b) (h2:c≤d):∃ x y,(a≤x∧x≤b)∧(c≤y∧y≤d)∧bdH lw fw lm fm f a b c d=strI lw fw lm fm f x y:=by
  have key:∃ t,t<nP a b c d∧bdH lw fw lm fm f a b c d=valsS lw fw lm fm f a c d t:=by
    rcases maxF_at (g:=fun i _=>valsS lw fw lm fm f a c d i) (x:=valsS lw fw lm fm f a c d 0) (nP a b c d) with h | ⟨k,k1,k2⟩
    · exact ⟨0,nP_pos h1 h2,h⟩
    · exact ⟨k,k1,k2⟩
  obtain ⟨t,t1,t2⟩:=key
  obtain ⟨x,y,hx,hy,e⟩:=at_pt (lw:=lw) (fw:=fw) (lm:=lm) (fm:=fm) (f:=f) h1 h2 t1
  exact ⟨x,y,hx,hy,t2.trans e⟩
variable {n:Nat} {ls:Nat→Nat}
end
end
end Go.Proofs.YtclagbonpachfaaGreat
