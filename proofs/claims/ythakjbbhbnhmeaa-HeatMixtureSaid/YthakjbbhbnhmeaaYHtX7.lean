/- Mixtures: a mixture lies between its portions; turned, or with a portion divided, it is the same. -/
import Derived.Test.YthakjbbhbnhmeaaYHtX1
set_option linter.all false
set_option linter.unusedSimpArgs false
set_option linter.unusedVariables false
namespace Go.Proofs.Ythakjbbhbnhmeaa
namespace MX
open Go Go.Ev
set_option maxRecDepth 1000000
noncomputable section
theorem bz {b p:Int} (hb:0≤b) (hp:1≤p):0≤Int.tmod b p∧Int.tmod b p≤p-1:=⟨Int.tmod_nonneg _ hb,by have:=Int.tmod_lt_of_pos b (show 0<p by omega);omega⟩
theorem VY {g:Nat→Nat→Int} {j:Nat} {a:Int}:∀ {m:Nat},(∀ k,k<m→1≤g k 0∧a≤g k j)→a*uK (fun i=>g i 0) m≤uK (fun i=>g i 0*g i j) m:=by
 intro m
 induction m with
 | zero=>intro _;show a*0≤0;omega
 | succ m ih =>
  intro h
  have h1:=ih fun k hk=>h k (by omega)
  have h2:=h m (by omega)
  have h3:g m 0*a≤g m 0*g m j:=Int.mul_le_mul_of_nonneg_left h2.2 (by omega)
  rw [ug,ug,Int.mul_add,Int.mul_comm a (g m 0)]
  omega
theorem UT {g:Nat→Nat→Int} {j:Nat} {a:Int}:∀ {m:Nat},(∀ k,k<m→1≤g k 0∧g k j≤a)→uK (fun i=>g i 0*g i j) m≤a*uK (fun i=>g i 0) m:=by
 intro m
 induction m with
 | zero=>intro _;show 0≤a*0;omega
 | succ m ih =>
  intro h
  have h1:=ih fun k hk=>h k (by omega)
  have h2:=h m (by omega)
  have h3:g m 0*g m j≤g m 0*a:=Int.mul_le_mul_of_nonneg_left h2.2 (by omega)
  rw [ug,ug,Int.mul_add,Int.mul_comm a (g m 0)]
  omega
theorem Vp {g:Nat→Nat→Int}:∀ {m:Nat},(∀ k,k<m→1≤g k 0∧g k 0≤1000∧0≤g k 1∧g k 1≤g k 2∧g k 2≤200)→uK (fun i=>g i 0*g i 1) m≤uK (fun i=>g i 0*g i 2) m:=by
 intro m
 induction m with
 | zero=>intro _;exact Int.le_refl _
 | succ m ih =>
  intro h
  have h1:=ih fun k hk=>h k (by omega)
  have h2:=h m (by omega)
  have h3:g m 0*g m 1≤g m 0*g m 2:=Int.mul_le_mul_of_nonneg_left h2.2.2.2.1 (by omega)
  rw [ug,ug]
  omega
theorem IR {g:Nat→Nat→Int} {j:Nat} (hj:j=1∨j=2) {m:Nat} (hm:0<m) (h:∀ k,k<m→1≤g k 0∧g k 0≤1000∧0≤g k 1∧g k 1≤g k 2∧g k 2≤200):jC g m j=uK (fun i=>g i 0*g i j) m/uK (fun i=>g i 0) m∧0<uK (fun i=>g i 0) m:=by
 obtain ⟨a,b,c⟩:=Ua hj h
 exact ⟨by unfold jC;rw [Int.tdiv_eq_ediv_of_nonneg a],by omega⟩
theorem DJ {g:Nat→Nat→Int} {m:Nat} (hm:0<m) (h:∀ k,k<m→1≤g k 0∧g k 0≤1000∧0≤g k 1∧g k 1≤g k 2∧g k 2≤200):∃ j,j<m∧g j 1≤jC g m 1:=by
 apply Classical.byContradiction
 intro hn
 obtain ⟨e,hp⟩:=IR (.inl rfl) hm h
 have h1:=VY (g:=g) (j:=1) (a:=jC g m 1+1) (m:=m) fun k hk=>⟨(h k hk).1,by
  have:¬ g k 1≤jC g m 1:=fun q=>hn ⟨k,hk,q⟩
  omega⟩
 have h2:=Int.le_ediv_of_mul_le hp h1
 rw [← e] at h2
 omega
theorem Es {g:Nat→Nat→Int} {m:Nat} (hm:0<m) (h:∀ k,k<m→1≤g k 0∧g k 0≤1000∧0≤g k 1∧g k 1≤g k 2∧g k 2≤200):∃ j,j<m∧jC g m 2≤g j 2:=by
 apply Classical.byContradiction
 intro hn
 obtain ⟨e,hp⟩:=IR (.inr rfl) hm h
 have h1:=UT (g:=g) (j:=2) (a:=jC g m 2-1) (m:=m) fun k hk=>⟨(h k hk).1,by
  have:¬ jC g m 2≤g k 2:=fun q=>hn ⟨k,hk,q⟩
  omega⟩
 have h2:=Int.ediv_mul_le (uK (fun i=>g i 0*g i 2) m) (show uK (fun i=>g i 0) m≠0 by omega)
 rw [← e] at h2
 rw [Int.sub_mul] at h1
 omega
theorem Dj {g:Nat→Nat→Int} {m:Nat} (hm:0<m) (h:∀ k,k<m→1≤g k 0∧g k 0≤1000∧0≤g k 1∧g k 1≤g k 2∧g k 2≤200):jC g m 1≤jC g m 2:=by
 obtain ⟨e1,hp⟩:=IR (.inl rfl) hm h
 obtain ⟨e2,_⟩:=IR (.inr rfl) hm h
 rw [e1,e2]
 exact Int.ediv_le_ediv hp (Vp h)
theorem aI {g:Nat→Nat→Int} {m:Nat} (h5:m≤5) (h0:0<m) (h:∀ k,k<m→1≤g k 0∧g k 0≤1000∧0≤g k 1∧g k 1≤g k 2∧g k 2≤200):mxE g m=0:=by
 have ha:allP g m=true:=eQ fun k hk=>okP_t.mpr (h k hk)
 rcases ja g m with ⟨_,q⟩ | ⟨_,_,q⟩ | ⟨q,_⟩
 ·omega
 ·rcases q with q | q
  ·omega
  ·rw [ha] at q;cases q
 ·exact q
theorem bi {g q:Nat→Nat→Int} {m n:Nat} (e:mxE g m=0) (e':mxE q n=0) (h1:jC q n 1=jC g m 1) (h2:jC q n 2=jC g m 2):mxL q n=mxL g m∧mxH q n=mxH g m:=by
 unfold mxL mxH
 rw [(iF _ _).mpr e,(iF _ _).mpr e',h1,h2]
 exact ⟨rfl,rfl⟩
theorem aK {g q:Nat→Nat→Int} {m n j:Nat} (h1:uK (fun i=>q i 0*q i j) n=uK (fun i=>g i 0*g i j) m) (h2:uK (fun i=>q i 0) n=uK (fun i=>g i 0) m):jC q n j=jC g m j:=by
 unfold jC;rw [h1,h2]
end
end MX
end Go.Proofs.Ythakjbbhbnhmeaa
