/- Casks: the program's first good list is the reference's best. -/
import Derived.Test.YtiplgejpopellaaGreatYPrF4
set_option linter.all false
set_option linter.unusedSimpArgs false
set_option linter.unusedVariables false
namespace Go.Proofs.YtiplgejpopellaaGreat
namespace BL
open Go Go.Ev
set_option maxRecDepth 1000000
noncomputable section
def ab4 (x:Nat) (l:List Nat):Nat:=List.rec (motive:=fun _=>Nat) 0 (fun y _ ih=>cond (Nat.beq y x) 0 (Nat.succ ih)) l
def rnk (x:Nat):Nat:=ab4 x (kN 6)
theorem ZG:eX (fun x=>eX (fun y=>cond (Nat.beq x 0) true (cond (Nat.beq y 0) true (cond (Nat.blt (rnk x) (rnk y)) (BJ x y) (cond (BJ x y) false true)))) 64) 64=true:=by kernel_rfl
theorem XH:eX (fun x=>eX (fun y=>cond (Nat.beq x 0) true (cond (Nat.beq y 0) true (cond (Nat.beq (rnk x) (rnk y)) (Nat.beq x y) true))) 64) 64=true:=by kernel_rfl
theorem Yt {x y:Nat} (h1:0<x) (h2:x<64) (h3:0<y) (h4:y<64):BJ x y=true↔rnk x<rnk y:=by
 have q:=aX (aX ZG x h2) y h4
 rw [(dX x 0).mpr (by omega),(dX y 0).mpr (by omega)] at q
 have q:cond (Nat.blt (rnk x) (rnk y)) (BJ x y) (cond (BJ x y) false true)=true:=q
 by_cases h:rnk x<rnk y
 ·rw [wW h] at q;exact ⟨fun _=>h,fun _=>q⟩
 ·rw [FD h] at q
  refine ⟨fun z=>?_,fun z=>absurd z h⟩
  rw [z] at q;cases q
theorem aa5 {x y:Nat} (h1:0<x) (h2:x<64) (h3:0<y) (h4:y<64) (h:rnk x=rnk y):x=y:=by
 have q:=aX (aX XH x h2) y h4
 rw [(dX x 0).mpr (by omega),(dX y 0).mpr (by omega)] at q
 have q:cond (Nat.beq (rnk x) (rnk y)) (Nat.beq x y) true=true:=q
 rw [(ig _ _).mpr h] at q
 exact nb q
theorem TF {E t:Nat→Nat→Int} {a b:Int} {p:Nat→Bool} {N:Nat} (hN:N≤63) (hp:∀ x,0<x→x≤N→iZ E t (aC (Int.ofNat x)) (aH (Int.ofNat x)) a b=p x):∀ i,i≤N →
 (wE E t a b i=0→∀ x,0<x→x≤i→p x=false)∧(wE E t a b i≠0→p (wE E t a b i)=true∧∀ x,0<x→x≤i→p x=true→rnk (wE E t a b i)≤rnk x):=by
 intro i
 induction i with
 | zero=>intro _;exact ⟨fun _ x h0 h1=>by omega,fun h=>absurd rfl h⟩
 | succ i ih =>
  intro hi
  obtain ⟨ih1,ih2⟩:=ih (by omega)
  have yl:=Gx E t a b i
  have es:wE E t a b (i+1)=cond (cond (Nat.beq (wE E t a b i) 0) true (BJ (i+1) (wE E t a b i))) (cond (iZ E t (aC (Int.ofNat (i+1))) (aH (Int.ofNat (i+1))) a b) (i+1) (wE E t a b i)) (wE E t a b i):=rfl
  rw [es,hp (i+1) (by omega) hi]
  generalize wE E t a b i=y at ih1 ih2 yl
  by_cases hy:y=0
  ·subst hy
   show (cond (p (i+1)) (i+1) 0=0→_)∧_
   cases q:p (i+1) with
   | false =>
    refine ⟨fun _ x h0 h1=>?_,fun h=>absurd rfl h⟩
    by_cases e:x=i+1
    ·subst e;exact q
    ·exact ih1 rfl x h0 (by omega)
   | true =>
    refine ⟨fun h=>absurd h (Nat.succ_ne_zero i),fun _=>⟨q,fun x h0 h1 hx=>?_⟩⟩
    by_cases e:x=i+1
    ·subst e;exact Nat.le_refl _
    ·rw [ih1 rfl x h0 (by omega)] at hx;cases hx
  ·rw [(dX _ _).mpr hy]
   obtain ⟨k1,k2⟩:=ih2 hy
   have sl:=Yt (x:=i+1) (y:=y) (by omega) (by omega) (by omega) (by omega)
   show (cond (BJ (i+1) y) (cond (p (i+1)) (i+1) y) y=0→_)∧_
   cases s:BJ (i+1) y with
   | false =>
    refine ⟨fun h=>absurd h hy,fun _=>⟨k1,fun x h0 h1 hx=>?_⟩⟩
    by_cases e:x=i+1
    ·subst e
     have:¬ rnk (i+1)<rnk y:=fun z=>by rw [sl.mpr z] at s;cases s
     exact Nat.le_of_not_lt this
    ·exact k2 x h0 (by omega) hx
   | true =>
    have lt:=sl.mp s
    cases q:p (i+1) with
    | false =>
     refine ⟨fun h=>absurd h hy,fun _=>⟨k1,fun x h0 h1 hx=>?_⟩⟩
     by_cases e:x=i+1
     ·subst e;rw [q] at hx;cases hx
     ·exact k2 x h0 (by omega) hx
    | true =>
     refine ⟨fun h=>absurd h (Nat.succ_ne_zero i),fun _=>⟨q,fun x h0 h1 hx=>?_⟩⟩
     by_cases e:x=i+1
     ·subst e;exact Nat.le_refl _
     ·have:=k2 x h0 (by omega) hx
      show rnk (i+1)≤rnk x
      omega
theorem aby {O:Nat} {E t:Nat→Nat→Int} {lo hi:Nat→Int} {a b:Int} (h1:1≤O) (h2:O≤6) (hp:∀ x,0<x→x<Nat.pow 2 O→iZ E t (aC (Int.ofNat x)) (aH (Int.ofNat x)) a b=aN (lo x) (hi x) a b):Af O E t a b=uu O lo hi a b:=by
 have l64:=E5 h2
 have hN:Nat.sub (Nat.pow 2 O) 1=Nat.pow 2 O-1:=rfl
 have hpos:0<Nat.pow 2 O:=Nat.two_pow_pos O
 obtain ⟨r1,r2⟩:=TF (E:=E) (t:=t) (a:=a) (b:=b) (p:=fun x=>aN (lo x) (hi x) a b) (N:=Nat.pow 2 O-1) (by omega) (fun x h0 hx=>hp x h0 (by omega)) (Nat.pow 2 O-1) (Nat.le_refl _)
 have lnz:∀ y∈kN O,y≠0:=fun y hy=>by have:=OB h1 h2 hy;omega
 have ye:wE E t a b (Nat.pow 2 O-1)=Af O E t a b:=rfl
 rw [ye] at r1 r2
 have yl:Af O E t a b≤Nat.pow 2 O-1:=Gx E t a b _
 by_cases hf:uu O lo hi a b=0
 ·have z:=I8 lnz hf
  rw [hf]
  by_cases hy:Af O E t a b=0
  ·exact hy
  ·have q:=(r2 hy).1
   rw [z _ (NV h1 h2 (by omega) (by omega))] at q;cases q
 ·obtain ⟨k1,k2,k3⟩:=Dt (ZL h1 h2) (show y9 _ (kN O)≠0 from hf)
  have k1:uu O lo hi a b∈kN O:=k1
  have k2:aN (lo (uu O lo hi a b)) (hi (uu O lo hi a b)) a b=true:=k2
  have zr:=OB h1 h2 k1
  by_cases hy:Af O E t a b=0
  ·have q:=r1 hy (uu O lo hi a b) zr.1 (by omega)
   have q:aN (lo (uu O lo hi a b)) (hi (uu O lo hi a b)) a b=false:=q
   rw [k2] at q;cases q
  ·obtain ⟨q1,q2⟩:=r2 hy
   have b1:=q2 (uu O lo hi a b) zr.1 (by omega) k2
   have b2:=k3 (Af O E t a b) (NV h1 h2 (by omega) (by omega)) q1
   have b2:BJ (Af O E t a b) (uu O lo hi a b)=false:=b2
   have sl:=Yt (x:=Af O E t a b) (y:=uu O lo hi a b) (by omega) (by omega) zr.1 (by omega)
   have b3:¬ rnk (Af O E t a b)<rnk (uu O lo hi a b):=fun z=>by rw [sl.mpr z] at b2;cases b2
   exact aa5 (by omega) (by omega) zr.1 (by omega) (by omega)
theorem RQ (m:Nat) (g:Nat→Nat→Int):BK m g m g=false:=by
 unfold BK
 rw [Fv _ 0 fun j _ _=>rfl]
 exact FD (Nat.lt_irrefl m)
theorem Yl (A:Nat) (B:Nat→Nat→Int) (I:Nat) (J:Nat→Nat→Int) (n:Nat) (M:Nat→Nat) (f:Nat→Nat→Nat→Int) (r:Int) (O:Nat) (E:Nat→Nat→Int) (a b:Int) (hc:gW A B I J n M f r O E=0) (h1:1≤O) {x:Nat} (x0:0<x) (x1:x<Nat.pow 2 O):iZ E (lG A B I J f E) (aC (Int.ofNat x)) (aH (Int.ofNat x)) a b=aN (qL A B I J n M f r O E x) (qH A B I J n M f r O E x) a b∧jU O E O (lG A B I J f E) (aC (Int.ofNat x)) (aH (Int.ofNat x))=true:=by
 have ok:=FW A B I J n M f r O E hc
 obtain ⟨c1,c2,c3⟩:=F6 A B I J n M f r O E hc
 have hB:∀ i,i<O→_:=fun i hi=>RN A B I J n M f r O E ok hi
 have hb:=X6 h1 c2 x0 x1
 have hn:=Vr x0 (Nat.lt_of_lt_of_le x1 (E5 c2))
 obtain ⟨_,hl⟩:=RD hb
 have hL:∀ i,i<O→sS (lG A B I J f E) i 0=iK A B I J f E i:=fun i _=>rfl
 have hH:∀ i,i<O→wF (lG A B I J f E) i 0=iL A B I J f E i:=fun i _=>rfl
 have e1:suL E (aH (Int.ofNat x)) (lG A B I J f E) (aC (Int.ofNat x))=qL A B I J n M f r O E x:=X4 (t:=sS (lG A B I J f E)) hl (fun k hk=>by rw [hL k hk];exact Uk c2 hk)
 have e2:suH E (aH (Int.ofNat x)) (lG A B I J f E) (aC (Int.ofNat x))=qH A B I J n M f r O E x:=X4 (t:=wF (lG A B I J f E)) hl (fun k hk=>by rw [hH k hk];exact VU c2 hk)
 have o1:=Ye A B I J n M f r O E (aC (Int.ofNat x)) (aH (Int.ofNat x)) (w:=0) (t:=sS (lG A B I J f E)) ok hb (by omega) (Int.le_refl _) (by decide) (fun i hi=>by rw [hL i hi];have:=hB i hi;omega)
 have o2:=Ye A B I J n M f r O E (aC (Int.ofNat x)) (aH (Int.ofNat x)) (w:=0) (t:=wF (lG A B I J f E)) ok hb (by omega) (Int.le_refl _) (by decide) (fun i hi=>by rw [hH i hi];have:=hB i hi;omega)
 have mo:qL A B I J n M f r O E x≤qH A B I J n M f r O E x:=by
  rw [← e1,← e2]
  have gk:=(zf o1).1
  have g0:=KE gk _ (Nat.le_refl _)
  have r0:=JB o1 _ (Nat.le_refl _)
  have le:∀ i,i≤aC (Int.ofNat x)→rsm E (aH (Int.ofNat x)) (sS (lG A B I J f E)) i≤rsm E (aH (Int.ofNat x)) (wF (lG A B I J f E)) i:=by
   intro i
   induction i with
   | zero=>intro _;exact Int.le_refl _
   | succ i ih =>
    intro hi
    have h:=ih (by omega)
    have q:=hl i (by omega)
    have c:=(ok.cask (Int.toNat (aH (Int.ofNat x) i 0)) (by omega)).1
    have d:=hB (Int.toNat (aH (Int.ofNat x) i 0)) (by omega)
    rw [Oe,Oe,hL _ (by omega),hH _ (by omega)]
    have:=Int.mul_le_mul_of_nonneg_left d.2.1 (show 0≤E (Int.toNat (aH (Int.ofNat x) i 0)) 0 by omega)
    omega
  have l:=le _ (Nat.le_refl _)
  unfold suL suH rsV
  rw [Int.add_zero,Int.tdiv_eq_ediv_of_nonneg r0.1,Int.tdiv_eq_ediv_of_nonneg (by omega)]
  exact Int.ediv_le_ediv (by omega) l
 refine ⟨?_,aI (dV c2) (aI o1 o2)⟩
 unfold iZ
 rw [e1,e2]
 unfold aN
 by_cases q1:a≤qL A B I J n M f r O E x
 ·by_cases q2:qH A B I J n M f r O E x≤b
  ·rw [(aW _ _).mpr q1,(aW _ _).mpr q2];exact (decide_eq_true (by omega)).symm
  ·rw [(aW _ _).mpr q1,(dY _ _).mpr (by omega)];exact (decide_eq_false (by omega)).symm
 ·rw [(dY _ _).mpr (by omega)];exact (decide_eq_false (by omega)).symm
end
end BL
end Go.Proofs.YtiplgejpopellaaGreat
