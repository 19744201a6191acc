/- Casks: ProofFewest: the law's run. -/
import Derived.Test.YtiplgejpopellaaGreatYPrF2
import Derived.Test.YtiplgejpopellaaGreatYPrL2b
import Derived.Test.YtiplgejpopellaaGreatYPrY3
import Derived.Test.YtiplgejpopellaaGreatYPrAw
set_option linter.all false
set_option linter.unusedSimpArgs false
set_option linter.unusedVariables false
namespace Go.Proofs.YtiplgejpopellaaGreat
namespace BL
open Go Go.Ev
set_option maxRecDepth 1000000
set_option maxHeartbeats 0
noncomputable section
def wE (E:Nat→Nat→Int) (t:Nat→Nat→Int) (a b:Int) (i:Nat):Nat:=Nat.rec 0 (fun i y=>cond (cond (Nat.beq y 0) true (BJ (Nat.succ i) y)) (cond (iZ E t (aC (Int.ofNat (Nat.succ i))) (aH (Int.ofNat (Nat.succ i))) a b) (Nat.succ i) y) y) i
def Af (O:Nat) (E t:Nat→Nat→Int) (a b:Int):Nat:=wE E t a b (Nat.sub (Nat.pow 2 O) 1)
def rgN (O:Nat) (E t:Nat→Nat→Int) (a b:Int):Nat:=cond (Nat.beq (Af O E t a b) 0) 0 (aC (Int.ofNat (Af O E t a b)))
def rgF (O:Nat) (E t:Nat→Nat→Int) (a b:Int):Nat→Nat→Int:=aH (Int.ofNat (Af O E t a b))
def qp (O:Nat) (E t:Nat→Nat→Int) (a b:Int):Bool:=cond (Nat.beq (Af O E t a b) 0) false true
def rgO (O:Nat) (E:Nat→Nat→Int) (k:Nat) (t:Nat→Nat→Int):Bool:=cond (Nat.ble O 6) (eX (fun x=>cond (Nat.beq x 0) true (jU O E k t (aC (Int.ofNat x)) (aH (Int.ofNat x)))) (Nat.pow 2 O)) false
def Rl:Cf:=fun das=>match das with | [.st [.sl 1 A B,.sl 1 I J,.rr 1 n M f,.i .i64 r,.sl 5 O E],.one (.sl 2 k t),.st [.i .i64 a,.i .i64 b]]=>some (rgO O E k t,.tup [.one (.new (.sl 1 (rgN O E t a b) (rgF O E t a b))),.one (.new (.b (qp O E t a b)))]) | _=>none
theorem Xj {N0:Nat} {l:List V} (h:∀ v∈l,(∃ q a c len e,v=V.fz q a c len e∧(a≠N0∨∃ f,c=ae .i64 f))∨∀ q a c len e,v≠V.fz q a c len e):rowsI? N0 l:=fun v hv q c len e he=>by
 rcases h v hv with ⟨q',a',c',len',e',z,z2⟩ | z
 ·rw [he] at z
  injection z with z1 z3 z4 z5 z6
  rcases z2 with z2 | ⟨f,z2⟩
  ·exact absurd z3.symm z2
  ·exact ⟨f,by rw [z4,z2]⟩
 ·exact absurd he (z q N0 c len e)
theorem i0 (k:Nat) (t:Nat→Nat→Int) (x:Int):rowsI? 8 (nV k t x):=Xj fun v hv=>by
 simp only [nV,List.mem_cons,List.not_mem_nil,or_false] at hv
 rcases hv with rfl | rfl | rfl | rfl | rfl | rfl
 ·exact .inl ⟨_,_,_,_,_,rfl,.inl (by decide)⟩
 all_goals exact .inr (fun _ _ _ _ _ e=>by cases e)
theorem i1 (k:Nat) (t:Nat→Nat→Int) (y x:Int):rowsI? 8 (jd k t y x):=Xj fun v hv=>by
 simp only [jd,List.mem_cons,List.not_mem_nil,or_false] at hv
 rcases hv with rfl | rfl | rfl | rfl | rfl | rfl
 ·exact .inl ⟨_,_,_,_,_,rfl,.inl (by decide)⟩
 ·exact .inr (fun _ _ _ _ _ e=>by cases e)
 ·exact .inr (fun _ _ _ _ _ e=>by cases e)
 ·exact .inl ⟨_,_,_,_,_,rfl,.inr ⟨_,rfl⟩⟩
 all_goals exact .inr (fun _ _ _ _ _ e=>by cases e)
theorem j0:rowsI? 8 (Lv.s xR0).l:=Xj fun v hv=>by
 simp only [xR0,Lv.s,List.mem_cons,List.not_mem_nil,or_false] at hv
 rcases hv with rfl | rfl
 all_goals exact .inr (fun _ _ _ _ _ e=>by cases e)
theorem j1 (y:Int):rowsI? 8 (Lv.s (xR1 y)).l:=Xj fun v hv=>by
 simp only [xR1,Lv.s,List.mem_cons,List.not_mem_nil,or_false] at hv
 rcases hv with rfl | rfl
 ·exact .inl ⟨_,_,_,_,_,rfl,.inr ⟨_,rfl⟩⟩
 ·exact .inr (fun _ _ _ _ _ e=>by cases e)
def rfS (k:Nat) (t:Nat→Nat→Int) (y i:Nat):List V:=cond (Nat.beq y 0) (nV k t (Int.ofNat (i+1))) (jd k t (Int.ofNat y) (Int.ofNat (i+1)))
theorem Gx (E t:Nat→Nat→Int) (a b:Int):∀ i,wE E t a b i≤i
 | 0=>Nat.le_refl 0
 | i+1=>by
  have ih:=Gx E t a b i
  show cond (cond (Nat.beq (wE E t a b i) 0) true (BJ (i+1) (wE E t a b i))) (cond (iZ E t _ _ a b) (i+1) (wE E t a b i)) (wE E t a b i)≤i+1
  cases cond (Nat.beq (wE E t a b i) 0) true (BJ (i+1) (wE E t a b i)) with
  | false=>exact Nat.le_succ_of_le ih
  | true =>
   cases iZ E t (aC (Int.ofNat (Nat.succ i))) (aH (Int.ofNat (Nat.succ i))) a b with
   | false=>exact Nat.le_succ_of_le ih
   | true=>exact Nat.le_refl _
theorem rP (A:Nat) (B:Nat→Nat→Int) (I:Nat) (J:Nat→Nat→Int) (n:Nat) (M:Nat→Nat) (f:Nat→Nat→Nat→Int) (r:Int) (O:Nat) (E:Nat→Nat→Int) (k:Nat) (t:Nat→Nat→Int) (a b:Int) (hO:rgO O E k t=true)
 (r1:∀ x:Nat,0<x→x<Nat.pow 2 O→iZ E t (aC (Int.ofNat x)) (aH (Int.ofNat x)) a b=false→JA Tryz.prog (cu A B I J n M f r O E a b) iC 40 60 bR (nV k t (Int.ofNat x)) (.next ⟨nV k t (Int.ofNat (x+1)),[]⟩))
 (r2:∀ x:Nat,0<x→x<Nat.pow 2 O→iZ E t (aC (Int.ofNat x)) (aH (Int.ofNat x)) a b=true→JA Tryz.prog (cu A B I J n M f r O E a b) iC 40 60 bR (nV k t (Int.ofNat x)) (.next ⟨jd k t (Int.ofNat x) (Int.ofNat (x+1)),[]⟩))
 (r3:∀ x y:Nat,0<x→x<Nat.pow 2 O→0<y→y<x→BJ x y=false→JA Tryz.prog (cu A B I J n M f r O E a b) iC 40 60 bR (jd k t (Int.ofNat y) (Int.ofNat x)) (.next ⟨jd k t (Int.ofNat y) (Int.ofNat (x+1)),[]⟩))
 (r4:∀ x y:Nat,0<x→x<Nat.pow 2 O→0<y→y<x→BJ x y=true→iZ E t (aC (Int.ofNat x)) (aH (Int.ofNat x)) a b=false→JA Tryz.prog (cu A B I J n M f r O E a b) iC 40 60 bR (jd k t (Int.ofNat y) (Int.ofNat x)) (.next ⟨jd k t (Int.ofNat y) (Int.ofNat (x+1)),[]⟩))
 (r5:∀ x y:Nat,0<x→x<Nat.pow 2 O→0<y→y<x→BJ x y=true→iZ E t (aC (Int.ofNat x)) (aH (Int.ofNat x)) a b=true→JA Tryz.prog (cu A B I J n M f r O E a b) iC 40 60 bR (jd k t (Int.ofNat y) (Int.ofNat x)) (.next ⟨jd k t (Int.ofNat x) (Int.ofNat (x+1)),[]⟩))
 (e0:JA Tryz.prog (cu A B I J n M f r O E a b) iC 40 60 bR (nV k t (Int.ofNat (Nat.pow 2 O))) xR0) (e1:∀ y:Nat,JA Tryz.prog (cu A B I J n M f r O E a b) iC 40 60 bR (jd k t (Int.ofNat y) (Int.ofNat (Nat.pow 2 O))) (xR1 (Int.ofNat y))) :
 JA Tryz.prog (cu A B I J n M f r O E a b) iC 40 60 (.loop bR) (nV k t 1) (cond (qp O E t a b) (xR1 (Int.ofNat (Af O E t a b))) xR0):=by
 have hp:0<Nat.pow 2 O:=Nat.two_pow_pos O
 have hlast:rfS k t (Af O E t a b) (Nat.sub (Nat.pow 2 O) 1)=cond (Nat.beq (Af O E t a b) 0) (nV k t (Int.ofNat (Nat.pow 2 O))) (jd k t (Int.ofNat (Af O E t a b)) (Int.ofNat (Nat.pow 2 O))):=by
  unfold rfS
  have:Nat.sub (Nat.pow 2 O) 1+1=Nat.pow 2 O:=Nat.sub_add_cancel hp
  rw [this]
 refine zH (fun l e=>by cases h:qp O E t a b<;>rw [h] at e<;>cases e) (Nat.sub (Nat.pow 2 O) 1) (fun i=>rfS k t (wE E t a b i) i) (fun i hi=>?_) ?_
 ·have hi:i<Nat.pow 2 O-1:=hi
  have x1:i+1<Nat.pow 2 O:=by omega
  have yl:=Gx E t a b i
  have es:wE E t a b (i+1)=cond (cond (Nat.beq (wE E t a b i) 0) true (BJ (i+1) (wE E t a b i))) (cond (iZ E t (aC (Int.ofNat (i+1))) (aH (Int.ofNat (i+1))) a b) (i+1) (wE E t a b i)) (wE E t a b i):=rfl
  show JA _ _ _ _ _ _ (rfS k t (wE E t a b i) i) (.next ⟨rfS k t (wE E t a b (i+1)) (i+1),[]⟩)
  rw [es]
  generalize wE E t a b i=y at yl
  unfold rfS
  by_cases hy:y=0
  ·subst hy
   cases q:iZ E t (aC (Int.ofNat (i+1))) (aH (Int.ofNat (i+1))) a b with
   | false=>exact r1 (i+1) (by omega) x1 q
   | true=>exact r2 (i+1) (by omega) x1 q
  ·rw [(dX _ _).mpr hy]
   cases s:BJ (i+1) y with
   | false =>
    show JA _ _ _ _ _ _ (jd k t (Int.ofNat y) (Int.ofNat (i+1))) (.next ⟨cond (Nat.beq y 0) _ (jd k t (Int.ofNat y) (Int.ofNat (i+1+1))),[]⟩)
    rw [(dX _ _).mpr hy]
    exact r3 (i+1) y (by omega) x1 (by omega) (by omega) s
   | true =>
    cases q:iZ E t (aC (Int.ofNat (i+1))) (aH (Int.ofNat (i+1))) a b with
    | false =>
     show JA _ _ _ _ _ _ (jd k t (Int.ofNat y) (Int.ofNat (i+1))) (.next ⟨cond (Nat.beq y 0) _ (jd k t (Int.ofNat y) (Int.ofNat (i+1+1))),[]⟩)
     rw [(dX _ _).mpr hy]
     exact r4 (i+1) y (by omega) x1 (by omega) (by omega) s q
    | true=>exact r5 (i+1) y (by omega) x1 (by omega) (by omega) s q
 ·show JA _ _ _ _ _ _ (rfS k t (Af O E t a b) (Nat.sub (Nat.pow 2 O) 1)) _
  rw [hlast]
  unfold qp
  cases Nat.beq (Af O E t a b) 0 with
  | true=>exact e0
  | false=>exact e1 _
theorem dH {O k:Nat} {E t:Nat→Nat→Int} (hO:rgO O E k t=true) {x:Nat} (h0:0<x) (hx:x<Nat.pow 2 O):aC (Int.ofNat x)≤6∧jU O E k t (aC (Int.ofNat x)) (aH (Int.ofNat x))=true:=by
 obtain ⟨h6,h⟩:=ah hO
 have q:=aX h x hx
 rw [(dX x 0).mpr (by omega)] at q
 exact ⟨gm _,q⟩
theorem aaI:Jj Tryz.prog 12 Rl:=by
 intro das v hv
 unfold Rl at hv
 split at hv
 ·rename_i A B I J n M f r O E k t a b
  have hO:=congrArg Prod.fst (Option.some.inj hv)
  have hv:=congrArg Prod.snd (Option.some.inj hv)
  subst hv
  have hO:rgO O E k t=true:=hO
  have h6:=Nat.le_of_ble_eq_true (ah hO).1
  have fin:∀ {h:HT} {l0:List V},VC (EI Tryz.prog kJ 300 12 [1,1,1,0,1,0] [.st [.sl 1 A B,.sl 1 I J,.rr 1 n M f,.i .i64 r,.sl 5 O E],.one (.sl 2 k t),.st [.i .i64 a,.i .i64 b]] (cu A B I J n M f r O E a b) iC 40 60 l0) h→JA Tryz.prog (cu A B I J n M f r O E a b) iC 40 60 (.loop bR) l0 (cond (qp O E t a b) (xR1 (Int.ofNat (Af O E t a b))) xR0)→∃ v' H',SpecCall Tryz.prog 12 (enc [.st [.sl 1 A B,.sl 1 I J,.rr 1 n M f,.i .i64 r,.sl 5 O E],.one (.sl 2 k t),.st [.i .i64 a,.i .i64 b]] 0) (aU (rJ [.st [.sl 1 A B,.sl 1 I J,.rr 1 n M f,.i .i64 r,.sl 5 O E],.one (.sl 2 k t),.st [.i .i64 a,.i .i64 b]] 0+1)) v' H'∧fV (rJ [.st [.sl 1 A B,.sl 1 I J,.rr 1 n M f,.i .i64 r,.sl 5 O E],.one (.sl 2 k t),.st [.i .i64 a,.i .i64 b]] 0) H' v' (.tup [.one (.new (.sl 1 (rgN O E t a b) (rgF O E t a b))),.one (.new (.b (qp O E t a b)))]):=fun he hJ=>by
   have hsub:sub [1,1,1,0,1,0] (cZ Tryz.prog 12) = .loop bR:=by kernel_rfl
   rw [← hsub] at hJ
   unfold rgN rgF
   cases hB:Nat.beq (Af O E t a b) 0 with
   | true =>
    have hb:qp O E t a b=false:=by unfold qp;rw [hB];rfl
    have e:Af O E t a b=0:=nb hB
    rw [hb] at hJ ⊢
    rw [e]
    exact D5 aj dm (by kernel_rfl) he hJ (fa A B I J n M f r O E a b)
   | false =>
    have hb:qp O E t a b=true:=by unfold qp;rw [hB];rfl
    rw [hb] at hJ ⊢
    exact D5 aj dm (by kernel_rfl) he hJ (fb A B I J n M f r O E a b (Int.ofNat (Af O E t a b)))
  rcases (show O=0∨O=1∨O=2∨O=3∨O=4∨O=5∨O=6 by omega) with rfl | rfl | rfl | rfl | rfl | rfl | rfl
  ·exact fin (er0 A B I J n M f r E k t a b) (zH (fun l e=>by cases e) 0 (fun _=>nV k t 1) (fun i hi=>absurd hi (Nat.not_lt_zero i)) (aV aj dm (xa0 A B I J n M f r E k t a b 1 rfl) (by kernel_rfl) j0))
  ·refine fin (er1 A B I J n M f r E k t a b) (rP A B I J n M f r 1 E k t a b hO (fun x h0 hx q=>?_) (fun x h0 hx q=>?_) (fun x y h0 hx y0 yx s=>?_) (fun x y h0 hx y0 yx s q=>?_) (fun x y h0 hx y0 yx s q=>?_) (aV aj dm (xa1 A B I J n M f r E k t a b _ rfl) (by kernel_rfl) j0) (fun y=>aV aj dm (xb1 A B I J n M f r E k t a b _ (Int.ofNat y) rfl) (by kernel_rfl) (j1 _)))
   ·obtain ⟨b1,b2⟩:=dH hO h0 hx
    exact aV aj dm (adv A B I J n M f r E k t a b (Int.ofNat x) ⟨by show (1:Int)≤(x:Int);omega,by show (x:Int)<2;have hx:x<2:=hx;omega⟩ b1 b2 q) (by kernel_rfl) (i0 _ _ _)
   ·obtain ⟨b1,b2⟩:=dH hO h0 hx
    exact aV aj dm (adx A B I J n M f r E k t a b (Int.ofNat x) ⟨by show (1:Int)≤(x:Int);omega,by show (x:Int)<2;have hx:x<2:=hx;omega⟩ b1 b2 q) (by kernel_rfl) (i1 _ _ _ _)
   ·obtain ⟨b1,b2⟩:=dH hO h0 hx
    exact aV aj dm (adp A B I J n M f r E k t a b (Int.ofNat x) (Int.ofNat y) ⟨by show (1:Int)≤(x:Int);omega,by show (x:Int)<2;have hx:x<2:=hx;omega⟩ b1 b2 (gm _) s) (by kernel_rfl) (i1 _ _ _ _)
   ·obtain ⟨b1,b2⟩:=dH hO h0 hx
    exact aV aj dm (ada A B I J n M f r E k t a b (Int.ofNat x) (Int.ofNat y) ⟨by show (1:Int)≤(x:Int);omega,by show (x:Int)<2;have hx:x<2:=hx;omega⟩ b1 b2 (gm _) s q) (by kernel_rfl) (i1 _ _ _ _)
   ·obtain ⟨b1,b2⟩:=dH hO h0 hx
    exact aV aj dm (adP A B I J n M f r E k t a b (Int.ofNat x) (Int.ofNat y) ⟨by show (1:Int)≤(x:Int);omega,by show (x:Int)<2;have hx:x<2:=hx;omega⟩ b1 b2 (gm _) s q) (by kernel_rfl) (i1 _ _ _ _)
  ·refine fin (er2 A B I J n M f r E k t a b) (rP A B I J n M f r 2 E k t a b hO (fun x h0 hx q=>?_) (fun x h0 hx q=>?_) (fun x y h0 hx y0 yx s=>?_) (fun x y h0 hx y0 yx s q=>?_) (fun x y h0 hx y0 yx s q=>?_) (aV aj dm (xa2 A B I J n M f r E k t a b _ rfl) (by kernel_rfl) j0) (fun y=>aV aj dm (xb2 A B I J n M f r E k t a b _ (Int.ofNat y) rfl) (by kernel_rfl) (j1 _)))
   ·obtain ⟨b1,b2⟩:=dH hO h0 hx
    exact aV aj dm (adN A B I J n M f r E k t a b (Int.ofNat x) ⟨by show (1:Int)≤(x:Int);omega,by show (x:Int)<4;have hx:x<4:=hx;omega⟩ b1 b2 q) (by kernel_rfl) (i0 _ _ _)
   ·obtain ⟨b1,b2⟩:=dH hO h0 hx
    exact aV aj dm (abU A B I J n M f r E k t a b (Int.ofNat x) ⟨by show (1:Int)≤(x:Int);omega,by show (x:Int)<4;have hx:x<4:=hx;omega⟩ b1 b2 q) (by kernel_rfl) (i1 _ _ _ _)
   ·obtain ⟨b1,b2⟩:=dH hO h0 hx
    exact aV aj dm (abS A B I J n M f r E k t a b (Int.ofNat x) (Int.ofNat y) ⟨by show (1:Int)≤(x:Int);omega,by show (x:Int)<4;have hx:x<4:=hx;omega⟩ b1 b2 (gm _) s) (by kernel_rfl) (i1 _ _ _ _)
   ·obtain ⟨b1,b2⟩:=dH hO h0 hx
    exact aV aj dm (ac7 A B I J n M f r E k t a b (Int.ofNat x) (Int.ofNat y) ⟨by show (1:Int)≤(x:Int);omega,by show (x:Int)<4;have hx:x<4:=hx;omega⟩ b1 b2 (gm _) s q) (by kernel_rfl) (i1 _ _ _ _)
   ·obtain ⟨b1,b2⟩:=dH hO h0 hx
    exact aV aj dm (adZ A B I J n M f r E k t a b (Int.ofNat x) (Int.ofNat y) ⟨by show (1:Int)≤(x:Int);omega,by show (x:Int)<4;have hx:x<4:=hx;omega⟩ b1 b2 (gm _) s q) (by kernel_rfl) (i1 _ _ _ _)
  ·refine fin (er3 A B I J n M f r E k t a b) (rP A B I J n M f r 3 E k t a b hO (fun x h0 hx q=>?_) (fun x h0 hx q=>?_) (fun x y h0 hx y0 yx s=>?_) (fun x y h0 hx y0 yx s q=>?_) (fun x y h0 hx y0 yx s q=>?_) (aV aj dm (xa3 A B I J n M f r E k t a b _ rfl) (by kernel_rfl) j0) (fun y=>aV aj dm (xb3 A B I J n M f r E k t a b _ (Int.ofNat y) rfl) (by kernel_rfl) (j1 _)))
   ·obtain ⟨b1,b2⟩:=dH hO h0 hx
    exact aV aj dm (acv A B I J n M f r E k t a b (Int.ofNat x) ⟨by show (1:Int)≤(x:Int);omega,by show (x:Int)<8;have hx:x<8:=hx;omega⟩ b1 b2 q) (by kernel_rfl) (i0 _ _ _)
   ·obtain ⟨b1,b2⟩:=dH hO h0 hx
    exact aV aj dm (acx A B I J n M f r E k t a b (Int.ofNat x) ⟨by show (1:Int)≤(x:Int);omega,by show (x:Int)<8;have hx:x<8:=hx;omega⟩ b1 b2 q) (by kernel_rfl) (i1 _ _ _ _)
   ·obtain ⟨b1,b2⟩:=dH hO h0 hx
    exact aV aj dm (acD A B I J n M f r E k t a b (Int.ofNat x) (Int.ofNat y) ⟨by show (1:Int)≤(x:Int);omega,by show (x:Int)<8;have hx:x<8:=hx;omega⟩ b1 b2 (gm _) s) (by kernel_rfl) (i1 _ _ _ _)
   ·obtain ⟨b1,b2⟩:=dH hO h0 hx
    exact aV aj dm (acd A B I J n M f r E k t a b (Int.ofNat x) (Int.ofNat y) ⟨by show (1:Int)≤(x:Int);omega,by show (x:Int)<8;have hx:x<8:=hx;omega⟩ b1 b2 (gm _) s q) (by kernel_rfl) (i1 _ _ _ _)
   ·obtain ⟨b1,b2⟩:=dH hO h0 hx
    exact aV aj dm (ab7 A B I J n M f r E k t a b (Int.ofNat x) (Int.ofNat y) ⟨by show (1:Int)≤(x:Int);omega,by show (x:Int)<8;have hx:x<8:=hx;omega⟩ b1 b2 (gm _) s q) (by kernel_rfl) (i1 _ _ _ _)
  ·refine fin (er4 A B I J n M f r E k t a b) (rP A B I J n M f r 4 E k t a b hO (fun x h0 hx q=>?_) (fun x h0 hx q=>?_) (fun x y h0 hx y0 yx s=>?_) (fun x y h0 hx y0 yx s q=>?_) (fun x y h0 hx y0 yx s q=>?_) (aV aj dm (xa4 A B I J n M f r E k t a b _ rfl) (by kernel_rfl) j0) (fun y=>aV aj dm (xb4 A B I J n M f r E k t a b _ (Int.ofNat y) rfl) (by kernel_rfl) (j1 _)))
   ·obtain ⟨b1,b2⟩:=dH hO h0 hx
    exact aV aj dm (acZ A B I J n M f r E k t a b (Int.ofNat x) ⟨by show (1:Int)≤(x:Int);omega,by show (x:Int)<16;have hx:x<16:=hx;omega⟩ b1 b2 q) (by kernel_rfl) (i0 _ _ _)
   ·obtain ⟨b1,b2⟩:=dH hO h0 hx
    exact aV aj dm (ab6 A B I J n M f r E k t a b (Int.ofNat x) ⟨by show (1:Int)≤(x:Int);omega,by show (x:Int)<16;have hx:x<16:=hx;omega⟩ b1 b2 q) (by kernel_rfl) (i1 _ _ _ _)
   ·obtain ⟨b1,b2⟩:=dH hO h0 hx
    exact aV aj dm (ab3 A B I J n M f r E k t a b (Int.ofNat x) (Int.ofNat y) ⟨by show (1:Int)≤(x:Int);omega,by show (x:Int)<16;have hx:x<16:=hx;omega⟩ b1 b2 (gm _) s) (by kernel_rfl) (i1 _ _ _ _)
   ·obtain ⟨b1,b2⟩:=dH hO h0 hx
    exact aV aj dm (ac' A B I J n M f r E k t a b (Int.ofNat x) (Int.ofNat y) ⟨by show (1:Int)≤(x:Int);omega,by show (x:Int)<16;have hx:x<16:=hx;omega⟩ b1 b2 (gm _) s q) (by kernel_rfl) (i1 _ _ _ _)
   ·obtain ⟨b1,b2⟩:=dH hO h0 hx
    exact aV aj dm (ac3 A B I J n M f r E k t a b (Int.ofNat x) (Int.ofNat y) ⟨by show (1:Int)≤(x:Int);omega,by show (x:Int)<16;have hx:x<16:=hx;omega⟩ b1 b2 (gm _) s q) (by kernel_rfl) (i1 _ _ _ _)
  ·refine fin (er5 A B I J n M f r E k t a b) (rP A B I J n M f r 5 E k t a b hO (fun x h0 hx q=>?_) (fun x h0 hx q=>?_) (fun x y h0 hx y0 yx s=>?_) (fun x y h0 hx y0 yx s q=>?_) (fun x y h0 hx y0 yx s q=>?_) (aV aj dm (xa5 A B I J n M f r E k t a b _ rfl) (by kernel_rfl) j0) (fun y=>aV aj dm (xb5 A B I J n M f r E k t a b _ (Int.ofNat y) rfl) (by kernel_rfl) (j1 _)))
   ·obtain ⟨b1,b2⟩:=dH hO h0 hx
    exact aV aj dm (ac5 A B I J n M f r E k t a b (Int.ofNat x) ⟨by show (1:Int)≤(x:Int);omega,by show (x:Int)<32;have hx:x<32:=hx;omega⟩ b1 b2 q) (by kernel_rfl) (i0 _ _ _)
   ·obtain ⟨b1,b2⟩:=dH hO h0 hx
    exact aV aj dm (acK A B I J n M f r E k t a b (Int.ofNat x) ⟨by show (1:Int)≤(x:Int);omega,by show (x:Int)<32;have hx:x<32:=hx;omega⟩ b1 b2 q) (by kernel_rfl) (i1 _ _ _ _)
   ·obtain ⟨b1,b2⟩:=dH hO h0 hx
    exact aV aj dm (adg A B I J n M f r E k t a b (Int.ofNat x) (Int.ofNat y) ⟨by show (1:Int)≤(x:Int);omega,by show (x:Int)<32;have hx:x<32:=hx;omega⟩ b1 b2 (gm _) s) (by kernel_rfl) (i1 _ _ _ _)
   ·obtain ⟨b1,b2⟩:=dH hO h0 hx
    exact aV aj dm (acT A B I J n M f r E k t a b (Int.ofNat x) (Int.ofNat y) ⟨by show (1:Int)≤(x:Int);omega,by show (x:Int)<32;have hx:x<32:=hx;omega⟩ b1 b2 (gm _) s q) (by kernel_rfl) (i1 _ _ _ _)
   ·obtain ⟨b1,b2⟩:=dH hO h0 hx
    exact aV aj dm (acy A B I J n M f r E k t a b (Int.ofNat x) (Int.ofNat y) ⟨by show (1:Int)≤(x:Int);omega,by show (x:Int)<32;have hx:x<32:=hx;omega⟩ b1 b2 (gm _) s q) (by kernel_rfl) (i1 _ _ _ _)
  ·refine fin (er6 A B I J n M f r E k t a b) (rP A B I J n M f r 6 E k t a b hO (fun x h0 hx q=>?_) (fun x h0 hx q=>?_) (fun x y h0 hx y0 yx s=>?_) (fun x y h0 hx y0 yx s q=>?_) (fun x y h0 hx y0 yx s q=>?_) (aV aj dm (xa6 A B I J n M f r E k t a b _ rfl) (by kernel_rfl) j0) (fun y=>aV aj dm (xb6 A B I J n M f r E k t a b _ (Int.ofNat y) rfl) (by kernel_rfl) (j1 _)))
   ·obtain ⟨b1,b2⟩:=dH hO h0 hx
    exact aV aj dm (adQ A B I J n M f r E k t a b (Int.ofNat x) ⟨by show (1:Int)≤(x:Int);omega,by show (x:Int)<64;have hx:x<64:=hx;omega⟩ b1 b2 q) (by kernel_rfl) (i0 _ _ _)
   ·obtain ⟨b1,b2⟩:=dH hO h0 hx
    exact aV aj dm (acW A B I J n M f r E k t a b (Int.ofNat x) ⟨by show (1:Int)≤(x:Int);omega,by show (x:Int)<64;have hx:x<64:=hx;omega⟩ b1 b2 q) (by kernel_rfl) (i1 _ _ _ _)
   ·obtain ⟨b1,b2⟩:=dH hO h0 hx
    exact aV aj dm (ack A B I J n M f r E k t a b (Int.ofNat x) (Int.ofNat y) ⟨by show (1:Int)≤(x:Int);omega,by show (x:Int)<64;have hx:x<64:=hx;omega⟩ b1 b2 (gm _) s) (by kernel_rfl) (i1 _ _ _ _)
   ·obtain ⟨b1,b2⟩:=dH hO h0 hx
    exact aV aj dm (adr A B I J n M f r E k t a b (Int.ofNat x) (Int.ofNat y) ⟨by show (1:Int)≤(x:Int);omega,by show (x:Int)<64;have hx:x<64:=hx;omega⟩ b1 b2 (gm _) s q) (by kernel_rfl) (i1 _ _ _ _)
   ·obtain ⟨b1,b2⟩:=dH hO h0 hx
    exact aV aj dm (aec A B I J n M f r E k t a b (Int.ofNat x) (Int.ofNat y) ⟨by show (1:Int)≤(x:Int);omega,by show (x:Int)<64;have hx:x<64:=hx;omega⟩ b1 b2 (gm _) s q) (by kernel_rfl) (i1 _ _ _ _)
 ·cases hv
end
end BL
end Go.Proofs.YtiplgejpopellaaGreat
