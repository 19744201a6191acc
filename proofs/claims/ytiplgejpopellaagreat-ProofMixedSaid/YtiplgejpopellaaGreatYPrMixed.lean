/- ProofMixed: for every input the law returns true: of casks of one strength each the strength of a mixture lies between theirs, and its tenths are theirs, but for what rounding takes. No condition. -/
import Derived.Test.YtiplgejpopellaaGreatRows
import Derived.WalkKit
import Derived.Test.YtiplgejpopellaaGreatYPrX3
import Derived.Test.YtiplgejpopellaaGreatYPrX1
import Derived.Test.YtiplgejpopellaaGreatYPrArg
import Derived.Test.YtiplgejpopellaaGreatYEd
set_option linter.all false
set_option linter.unusedSimpArgs false
set_option linter.unusedVariables false
namespace Go.Proofs.YtiplgejpopellaaGreat
namespace BL
open Go Go.Ev Go.ChangeShapes Go.WideShapes Go.ChangeAt Go.RowKit
set_option maxRecDepth 1000000
noncomputable section
def We:Val:=fun das=>match das with
 | [.st [.sl 1 A B,.sl 1 I J,.rr 1 n M f,.i .i64 r,.sl 5 O E],.one (.i .u8 b)]=>some (decide (0≤b∧b≤255),.bool true)
 | _=>none
theorem vC (A:Nat) (B:Nat→Nat→Int) (I:Nat) (J:Nat→Nat→Int) (n:Nat) (M:Nat→Nat) (f:Nat→Nat→Nat→Int) (r:Int) (g:Nat→Nat→Int) (O m:Nat) (l:Nat→Nat→Int) (hg:fM A B I J n M f r O g=0) (hp:∀ i,i<O→gz A B I J f g i=gB A B I J f g i) (hb:hbB O l m=true) (km:m≤6) :
 bdE A B I J n M f r O g m l 0=0∧bdL A B I J n M f r O g m l 0=bdH A B I J n M f r O g m l 0 ∧
 (∀ i,i<m→(0≤l i 0∧l i 0<O)∧(1≤g (Int.toNat (l i 0)) 0∧g (Int.toNat (l i 0)) 0≤99)∧(bZ A B I J f g (Int.toNat (l i 0)) 1=bZ A B I J f g (Int.toNat (l i 0)) 0)∧(0≤bZ A B I J f g (Int.toNat (l i 0)) 0∧bZ A B I J f g (Int.toNat (l i 0)) 0≤2000)) ∧
 (∀ i,i≤m→(0≤gsm g l 0 i∧gsm g l 0 i≤99*(i:Int))∧0≤gY g l (bZ A B I J f g) i∧gY g l (bZ A B I J f g) i≤1980*(i:Int)) ∧
 (let x:=bdL A B I J n M f r O g m l 0;let S:=gsm g l 0 m;let u:=gY g l (bZ A B I J f g) m
  (gV l (bZ A B I J f g) m≤x∧x≤dS l (bZ A B I J f g) m)∧Int.tdiv (S*x) 100≤u+m-1∧u-Int.tdiv (S+99) 100≤Int.tdiv (S*x) 100∧(0≤x∧x≤2000)):=by
 have ok:=xN A B I J n M f r O g hg
 obtain ⟨c1,c2,c3⟩:=CY A B I J n M f r O g hg
 have hB:∀ i,i<O→_:=fun i hi=>Uk A B I J n M f r O g ok hi
 have hL:∀ i,i<O→bZ A B I J f g i 0=gz A B I J f g i:=fun i _=>rfl
 have hH:∀ i,i<O→bZ A B I J f g i 1=gB A B I J f g i:=fun i _=>rfl
 obtain ⟨m0,hl⟩:=QB hb
 obtain ⟨b0,b1,b2⟩:=Z8 A B I J n M f r O g m l (w:=0) hg hb (Int.le_refl _) (by decide)
 have ro:=ZH A B I J n M f r O g m l (w:=0) (t:=bZ A B I J f g) ok hb (by omega) (Int.le_refl _) (by decide) (fun i hi=>by rw [hL i hi];have:=hB i hi;omega)
 have e1:rsV g l 0 (bZ A B I J f g) m=bdL A B I J n M f r O g m l 0:=by rw [b1];exact Xw hl (fun k hk=>by rw [hL k hk];exact QV c2 hk)
 have e2:bdL A B I J n M f r O g m l 0=bdH A B I J n M f r O g m l 0:=by
  have q:rsV g l 0 (bZ A B I J f g) m=bdH A B I J n M f r O g m l 0:=by rw [b2];exact Xw hl (fun k hk=>by rw [hL k hk,hp k hk];exact Uh c2 hk)
  rw [← e1,q]
 obtain ⟨k1,k2,k3,k4⟩:=mixed ro
 have rb:=Jh ro m (Nat.le_refl m)
 have mi:=mix ro
 refine ⟨b0,e2,fun i hi=>?_,fun i hi=>?_,⟨⟨?_,?_⟩,?_,?_,?_⟩⟩
 ·have a:=hl i hi
  have c:=(ok.cask (Int.toNat (l i 0)) (by omega)).1
  have d:=hB (Int.toNat (l i 0)) (by omega)
  exact ⟨a,c,by rw [hH _ (by omega),hL _ (by omega),hp _ (by omega)],by rw [hL _ (by omega)];omega⟩
 ·obtain ⟨⟨q1,q2⟩,q3,_,_,_,q6,q7⟩:=mi i hi
  have rb:=Jh ro i hi
  omega
 ·rw [← e1];exact k1
 ·rw [← e1];exact k2
 ·rw [← e1];exact k3
 ·rw [← e1];exact k4
 ·have q:=(mi m (Nat.le_refl m)).2.2.2.2.1 m0
  rw [← e1];omega
theorem uY {a b:Int} (h:1≤a∧a≤99) (k:0≤b∧b≤2000):(0≤a*b∧a*b≤198000)∧(0≤Int.tdiv (a*b) 100∧Int.tdiv (a*b) 100≤198000):=by
 have q:=Ik h k
 rw [Int.tdiv_eq_ediv_of_nonneg q.1]
 omega
theorem uX {a b:Int} (h:0≤a∧a≤594) (k:0≤b∧b≤2000):(0≤a*b∧a*b≤2000000)∧(0≤Int.tdiv (a*b) 100∧Int.tdiv (a*b) 100≤2000000):=by
 have x:0≤a*b:=Int.mul_nonneg h.1 k.1
 have y:a*b≤a*2000:=Int.mul_le_mul_of_nonneg_left k.2 h.1
 rw [Int.tdiv_eq_ediv_of_nonneg x]
 omega
theorem abY:qi Tryz.prog 4 We:=by
 intro das x hv
 unfold We at hv
 split at hv
 ·rename_i A B I J n M f r O E b
  have hd:=of_decide_eq_true (congrArg Prod.fst (Option.some.inj hv))
  have hv:=congrArg Prod.snd (Option.some.inj hv)
  subst hv
  have fin:∀ {h:HT},VC (bK Tryz.prog (XP E) 600 4 (enc [.st [.sl 1 A B,.sl 1 I J,.rr 1 n M f,.i .i64 r,.sl 5 O E],.one (.i .u8 b)] 0) 4 (fun v=>bW v (.bool true))) h→uf (.bool true)=true∧∃ v' H',SpecCall Tryz.prog 4 (enc [.st [.sl 1 A B,.sl 1 I J,.rr 1 n M f,.i .i64 r,.sl 5 O E],.one (.i .u8 b)] 0) (aP 5) v' H'∧bW v' (.bool true):=fun hvc =>
   aK aj (yj E) rfl (das:=[.st [.sl 1 A B,.sl 1 I J,.rr 1 n M f,.i .i64 r,.sl 5 O E],.one (.i .u8 b)]) hvc
  cases hth:eQ A I n M with
  | false=>exact fin (mx1 A B I J n M f r O E E b hth)
  | true =>
  have hs:=ZX hth
  by_cases h9:O≤9
  ·by_cases hc:fM A B I J n M f r O E=0
   ·obtain ⟨c1,c2,c3⟩:=CY A B I J n M f r O E hc
    by_cases h0:O=0
    ·exact fin (mx4 A B I J n M f r O E E b hth h0 hc)
    have h1:1≤O:=by omega
    have hb:=aau (O:=O) h1 c2 hd
    have km:soN O b≤6:=by
     by_cases z:biN (zH O b)=0
     ·rw [(E8 z).1];omega
     ·rw [(FI z).1];exact rJ _
    refine ⟨rfl,?_⟩
    rcases (show O=1∨O=2∨O=3∨O=4∨O=5∨O=6 by omega) with rfl | rfl | rfl | rfl | rfl | rfl
    ·obtain ⟨g,eg⟩:∃ g,(gotRow [E 0 0,E 0 1,E 0 1,E 0 3,E 0 3] 5)=g:=⟨_,rfl⟩
     have hg5:∀ i,i<1→g i 0=E i 0∧g i 1=E i 1∧g i 2=E i 1∧g i 3=E i 3∧g i 4=E i 3:=fun i hi=>by
      subst eg
      rcases (show i=0 by omega) with rfl<;>exact ⟨rfl,rfl,rfl,rfl,rfl⟩
     obtain ⟨hg,hp⟩:=mr A B I J n M f r 1 E hc hg5
     obtain ⟨b0,b1,hr,hs2,⟨v1,v2,v3,xb⟩⟩:=vC A B I J n M f r g 1 (soN 1 b) (soF 1 b) hg hp hb km
     have e1:jH A B I J n M f r 1 g=1:=by unfold jH;rw [hg];rfl
     obtain ⟨⟨s1,s2⟩,s3,s4⟩:=hs2 (soN 1 b) (Nat.le_refl _)
     obtain ⟨w1,w2⟩:=uX (a:=gsm g (soF 1 b) 0 (soN 1 b)) (b:=bdL A B I J n M f r 1 g (soN 1 b) (soF 1 b) 0) ⟨s1,by omega⟩ xb
     exact bn aj (yj g) (das:=[.st [.sl 1 A B,.sl 1 I J,.rr 1 n M f,.i .i64 r,.sl 5 1 E],.one (.i .u8 b)]) (lv:=xM (soN 1 b) (soF 1 b) (gsm g (soF 1 b) 0 (soN 1 b)) (gY g (soF 1 b) (bZ A B I J f g) (soN 1 b)) (gV (soF 1 b) (bZ A B I J f g) (soN 1 b)) (dS (soF 1 b) (bZ A B I J f g) (soN 1 b))) (by kernel_rfl) (by kernel_rfl) (em1 A B I J n M f r E g b hth hs hc c1 hd km (by rw [eg];exact qy g) hg e1 b0 b1).ok
      (bg (body:=bM) (fun _ e=>by cases e) (soN 1 b) (fun i=>sM (soN 1 b) (soF 1 b) (jH A B I J n M f r 1 g) (bZ A B I J f g) (gsm g (soF 1 b) 0 i) (gY g (soF 1 b) (bZ A B I J f g) i) (gV (soF 1 b) (bZ A B I J f g) i) (dS (soF 1 b) (bZ A B I J f g) i) i) (fun i hi=>by
       obtain ⟨a1,a2,a3,a4⟩:=hr i hi
       obtain ⟨⟨p1,p2⟩,p3,p4⟩:=hs2 i (by omega)
       obtain ⟨y1,y2⟩:=uY a2 a4
       have en:gsm g (soF 1 b) 0 (i+1)=gsm g (soF 1 b) 0 i+g (Int.toNat ((soF 1 b) i 0)) 0:=rfl
       have eo:gY g (soF 1 b) (bZ A B I J f g) (i+1)=gY g (soF 1 b) (bZ A B I J f g) i+Int.tdiv (g (Int.toNat ((soF 1 b) i 0)) 0*(bZ A B I J f g) (Int.toNat ((soF 1 b) i 0)) 0) 100:=rfl
       have el:gV (soF 1 b) (bZ A B I J f g) (i+1)=min (gV (soF 1 b) (bZ A B I J f g) i) ((bZ A B I J f g) (Int.toNat ((soF 1 b) i 0)) 0):=rfl
       have eh:dS (soF 1 b) (bZ A B I J f g) (i+1)=max (dS (soF 1 b) (bZ A B I J f g) i) ((bZ A B I J f g) (Int.toNat ((soF 1 b) i 0)) 0):=rfl
       rw [en,eo,el,eh]
       rcases (show soF 1 b i 0=0 by omega) with hc
       ·have ec:g (Int.toNat ((soF 1 b) i 0)) 0=E 0 0:=by rw [hc];exact (hg5 0 (by omega)).1
        rw [ec] at a2 y1 y2 ⊢
        exact aF aj ak (abO A B I J n M f r E _ _ (soN 1 b) (soF 1 b) _ (bZ A B I J f g) _ _ _ _ i hi km e1 hc a2 a3 a4 y1 y2 (by omega) (by omega)).ok (by kernel_rfl) (by kernel_rfl)
      ) (aF aj ak (xm A B I J n M f r 1 E _ _ _ (soN 1 b) (soF 1 b) _ (bZ A B I J f g) _ _ _ _ (soN 1 b) (by omega)).ok (by kernel_rfl) (by kernel_rfl)))
      (OQ A B I J n M f r g 1 E _ _ _ (soN 1 b) (soF 1 b) _ _ _ _ v1 v2 v3 km (by omega) xb w1 w2 (by rw [Int.tdiv_eq_ediv_of_nonneg (by omega)];omega) (by omega)).ok
    ·obtain ⟨g,eg⟩:∃ g,(gotRow [E 0 0,E 0 1,E 0 1,E 0 3,E 0 3,E 1 0,E 1 1,E 1 1,E 1 3,E 1 3] 5)=g:=⟨_,rfl⟩
     have hg5:∀ i,i<2→g i 0=E i 0∧g i 1=E i 1∧g i 2=E i 1∧g i 3=E i 3∧g i 4=E i 3:=fun i hi=>by
      subst eg
      rcases (show i=0∨i=1 by omega) with rfl | rfl<;>exact ⟨rfl,rfl,rfl,rfl,rfl⟩
     obtain ⟨hg,hp⟩:=mr A B I J n M f r 2 E hc hg5
     obtain ⟨b0,b1,hr,hs2,⟨v1,v2,v3,xb⟩⟩:=vC A B I J n M f r g 2 (soN 2 b) (soF 2 b) hg hp hb km
     have e1:jH A B I J n M f r 2 g=2:=by unfold jH;rw [hg];rfl
     obtain ⟨⟨s1,s2⟩,s3,s4⟩:=hs2 (soN 2 b) (Nat.le_refl _)
     obtain ⟨w1,w2⟩:=uX (a:=gsm g (soF 2 b) 0 (soN 2 b)) (b:=bdL A B I J n M f r 2 g (soN 2 b) (soF 2 b) 0) ⟨s1,by omega⟩ xb
     exact bn aj (yj g) (das:=[.st [.sl 1 A B,.sl 1 I J,.rr 1 n M f,.i .i64 r,.sl 5 2 E],.one (.i .u8 b)]) (lv:=xM (soN 2 b) (soF 2 b) (gsm g (soF 2 b) 0 (soN 2 b)) (gY g (soF 2 b) (bZ A B I J f g) (soN 2 b)) (gV (soF 2 b) (bZ A B I J f g) (soN 2 b)) (dS (soF 2 b) (bZ A B I J f g) (soN 2 b))) (by kernel_rfl) (by kernel_rfl) (em2 A B I J n M f r E g b hth hs hc c1 hd km (by rw [eg];exact qy g) hg e1 b0 b1).ok
      (bg (body:=bM) (fun _ e=>by cases e) (soN 2 b) (fun i=>sM (soN 2 b) (soF 2 b) (jH A B I J n M f r 2 g) (bZ A B I J f g) (gsm g (soF 2 b) 0 i) (gY g (soF 2 b) (bZ A B I J f g) i) (gV (soF 2 b) (bZ A B I J f g) i) (dS (soF 2 b) (bZ A B I J f g) i) i) (fun i hi=>by
       obtain ⟨a1,a2,a3,a4⟩:=hr i hi
       obtain ⟨⟨p1,p2⟩,p3,p4⟩:=hs2 i (by omega)
       obtain ⟨y1,y2⟩:=uY a2 a4
       have en:gsm g (soF 2 b) 0 (i+1)=gsm g (soF 2 b) 0 i+g (Int.toNat ((soF 2 b) i 0)) 0:=rfl
       have eo:gY g (soF 2 b) (bZ A B I J f g) (i+1)=gY g (soF 2 b) (bZ A B I J f g) i+Int.tdiv (g (Int.toNat ((soF 2 b) i 0)) 0*(bZ A B I J f g) (Int.toNat ((soF 2 b) i 0)) 0) 100:=rfl
       have el:gV (soF 2 b) (bZ A B I J f g) (i+1)=min (gV (soF 2 b) (bZ A B I J f g) i) ((bZ A B I J f g) (Int.toNat ((soF 2 b) i 0)) 0):=rfl
       have eh:dS (soF 2 b) (bZ A B I J f g) (i+1)=max (dS (soF 2 b) (bZ A B I J f g) i) ((bZ A B I J f g) (Int.toNat ((soF 2 b) i 0)) 0):=rfl
       rw [en,eo,el,eh]
       rcases (show soF 2 b i 0=0∨soF 2 b i 0=1 by omega) with hc | hc
       ·have ec:g (Int.toNat ((soF 2 b) i 0)) 0=E 0 0:=by rw [hc];exact (hg5 0 (by omega)).1
        rw [ec] at a2 y1 y2 ⊢
        exact aF aj ak (abT A B I J n M f r E _ _ (soN 2 b) (soF 2 b) _ (bZ A B I J f g) _ _ _ _ i hi km e1 hc a2 a3 a4 y1 y2 (by omega) (by omega)).ok (by kernel_rfl) (by kernel_rfl)
       ·have ec:g (Int.toNat ((soF 2 b) i 0)) 0=E 1 0:=by rw [hc];exact (hg5 1 (by omega)).1
        rw [ec] at a2 y1 y2 ⊢
        exact aF aj ak (acg A B I J n M f r E _ _ (soN 2 b) (soF 2 b) _ (bZ A B I J f g) _ _ _ _ i hi km e1 hc a2 a3 a4 y1 y2 (by omega) (by omega)).ok (by kernel_rfl) (by kernel_rfl)
      ) (aF aj ak (xm A B I J n M f r 2 E _ _ _ (soN 2 b) (soF 2 b) _ (bZ A B I J f g) _ _ _ _ (soN 2 b) (by omega)).ok (by kernel_rfl) (by kernel_rfl)))
      (OQ A B I J n M f r g 2 E _ _ _ (soN 2 b) (soF 2 b) _ _ _ _ v1 v2 v3 km (by omega) xb w1 w2 (by rw [Int.tdiv_eq_ediv_of_nonneg (by omega)];omega) (by omega)).ok
    ·obtain ⟨g,eg⟩:∃ g,(gotRow [E 0 0,E 0 1,E 0 1,E 0 3,E 0 3,E 1 0,E 1 1,E 1 1,E 1 3,E 1 3,E 2 0,E 2 1,E 2 1,E 2 3,E 2 3] 5)=g:=⟨_,rfl⟩
     have hg5:∀ i,i<3→g i 0=E i 0∧g i 1=E i 1∧g i 2=E i 1∧g i 3=E i 3∧g i 4=E i 3:=fun i hi=>by
      subst eg
      rcases (show i=0∨i=1∨i=2 by omega) with rfl | rfl | rfl<;>exact ⟨rfl,rfl,rfl,rfl,rfl⟩
     obtain ⟨hg,hp⟩:=mr A B I J n M f r 3 E hc hg5
     obtain ⟨b0,b1,hr,hs2,⟨v1,v2,v3,xb⟩⟩:=vC A B I J n M f r g 3 (soN 3 b) (soF 3 b) hg hp hb km
     have e1:jH A B I J n M f r 3 g=3:=by unfold jH;rw [hg];rfl
     obtain ⟨⟨s1,s2⟩,s3,s4⟩:=hs2 (soN 3 b) (Nat.le_refl _)
     obtain ⟨w1,w2⟩:=uX (a:=gsm g (soF 3 b) 0 (soN 3 b)) (b:=bdL A B I J n M f r 3 g (soN 3 b) (soF 3 b) 0) ⟨s1,by omega⟩ xb
     exact bn aj (yj g) (das:=[.st [.sl 1 A B,.sl 1 I J,.rr 1 n M f,.i .i64 r,.sl 5 3 E],.one (.i .u8 b)]) (lv:=xM (soN 3 b) (soF 3 b) (gsm g (soF 3 b) 0 (soN 3 b)) (gY g (soF 3 b) (bZ A B I J f g) (soN 3 b)) (gV (soF 3 b) (bZ A B I J f g) (soN 3 b)) (dS (soF 3 b) (bZ A B I J f g) (soN 3 b))) (by kernel_rfl) (by kernel_rfl) (em3 A B I J n M f r E g b hth hs hc c1 hd km (by rw [eg];exact qy g) hg e1 b0 b1).ok
      (bg (body:=bM) (fun _ e=>by cases e) (soN 3 b) (fun i=>sM (soN 3 b) (soF 3 b) (jH A B I J n M f r 3 g) (bZ A B I J f g) (gsm g (soF 3 b) 0 i) (gY g (soF 3 b) (bZ A B I J f g) i) (gV (soF 3 b) (bZ A B I J f g) i) (dS (soF 3 b) (bZ A B I J f g) i) i) (fun i hi=>by
       obtain ⟨a1,a2,a3,a4⟩:=hr i hi
       obtain ⟨⟨p1,p2⟩,p3,p4⟩:=hs2 i (by omega)
       obtain ⟨y1,y2⟩:=uY a2 a4
       have en:gsm g (soF 3 b) 0 (i+1)=gsm g (soF 3 b) 0 i+g (Int.toNat ((soF 3 b) i 0)) 0:=rfl
       have eo:gY g (soF 3 b) (bZ A B I J f g) (i+1)=gY g (soF 3 b) (bZ A B I J f g) i+Int.tdiv (g (Int.toNat ((soF 3 b) i 0)) 0*(bZ A B I J f g) (Int.toNat ((soF 3 b) i 0)) 0) 100:=rfl
       have el:gV (soF 3 b) (bZ A B I J f g) (i+1)=min (gV (soF 3 b) (bZ A B I J f g) i) ((bZ A B I J f g) (Int.toNat ((soF 3 b) i 0)) 0):=rfl
       have eh:dS (soF 3 b) (bZ A B I J f g) (i+1)=max (dS (soF 3 b) (bZ A B I J f g) i) ((bZ A B I J f g) (Int.toNat ((soF 3 b) i 0)) 0):=rfl
       rw [en,eo,el,eh]
       rcases (show soF 3 b i 0=0∨soF 3 b i 0=1∨soF 3 b i 0=2 by omega) with hc | hc | hc
       ·have ec:g (Int.toNat ((soF 3 b) i 0)) 0=E 0 0:=by rw [hc];exact (hg5 0 (by omega)).1
        rw [ec] at a2 y1 y2 ⊢
        exact aF aj ak (acC A B I J n M f r E _ _ (soN 3 b) (soF 3 b) _ (bZ A B I J f g) _ _ _ _ i hi km e1 hc a2 a3 a4 y1 y2 (by omega) (by omega)).ok (by kernel_rfl) (by kernel_rfl)
       ·have ec:g (Int.toNat ((soF 3 b) i 0)) 0=E 1 0:=by rw [hc];exact (hg5 1 (by omega)).1
        rw [ec] at a2 y1 y2 ⊢
        exact aF aj ak (abB A B I J n M f r E _ _ (soN 3 b) (soF 3 b) _ (bZ A B I J f g) _ _ _ _ i hi km e1 hc a2 a3 a4 y1 y2 (by omega) (by omega)).ok (by kernel_rfl) (by kernel_rfl)
       ·have ec:g (Int.toNat ((soF 3 b) i 0)) 0=E 2 0:=by rw [hc];exact (hg5 2 (by omega)).1
        rw [ec] at a2 y1 y2 ⊢
        exact aF aj ak (acr A B I J n M f r E _ _ (soN 3 b) (soF 3 b) _ (bZ A B I J f g) _ _ _ _ i hi km e1 hc a2 a3 a4 y1 y2 (by omega) (by omega)).ok (by kernel_rfl) (by kernel_rfl)
      ) (aF aj ak (xm A B I J n M f r 3 E _ _ _ (soN 3 b) (soF 3 b) _ (bZ A B I J f g) _ _ _ _ (soN 3 b) (by omega)).ok (by kernel_rfl) (by kernel_rfl)))
      (OQ A B I J n M f r g 3 E _ _ _ (soN 3 b) (soF 3 b) _ _ _ _ v1 v2 v3 km (by omega) xb w1 w2 (by rw [Int.tdiv_eq_ediv_of_nonneg (by omega)];omega) (by omega)).ok
    ·obtain ⟨g,eg⟩:∃ g,(gotRow [E 0 0,E 0 1,E 0 1,E 0 3,E 0 3,E 1 0,E 1 1,E 1 1,E 1 3,E 1 3,E 2 0,E 2 1,E 2 1,E 2 3,E 2 3,E 3 0,E 3 1,E 3 1,E 3 3,E 3 3] 5)=g:=⟨_,rfl⟩
     have hg5:∀ i,i<4→g i 0=E i 0∧g i 1=E i 1∧g i 2=E i 1∧g i 3=E i 3∧g i 4=E i 3:=fun i hi=>by
      subst eg
      rcases (show i=0∨i=1∨i=2∨i=3 by omega) with rfl | rfl | rfl | rfl<;>exact ⟨rfl,rfl,rfl,rfl,rfl⟩
     obtain ⟨hg,hp⟩:=mr A B I J n M f r 4 E hc hg5
     obtain ⟨b0,b1,hr,hs2,⟨v1,v2,v3,xb⟩⟩:=vC A B I J n M f r g 4 (soN 4 b) (soF 4 b) hg hp hb km
     have e1:jH A B I J n M f r 4 g=4:=by unfold jH;rw [hg];rfl
     obtain ⟨⟨s1,s2⟩,s3,s4⟩:=hs2 (soN 4 b) (Nat.le_refl _)
     obtain ⟨w1,w2⟩:=uX (a:=gsm g (soF 4 b) 0 (soN 4 b)) (b:=bdL A B I J n M f r 4 g (soN 4 b) (soF 4 b) 0) ⟨s1,by omega⟩ xb
     exact bn aj (yj g) (das:=[.st [.sl 1 A B,.sl 1 I J,.rr 1 n M f,.i .i64 r,.sl 5 4 E],.one (.i .u8 b)]) (lv:=xM (soN 4 b) (soF 4 b) (gsm g (soF 4 b) 0 (soN 4 b)) (gY g (soF 4 b) (bZ A B I J f g) (soN 4 b)) (gV (soF 4 b) (bZ A B I J f g) (soN 4 b)) (dS (soF 4 b) (bZ A B I J f g) (soN 4 b))) (by kernel_rfl) (by kernel_rfl) (em4 A B I J n M f r E g b hth hs hc c1 hd km (by rw [eg];exact qy g) hg e1 b0 b1).ok
      (bg (body:=bM) (fun _ e=>by cases e) (soN 4 b) (fun i=>sM (soN 4 b) (soF 4 b) (jH A B I J n M f r 4 g) (bZ A B I J f g) (gsm g (soF 4 b) 0 i) (gY g (soF 4 b) (bZ A B I J f g) i) (gV (soF 4 b) (bZ A B I J f g) i) (dS (soF 4 b) (bZ A B I J f g) i) i) (fun i hi=>by
       obtain ⟨a1,a2,a3,a4⟩:=hr i hi
       obtain ⟨⟨p1,p2⟩,p3,p4⟩:=hs2 i (by omega)
       obtain ⟨y1,y2⟩:=uY a2 a4
       have en:gsm g (soF 4 b) 0 (i+1)=gsm g (soF 4 b) 0 i+g (Int.toNat ((soF 4 b) i 0)) 0:=rfl
       have eo:gY g (soF 4 b) (bZ A B I J f g) (i+1)=gY g (soF 4 b) (bZ A B I J f g) i+Int.tdiv (g (Int.toNat ((soF 4 b) i 0)) 0*(bZ A B I J f g) (Int.toNat ((soF 4 b) i 0)) 0) 100:=rfl
       have el:gV (soF 4 b) (bZ A B I J f g) (i+1)=min (gV (soF 4 b) (bZ A B I J f g) i) ((bZ A B I J f g) (Int.toNat ((soF 4 b) i 0)) 0):=rfl
       have eh:dS (soF 4 b) (bZ A B I J f g) (i+1)=max (dS (soF 4 b) (bZ A B I J f g) i) ((bZ A B I J f g) (Int.toNat ((soF 4 b) i 0)) 0):=rfl
       rw [en,eo,el,eh]
       rcases (show soF 4 b i 0=0∨soF 4 b i 0=1∨soF 4 b i 0=2∨soF 4 b i 0=3 by omega) with hc | hc | hc | hc
       ·have ec:g (Int.toNat ((soF 4 b) i 0)) 0=E 0 0:=by rw [hc];exact (hg5 0 (by omega)).1
        rw [ec] at a2 y1 y2 ⊢
        exact aF aj ak (aaA A B I J n M f r E _ _ (soN 4 b) (soF 4 b) _ (bZ A B I J f g) _ _ _ _ i hi km e1 hc a2 a3 a4 y1 y2 (by omega) (by omega)).ok (by kernel_rfl) (by kernel_rfl)
       ·have ec:g (Int.toNat ((soF 4 b) i 0)) 0=E 1 0:=by rw [hc];exact (hg5 1 (by omega)).1
        rw [ec] at a2 y1 y2 ⊢
        exact aF aj ak (aaK A B I J n M f r E _ _ (soN 4 b) (soF 4 b) _ (bZ A B I J f g) _ _ _ _ i hi km e1 hc a2 a3 a4 y1 y2 (by omega) (by omega)).ok (by kernel_rfl) (by kernel_rfl)
       ·have ec:g (Int.toNat ((soF 4 b) i 0)) 0=E 2 0:=by rw [hc];exact (hg5 2 (by omega)).1
        rw [ec] at a2 y1 y2 ⊢
        exact aF aj ak (aa' A B I J n M f r E _ _ (soN 4 b) (soF 4 b) _ (bZ A B I J f g) _ _ _ _ i hi km e1 hc a2 a3 a4 y1 y2 (by omega) (by omega)).ok (by kernel_rfl) (by kernel_rfl)
       ·have ec:g (Int.toNat ((soF 4 b) i 0)) 0=E 3 0:=by rw [hc];exact (hg5 3 (by omega)).1
        rw [ec] at a2 y1 y2 ⊢
        exact aF aj ak (aa4 A B I J n M f r E _ _ (soN 4 b) (soF 4 b) _ (bZ A B I J f g) _ _ _ _ i hi km e1 hc a2 a3 a4 y1 y2 (by omega) (by omega)).ok (by kernel_rfl) (by kernel_rfl)
      ) (aF aj ak (xm A B I J n M f r 4 E _ _ _ (soN 4 b) (soF 4 b) _ (bZ A B I J f g) _ _ _ _ (soN 4 b) (by omega)).ok (by kernel_rfl) (by kernel_rfl)))
      (OQ A B I J n M f r g 4 E _ _ _ (soN 4 b) (soF 4 b) _ _ _ _ v1 v2 v3 km (by omega) xb w1 w2 (by rw [Int.tdiv_eq_ediv_of_nonneg (by omega)];omega) (by omega)).ok
    ·obtain ⟨g,eg⟩:∃ g,(gotRow [E 0 0,E 0 1,E 0 1,E 0 3,E 0 3,E 1 0,E 1 1,E 1 1,E 1 3,E 1 3,E 2 0,E 2 1,E 2 1,E 2 3,E 2 3,E 3 0,E 3 1,E 3 1,E 3 3,E 3 3,E 4 0,E 4 1,E 4 1,E 4 3,E 4 3] 5)=g:=⟨_,rfl⟩
     have hg5:∀ i,i<5→g i 0=E i 0∧g i 1=E i 1∧g i 2=E i 1∧g i 3=E i 3∧g i 4=E i 3:=fun i hi=>by
      subst eg
      rcases (show i=0∨i=1∨i=2∨i=3∨i=4 by omega) with rfl | rfl | rfl | rfl | rfl<;>exact ⟨rfl,rfl,rfl,rfl,rfl⟩
     obtain ⟨hg,hp⟩:=mr A B I J n M f r 5 E hc hg5
     obtain ⟨b0,b1,hr,hs2,⟨v1,v2,v3,xb⟩⟩:=vC A B I J n M f r g 5 (soN 5 b) (soF 5 b) hg hp hb km
     have e1:jH A B I J n M f r 5 g=5:=by unfold jH;rw [hg];rfl
     obtain ⟨⟨s1,s2⟩,s3,s4⟩:=hs2 (soN 5 b) (Nat.le_refl _)
     obtain ⟨w1,w2⟩:=uX (a:=gsm g (soF 5 b) 0 (soN 5 b)) (b:=bdL A B I J n M f r 5 g (soN 5 b) (soF 5 b) 0) ⟨s1,by omega⟩ xb
     exact bn aj (yj g) (das:=[.st [.sl 1 A B,.sl 1 I J,.rr 1 n M f,.i .i64 r,.sl 5 5 E],.one (.i .u8 b)]) (lv:=xM (soN 5 b) (soF 5 b) (gsm g (soF 5 b) 0 (soN 5 b)) (gY g (soF 5 b) (bZ A B I J f g) (soN 5 b)) (gV (soF 5 b) (bZ A B I J f g) (soN 5 b)) (dS (soF 5 b) (bZ A B I J f g) (soN 5 b))) (by kernel_rfl) (by kernel_rfl) (em5 A B I J n M f r E g b hth hs hc c1 hd km (by rw [eg];exact qy g) hg e1 b0 b1).ok
      (bg (body:=bM) (fun _ e=>by cases e) (soN 5 b) (fun i=>sM (soN 5 b) (soF 5 b) (jH A B I J n M f r 5 g) (bZ A B I J f g) (gsm g (soF 5 b) 0 i) (gY g (soF 5 b) (bZ A B I J f g) i) (gV (soF 5 b) (bZ A B I J f g) i) (dS (soF 5 b) (bZ A B I J f g) i) i) (fun i hi=>by
       obtain ⟨a1,a2,a3,a4⟩:=hr i hi
       obtain ⟨⟨p1,p2⟩,p3,p4⟩:=hs2 i (by omega)
       obtain ⟨y1,y2⟩:=uY a2 a4
       have en:gsm g (soF 5 b) 0 (i+1)=gsm g (soF 5 b) 0 i+g (Int.toNat ((soF 5 b) i 0)) 0:=rfl
       have eo:gY g (soF 5 b) (bZ A B I J f g) (i+1)=gY g (soF 5 b) (bZ A B I J f g) i+Int.tdiv (g (Int.toNat ((soF 5 b) i 0)) 0*(bZ A B I J f g) (Int.toNat ((soF 5 b) i 0)) 0) 100:=rfl
       have el:gV (soF 5 b) (bZ A B I J f g) (i+1)=min (gV (soF 5 b) (bZ A B I J f g) i) ((bZ A B I J f g) (Int.toNat ((soF 5 b) i 0)) 0):=rfl
       have eh:dS (soF 5 b) (bZ A B I J f g) (i+1)=max (dS (soF 5 b) (bZ A B I J f g) i) ((bZ A B I J f g) (Int.toNat ((soF 5 b) i 0)) 0):=rfl
       rw [en,eo,el,eh]
       rcases (show soF 5 b i 0=0∨soF 5 b i 0=1∨soF 5 b i 0=2∨soF 5 b i 0=3∨soF 5 b i 0=4 by omega) with hc | hc | hc | hc | hc
       ·have ec:g (Int.toNat ((soF 5 b) i 0)) 0=E 0 0:=by rw [hc];exact (hg5 0 (by omega)).1
        rw [ec] at a2 y1 y2 ⊢
        exact aF aj ak (abe A B I J n M f r E _ _ (soN 5 b) (soF 5 b) _ (bZ A B I J f g) _ _ _ _ i hi km e1 hc a2 a3 a4 y1 y2 (by omega) (by omega)).ok (by kernel_rfl) (by kernel_rfl)
       ·have ec:g (Int.toNat ((soF 5 b) i 0)) 0=E 1 0:=by rw [hc];exact (hg5 1 (by omega)).1
        rw [ec] at a2 y1 y2 ⊢
        exact aF aj ak (aaU A B I J n M f r E _ _ (soN 5 b) (soF 5 b) _ (bZ A B I J f g) _ _ _ _ i hi km e1 hc a2 a3 a4 y1 y2 (by omega) (by omega)).ok (by kernel_rfl) (by kernel_rfl)
       ·have ec:g (Int.toNat ((soF 5 b) i 0)) 0=E 2 0:=by rw [hc];exact (hg5 2 (by omega)).1
        rw [ec] at a2 y1 y2 ⊢
        exact aF aj ak (abd A B I J n M f r E _ _ (soN 5 b) (soF 5 b) _ (bZ A B I J f g) _ _ _ _ i hi km e1 hc a2 a3 a4 y1 y2 (by omega) (by omega)).ok (by kernel_rfl) (by kernel_rfl)
       ·have ec:g (Int.toNat ((soF 5 b) i 0)) 0=E 3 0:=by rw [hc];exact (hg5 3 (by omega)).1
        rw [ec] at a2 y1 y2 ⊢
        exact aF aj ak (aaX A B I J n M f r E _ _ (soN 5 b) (soF 5 b) _ (bZ A B I J f g) _ _ _ _ i hi km e1 hc a2 a3 a4 y1 y2 (by omega) (by omega)).ok (by kernel_rfl) (by kernel_rfl)
       ·have ec:g (Int.toNat ((soF 5 b) i 0)) 0=E 4 0:=by rw [hc];exact (hg5 4 (by omega)).1
        rw [ec] at a2 y1 y2 ⊢
        exact aF aj ak (aaz A B I J n M f r E _ _ (soN 5 b) (soF 5 b) _ (bZ A B I J f g) _ _ _ _ i hi km e1 hc a2 a3 a4 y1 y2 (by omega) (by omega)).ok (by kernel_rfl) (by kernel_rfl)
      ) (aF aj ak (xm A B I J n M f r 5 E _ _ _ (soN 5 b) (soF 5 b) _ (bZ A B I J f g) _ _ _ _ (soN 5 b) (by omega)).ok (by kernel_rfl) (by kernel_rfl)))
      (OQ A B I J n M f r g 5 E _ _ _ (soN 5 b) (soF 5 b) _ _ _ _ v1 v2 v3 km (by omega) xb w1 w2 (by rw [Int.tdiv_eq_ediv_of_nonneg (by omega)];omega) (by omega)).ok
    ·obtain ⟨g,eg⟩:∃ g,(gotRow [E 0 0,E 0 1,E 0 1,E 0 3,E 0 3,E 1 0,E 1 1,E 1 1,E 1 3,E 1 3,E 2 0,E 2 1,E 2 1,E 2 3,E 2 3,E 3 0,E 3 1,E 3 1,E 3 3,E 3 3,E 4 0,E 4 1,E 4 1,E 4 3,E 4 3,E 5 0,E 5 1,E 5 1,E 5 3,E 5 3] 5)=g:=⟨_,rfl⟩
     have hg5:∀ i,i<6→g i 0=E i 0∧g i 1=E i 1∧g i 2=E i 1∧g i 3=E i 3∧g i 4=E i 3:=fun i hi=>by
      subst eg
      rcases (show i=0∨i=1∨i=2∨i=3∨i=4∨i=5 by omega) with rfl | rfl | rfl | rfl | rfl | rfl<;>exact ⟨rfl,rfl,rfl,rfl,rfl⟩
     obtain ⟨hg,hp⟩:=mr A B I J n M f r 6 E hc hg5
     obtain ⟨b0,b1,hr,hs2,⟨v1,v2,v3,xb⟩⟩:=vC A B I J n M f r g 6 (soN 6 b) (soF 6 b) hg hp hb km
     have e1:jH A B I J n M f r 6 g=6:=by unfold jH;rw [hg];rfl
     obtain ⟨⟨s1,s2⟩,s3,s4⟩:=hs2 (soN 6 b) (Nat.le_refl _)
     obtain ⟨w1,w2⟩:=uX (a:=gsm g (soF 6 b) 0 (soN 6 b)) (b:=bdL A B I J n M f r 6 g (soN 6 b) (soF 6 b) 0) ⟨s1,by omega⟩ xb
     exact bn aj (yj g) (das:=[.st [.sl 1 A B,.sl 1 I J,.rr 1 n M f,.i .i64 r,.sl 5 6 E],.one (.i .u8 b)]) (lv:=xM (soN 6 b) (soF 6 b) (gsm g (soF 6 b) 0 (soN 6 b)) (gY g (soF 6 b) (bZ A B I J f g) (soN 6 b)) (gV (soF 6 b) (bZ A B I J f g) (soN 6 b)) (dS (soF 6 b) (bZ A B I J f g) (soN 6 b))) (by kernel_rfl) (by kernel_rfl) (em6 A B I J n M f r E g b hth hs hc c1 hd km (by rw [eg];exact qy g) hg e1 b0 b1).ok
      (bg (body:=bM) (fun _ e=>by cases e) (soN 6 b) (fun i=>sM (soN 6 b) (soF 6 b) (jH A B I J n M f r 6 g) (bZ A B I J f g) (gsm g (soF 6 b) 0 i) (gY g (soF 6 b) (bZ A B I J f g) i) (gV (soF 6 b) (bZ A B I J f g) i) (dS (soF 6 b) (bZ A B I J f g) i) i) (fun i hi=>by
       obtain ⟨a1,a2,a3,a4⟩:=hr i hi
       obtain ⟨⟨p1,p2⟩,p3,p4⟩:=hs2 i (by omega)
       obtain ⟨y1,y2⟩:=uY a2 a4
       have en:gsm g (soF 6 b) 0 (i+1)=gsm g (soF 6 b) 0 i+g (Int.toNat ((soF 6 b) i 0)) 0:=rfl
       have eo:gY g (soF 6 b) (bZ A B I J f g) (i+1)=gY g (soF 6 b) (bZ A B I J f g) i+Int.tdiv (g (Int.toNat ((soF 6 b) i 0)) 0*(bZ A B I J f g) (Int.toNat ((soF 6 b) i 0)) 0) 100:=rfl
       have el:gV (soF 6 b) (bZ A B I J f g) (i+1)=min (gV (soF 6 b) (bZ A B I J f g) i) ((bZ A B I J f g) (Int.toNat ((soF 6 b) i 0)) 0):=rfl
       have eh:dS (soF 6 b) (bZ A B I J f g) (i+1)=max (dS (soF 6 b) (bZ A B I J f g) i) ((bZ A B I J f g) (Int.toNat ((soF 6 b) i 0)) 0):=rfl
       rw [en,eo,el,eh]
       rcases (show soF 6 b i 0=0∨soF 6 b i 0=1∨soF 6 b i 0=2∨soF 6 b i 0=3∨soF 6 b i 0=4∨soF 6 b i 0=5 by omega) with hc | hc | hc | hc | hc | hc
       ·have ec:g (Int.toNat ((soF 6 b) i 0)) 0=E 0 0:=by rw [hc];exact (hg5 0 (by omega)).1
        rw [ec] at a2 y1 y2 ⊢
        exact aF aj ak (abx A B I J n M f r E _ _ (soN 6 b) (soF 6 b) _ (bZ A B I J f g) _ _ _ _ i hi km e1 hc a2 a3 a4 y1 y2 (by omega) (by omega)).ok (by kernel_rfl) (by kernel_rfl)
       ·have ec:g (Int.toNat ((soF 6 b) i 0)) 0=E 1 0:=by rw [hc];exact (hg5 1 (by omega)).1
        rw [ec] at a2 y1 y2 ⊢
        exact aF aj ak (ab5 A B I J n M f r E _ _ (soN 6 b) (soF 6 b) _ (bZ A B I J f g) _ _ _ _ i hi km e1 hc a2 a3 a4 y1 y2 (by omega) (by omega)).ok (by kernel_rfl) (by kernel_rfl)
       ·have ec:g (Int.toNat ((soF 6 b) i 0)) 0=E 2 0:=by rw [hc];exact (hg5 2 (by omega)).1
        rw [ec] at a2 y1 y2 ⊢
        exact aF aj ak (abJ A B I J n M f r E _ _ (soN 6 b) (soF 6 b) _ (bZ A B I J f g) _ _ _ _ i hi km e1 hc a2 a3 a4 y1 y2 (by omega) (by omega)).ok (by kernel_rfl) (by kernel_rfl)
       ·have ec:g (Int.toNat ((soF 6 b) i 0)) 0=E 3 0:=by rw [hc];exact (hg5 3 (by omega)).1
        rw [ec] at a2 y1 y2 ⊢
        exact aF aj ak (aaP A B I J n M f r E _ _ (soN 6 b) (soF 6 b) _ (bZ A B I J f g) _ _ _ _ i hi km e1 hc a2 a3 a4 y1 y2 (by omega) (by omega)).ok (by kernel_rfl) (by kernel_rfl)
       ·have ec:g (Int.toNat ((soF 6 b) i 0)) 0=E 4 0:=by rw [hc];exact (hg5 4 (by omega)).1
        rw [ec] at a2 y1 y2 ⊢
        exact aF aj ak (aa5 A B I J n M f r E _ _ (soN 6 b) (soF 6 b) _ (bZ A B I J f g) _ _ _ _ i hi km e1 hc a2 a3 a4 y1 y2 (by omega) (by omega)).ok (by kernel_rfl) (by kernel_rfl)
       ·have ec:g (Int.toNat ((soF 6 b) i 0)) 0=E 5 0:=by rw [hc];exact (hg5 5 (by omega)).1
        rw [ec] at a2 y1 y2 ⊢
        exact aF aj ak (acx A B I J n M f r E _ _ (soN 6 b) (soF 6 b) _ (bZ A B I J f g) _ _ _ _ i hi km e1 hc a2 a3 a4 y1 y2 (by omega) (by omega)).ok (by kernel_rfl) (by kernel_rfl)
      ) (aF aj ak (xm A B I J n M f r 6 E _ _ _ (soN 6 b) (soF 6 b) _ (bZ A B I J f g) _ _ _ _ (soN 6 b) (by omega)).ok (by kernel_rfl) (by kernel_rfl)))
      (OQ A B I J n M f r g 6 E _ _ _ (soN 6 b) (soF 6 b) _ _ _ _ v1 v2 v3 km (by omega) xb w1 w2 (by rw [Int.tdiv_eq_ediv_of_nonneg (by omega)];omega) (by omega)).ok
   ·exact fin (mx3 A B I J n M f r O E E b hth h9 hc)
  ·exact fin (mx2 A B I J n M f r O E E b hth h9)
 ·cases hv
end
theorem Jn {W:World} {H:Type} {enc:TypeId×Value→H} {base:Nat} {args:List Value} {ds:List (DataW H)} {p:List MemPlace} (hval:∀ (j:Nat) t v,Tryz.f4.params[j]?=some t→args[j]?=some v→Value.okWide Tryz.prog W .any base t v)
 (hA:DataW.TrodAll enc Tryz.prog W 0 (fun _=>true) true Tryz.f4.params.toList args ds p):Calls Tryz.prog 4 args.toArray W (fun e w'=>e = .returned (.bool true)∧Below W.heap.size W w'):=by
 rw [Tryz.params4] at hA hval
 obtain ⟨x0,a0,d0,_,_,_,rfl,rfl,rfl,u0,hA⟩:=trodAll_cons hA
 obtain ⟨x1,a1,d1,_,_,_,rfl,rfl,rfl,u1,hA⟩:=trodAll_cons hA
 obtain ⟨rfl,rfl,rfl⟩:=trodAll_nil hA
 obtain ⟨A,B,I,J,n,M,f,r,O,E,r0⟩:=NV u0
 obtain ⟨n1,r1,b1⟩:=V9 (P:=Tryz.prog) (k := .u8) (by kernel_rfl) (hval 1 _ x1 rfl rfl) u1
 have hcf:cf We [.agg 5 (T.setL .lf 0 [.fz true 0 (ae .i64 B) A 1,.fz true 0 (ae .i64 J) I 1,.fz true 0 (aC 0 1 M f) n 1,.int .i64 r,.fz true 0 (ae .i64 E) O 5]),.int .u8 n1] (aP 1)=some (true,.bool true):=by
  have q1:IntKind.u8.min=0:=by kernel_rfl
  have p1:IntKind.u8.max=255:=by kernel_rfl
  rw [q1,p1] at b1
  have hd:decide (0≤n1∧n1≤255)=true:=decide_eq_true (by omega)
  have e1:rF [.agg 5 (T.setL .lf 0 [.fz true 0 (ae .i64 B) A 1,.fz true 0 (ae .i64 J) I 1,.fz true 0 (aC 0 1 M f) n 1,.int .i64 r,.fz true 0 (ae .i64 E) O 5]),.int .u8 n1]=cond (cond (aV .i64 (ae .i64 B) A 1) (cond (aV .i64 (ae .i64 J) I 1) (cond (je 0 (aC 0 1 M f) n 1) (cond true (cond (aV .i64 (ae .i64 E) O 5) true false) false) false) false) false) (cond (true) (true) false) false:=by kernel_rfl
  have e2:cf We [.agg 5 (T.setL .lf 0 [.fz true 0 (ae .i64 B) A 1,.fz true 0 (ae .i64 J) I 1,.fz true 0 (aC 0 1 M f) n 1,.int .i64 r,.fz true 0 (ae .i64 E) O 5]),.int .u8 n1] (aP 1)=some (cond (rF [.agg 5 (T.setL .lf 0 [.fz true 0 (ae .i64 B) A 1,.fz true 0 (ae .i64 J) I 1,.fz true 0 (aC 0 1 M f) n 1,.int .i64 r,.fz true 0 (ae .i64 E) O 5]),.int .u8 n1]) (decide (0≤n1∧n1≤255)) false,.bool true):=by kernel_rfl
  rw [e2,e1]
  simp only [dG,eX,cond_true,hd]
 have hs:SpecCall Tryz.prog 4 [.agg 5 (T.setL .lf 0 [.fz true 0 (ae .i64 B) A 1,.fz true 0 (ae .i64 J) I 1,.fz true 0 (aC 0 1 M f) n 1,.int .i64 r,.fz true 0 (ae .i64 E) O 5]),.int .u8 n1] (aP 1) (.bool true) (bump (aP 1)):=dw abY _ _ _ hcf
 have hal:=MH r0 (MH r1 (show AL (oJ W) [] ([]:List Value).toArray from AL.nil _))
 exact (Uz hs hal).mono fun e w' ⟨x,R,h1,h2,h3⟩=>by cases h2;exact ⟨h1,h3⟩
theorem Ac (os:Os) (started:os.Started) (H:Type) (enc:TypeId×Value→H) :
 ReturnsInHanded {} Tryz.checked os 4 .any (Rows.proofMixedSpec.pre6 enc Tryz.prog Tryz.f4 Rows.proofMixedRow.domain false) (Rows.proofMixedSpec.post enc Tryz.prog Tryz.f4 false true false false):=by
 refine returnsInHanded_of_change (C:=Tryz.checked) own started (by kernel_rfl) Tryz.func4
  (ChangeSpec.witness6 (enc:=enc) (C:=Tryz.checked) false ⟨#[],#[.agg #[.slice none 0 0,.slice none 0 0,.slice none 0 0,.int .i64 0,.slice none 0 0],.int .u8 0],[]⟩ 8 (by kernel_rfl) (by kernel_rfl) (by kernel_rfl) (by kernel_rfl)) ?_
 intro W base args ds gs before hval0 hW hcnd _
 have hW':=hW
 obtain ⟨p,q,hA0,hV,rfl,hfz,hnd⟩:=hW
 have hval:∀ (j:Nat) t v,Tryz.f4.params[j]?=some t→args.toList[j]?=some v→Value.okWide Tryz.prog W .any base t v:=fun j t v h1 h2=>hval0 j t v h1 (by simpa using h2)
 have h:=Jn (args:=args.toList) hval hA0
 rw [show args.toList.toArray=args by simp] at h
 have hds:∃ da db,ds=[da,db]:=by
  rw [Tryz.params4] at hA0
  obtain ⟨x0,a0,d0,_,_,_,_,rfl,_,_,hA0⟩:=trodAll_cons hA0
  obtain ⟨x1,a1,d1,_,_,_,_,rfl,_,_,hA⟩:=trodAll_cons hA0
  obtain ⟨_,rfl,_⟩:=trodAll_nil hA
  exact ⟨_,_,rfl⟩
 obtain ⟨da,db,rfl⟩:=hds
 refine h.mono fun e W' ⟨he,hb⟩=>?_
 exact ⟨_,he,Law.law_post laidOut (tb:=4) (by kernel_rfl) Tryz.underlying4 (fun t ht=>by
  rw [Tryz.params4] at ht
  have ht:t∈[28,5]:=ht
  simp only [List.mem_cons,List.not_mem_nil,or_false] at ht
  rcases ht with rfl | rfl<;>exact ⟨by kernel_rfl,of_decide_eq_true (by kernel_rfl)⟩) rfl hW' rfl rfl rfl hb⟩
theorem proofMixed_holds:Rows.ProofMixedSaid :=
 OpenClaim.holds_of_wide 4 Tryz.f4 rfl rfl rfl rfl rfl rfl rfl ⟨rfl,rfl,rfl,rfl,rfl⟩ rfl rfl rfl rfl rfl (by kernel_rfl) Tryz.func4 (by kernel_rfl)
  (of_decide_eq_true (by kernel_rfl)) (by unfold Func.isWrapper;first | (rw [if_pos (by decide +kernel)];kernel_rfl) | (rw [if_neg (by decide +kernel)];exact ⟨rfl,rfl⟩))
  (fun os started H enc _=>Ac os started H enc)
end BL
theorem proofMixed_holds:Rows.ProofMixedSaid:=BL.proofMixed_holds
end Go.Proofs.YtiplgejpopellaaGreat
