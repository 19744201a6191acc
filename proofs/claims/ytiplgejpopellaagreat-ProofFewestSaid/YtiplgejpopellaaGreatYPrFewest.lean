/- ProofFewest: for every input the law returns true: the fewest casks whose blend is surely in a range are those that the reference finds by all lists, or the error is. No condition. -/
import Derived.Test.YtiplgejpopellaaGreatRows
import Derived.WalkKit
import Derived.Test.YtiplgejpopellaaGreatYPrF5
import Derived.Test.YtiplgejpopellaaGreatYPrArg
import Derived.Test.YtiplgejpopellaaGreatYEd
set_option linter.all false
set_option linter.unusedSimpArgs false
set_option linter.unusedVariables false
namespace Go.Proofs.YtiplgejpopellaaGreat
namespace BL
open Go Go.Ev Go.ChangeShapes Go.WideShapes Go.ChangeAt Go.RowKit
set_option maxRecDepth 1000000
noncomputable section
theorem XL {W:World} {H:Type} {enc:TypeId×Value→H} {sp:Nat→Bool} {x:Value} {d:DataW H} {ps:List MemPlace} (h:DataW.Trod enc Tryz.prog W 0 sp true 30 x d ps) :
 ∃ lo hi,VR (qC W) (.agg 2 (T.setL .lf 0 [.int .i64 lo,.int .i64 hi])) x:=by
 have ht:dI Tryz.prog 8 30=[3,3]:=by kernel_rfl
 obtain ⟨fs,hu⟩:∃ fs,Tryz.prog.underlying 30=some (.struct fs):=⟨_,Tryz.underlying30⟩
 obtain ⟨vs,h1,h2,h3⟩:=zl (P:=Tryz.prog) (t:=30) (n:=2) (by kernel_rfl) hu (by kernel_rfl) (by rw [ht];rfl) (by decide) h
 match vs,h1,h2,h3 with
 | [v0,v1],_,h2,h3 =>
  have i3:Tryz.prog.underlying 3=some (.int .i64):=Tryz.underlying3
  obtain ⟨lo,rfl,_⟩:=yR i3 (h3 0 (by simp) 3 (by rw [ht];rfl))
  obtain ⟨hi,rfl,_⟩:=yR i3 (h3 1 (by simp) 3 (by rw [ht];rfl))
  exact ⟨lo,hi,h2⟩
def WC:Val:=fun das=>match das with
 | [.st [.sl 1 A B,.sl 1 I J,.rr 1 n M f,.i .i64 r,.sl 5 O E],.st [.i .i64 a,.i .i64 b]]=>some (true,.bool true)
 | _=>none
theorem ac1:qi Tryz.prog 3 WC:=by
 intro das x hv
 unfold WC at hv
 split at hv
 ·rename_i A B I J n M f r O E a b
  have hv:=congrArg Prod.snd (Option.some.inj hv)
  subst hv
  have fin:∀ {h:HT},VC (dh Tryz.prog (XPf (qL A B I J n M f r O E) (qH A B I J n M f r O E)) 600 3 (enc [.st [.sl 1 A B,.sl 1 I J,.rr 1 n M f,.i .i64 r,.sl 5 O E],.st [.i .i64 a,.i .i64 b]] 0) 4 (fun v=>dB v (.bool true))) h→vZ (.bool true)=true∧∃ v' H',SpecCall Tryz.prog 3 (enc [.st [.sl 1 A B,.sl 1 I J,.rr 1 n M f,.i .i64 r,.sl 5 O E],.st [.i .i64 a,.i .i64 b]] 0) (aU 5) v' H'∧dB v' (.bool true):=fun hvc =>
   bn aj (YK (qL A B I J n M f r O E) (qH A B I J n M f r O E)) rfl (das:=[.st [.sl 1 A B,.sl 1 I J,.rr 1 n M f,.i .i64 r,.sl 5 O E],.st [.i .i64 a,.i .i64 b]]) hvc
  cases hth:iW A I n M with
  | false=>exact fin (qf1 A B I J n M f r O E (qL A B I J n M f r O E) (qH A B I J n M f r O E) a b hth)
  | true =>
  have hs:=ZZ hth
  by_cases h9:O≤9
  ·have no:∀ e:Int,uw A B I J n M f r O E (qL A B I J n M f r O E) (qH A B I J n M f r O E) a b=e→e≠0→fgN A B I J n M f r O E (qL A B I J n M f r O E) (qH A B I J n M f r O E) a b=0:=fun e q qn=>by
    unfold fgN;rw [q,(fD _ _).mpr qn];rfl
   by_cases hc:gW A B I J n M f r O E=0
   ·obtain ⟨c1,c2,c3⟩:=F6 A B I J n M f r O E hc
    have hq:fgK A B I J n M f r O E (qL A B I J n M f r O E) (qH A B I J n M f r O E)=true:=by
     unfold fgK
     rw [hc]
     by_cases h1:1≤O
     ·exact aca A B I J n M f r O E hc h1 c2
     ·have:O=0:=by omega
      subst this
      refine @decide_eq_true _ (Classical.propDecidable _) fun x x0 x1=>?_
      have x1:x<1:=x1
      omega
    by_cases hab:a≤b
    ·by_cases h0:O=0
     ·subst h0
      have e:uw A B I J n M f r 0 E (qL A B I J n M f r 0 E) (qH A B I J n M f r 0 E) a b=7:=by unfold uw;rw [hc,(aW _ _).mpr hab];rfl
      exact fin (qf5 A B I J n M f r 0 E (qL A B I J n M f r 0 E) (qH A B I J n M f r 0 E) a b hth hs h9 hq hc hab c1 c2 c3 rfl rfl e (no 7 e (by decide)))
     ·have h1:1≤O:=by omega
      have hx:=aby (E:=E) (t:=lG A B I J f E) (lo:=qL A B I J n M f r O E) (hi:=qH A B I J n M f r O E) (a:=a) (b:=b) h1 c2 (fun x x0 x1=>(Yl A B I J n M f r O E a b hc h1 x0 x1).1)
      have hO:rgO O E O (lG A B I J f E)=true:=aI (dV c2) (bW fun x hx=>by
       by_cases x0:x=0
       ·subst x0;rfl
       ·rw [(dX x 0).mpr x0];exact (Yl A B I J n M f r O E a b hc h1 (by omega) hx).2)
      have e:uw A B I J n M f r O E (qL A B I J n M f r O E) (qH A B I J n M f r O E) a b=dL O (qL A B I J n M f r O E) (qH A B I J n M f r O E) a b:=by unfold uw;rw [hc,(aW _ _).mpr hab,(dX _ _).mpr h0];rfl
      by_cases hf:uu O (qL A B I J n M f r O E) (qH A B I J n M f r O E) a b=0
      ·have e7:uw A B I J n M f r O E (qL A B I J n M f r O E) (qH A B I J n M f r O E) a b=7:=by rw [e];unfold dL;rw [hf];rfl
       exact fin (qf5 A B I J n M f r O E (qL A B I J n M f r O E) (qH A B I J n M f r O E) a b hth hs h9 hq hc hab c1 c2 c3 hO (by unfold qp;rw [hx,hf];rfl) e7 (no 7 e7 (by decide)))
      ·have e0:uw A B I J n M f r O E (qL A B I J n M f r O E) (qH A B I J n M f r O E) a b=0:=by rw [e];unfold dL;rw [(dX _ _).mpr hf];rfl
       have eN:fgN A B I J n M f r O E (qL A B I J n M f r O E) (qH A B I J n M f r O E) a b=aC (Int.ofNat (uu O (qL A B I J n M f r O E) (qH A B I J n M f r O E) a b)):=by unfold fgN;rw [e0];rfl
       have rN:rgN O E (lG A B I J f E) a b=aC (Int.ofNat (uu O (qL A B I J n M f r O E) (qH A B I J n M f r O E) a b)):=by unfold rgN;rw [hx,(dX _ _).mpr hf];rfl
       have rF:rgF O E (lG A B I J f E) a b=aH (Int.ofNat (uu O (qL A B I J n M f r O E) (qH A B I J n M f r O E) a b)):=by unfold rgF;rw [hx]
       exact fin (qf6 A B I J n M f r O E (qL A B I J n M f r O E) (qH A B I J n M f r O E) a b hth hs h9 hq hc hab c1 c2 c3 hO (by unfold qp;rw [hx,(dX _ _).mpr hf];rfl) e0 (by rw [eN];exact gm _) (by rw [rN];exact gm _) (by
        rw [eN,rN,rF]
        show smV _ (aH (Int.ofNat (uu O (qL A B I J n M f r O E) (qH A B I J n M f r O E) a b))) _ _=true
        unfold smV
        rw [(ig _ _).mpr rfl,RQ]
        rfl))
    ·have e:uw A B I J n M f r O E (qL A B I J n M f r O E) (qH A B I J n M f r O E) a b=2:=by unfold uw;rw [hc,(dY _ _).mpr (by omega)];rfl
     exact fin (qf4 A B I J n M f r O E (qL A B I J n M f r O E) (qH A B I J n M f r O E) a b hth hs h9 hq hc hab e (no 2 e (by decide)))
   ·have e:uw A B I J n M f r O E (qL A B I J n M f r O E) (qH A B I J n M f r O E) a b=gW A B I J n M f r O E:=by unfold uw;rw [(fD _ _).mpr hc];rfl
    exact fin (qf3 A B I J n M f r O E (qL A B I J n M f r O E) (qH A B I J n M f r O E) a b hth hs h9 (by unfold fgK;rw [(fD _ _).mpr hc];rfl) hc e (no _ e hc))
  ·exact fin (qf2 A B I J n M f r O E (qL A B I J n M f r O E) (qH A B I J n M f r O E) a b hth h9)
 ·cases hv
end
theorem Ju {W:World} {H:Type} {enc:TypeId×Value→H} {base:Nat} {args:List Value} {ds:List (DataW H)} {p:List MemPlace} (hval:∀ (j:Nat) t v,Tryz.f3.params[j]?=some t→args[j]?=some v→Value.okWide Tryz.prog W .any base t v)
 (hA:DataW.TrodAll enc Tryz.prog W 0 (fun _=>true) true Tryz.f3.params.toList args ds p):Calls Tryz.prog 3 args.toArray W (fun e w'=>e = .returned (.bool true)∧Below W.heap.size W w'):=by
 rw [Tryz.params3] at hA hval
 obtain ⟨x0,a0,d0,_,_,_,rfl,rfl,rfl,u0,hA⟩:=trodAll_cons hA
 obtain ⟨x1,a1,d1,_,_,_,rfl,rfl,rfl,u1,hA⟩:=trodAll_cons hA
 obtain ⟨rfl,rfl,rfl⟩:=trodAll_nil hA
 obtain ⟨A,B,I,J,n,M,f,r,O,E,r0⟩:=O8 u0
 obtain ⟨lo1,hi1,r1⟩:=XL u1
 have hcf:cf WC [.agg 5 (T.setL .lf 0 [.fz true 0 (ae .i64 B) A 1,.fz true 0 (ae .i64 J) I 1,.fz true 0 (aQ 0 1 M f) n 1,.int .i64 r,.fz true 0 (ae .i64 E) O 5]),.agg 2 (T.setL .lf 0 [.int .i64 lo1,.int .i64 hi1])] (aU 1)=some (true,.bool true):=by
  have e1:yA [.agg 5 (T.setL .lf 0 [.fz true 0 (ae .i64 B) A 1,.fz true 0 (ae .i64 J) I 1,.fz true 0 (aQ 0 1 M f) n 1,.int .i64 r,.fz true 0 (ae .i64 E) O 5]),.agg 2 (T.setL .lf 0 [.int .i64 lo1,.int .i64 hi1])]=cond (cond (ay .i64 (ae .i64 B) A 1) (cond (ay .i64 (ae .i64 J) I 1) (cond (fZ 0 (aQ 0 1 M f) n 1) (cond true (cond (ay .i64 (ae .i64 E) O 5) true false) false) false) false) false) (cond (true) (true) false) false:=by kernel_rfl
  have e2:cf WC [.agg 5 (T.setL .lf 0 [.fz true 0 (ae .i64 B) A 1,.fz true 0 (ae .i64 J) I 1,.fz true 0 (aQ 0 1 M f) n 1,.int .i64 r,.fz true 0 (ae .i64 E) O 5]),.agg 2 (T.setL .lf 0 [.int .i64 lo1,.int .i64 hi1])] (aU 1)=some (cond (yA [.agg 5 (T.setL .lf 0 [.fz true 0 (ae .i64 B) A 1,.fz true 0 (ae .i64 J) I 1,.fz true 0 (aQ 0 1 M f) n 1,.int .i64 r,.fz true 0 (ae .i64 E) O 5]),.agg 2 (T.setL .lf 0 [.int .i64 lo1,.int .i64 hi1])]) (true) false,.bool true):=by kernel_rfl
  rw [e2,e1]
  simp only [bD,dD,cond_true]
 have hs:SpecCall Tryz.prog 3 [.agg 5 (T.setL .lf 0 [.fz true 0 (ae .i64 B) A 1,.fz true 0 (ae .i64 J) I 1,.fz true 0 (aQ 0 1 M f) n 1,.int .i64 r,.fz true 0 (ae .i64 E) O 5]),.agg 2 (T.setL .lf 0 [.int .i64 lo1,.int .i64 hi1])] (aU 1) (.bool true) (bump (aU 1)):=dR ac1 _ _ _ hcf
 have hal:=OI r0 (OI r1 (show AL (qC W) [] ([]:List Value).toArray from AL.nil _))
 exact (Vm hs hal).mono fun e w' ⟨x,R,h1,h2,h3⟩=>by cases h2;exact ⟨h1,h3⟩
theorem Cj (os:Os) (started:os.Started) (H:Type) (enc:TypeId×Value→H) :
 ReturnsInHanded {} Tryz.checked os 3 .any (Rows.proofFewestSpec.pre6 enc Tryz.prog Tryz.f3 Rows.proofFewestRow.domain false) (Rows.proofFewestSpec.post enc Tryz.prog Tryz.f3 false true false false):=by
 refine returnsInHanded_of_change (C:=Tryz.checked) own started (by kernel_rfl) Tryz.func3
  (ChangeSpec.witness6 (enc:=enc) (C:=Tryz.checked) false ⟨#[],#[.agg #[.slice none 0 0,.slice none 0 0,.slice none 0 0,.int .i64 0,.slice none 0 0],.agg #[.int .i64 0,.int .i64 0]],[]⟩ 8 (by kernel_rfl) (by kernel_rfl) (by kernel_rfl) (by kernel_rfl)) ?_
 intro W base args ds gs before hval0 hW hcnd _
 have hW':=hW
 obtain ⟨p,q,hA0,hV,rfl,hfz,hnd⟩:=hW
 have hval:∀ (j:Nat) t v,Tryz.f3.params[j]?=some t→args.toList[j]?=some v→Value.okWide Tryz.prog W .any base t v:=fun j t v h1 h2=>hval0 j t v h1 (by simpa using h2)
 have h:=Ju (args:=args.toList) hval hA0
 rw [show args.toList.toArray=args by simp] at h
 have hds:∃ da db,ds=[da,db]:=by
  rw [Tryz.params3] at hA0
  obtain ⟨x0,a0,d0,_,_,_,_,rfl,_,_,hA0⟩:=trodAll_cons hA0
  obtain ⟨x1,a1,d1,_,_,_,_,rfl,_,_,hA⟩:=trodAll_cons hA0
  obtain ⟨_,rfl,_⟩:=trodAll_nil hA
  exact ⟨_,_,rfl⟩
 obtain ⟨da,db,rfl⟩:=hds
 refine h.mono fun e W' ⟨he,hb⟩=>?_
 exact ⟨_,he,Law.law_post laidOut (tb:=4) (by kernel_rfl) Tryz.underlying4 (fun t ht=>by
  rw [Tryz.params3] at ht
  have ht:t∈[28,30]:=ht
  simp only [List.mem_cons,List.not_mem_nil,or_false] at ht
  rcases ht with rfl | rfl<;>exact ⟨by kernel_rfl,of_decide_eq_true (by kernel_rfl)⟩) rfl hW' rfl rfl rfl hb⟩
theorem proofFewest_holds:Rows.ProofFewestSaid :=
 OpenClaim.holds_of_wide 3 Tryz.f3 rfl rfl rfl rfl rfl rfl rfl ⟨rfl,rfl,rfl,rfl,rfl⟩ rfl rfl rfl rfl rfl (by kernel_rfl) Tryz.func3 (by kernel_rfl)
  (of_decide_eq_true (by kernel_rfl)) (by unfold Func.isWrapper;first | (rw [if_pos (by decide +kernel)];kernel_rfl) | (rw [if_neg (by decide +kernel)];exact ⟨rfl,rfl⟩))
  (fun os started H enc _=>Cj os started H enc)
end BL
theorem proofFewest_holds:Rows.ProofFewestSaid:=BL.proofFewest_holds
end Go.Proofs.YtiplgejpopellaaGreat
