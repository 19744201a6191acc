/- ProofShortest: for every input the law returns true: the fewest casks whose blend is surely in a range are no more than those of any other list that is, nor is one that is as long before them. No condition. -/
import Derived.Test.YtiplgejpopellaaGreatRows
import Derived.WalkKit
import Derived.Test.YtiplgejpopellaaGreatYPrY3
import Derived.Test.YtiplgejpopellaaGreatYPrArg
import Derived.Test.YtiplgejpopellaaGreatYEd
set_option linter.all false
set_option linter.unusedSimpArgs false
set_option linter.unusedVariables false
namespace Go.Proofs.YtiplgejpopellaaGreat
namespace BL
open Go Go.Ev Go.ChangeShapes Go.WideShapes Go.ChangeAt Go.RowKit
set_option maxRecDepth 1000000
noncomputable section
def V5:Val:=fun das=>match das with
 | [.st [.sl 1 A B,.sl 1 I J,.rr 1 n M f,.i .i64 r,.sl 5 O E],.one (.i .u16 u),.one (.i .u16 w),.one (.i .u8 b)]=>some (decide (0≤u∧u≤65535∧0≤w∧w≤65535∧0≤b∧b≤255),.bool true)
 | _=>none
theorem aaD:oC Tryz.prog 5 V5:=by
 intro das x hv
 unfold V5 at hv
 split at hv
 ·rename_i A B I J n M f r O E u w b
  have hd:=of_decide_eq_true (congrArg Prod.fst (Option.some.inj hv))
  have hv:=congrArg Prod.snd (Option.some.inj hv)
  subst hv
  obtain ⟨hu1,hu2,hw1,hw2,hb1,hb2⟩:=hd
  have fin:∀ {h:HT},VC (bQ Tryz.prog (XP (qL A B I J n M f r O E) (qH A B I J n M f r O E)) 600 5 (enc [.st [.sl 1 A B,.sl 1 I J,.rr 1 n M f,.i .i64 r,.sl 5 O E],.one (.i .u16 u),.one (.i .u16 w),.one (.i .u8 b)] 0) 4 (fun v=>bZ v (.bool true))) h→sW (.bool true)=true∧∃ v' H',SpecCall Tryz.prog 5 (enc [.st [.sl 1 A B,.sl 1 I J,.rr 1 n M f,.i .i64 r,.sl 5 O E],.one (.i .u16 u),.one (.i .u16 w),.one (.i .u8 b)] 0) (aP 5) v' H'∧bZ v' (.bool true):=fun hvc =>
   aY ax (Y8 (qL A B I J n M f r O E) (qH A B I J n M f r O E)) rfl (das:=[.st [.sl 1 A B,.sl 1 I J,.rr 1 n M f,.i .i64 r,.sl 5 O E],.one (.i .u16 u),.one (.i .u16 w),.one (.i .u8 b)]) hvc
  cases hth:gQ A I n M with
  | false=>exact fin (py1 A B I J n M f r O E (qL A B I J n M f r O E) (qH A B I J n M f r O E) u w b hth)
  | true =>
  have hs:=Y0 hth
  by_cases h9:O≤9
  ·by_cases hc:iH A B I J n M f r O E=0
   ·obtain ⟨c1,c2,c3⟩:=JX A B I J n M f r O E hc
    by_cases h0:O=0
    ·exact fin (py4 A B I J n M f r O E (qL A B I J n M f r O E) (qH A B I J n M f r O E) u w b hth h0 hc)
    have h1:1≤O:=by omega
    have q1:=jq (b:=u) (p:=2001) hu1 (by decide)
    have q2:=jq (b:=w) (p:=600) hw1 (by decide)
    have hq:=aar A B I J n M f r O E hc h1 c2
    have hsb:=Zg (O:=O) h1 c2 ⟨hb1,hb2⟩
    obtain ⟨X,x0,x1,xn,xg⟩:=VG (O:=O) h1 c2 ⟨hb1,hb2⟩
    have xb:=MX x0 (Nat.lt_of_lt_of_le x1 (Dx c2))
    have e1:=MF A B I J n M f r O E (soN O b) (soF O b) (Int.tmod u 2001) (Int.tmod u 2001+Int.tmod w 600) hc hsb xn xg
    have xm:=Vr h1 c2 x0 x1
    have lnz:∀ y∈jX O,y≠0:=fun y hy=>by have:=LQ h1 c2 hy;omega
    by_cases hf:fwX O (qL A B I J n M f r O E) (qH A B I J n M f r O E) (Int.tmod u 2001) (Int.tmod u 2001+Int.tmod w 600)=0
    ·have z:=Gv lnz hf X xm
     exact fin (py5 A B I J n M f r O E (qL A B I J n M f r O E) (qH A B I J n M f r O E) u w b hth hs h1 c2 hc ⟨hu1,hu2⟩ ⟨hw1,hw2⟩ ⟨hb1,hb2⟩ (by omega) (by omega) (by omega) (by unfold fwN;exact qU _) hq (by unfold fwE;rw [hf];rfl) (by rw [e1];exact z))
    ·obtain ⟨k1,k2,k3⟩:=BI (XX h1 c2) (show zo _ (jX O)≠0 from hf)
     have k1:fwX O (qL A B I J n M f r O E) (qH A B I J n M f r O E) (Int.tmod u 2001) (Int.tmod u 2001+Int.tmod w 600)∈jX O:=k1
     have y:=LQ h1 c2 k1
     have yb:=MX y.1 (Nat.lt_of_lt_of_le y.2 (Dx c2))
     have e2:=MF A B I J n M f r O E _ _ (Int.tmod u 2001) (Int.tmod u 2001+Int.tmod w 600) hc (Wp h1 c2 y.1 y.2) rfl (fun i _=>rfl)
     have fe:fwE O (qL A B I J n M f r O E) (qH A B I J n M f r O E) (Int.tmod u 2001) (Int.tmod u 2001+Int.tmod w 600)=0:=by unfold fwE;rw [(fJ _ _).mpr hf];rfl
     have p2:=e2.trans k2
     cases p1:pvB A B I J n M f r O E (soN O b) (soF O b) 0 (Int.tmod u 2001) (Int.tmod u 2001+Int.tmod w 600) with
     | false=>exact fin (py6 A B I J n M f r O E (qL A B I J n M f r O E) (qH A B I J n M f r O E) u w b hth hs h1 c2 hc ⟨hu1,hu2⟩ ⟨hw1,hw2⟩ ⟨hb1,hb2⟩ (by omega) (by omega) (by omega) yb.2 hq fe p1 p2)
     | true =>
      have s:=k3 X xm (by rw [← e1];exact p1)
      exact fin (py7 A B I J n M f r O E (qL A B I J n M f r O E) (qH A B I J n M f r O E) u w b hth hs h1 c2 hc ⟨hu1,hu2⟩ ⟨hw1,hw2⟩ ⟨hb1,hb2⟩ (by omega) (by omega) (by omega) yb.2 hq fe p1 p2 (by rw [Y1 xg,xn];exact s))
   ·exact fin (py3 A B I J n M f r O E (qL A B I J n M f r O E) (qH A B I J n M f r O E) u w b hth h9 hc)
  ·exact fin (py2 A B I J n M f r O E (qL A B I J n M f r O E) (qH A B I J n M f r O E) u w b hth h9)
 ·cases hv
end
theorem CQ {W:World} {H:Type} {enc:TypeId×Value→H} {base:Nat} {args:List Value} {ds:List (DataW H)} {p:List MemPlace} (hval:∀ (j:Nat) t v,Tryz.f5.params[j]?=some t→args[j]?=some v→Value.okWide Tryz.prog W .any base t v)
 (hA:DataW.TrodAll enc Tryz.prog W 0 (fun _=>true) true Tryz.f5.params.toList args ds p):Calls Tryz.prog 5 args.toArray W (fun e w'=>e = .returned (.bool true)∧Below W.heap.size W w'):=by
 rw [Tryz.params5] at hA hval
 obtain ⟨x0,a0,d0,_,_,_,rfl,rfl,rfl,u0,hA⟩:=trodAll_cons hA
 obtain ⟨x1,a1,d1,_,_,_,rfl,rfl,rfl,u1,hA⟩:=trodAll_cons hA
 obtain ⟨x2,a2,d2,_,_,_,rfl,rfl,rfl,u2,hA⟩:=trodAll_cons hA
 obtain ⟨x3,a3,d3,_,_,_,rfl,rfl,rfl,u3,hA⟩:=trodAll_cons hA
 obtain ⟨rfl,rfl,rfl⟩:=trodAll_nil hA
 obtain ⟨A,B,I,J,n,M,f,r,O,E,r0⟩:=OE u0
 obtain ⟨n1,r1,b1⟩:=Cf (P:=Tryz.prog) (k := .u16) (by kernel_rfl) (hval 1 _ x1 rfl rfl) u1
 obtain ⟨n2,r2,b2⟩:=Cf (P:=Tryz.prog) (k := .u16) (by kernel_rfl) (hval 2 _ x2 rfl rfl) u2
 obtain ⟨n3,r3,b3⟩:=Cf (P:=Tryz.prog) (k := .u8) (by kernel_rfl) (hval 3 _ x3 rfl rfl) u3
 have hcf:cf V5 [.agg 5 (T.setL .lf 0 [.fz true 0 (ae .i64 B) A 1,.fz true 0 (ae .i64 J) I 1,.fz true 0 (aQ 0 1 M f) n 1,.int .i64 r,.fz true 0 (ae .i64 E) O 5]),.int .u16 n1,.int .u16 n2,.int .u8 n3] (aP 1)=some (true,.bool true):=by
  have q1:IntKind.u16.min=0:=by kernel_rfl
  have p1:IntKind.u16.max=65535:=by kernel_rfl
  rw [q1,p1] at b1
  have q2:IntKind.u16.min=0:=by kernel_rfl
  have p2:IntKind.u16.max=65535:=by kernel_rfl
  rw [q2,p2] at b2
  have q3:IntKind.u8.min=0:=by kernel_rfl
  have p3:IntKind.u8.max=255:=by kernel_rfl
  rw [q3,p3] at b3
  have hd:decide (0≤n1∧n1≤65535∧0≤n2∧n2≤65535∧0≤n3∧n3≤255)=true:=decide_eq_true (by omega)
  have e1:wI [.agg 5 (T.setL .lf 0 [.fz true 0 (ae .i64 B) A 1,.fz true 0 (ae .i64 J) I 1,.fz true 0 (aQ 0 1 M f) n 1,.int .i64 r,.fz true 0 (ae .i64 E) O 5]),.int .u16 n1,.int .u16 n2,.int .u8 n3]=cond (cond (aJ .i64 (ae .i64 B) A 1) (cond (aJ .i64 (ae .i64 J) I 1) (cond (dX 0 (aQ 0 1 M f) n 1) (cond true (cond (aJ .i64 (ae .i64 E) O 5) true false) false) false) false) false) (cond (true) (cond (true) (cond (true) (true) false) false) false) false:=by kernel_rfl
  have e2:cf V5 [.agg 5 (T.setL .lf 0 [.fz true 0 (ae .i64 B) A 1,.fz true 0 (ae .i64 J) I 1,.fz true 0 (aQ 0 1 M f) n 1,.int .i64 r,.fz true 0 (ae .i64 E) O 5]),.int .u16 n1,.int .u16 n2,.int .u8 n3] (aP 1)=some (cond (wI [.agg 5 (T.setL .lf 0 [.fz true 0 (ae .i64 B) A 1,.fz true 0 (ae .i64 J) I 1,.fz true 0 (aQ 0 1 M f) n 1,.int .i64 r,.fz true 0 (ae .i64 E) O 5]),.int .u16 n1,.int .u16 n2,.int .u8 n3]) (decide (0≤n1∧n1≤65535∧0≤n2∧n2≤65535∧0≤n3∧n3≤255)) false,.bool true):=by kernel_rfl
  rw [e2,e1]
  simp only [aZ,cO,cond_true,hd]
 have hs:SpecCall Tryz.prog 5 [.agg 5 (T.setL .lf 0 [.fz true 0 (ae .i64 B) A 1,.fz true 0 (ae .i64 J) I 1,.fz true 0 (aQ 0 1 M f) n 1,.int .i64 r,.fz true 0 (ae .i64 E) O 5]),.int .u16 n1,.int .u16 n2,.int .u8 n3] (aP 1) (.bool true) (bump (aP 1)):=dB aaD _ _ _ hcf
 have hal:=wL r0 (wL r1 (wL r2 (wL r3 (show AL (oJ W) [] ([]:List Value).toArray from AL.nil _))))
 exact (QZ hs hal).mono fun e w' ⟨x,R,h1,h2,h3⟩=>by cases h2;exact ⟨h1,h3⟩
theorem wH (os:Os) (started:os.Started) (H:Type) (enc:TypeId×Value→H) :
 ReturnsInHanded {} Tryz.checked os 5 .any (Rows.proofShortestSpec.pre6 enc Tryz.prog Tryz.f5 Rows.proofShortestRow.domain false) (Rows.proofShortestSpec.post enc Tryz.prog Tryz.f5 false true false false):=by
 refine returnsInHanded_of_change (C:=Tryz.checked) own started (by kernel_rfl) Tryz.func5
  (ChangeSpec.witness6 (enc:=enc) (C:=Tryz.checked) false ⟨#[],#[.agg #[.slice none 0 0,.slice none 0 0,.slice none 0 0,.int .i64 0,.slice none 0 0],.int .u16 0,.int .u16 0,.int .u8 0],[]⟩ 8 (by kernel_rfl) (by kernel_rfl) (by kernel_rfl) (by kernel_rfl)) ?_
 intro W base args ds gs before hval0 hW hcnd _
 have hW':=hW
 obtain ⟨p,q,hA0,hV,rfl,hfz,hnd⟩:=hW
 have hval:∀ (j:Nat) t v,Tryz.f5.params[j]?=some t→args.toList[j]?=some v→Value.okWide Tryz.prog W .any base t v:=fun j t v h1 h2=>hval0 j t v h1 (by simpa using h2)
 have h:=CQ (args:=args.toList) hval hA0
 rw [show args.toList.toArray=args by simp] at h
 have hds:∃ da db dc dd,ds=[da,db,dc,dd]:=by
  rw [Tryz.params5] at hA0
  obtain ⟨x0,a0,d0,_,_,_,_,rfl,_,_,hA0⟩:=trodAll_cons hA0
  obtain ⟨x1,a1,d1,_,_,_,_,rfl,_,_,hA0⟩:=trodAll_cons hA0
  obtain ⟨x2,a2,d2,_,_,_,_,rfl,_,_,hA0⟩:=trodAll_cons hA0
  obtain ⟨x3,a3,d3,_,_,_,_,rfl,_,_,hA⟩:=trodAll_cons hA0
  obtain ⟨_,rfl,_⟩:=trodAll_nil hA
  exact ⟨_,_,_,_,rfl⟩
 obtain ⟨da,db,dc,dd,rfl⟩:=hds
 refine h.mono fun e W' ⟨he,hb⟩=>?_
 exact ⟨_,he,Law.law_post laidOut (tb:=4) (by kernel_rfl) Tryz.underlying4 (fun t ht=>by
  rw [Tryz.params5] at ht
  have ht:t∈[28,61,61,5]:=ht
  simp only [List.mem_cons,List.not_mem_nil,or_false] at ht
  rcases ht with rfl | rfl | rfl | rfl<;>exact ⟨by kernel_rfl,of_decide_eq_true (by kernel_rfl)⟩) rfl hW' rfl rfl rfl hb⟩
theorem proofShortest_holds:Rows.ProofShortestSaid :=
 OpenClaim.holds_of_wide 5 Tryz.f5 rfl rfl rfl rfl rfl rfl rfl ⟨rfl,rfl,rfl,rfl,rfl⟩ rfl rfl rfl rfl rfl (by kernel_rfl) Tryz.func5 (by kernel_rfl)
  (of_decide_eq_true (by kernel_rfl)) (by unfold Func.isWrapper;first | (rw [if_pos (by decide +kernel)];kernel_rfl) | (rw [if_neg (by decide +kernel)];exact ⟨rfl,rfl⟩))
  (fun os started H enc _=>wH os started H enc)
end BL
theorem proofShortest_holds:Rows.ProofShortestSaid:=BL.proofShortest_holds
end Go.Proofs.YtiplgejpopellaaGreat
