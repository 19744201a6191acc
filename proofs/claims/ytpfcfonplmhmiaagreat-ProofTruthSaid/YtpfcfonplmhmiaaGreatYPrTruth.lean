/- ProofTruth: for every input the law returns true: in each truth by words the duty and the strength of each blend by bits are within their bounds; the tenths are those of each cask. No condition. -/
import Derived.Test.YtpfcfonplmhmiaaGreatRows
import Derived.WalkKit
import Derived.Test.YtpfcfonplmhmiaaGreatYPrK2
import Derived.Test.YtpfcfonplmhmiaaGreatYPrK3
import Derived.Test.YtpfcfonplmhmiaaGreatYPrArg
import Derived.Test.YtpfcfonplmhmiaaGreatYEd
set_option linter.all false
set_option linter.unusedSimpArgs false
set_option linter.unusedVariables false
namespace Go.Proofs.YtpfcfonplmhmiaaGreat
namespace BL
open Go Go.Ev Go.ChangeShapes Go.WideShapes Go.ChangeAt Go.RowKit
set_option maxRecDepth 1000000
noncomputable section
theorem OC {W:World} {H:Type} {enc:TypeId×Value→H} {sp:Nat→Bool} {x:Value} {d:DataW H} {ps:List MemPlace} {r:Reach} {base:Nat} (hok:Value.okWide Tryz.prog W r base 52 x) (h:DataW.Trod enc Tryz.prog W 0 sp true 52 x d ps) :
 ∃ k c,VR (oN W) (.fz true 0 c k 1) x∧uB c k=true:=by
 obtain ⟨o,l,c,rfl⟩:=okWide_slice Tryz.underlying52 hok
 have ht:dB Tryz.prog 8 52=[52]:=by kernel_rfl
 obtain ⟨vs,q1,q2⟩:=BF (P:=Tryz.prog) (t:=52) (by kernel_rfl) h (by rw [ht];rfl)
 rw [ht] at q1
 have q3:=q2 0 (by rw [q1];decide) (show 0<1 by decide)
 obtain ⟨cw,A,e,hv⟩:=vV (P:=Tryz.prog) Tryz.underlying52 (q3.2.2 52 (by rw [ht];rfl))
 rw [show Tryz.prog.cellsOf 100=1 by kernel_rfl] at e
 have q4:=q3.1
 rw [e] at q4
 refine ⟨A,cw,q4,bF fun i hi=>?_⟩
 obtain ⟨z,e,z1,z2⟩:=EZ (P:=Tryz.prog) Tryz.underlying100 (hv i hi 0 100 (by kernel_rfl))
 have a1:IntKind.u16.min=0:=by kernel_rfl
 have a2:IntKind.u16.max=65535:=by kernel_rfl
 rw [a1] at z1
 rw [a2] at z2
 rw [e]
 exact aV ((aY _ _).mpr z1) ((aY _ _).mpr z2)
theorem YT (A:Nat) (B:Nat→Nat→Int) (I:Nat) (J:Nat→Nat→Int) (n:Nat) (M:Nat→Nat) (f:Nat→Nat→Nat→Int) (r:Int) (O:Nat) (E:Nat→Nat→Int) (k:Nat) (t:Nat→Nat→Int) (b w:Int) (hu:∀ i,i<k→0≤t i 0∧t i 0≤65535) (hb1:0≤b) (hb2:b≤255) (hw1:0≤w) (hw2:w≤255):∃ v H',SpecCall Tryz.prog 4 [.agg 5 (T.setL .lf 0 (eY [.sl 1 A B,.sl 1 I J,.rr 1 n M f,.i .i64 r,.sl 5 O E] 0)),.fz true 4 (ae .u16 t) k 1,.int .u8 b,.int .u8 w] (aW 6) v H'∧bJ v (.bool true):=by
 cases hth:dS A I n M with
 | false=>exact aA aj (rf (fun _ _=>0) (fun _ _=>0)) (px1 A B I J n M f r O E k t b w _ _ hth)
 | true =>
 have hs:=Zi hth
 by_cases h9:O≤9
 ·by_cases hc:dO A B I J n M f r O E=0
  ·have ok:=qC A B I J n M f r O E hc
   obtain ⟨c1,c2,c3⟩:=nG A B I J n M f r O E hc
   have hq:=jA (b:=w) (p:=100) hw1 (by decide)
   have hB:∀ i,i<O→0≤gm A B I J f E i∧gm A B I J f E i≤gp A B I J f E i∧gp A B I J f E i≤2000:=fun i hi=>Dh A B I J n M f r O E ok hi
   have uu:uB (ae .u16 t) k=true:=bF fun i hi=>aV ((aY _ _).mpr (hu i hi).1) ((aY _ _).mpr (hu i hi).2)
   have hP:∀ i,i<O→gm A B I J f E i≤pkR (fC A B I J f E) k (ae .u16 t) i 0∧pkR (fC A B I J f E) k (ae .u16 t) i 0≤gp A B I J f E i:=fun i hi=>Zz (g:=fC A B I J f E) (c:=ae .u16 t) (fun j hj=>(hu j hj).1) (hB i hi).2.1
   have hT:∀ i,i<O→_:=fun i hi=>Z8 (t:=pkR (fC A B I J f E) k (ae .u16 t)) c2 hi (ok.cask i hi).1 (by have:=hB i hi;have:=hP i hi;omega) ok.rate
   by_cases z0:O=0
   ·subst z0
    exact aA aj (rf (fun _ _=>0) (fun _ _=>0)) (px4 A B I J n M f r E k t b w _ _ hth hc)
   have hb:=aab (O:=O) (by omega) c2 ⟨hb1,hb2⟩
   have km:soN O b≤6:=by
    by_cases z:biN (yD O b)=0
    ·rw [(IC z).1];omega
    ·rw [(GN z).1];exact sS _
   have hq:0≤Int.tmod w 100∧Int.tmod w 100≤99:=by omega
   obtain ⟨e2,e3,d0,d1,d2,b0,b1,b2,o1⟩:=Vx A B I J n M f r O E (soN O b) (soF O b) (w:=Int.tmod w 100) hc ok hb (by omega) hq.1 hq.2 hP
   have:O=1∨O=2∨O=3∨O=4∨O=5∨O=6:=by omega
   rcases this with rfl | rfl | rfl | rfl | rfl | rfl
   ·exact aA aj (rf _ _) (pt1 A B I J n M f r E k t b w _ _ hth hs hc c1 ⟨hb1,hb2⟩ ⟨hw1,hw2⟩ hq km uu (dL _) (dL _) e2 e3 d0 d1 d2 b0 b1 b2 o1 (hT 0 (by omega)))
   ·exact aA aj (rf _ _) (pt2 A B I J n M f r E k t b w _ _ hth hs hc c1 ⟨hb1,hb2⟩ ⟨hw1,hw2⟩ hq km uu (dL _) (dL _) e2 e3 d0 d1 d2 b0 b1 b2 o1 (hT 0 (by omega)) (hT 1 (by omega)))
   ·exact aA aj (rf _ _) (pt3 A B I J n M f r E k t b w _ _ hth hs hc c1 ⟨hb1,hb2⟩ ⟨hw1,hw2⟩ hq km uu (dL _) (dL _) e2 e3 d0 d1 d2 b0 b1 b2 o1 (hT 0 (by omega)) (hT 1 (by omega)) (hT 2 (by omega)))
   ·exact aA aj (rf _ _) (pt4 A B I J n M f r E k t b w _ _ hth hs hc c1 ⟨hb1,hb2⟩ ⟨hw1,hw2⟩ hq km uu (dL _) (dL _) e2 e3 d0 d1 d2 b0 b1 b2 o1 (hT 0 (by omega)) (hT 1 (by omega)) (hT 2 (by omega)) (hT 3 (by omega)))
   ·exact aA aj (rf _ _) (pt5 A B I J n M f r E k t b w _ _ hth hs hc c1 ⟨hb1,hb2⟩ ⟨hw1,hw2⟩ hq km uu (dL _) (dL _) e2 e3 d0 d1 d2 b0 b1 b2 o1 (hT 0 (by omega)) (hT 1 (by omega)) (hT 2 (by omega)) (hT 3 (by omega)) (hT 4 (by omega)))
   ·exact aA aj (rf _ _) (pt6 A B I J n M f r E k t b w _ _ hth hs hc c1 ⟨hb1,hb2⟩ ⟨hw1,hw2⟩ hq km uu (dL _) (dL _) e2 e3 d0 d1 d2 b0 b1 b2 o1 (hT 0 (by omega)) (hT 1 (by omega)) (hT 2 (by omega)) (hT 3 (by omega)) (hT 4 (by omega)) (hT 5 (by omega)))
  ·exact aA aj (rf (fun _ _=>0) (fun _ _=>0)) (px3 A B I J n M f r O E k t b w _ _ hth h9 hc)
 ·exact aA aj (rf (fun _ _=>0) (fun _ _=>0)) (px2 A B I J n M f r O E k t b w _ _ hth h9)
def lw1 (o:Option (List DA)) (ok:Bool) (c:Nat→Nat→V) (k e:Nat) (b w:Int):Option (Bool×V):=match o with
 | some [.st [.sl 1 A B,.sl 1 I J,.rr 1 n M f,.i .i64 r,.sl 5 O E]]=>some (cond ok (cond (Nat.beq e 1) (cond (uB c k) (decide (0≤b∧b≤255∧0≤w∧w≤255)) false) false) false,.bool true)
 | _=>none
def Q3:CF:=fun args _=>match args with | [s,.fz _ _ c k e,.int .u8 b,.int .u8 w]=>lw1 (dec [s]) (wG [s]) c k e b w | _=>none
theorem Zl:jl Tryz.prog (4,Q3):=fun args H v hv=>by
 have hv:Q3 args H=some (true,v):=hv
 unfold Q3 at hv
 split at hv
 ·rename_i x q a c k e b w hv0
  cases hdx:AZ x with
  | none=>rw [show dec [x]=none by show (match AZ x with | some d=>jC d (some []) | none=>none)=none;rw [hdx]] at hv;cases hv
  | some d =>
   rw [show dec [x]=some [d] by show (match AZ x with | some d=>jC d (some []) | none=>none)=_;rw [hdx];rfl] at hv
   unfold lw1 at hv
   split at hv
   ·rename_i A B I J n M f r O E hd
    injection hd with hd
    injection hd with hd _
    subst hd
    have hb:=congrArg Prod.fst (Option.some.inj hv)
    have hw:=congrArg Prod.snd (Option.some.inj hv)
    have hw:V.bool true=v:=hw
    subst hw
    obtain ⟨o1,hb⟩:=ah hb
    obtain ⟨o2,hb⟩:=ah hb
    obtain ⟨o3,hb⟩:=ah hb
    obtain ⟨b1,b2,w1,w2⟩:=of_decide_eq_true hb
    have:=nb o2
    subst this
    have ox:okA x=true:=(ah (show cond (okA x) true false=true from o1)).1
    have hU:∀ i,i<k→∃ z,c i 0 = .int .u16 z∧0≤z∧z≤65535:=fun i hi=>SC (aZ (show fH (fun i=>uV (c i 0)) k=true from o3) i hi)
    obtain ⟨v1,H',hs,hrow⟩:=YT A B I J n M f r O E k (fun i j=>bi (c i j)) b w (fun i hi=>by
     obtain ⟨z,e,z1,z2⟩:=hU i hi
     show 0≤bi (c i 0)∧bi (c i 0)≤65535
     rw [e];exact ⟨z1,z2⟩) b1 b2 w1 w2
    have hrow:=Vy hrow
    subst hrow
    refine nT (k:=5) hs (fun R w' ys hr hf0 ha=>?_) (.one (.one (.bool true)))
    have h0:=@vg R w' (0+(yj x).length) 0 (fun i=>(yj x).getD i 0) _ _ hdx ox (fun i hi=>by simp) (Nat.le_refl _)
    have hl:(yj x).length=4:=by
     have z:nxD (.st [.sl 1 A B,.sl 1 I J,.rr 1 n M f,.i .i64 r,.sl 5 O E]) 0=0+(yj x).length:=h0.1
     have z2:nxD (.st [.sl 1 A B,.sl 1 I J,.rr 1 n M f,.i .i64 r,.sl 5 O E]) 0=4:=rfl
     omega
    have h1:=@vg R w' 5 0 (fun i=>cond (Nat.beq i 4) a ((yj x).getD i 0)) _ _ hdx ox (fun i hi=>by
     rw [Nat.zero_add]
     show cond (Nat.beq i 4) a ((yj x).getD i 0)=_
     rw [(lu _ _).mpr (show ¬ i=4 by omega)];rfl) (by omega)
    refine ⟨jr R w' 5 (fun i=>cond (Nat.beq i 4) a ((yj x).getD i 0)),fun b=>rfl,fun a' r' cs e=>?_,?_⟩
    ·rcases iw e with ⟨z,e⟩ | ⟨z,e⟩
     ·exact ⟨by omega,(hr.frz _ _ _ e).1⟩
     ·exact ⟨by omega,e⟩
    ·refine AL.cons_imp ha (fun y hy=>h1.2 hy) (fun ys' h'=>AL.cons_imp h' (fun y hy=>?_) (fun ys'' h''=>?_))
     ·refine hy.fz_as (fun r' cs hcz=>?_) (fun i j hi hj=>rfl) (fun i j hi hj => .int _ _) (fun i j hi hj y' hv'=>?_)
      ·rw [xX (by omega)];exact hcz
      ·have j0:j=0:=by omega
       subst j0
       obtain ⟨z,e,_⟩:=hU i hi
       rw [e] at hv'
       show VR _ (.int .u16 (bi (c i 0))) y'
       rw [e]
       cases hv';exact .int _ _
     ·exact AL.cons_imp h'' (fun y hy=>by cases hy;exact .int _ _) (fun ys3 h3=>AL.cons_imp h3 (fun y hy=>by cases hy;exact .int _ _) (fun ys4 h4=>AL.nil_imp h4))
   ·cases hv
 ·cases hv
end
theorem PN {W:World} {H:Type} {enc:TypeId×Value→H} {base:Nat} {args:List Value} {ds:List (DataW H)} {p:List MemPlace} (hval:∀ (j:Nat) t v,Tryz.f4.params[j]?=some t→args[j]?=some v→Value.okWide Tryz.prog W .any base t v)
 (hA:DataW.TrodAll enc Tryz.prog W 0 (fun _=>true) true Tryz.f4.params.toList args ds p):Calls Tryz.prog 4 args.toArray W (fun e w'=>e = .returned (.bool true)∧Below W.heap.size W w'):=by
 rw [Tryz.params4] at hA hval
 obtain ⟨x0,a0,d0,_,_,_,rfl,rfl,rfl,u0,hA⟩:=trodAll_cons hA
 obtain ⟨x1,a1,d1,_,_,_,rfl,rfl,rfl,u1,hA⟩:=trodAll_cons hA
 obtain ⟨x2,a2,d2,_,_,_,rfl,rfl,rfl,u2,hA⟩:=trodAll_cons hA
 obtain ⟨x3,a3,d3,_,_,_,rfl,rfl,rfl,u3,hA⟩:=trodAll_cons hA
 obtain ⟨rfl,rfl,rfl⟩:=trodAll_nil hA
 obtain ⟨A,B,I,J,n,M,f,r,O,E,r0⟩:=O6 u0
 obtain ⟨k1,c1,r1,z1⟩:=OC (hval 1 _ x1 rfl rfl) u1
 obtain ⟨n2,r2,b2⟩:=Na (P:=Tryz.prog) (k := .u8) (by kernel_rfl) (hval 2 _ x2 rfl rfl) u2
 obtain ⟨n3,r3,b3⟩:=Na (P:=Tryz.prog) (k := .u8) (by kernel_rfl) (hval 3 _ x3 rfl rfl) u3
 have hcf:Q3 [.agg 5 (T.setL .lf 0 [.fz true 0 (ae .i64 B) A 1,.fz true 0 (ae .i64 J) I 1,.fz true 0 (aU 0 1 M f) n 1,.int .i64 r,.fz true 0 (ae .i64 E) O 5]),.fz true 0 c1 k1 1,.int .u8 n2,.int .u8 n3] (aW 1)=some (true,.bool true):=by
  have q2:IntKind.u8.min=0:=by kernel_rfl
  have p2:IntKind.u8.max=255:=by kernel_rfl
  rw [q2,p2] at b2
  have q3:IntKind.u8.min=0:=by kernel_rfl
  have p3:IntKind.u8.max=255:=by kernel_rfl
  rw [q3,p3] at b3
  have hd:decide (0≤n2∧n2≤255∧0≤n3∧n3≤255)=true:=decide_eq_true (by omega)
  have e1:wG [.agg 5 (T.setL .lf 0 [.fz true 0 (ae .i64 B) A 1,.fz true 0 (ae .i64 J) I 1,.fz true 0 (aU 0 1 M f) n 1,.int .i64 r,.fz true 0 (ae .i64 E) O 5])]=cond (cond (aJ .i64 (ae .i64 B) A 1) (cond (aJ .i64 (ae .i64 J) I 1) (cond (eX 0 (aU 0 1 M f) n 1) (cond true (cond (aJ .i64 (ae .i64 E) O 5) true false) false) false) false) false) true false:=by kernel_rfl
  have e2:Q3 [.agg 5 (T.setL .lf 0 [.fz true 0 (ae .i64 B) A 1,.fz true 0 (ae .i64 J) I 1,.fz true 0 (aU 0 1 M f) n 1,.int .i64 r,.fz true 0 (ae .i64 E) O 5]),.fz true 0 c1 k1 1,.int .u8 n2,.int .u8 n3] (aW 1)=some (cond (wG [.agg 5 (T.setL .lf 0 [.fz true 0 (ae .i64 B) A 1,.fz true 0 (ae .i64 J) I 1,.fz true 0 (aU 0 1 M f) n 1,.int .i64 r,.fz true 0 (ae .i64 E) O 5])]) (cond (uB c1 k1) (decide (0≤n2∧n2≤255∧0≤n3∧n3≤255)) false) false,.bool true):=by kernel_rfl
  rw [e2,e1]
  simp only [dK,fM,cond_true,hd,z1]
 have hs:SpecCall Tryz.prog 4 [.agg 5 (T.setL .lf 0 [.fz true 0 (ae .i64 B) A 1,.fz true 0 (ae .i64 J) I 1,.fz true 0 (aU 0 1 M f) n 1,.int .i64 r,.fz true 0 (ae .i64 E) O 5]),.fz true 0 c1 k1 1,.int .u8 n2,.int .u8 n3] (aW 1) (.bool true) (bump (aW 1)):=Zl _ _ _ hcf
 have hal:=yx r0 (yx r1 (yx r2 (yx r3 (show AL (oN W) [] ([]:List Value).toArray from AL.nil _))))
 exact (RJ hs hal).mono fun e w' ⟨x,R,h1,h2,h3⟩=>by cases h2;exact ⟨h1,h3⟩
theorem Fp (os:Os) (started:os.Started) (H:Type) (enc:TypeId×Value→H) :
 ReturnsInHanded {} Tryz.checked os 4 .any (Rows.proofTruthSpec.pre6 enc Tryz.prog Tryz.f4 Rows.proofTruthRow.domain false) (Rows.proofTruthSpec.post enc Tryz.prog Tryz.f4 false true false false):=by
 refine returnsInHanded_of_change (C:=Tryz.checked) own started (by kernel_rfl) Tryz.func4
  (ChangeSpec.witness6 (enc:=enc) (C:=Tryz.checked) false ⟨#[],#[.agg #[.slice none 0 0,.slice none 0 0,.slice none 0 0,.int .i64 0,.slice none 0 0],.slice none 0 0,.int .u8 0,.int .u8 0],[]⟩ 8 (by kernel_rfl) (by kernel_rfl) (by kernel_rfl) (by kernel_rfl)) ?_
 intro W base args ds gs before hval0 hW hcnd _
 have hW':=hW
 obtain ⟨p,q,hA0,hV,rfl,hfz,hnd⟩:=hW
 have hval:∀ (j:Nat) t v,Tryz.f4.params[j]?=some t→args.toList[j]?=some v→Value.okWide Tryz.prog W .any base t v:=fun j t v h1 h2=>hval0 j t v h1 (by simpa using h2)
 have h:=PN (args:=args.toList) hval hA0
 rw [show args.toList.toArray=args by simp] at h
 have hds:∃ da db dc dd,ds=[da,db,dc,dd]:=by
  rw [Tryz.params4] at hA0
  obtain ⟨x0,a0,d0,_,_,_,_,rfl,_,_,hA0⟩:=trodAll_cons hA0
  obtain ⟨x1,a1,d1,_,_,_,_,rfl,_,_,hA0⟩:=trodAll_cons hA0
  obtain ⟨x2,a2,d2,_,_,_,_,rfl,_,_,hA0⟩:=trodAll_cons hA0
  obtain ⟨x3,a3,d3,_,_,_,_,rfl,_,_,hA⟩:=trodAll_cons hA0
  obtain ⟨_,rfl,_⟩:=trodAll_nil hA
  exact ⟨_,_,_,_,rfl⟩
 obtain ⟨da,db,dc,dd,rfl⟩:=hds
 refine h.mono fun e W' ⟨he,hb⟩=>?_
 exact ⟨_,he,Law.law_post laidOut (tb:=4) (by kernel_rfl) Tryz.underlying4 (fun t ht=>by
  rw [Tryz.params4] at ht
  have ht:t∈[28,52,5,5]:=ht
  simp only [List.mem_cons,List.not_mem_nil,or_false] at ht
  rcases ht with rfl | rfl | rfl | rfl<;>exact ⟨by kernel_rfl,of_decide_eq_true (by kernel_rfl)⟩) rfl hW' rfl rfl rfl hb⟩
theorem proofTruth_holds:Rows.ProofTruthSaid :=
 OpenClaim.holds_of_wide 4 Tryz.f4 rfl rfl rfl rfl rfl rfl rfl ⟨rfl,rfl,rfl,rfl,rfl⟩ rfl rfl rfl rfl rfl (by kernel_rfl) Tryz.func4 (by kernel_rfl)
  (of_decide_eq_true (by kernel_rfl)) (by unfold Func.isWrapper;first | (rw [if_pos (by decide +kernel)];kernel_rfl) | (rw [if_neg (by decide +kernel)];exact ⟨rfl,rfl⟩))
  (fun os started H enc _=>Fp os started H enc)
end BL
theorem proofTruth_holds:Rows.ProofTruthSaid:=BL.proofTruth_holds
end Go.Proofs.YtpfcfonplmhmiaaGreat
