/- CaskGauges: for every input the law returns true: the error of any cellar, the content at any dip, the dip of any content, and what any gauge means, are as the document says, or the error is. No condition. -/
import Derived.Test.YtflblednifbleaaRows
import Derived.WalkKit
import Derived.Test.YtflblednifbleaaYCaG2
import Derived.Test.YtflblednifbleaaYCaArg
import Derived.Test.YtflblednifbleaaYEd
set_option linter.all false
set_option linter.unusedSimpArgs false
set_option linter.unusedVariables false
namespace Go.Proofs.Ytflblednifbleaa
namespace CG
open Go Go.Ev Go.ChangeShapes Go.WideShapes Go.ChangeAt Go.RowKit
set_option maxRecDepth 1000000
noncomputable section
theorem own:ownKnob Try.prog.godebug=none:=by kernel_rfl
theorem laidOut:laidOutB Try.prog=true:=by kernel_rfl
theorem D8 {W:World} {H:Type} {enc:TypeId×Value→H} {base:Nat} {args:List Value} {ds:List (DataW H)} {p:List MemPlace} (hval:∀ (j:Nat) t v,Try.f3.params[j]?=some t→args[j]?=some v→Value.okWide Try.prog W .any base t v)
 (hA:DataW.TrodAll enc Try.prog W 0 (fun _=>true) true Try.f3.params.toList args ds p):Calls Try.prog 3 args.toArray W (fun e w'=>e = .returned (.bool true)∧Below W.heap.size W w'):=by
 rw [Try.params3] at hA hval
 obtain ⟨x0,a0,d0,_,_,_,rfl,rfl,rfl,u0,hA⟩:=trodAll_cons hA
 obtain ⟨x1,a1,d1,_,_,_,rfl,rfl,rfl,u1,hA⟩:=trodAll_cons hA
 obtain ⟨x2,a2,d2,_,_,_,rfl,rfl,rfl,u2,hA⟩:=trodAll_cons hA
 obtain ⟨x3,a3,d3,_,_,_,rfl,rfl,rfl,u3,hA⟩:=trodAll_cons hA
 obtain ⟨x4,a4,d4,_,_,_,rfl,rfl,rfl,u4,hA⟩:=trodAll_cons hA
 obtain ⟨rfl,rfl,rfl⟩:=trodAll_nil hA
 obtain ⟨nc,fi,fb,ls,fr,nm,fm,ng,gi,gb,gl,gr,r0⟩:=Iu u0
 obtain ⟨n1,r1,b1⟩:=wP (P:=Try.prog) (k := .i64) (by kernel_rfl) (hval 1 _ x1 rfl rfl) u1
 obtain ⟨n2,r2,b2⟩:=wP (P:=Try.prog) (k := .i64) (by kernel_rfl) (hval 2 _ x2 rfl rfl) u2
 obtain ⟨n3,r3,b3⟩:=wP (P:=Try.prog) (k := .i64) (by kernel_rfl) (hval 3 _ x3 rfl rfl) u3
 obtain ⟨n4,r4,b4⟩:=wP (P:=Try.prog) (k := .i64) (by kernel_rfl) (hval 4 _ x4 rfl rfl) u4
 have hcf:cf Uo [.agg 3 (T.setL .lf 0 [.fz true 0 (ah 0 [.r 2,.i,.i,.i,.i] fi fb ls fr) nc 5,.fz true 0 (ae .i64 fm) nm 4,.fz true 0 (ah 0 [.i,.i,.i,.i,.b] gi gb gl gr) ng 5]),.int .i64 n1,.int .i64 n2,.int .i64 n3,.int .i64 n4] (aY 1)=some (true,.bool true):=by
  have e1:okL [.agg 3 (T.setL .lf 0 [.fz true 0 (ah 0 [.r 2,.i,.i,.i,.i] fi fb ls fr) nc 5,.fz true 0 (ae .i64 fm) nm 4,.fz true 0 (ah 0 [.i,.i,.i,.i,.b] gi gb gl gr) ng 5]),.int .i64 n1,.int .i64 n2,.int .i64 n3,.int .i64 n4]=cond (cond (aF 0 (ah 0 [.r 2,.i,.i,.i,.i] fi fb ls fr) [.r 2,.i,.i,.i,.i] nc 5) (cond (aO .i64 (ae .i64 fm) nm 4) (cond (aF 0 (ah 0 [.i,.i,.i,.i,.b] gi gb gl gr) [.i,.i,.i,.i,.b] ng 5) true false) false) false) (cond (true) (cond (true) (cond (true) (cond (true) (true) false) false) false) false) false:=by kernel_rfl
  have e2:cf Uo [.agg 3 (T.setL .lf 0 [.fz true 0 (ah 0 [.r 2,.i,.i,.i,.i] fi fb ls fr) nc 5,.fz true 0 (ae .i64 fm) nm 4,.fz true 0 (ah 0 [.i,.i,.i,.i,.b] gi gb gl gr) ng 5]),.int .i64 n1,.int .i64 n2,.int .i64 n3,.int .i64 n4] (aY 1)=some (cond (okL [.agg 3 (T.setL .lf 0 [.fz true 0 (ah 0 [.r 2,.i,.i,.i,.i] fi fb ls fr) nc 5,.fz true 0 (ae .i64 fm) nm 4,.fz true 0 (ah 0 [.i,.i,.i,.i,.b] gi gb gl gr) ng 5]),.int .i64 n1,.int .i64 n2,.int .i64 n3,.int .i64 n4]) (true) false,.bool true):=by kernel_rfl
  rw [e2,e1]
  simp only [dI,iW,kR,cond_true]
 have hs:SpecCall Try.prog 3 [.agg 3 (T.setL .lf 0 [.fz true 0 (ah 0 [.r 2,.i,.i,.i,.i] fi fb ls fr) nc 5,.fz true 0 (ae .i64 fm) nm 4,.fz true 0 (ah 0 [.i,.i,.i,.i,.b] gi gb gl gr) ng 5]),.int .i64 n1,.int .i64 n2,.int .i64 n3,.int .i64 n4] (aY 1) (.bool true) (bump (aY 1)):=dL YY _ _ _ hcf
 have hal:=sN r0 (sN r1 (sN r2 (sN r3 (sN r4 (show AL (qW W) [] ([]:List Value).toArray from AL.nil _)))))
 exact (Pi hs hal).mono fun e w' ⟨x,R,h1,h2,h3⟩=>by cases h2;exact ⟨h1,h3⟩
theorem yQ (os:Os) (started:os.Started) (H:Type) (enc:TypeId×Value→H) :
 ReturnsInHanded {} Try.checked os 3 .any (Rows.caskGaugesSpec.pre6 enc Try.prog Try.f3 Rows.caskGaugesRow.domain false) (Rows.caskGaugesSpec.post enc Try.prog Try.f3 false true false false):=by
 refine returnsInHanded_of_change (C:=Try.checked) own started (by kernel_rfl) Try.func3
  (ChangeSpec.witness6 (enc:=enc) (C:=Try.checked) false ⟨#[],#[.agg #[.slice none 0 0,.slice none 0 0,.slice none 0 0],.int .i64 0,.int .i64 0,.int .i64 0,.int .i64 0],[]⟩ 8 (by kernel_rfl) (by kernel_rfl) (by kernel_rfl) (by kernel_rfl)) ?_
 intro W base args ds gs before hval0 hW hcnd _
 have hW':=hW
 obtain ⟨p,q,hA0,hV,rfl,hfz,hnd⟩:=hW
 have hval:∀ (j:Nat) t v,Try.f3.params[j]?=some t→args.toList[j]?=some v→Value.okWide Try.prog W .any base t v:=fun j t v h1 h2=>hval0 j t v h1 (by simpa using h2)
 have h:=D8 (args:=args.toList) hval hA0
 rw [show args.toList.toArray=args by simp] at h
 have hds:∃ da db dc dd de,ds=[da,db,dc,dd,de]:=by
  rw [Try.params3] at hA0
  obtain ⟨x0,a0,d0,_,_,_,_,rfl,_,_,hA0⟩:=trodAll_cons hA0
  obtain ⟨x1,a1,d1,_,_,_,_,rfl,_,_,hA0⟩:=trodAll_cons hA0
  obtain ⟨x2,a2,d2,_,_,_,_,rfl,_,_,hA0⟩:=trodAll_cons hA0
  obtain ⟨x3,a3,d3,_,_,_,_,rfl,_,_,hA0⟩:=trodAll_cons hA0
  obtain ⟨x4,a4,d4,_,_,_,_,rfl,_,_,hA⟩:=trodAll_cons hA0
  obtain ⟨_,rfl,_⟩:=trodAll_nil hA
  exact ⟨_,_,_,_,_,rfl⟩
 obtain ⟨da,db,dc,dd,de,rfl⟩:=hds
 refine h.mono fun e W' ⟨he,hb⟩=>?_
 exact ⟨_,he,Law.law_post laidOut (tb:=4) (by kernel_rfl) Try.underlying4 (fun t ht=>by
  rw [Try.params3] at ht
  have ht:t∈[26,3,3,3,3]:=ht
  simp only [List.mem_cons,List.not_mem_nil,or_false] at ht
  rcases ht with rfl | rfl | rfl | rfl | rfl<;>exact ⟨by kernel_rfl,of_decide_eq_true (by kernel_rfl)⟩) rfl hW' rfl rfl rfl hb⟩
theorem caskGauges_holds:Rows.CaskGaugesSaid :=
 OpenClaim.holds_of_wide 3 Try.f3 rfl rfl rfl rfl rfl rfl rfl ⟨rfl,rfl,rfl,rfl,rfl⟩ rfl rfl rfl rfl rfl (by kernel_rfl) Try.func3 (by kernel_rfl)
  (of_decide_eq_true (by kernel_rfl)) (by unfold Func.isWrapper;first | (rw [if_pos (by decide +kernel)];kernel_rfl) | (rw [if_neg (by decide +kernel)];exact ⟨rfl,rfl⟩))
  (fun os started H enc _=>yQ os started H enc)
end
end CG
theorem caskGauges_holds:Rows.CaskGaugesSaid:=CG.caskGauges_holds
end Go.Proofs.Ytflblednifbleaa
