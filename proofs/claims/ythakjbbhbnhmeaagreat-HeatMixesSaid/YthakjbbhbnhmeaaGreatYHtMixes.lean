/- HeatMixes: for every input the law returns true: the warmth of any mixture is that of the reference, or the error is. No condition. -/
import Derived.Test.YthakjbbhbnhmeaaGreatRows
import Derived.WalkKit
import Derived.Test.YthakjbbhbnhmeaaGreatYHtM4
import Derived.Test.YthakjbbhbnhmeaaGreatYHtArg
import Derived.Test.YthakjbbhbnhmeaaGreatYEd
set_option linter.all false
set_option linter.unusedSimpArgs false
set_option linter.unusedVariables false
namespace Go.Proofs.YthakjbbhbnhmeaaGreat
namespace MX
open Go Go.Ev Go.ChangeShapes Go.WideShapes Go.ChangeAt Go.RowKit
set_option maxRecDepth 1000000
noncomputable section
def QH:Val:=fun das=>match das with
 | [.one (.sl 3 m g)]=>some (true,.bool true)
 | _=>none
theorem WV:Con Tryz.prog 3 QH:=by
 intro das x hv
 unfold QH at hv
 split at hv
 ·rename_i m g
  have hv:=congrArg Prod.snd (Option.some.inj hv)
  subst hv
  have fin:∀ {h:HT},VC (di Tryz.prog XL 600 3 (enc [.one (.sl 3 m g)] 0) 1 (fun v=>bZ v (.bool true))) h→sH (.bool true)=true∧∃ v' H',SpecCall Tryz.prog 3 (enc [.one (.sl 3 m g)] 0) (aH 2) v' H'∧bZ v' (.bool true):=fun hvc =>
   aY aT Wj rfl (das:=[.one (.sl 3 m g)]) hvc
  by_cases h9:m≤9
  ·by_cases he:mxE g m=0
   ·exact fin (hm3 m g h9 he (by unfold mxL;rw [(yh _ _).mpr he];rfl) (by unfold mxH;rw [(yh _ _).mpr he];rfl))
   ·exact fin (hm2 m g h9 he (by unfold mxL;rw [(tq _ _).mpr he];rfl) (by unfold mxH;rw [(tq _ _).mpr he];rfl))
  ·exact fin (hm9 m g h9)
 ·cases hv
end
theorem Jy {W:World} {H:Type} {enc:TypeId×Value→H} {base:Nat} {args:List Value} {ds:List (DataW H)} {p:List MemPlace} (hval:∀ (j:Nat) t v,Tryz.f3.params[j]?=some t→args[j]?=some v→Value.okWide Tryz.prog W .any base t v)
 (hA:DataW.TrodAll enc Tryz.prog W 0 (fun _=>true) true Tryz.f3.params.toList args ds p):Calls Tryz.prog 3 args.toArray W (fun e w'=>e = .returned (.bool true)∧Below W.heap.size W w'):=by
 rw [Tryz.params3] at hA hval
 obtain ⟨x0,a0,d0,_,_,_,rfl,rfl,rfl,u0,hA⟩:=trodAll_cons hA
 obtain ⟨rfl,rfl,rfl⟩:=trodAll_nil hA
 obtain ⟨k0,t0,r0⟩:=RQ (hval 0 _ x0 rfl rfl) u0
 have hcf:cf QH [.fz true 0 (ay .i64 t0) k0 3] (aH 1)=some (true,.bool true):=by
  have e1:okL [.fz true 0 (ay .i64 t0) k0 3]=cond (gG .i64 (ay .i64 t0) k0 3) (true) false:=by kernel_rfl
  have e2:cf QH [.fz true 0 (ay .i64 t0) k0 3] (aH 1)=some (cond (okL [.fz true 0 (ay .i64 t0) k0 3]) (true) false,.bool true):=by kernel_rfl
  rw [e2,e1]
  simp only [bV,jI,cond_true]
 have hs:SpecCall Tryz.prog 3 [.fz true 0 (ay .i64 t0) k0 3] (aH 1) (.bool true) (bump (aH 1)):=qO WV _ _ _ hcf
 have hal:=RV r0 (show AL (uf W) [] ([]:List Value).toArray from AL.nil _)
 exact (Oo hs hal).mono fun e w' ⟨x,R,h1,h2,h3⟩=>by cases h2;exact ⟨h1,h3⟩
theorem zC (os:Os) (started:os.Started) (H:Type) (enc:TypeId×Value→H) :
 ReturnsInHanded {} Tryz.checked os 3 .any (Rows.heatMixesSpec.pre6 enc Tryz.prog Tryz.f3 Rows.heatMixesRow.domain false) (Rows.heatMixesSpec.post enc Tryz.prog Tryz.f3 false true false false):=by
 refine returnsInHanded_of_change (C:=Tryz.checked) own started (by kernel_rfl) Tryz.func3
  (ChangeSpec.witness6 (enc:=enc) (C:=Tryz.checked) false ⟨#[],#[.slice none 0 0],[]⟩ 8 (by kernel_rfl) (by kernel_rfl) (by kernel_rfl) (by kernel_rfl)) ?_
 intro W base args ds gs before hval0 hW hcnd _
 have hW':=hW
 obtain ⟨p,q,hA0,hV,rfl,hfz,hnd⟩:=hW
 have hval:∀ (j:Nat) t v,Tryz.f3.params[j]?=some t→args.toList[j]?=some v→Value.okWide Tryz.prog W .any base t v:=fun j t v h1 h2=>hval0 j t v h1 (by simpa using h2)
 have h:=Jy (args:=args.toList) hval hA0
 rw [show args.toList.toArray=args by simp] at h
 have hds:∃ da,ds=[da]:=by
  rw [Tryz.params3] at hA0
  obtain ⟨x0,a0,d0,_,_,_,_,rfl,_,_,hA⟩:=trodAll_cons hA0
  obtain ⟨_,rfl,_⟩:=trodAll_nil hA
  exact ⟨_,rfl⟩
 obtain ⟨da,rfl⟩:=hds
 refine h.mono fun e W' ⟨he,hb⟩=>?_
 exact ⟨_,he,Law.law_post laidOut (tb:=4) (by kernel_rfl) Tryz.underlying4 (fun t ht=>by
  rw [Tryz.params3] at ht
  have ht:t∈[22]:=ht
  simp only [List.mem_cons,List.not_mem_nil,or_false] at ht
  subst ht;exact ⟨by kernel_rfl,of_decide_eq_true (by kernel_rfl)⟩) rfl hW' rfl rfl rfl hb⟩
theorem heatMixes_holds:Rows.HeatMixesSaid :=
 OpenClaim.holds_of_wide 3 Tryz.f3 rfl rfl rfl rfl rfl rfl rfl ⟨rfl,rfl,rfl,rfl,rfl⟩ rfl rfl rfl rfl rfl (by kernel_rfl) Tryz.func3 (by kernel_rfl)
  (of_decide_eq_true (by kernel_rfl)) (by unfold Func.isWrapper;first | (rw [if_pos (by decide +kernel)];kernel_rfl) | (rw [if_neg (by decide +kernel)];exact ⟨rfl,rfl⟩))
  (fun os started H enc _=>zC os started H enc)
end MX
theorem heatMixes_holds:Rows.HeatMixesSaid:=MX.heatMixes_holds
end Go.Proofs.YthakjbbhbnhmeaaGreat
