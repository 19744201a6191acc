/- The closed statement of stage 11, DisputeNames, returns true: the chapter's examples, and the errors. No condition. -/
import Derived.Test.YtfogfppdplbbgaaGreatRows
import Derived.WalkKit
import Derived.Test.YtfogfppdplbbgaaGreatYDpAw
import Derived.Test.YtfogfppdplbbgaaGreatYEd
set_option linter.all false
set_option linter.unusedSimpArgs false
set_option linter.unusedVariables false
namespace Go.Proofs.YtfogfppdplbbgaaGreat
open QE
open Go Go.Ev Go.ChangeShapes Go.WideShapes Go.ChangeAt Go.RowKit
set_option maxRecDepth 1000000
noncomputable section
theorem FD {X:Ext} (hX:jl Tryz.prog X) {n g:Nat} (h:Fa (BU Tryz.prog X n g [])=true) (w:World):Calls Tryz.prog g #[] w (fun e w'=>e = .returned (.bool true)∧RowKit.Below w.heap.size w w'):=by
 cases hv:BU Tryz.prog X n g [] with
 | none=>rw [hv] at h;cases h
 | some v =>
  rw [hv] at h
  cases v with
  | bool b =>
   have h:b=true:=h
   subst h
   exact (y9 mixed hX hv (AL.nil _) w).mono fun e w' ⟨x,R,h1,h2,h3⟩=>by cases h2;exact ⟨h1,h3⟩
  | _=>cases h
theorem EN:Fa (BU Tryz.prog (Eu cO GN) 3000 3 [])=true:=by kernel_rfl
theorem AU (w:World):Calls Tryz.prog 3 #[] w (fun e w'=>e = .returned (.bool true)∧Below w.heap.size w w'):=FD (wR aC Fg) EN w
end
theorem own:ownKnob Tryz.prog.godebug=none:=by kernel_rfl
theorem laidOut:laidOutB Tryz.prog=true:=by kernel_rfl
theorem tZ (os:Os) (started:os.Started) (H:Type) (enc:TypeId×Value→H) :
 ReturnsInHanded {} Tryz.checked os 3 .any (Rows.disputeNamesSpec.pre6 enc Tryz.prog Tryz.f3 Rows.disputeNamesRow.domain false) (Rows.disputeNamesSpec.post enc Tryz.prog Tryz.f3 false true false false):=by
 refine returnsInHanded_of_change (C:=Tryz.checked) own started (by kernel_rfl) Tryz.func3
  (ChangeSpec.witness6 (enc:=enc) (C:=Tryz.checked) false ⟨#[],#[],[]⟩ 8 (by kernel_rfl) (by kernel_rfl) (by kernel_rfl) (by kernel_rfl)) ?_
 intro W base args ds gs before hval0 hW hcnd _
 have hW':=hW
 obtain ⟨p,q,hA0,hV,rfl,hfz,hnd⟩:=hW
 have hA:DataW.TrodAll enc Tryz.prog W 0 (fun _=>true) true Tryz.f3.params.toList args.toList ds p:=hA0
 rw [Tryz.params3] at hA
 obtain ⟨rfl,rfl,rfl⟩:=trodAll_none hA
 refine (AU W).mono fun e W' ⟨he,hb⟩=>?_
 exact ⟨_,he,Law.law_post laidOut (tb:=4) (by kernel_rfl) Tryz.underlying4 (fun t ht=>by rw [Tryz.params3] at ht;cases ht) rfl hW' rfl rfl rfl hb⟩
theorem disputeNames_holds:Rows.DisputeNamesSaid :=
 OpenClaim.holds_of_wide 3 Tryz.f3 rfl rfl rfl rfl rfl rfl rfl ⟨rfl,rfl,rfl,rfl,rfl⟩ rfl rfl rfl rfl rfl (by kernel_rfl) Tryz.func3 (by kernel_rfl)
  (of_decide_eq_true (by kernel_rfl)) (by unfold Func.isWrapper;first | (rw [if_pos (by decide +kernel)];kernel_rfl) | (rw [if_neg (by decide +kernel)];exact ⟨rfl,rfl⟩))
  (fun os started H enc _=>tZ os started H enc)
end Go.Proofs.YtfogfppdplbbgaaGreat
