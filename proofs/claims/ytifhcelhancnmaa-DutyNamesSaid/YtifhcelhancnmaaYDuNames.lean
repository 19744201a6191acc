/- The closed statement of stage 10, DutyNames, returns true: the chapter's examples, and the errors. No condition. -/
import Derived.Test.YtifhcelhancnmaaRows
import Derived.WalkKit
import Derived.Test.YtifhcelhancnmaaYDuAll
import Derived.Test.YtifhcelhancnmaaYEd
set_option linter.all false
set_option linter.unusedSimpArgs false
set_option linter.unusedVariables false
namespace Go.Proofs.Ytifhcelhancnmaa
open UE
open Go Go.Ev Go.ChangeShapes Go.WideShapes Go.ChangeAt Go.RowKit
set_option maxRecDepth 1000000
noncomputable section
theorem IA {X:Ext} (hX:gJ Try.prog X) {n g:Nat} (h:G5 (DV Try.prog X n g [])=true) (w:World):Calls Try.prog g #[] w (fun e w'=>e = .returned (.bool true)∧RowKit.Below w.heap.size w w'):=by
 cases hv:DV Try.prog X n g [] with
 | none=>rw [hv] at h;cases h
 | some v =>
  rw [hv] at h
  cases v with
  | bool b =>
   have h:b=true:=h
   subst h
   exact (zO mixed hX hv (AL.nil _) w).mono fun e w' ⟨x,R,h1,h2,h3⟩=>by cases h2;exact ⟨h1,h3⟩
  | _=>cases h
theorem FZ:G5 (DV Try.prog (Gq uw Jq) 3000 3 [])=true:=by kernel_rfl
theorem DD (w:World):Calls Try.prog 3 #[] w (fun e w'=>e = .returned (.bool true)∧Below w.heap.size w w'):=IA (yJ aX FC) FZ w
end
theorem own:ownKnob Try.prog.godebug=none:=by kernel_rfl
theorem laidOut:laidOutB Try.prog=true:=by kernel_rfl
theorem wJ (os:Os) (started:os.Started) (H:Type) (enc:TypeId×Value→H) :
 ReturnsInHanded {} Try.checked os 3 .any (Rows.dutyNamesSpec.pre6 enc Try.prog Try.f3 Rows.dutyNamesRow.domain false) (Rows.dutyNamesSpec.post enc Try.prog Try.f3 false true false false):=by
 refine returnsInHanded_of_change (C:=Try.checked) own started (by kernel_rfl) Try.func3
  (ChangeSpec.witness6 (enc:=enc) (C:=Try.checked) false ⟨#[],#[],[]⟩ 8 (by kernel_rfl) (by kernel_rfl) (by kernel_rfl) (by kernel_rfl)) ?_
 intro W base args ds gs before hval0 hW hcnd _
 have hW':=hW
 obtain ⟨p,q,hA0,hV,rfl,hfz,hnd⟩:=hW
 have hA:DataW.TrodAll enc Try.prog W 0 (fun _=>true) true Try.f3.params.toList args.toList ds p:=hA0
 rw [Try.params3] at hA
 obtain ⟨rfl,rfl,rfl⟩:=trodAll_none hA
 refine (DD W).mono fun e W' ⟨he,hb⟩=>?_
 exact ⟨_,he,Law.law_post laidOut (tb:=4) (by kernel_rfl) Try.underlying4 (fun t ht=>by rw [Try.params3] at ht;cases ht) rfl hW' rfl rfl rfl hb⟩
theorem dutyNames_holds:Rows.DutyNamesSaid :=
 OpenClaim.holds_of_wide 3 Try.f3 rfl rfl rfl rfl rfl rfl rfl ⟨rfl,rfl,rfl,rfl,rfl⟩ rfl rfl rfl rfl rfl (by kernel_rfl) Try.func3 (by kernel_rfl)
  (of_decide_eq_true (by kernel_rfl)) (by unfold Func.isWrapper;first | (rw [if_pos (by decide +kernel)];kernel_rfl) | (rw [if_neg (by decide +kernel)];exact ⟨rfl,rfl⟩))
  (fun os started H enc _=>wJ os started H enc)
end Go.Proofs.Ytifhcelhancnmaa
