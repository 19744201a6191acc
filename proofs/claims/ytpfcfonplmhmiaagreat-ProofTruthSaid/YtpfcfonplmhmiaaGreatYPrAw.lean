/- Stage 4: 'awake' returns true: a contract. -/
import Derived.Test.YtpfcfonplmhmiaaGreatYPrC1
set_option linter.all false
set_option linter.unusedSimpArgs false
set_option linter.unusedVariables false
namespace Go.Proofs.YtpfcfonplmhmiaaGreat
open Go Go.Ev
set_option maxRecDepth 1000000
noncomputable section
def WR (r:Option Res):Bool:=match r with | some (.v (.bool b) _)=>b | _=>false
def XW:Ext:=jy [(62,cfM Gu),(64,cfM UK),(34,cfM GZ)] false
theorem aaJ:dE Tryz.prog XW:=dG (ay (yw Ti)<|ay (yw Xl)<|ay (yw U6) bn)
theorem SX:WR (ev Tryz.prog XW 3000 (.call 8 [] (aW 1)))=true:=by kernel_rfl
def TA:Val:=fun das=>match das with | []=>some (true,.bool true) | _=>none
theorem ZZ:oI Tryz.prog 8 TA:=by
 intro das v hv
 unfold TA at hv
 split at hv
 ·have hv:=congrArg Prod.snd (Option.some.inj hv)
  subst hv
  refine ⟨rfl,?_⟩
  cases hr:ev Tryz.prog XW 3000 (.call 8 [] (aW 1)) with
  | none=>have:=SX;rw [hr] at this;cases this
  | some r =>
   have h:=SX
   rw [hr] at h
   cases r with
   | v x H' =>
    cases x with
    | bool b =>
     have h:b=true:=h
     subst h
     exact ⟨_,H',Ef aj aaJ hr,rfl⟩
    | _=>cases h
   | _=>cases h
 ·cases hv
end
end Go.Proofs.YtpfcfonplmhmiaaGreat
