/- Stage 4: 'awake' returns true: a contract. -/
import Derived.Test.YtiplgejpopellaaGreatYPrC1
set_option linter.all false
set_option linter.unusedSimpArgs false
set_option linter.unusedVariables false
namespace Go.Proofs.YtiplgejpopellaaGreat
open Go Go.Ev
set_option maxRecDepth 1000000
noncomputable section
def VI (r:Option Res):Bool:=match r with | some (.v (.bool b) _)=>b | _=>false
def XW:Ext:=jI [(56,cfM EG),(70,cfM TZ),(30,cfM FI)] false
theorem YS:dH Tryz.prog XW:=dJ (aB (rX Ri)<|aB (rX WE)<|aB (rX QK) bD)
theorem Ud:VI (ev Tryz.prog XW 3000 (.call 7 [] (aP 1)))=true:=by kernel_rfl
def Qu:Val:=fun das=>match das with | []=>some (true,.bool true) | _=>none
theorem YX:oC Tryz.prog 7 Qu:=by
 intro das v hv
 unfold Qu at hv
 split at hv
 ·have hv:=congrArg Prod.snd (Option.some.inj hv)
  subst hv
  refine ⟨rfl,?_⟩
  cases hr:ev Tryz.prog XW 3000 (.call 7 [] (aP 1)) with
  | none=>have:=Ud;rw [hr] at this;cases this
  | some r =>
   have h:=Ud
   rw [hr] at h
   cases r with
   | v x H' =>
    cases x with
    | bool b =>
     have h:b=true:=h
     subst h
     exact ⟨_,H',Ci ax YS hr,rfl⟩
    | _=>cases h
   | _=>cases h
 ·cases hv
end
end Go.Proofs.YtiplgejpopellaaGreat
