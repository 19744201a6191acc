/- Stage 4: 'awake' returns true: a contract. -/
import Derived.Test.YtiplgejpopellaaGreatYPrC1
set_option linter.all false
set_option linter.unusedSimpArgs false
set_option linter.unusedVariables false
namespace Go.Proofs.YtiplgejpopellaaGreat
open Go Go.Ev
set_option maxRecDepth 1000000
noncomputable section
def WL (r:Option Res):Bool:=match r with | some (.v (.bool b) _)=>b | _=>false
def XW:Ext:=jO [(56,cfM HY),(70,cfM VZ),(30,cfM Ee)] false
theorem aaE:dM Tryz.prog XW:=dW (aA (vV Td)<|aA (vV Yy)<|aA (vV SH) bK)
theorem U5:WL (ev Tryz.prog XW 3000 (.call 7 [] (aU 1)))=true:=by kernel_rfl
def TW:Val:=fun das=>match das with | []=>some (true,.bool true) | _=>none
theorem aai:qi Tryz.prog 7 TW:=by
 intro das v hv
 unfold TW at hv
 split at hv
 ·have hv:=congrArg Prod.snd (Option.some.inj hv)
  subst hv
  refine ⟨rfl,?_⟩
  cases hr:ev Tryz.prog XW 3000 (.call 7 [] (aU 1)) with
  | none=>have:=U5;rw [hr] at this;cases this
  | some r =>
   have h:=U5
   rw [hr] at h
   cases r with
   | v x H' =>
    cases x with
    | bool b =>
     have h:b=true:=h
     subst h
     exact ⟨_,H',EW aj aaE hr,rfl⟩
    | _=>cases h
   | _=>cases h
 ·cases hv
end
end Go.Proofs.YtiplgejpopellaaGreat
