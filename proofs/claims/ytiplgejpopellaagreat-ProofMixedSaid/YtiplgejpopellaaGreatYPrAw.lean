/- Stage 4: 'awake' returns true: a contract. -/
import Derived.Test.YtiplgejpopellaaGreatYPrC1
set_option linter.all false
set_option linter.unusedSimpArgs false
set_option linter.unusedVariables false
namespace Go.Proofs.YtiplgejpopellaaGreat
open Go Go.Ev
set_option maxRecDepth 1000000
noncomputable section
def Vq (r:Option Res):Bool:=match r with | some (.v (.bool b) _)=>b | _=>false
def XW:Ext:=ku [(56,cfM Gg),(70,cfM Qw),(30,cfM Gw)] false
theorem ZQ:dE Tryz.prog XW:=dH (aA (xn P6)<|aA (xn Xk)<|aA (xn RU) bJ)
theorem QM:Vq (ev Tryz.prog XW 3000 (.call 7 [] (aP 1)))=true:=by kernel_rfl
def PQ:Val:=fun das=>match das with | []=>some (true,.bool true) | _=>none
theorem Z5:qi Tryz.prog 7 PQ:=by
 intro das v hv
 unfold PQ at hv
 split at hv
 ·have hv:=congrArg Prod.snd (Option.some.inj hv)
  subst hv
  refine ⟨rfl,?_⟩
  cases hr:ev Tryz.prog XW 3000 (.call 7 [] (aP 1)) with
  | none=>have:=QM;rw [hr] at this;cases this
  | some r =>
   have h:=QM
   rw [hr] at h
   cases r with
   | v x H' =>
    cases x with
    | bool b =>
     have h:b=true:=h
     subst h
     exact ⟨_,H',ED aj ZQ hr,rfl⟩
    | _=>cases h
   | _=>cases h
 ·cases hv
end
end Go.Proofs.YtiplgejpopellaaGreat
