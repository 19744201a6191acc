/- Stage 4: 'awake' returns true: a contract. -/
import Derived.Test.YtclagbonpachfaaGreatYPrC1
set_option linter.all false
set_option linter.unusedSimpArgs false
set_option linter.unusedVariables false
namespace Go.Proofs.YtclagbonpachfaaGreat
open Go Go.Ev
set_option maxRecDepth 1000000
noncomputable section
def isTrueR (r:Option Res):Bool:=match r with | some (.v (.bool b) _)=>b | _=>false
def XW:Ext:=conX [(63,cfM valCk),(76,cfM valBo),(35,cfM valCs)] false
theorem XW_ok:ExtOK Tryz.prog XW:=conX_ok (allCon_cons (con_okM conCk)<|allCon_cons (con_okM conBo)<|allCon_cons (con_okM conCs) allCon_nil)
theorem awakeC:isTrueR (ev Tryz.prog XW 3000 (.call 8 [] (heap0 1)))=true:=by kernel_rfl
def valAw:Val:=fun das=>match das with | []=>some (true,.bool true) | _=>none
theorem conAw:Con Tryz.prog 8 valAw:=by
  intro das v hv
  unfold valAw at hv
  split at hv
  · have hv:=congrArg Prod.snd (Option.some.inj hv)
    subst hv
    refine ⟨rfl,?_⟩
    cases hr:ev Tryz.prog XW 3000 (.call 8 [] (heap0 1)) with
    | none=>have:=awakeC;rw [hr] at this;cases this
    | some r =>
      have h:=awakeC
      rw [hr] at h
      cases r with
      | v x H' =>
        cases x with
        | bool b =>
          have h:b=true:=h
          subst h
          exact ⟨_,H',ev_call drawnC XW_ok hr,rfl⟩
        | _=>cases h
      | _=>cases h
  · cases hv
end
end Go.Proofs.YtclagbonpachfaaGreat
