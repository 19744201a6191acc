/- Stage 5: 'awake' as a contract. -/
import Derived.Test.YtflblednifbleaaYCaAll
set_option linter.all false
set_option linter.unusedSimpArgs false
set_option linter.unusedVariables false
namespace Go.Proofs.Ytflblednifbleaa
namespace CE
open Go Go.Ev
set_option maxRecDepth 1000000
noncomputable section
theorem sA:∀ (args:List V) (H:EH) (m:Mt),gy eA.rows H eA.args args=some m→SpecCall Try.prog eA.g args H eA.v H:=fun _ _ _ h=>gm drawn (G5 TJ Ov) rA h
def valAw:Val:=fun das=>match das with | []=>some (true,.bool true) | _=>none
theorem conAw:zA Try.prog 6 valAw:=by
 intro das v hv
 unfold valAw at hv
 split at hv
 ·have hv:=congrArg Prod.snd (Option.some.inj hv)
  subst hv
  exact ⟨rfl,.bool true,aY 1,sA [] (aY 1) [] (by kernel_rfl),rfl⟩
 ·cases hv
end
end CE
end Go.Proofs.Ytflblednifbleaa
