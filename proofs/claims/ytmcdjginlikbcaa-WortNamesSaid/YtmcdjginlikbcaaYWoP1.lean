/- Stage 6: the closed calls. -/
import Derived.Test.YtmcdjginlikbcaaYWoE
set_option linter.all false
set_option linter.unusedSimpArgs false
set_option linter.unusedVariables false
namespace Go.Proofs.Ytmcdjginlikbcaa
namespace WE
open Go Go.Ev WO
set_option maxRecDepth 1000000
noncomputable section
def eP1 : Ent := eP 12 600 5 150
def eP4 : Ent := eP 15 600 5 150
def eP7 : Ent := eP 18 600 5 150
def eP10 : Ent := eP 9 540 6 210
def eP13 : Ent := eP 6 360 9 390
def eP16 : Ent := eP 3 180 12 570
def eP19 : Ent := eP 13 690 2 60
def eP22 : Ent := eP 10 600 6 150
def eP25 : Ent := eP 10 600 9 150
def eP28 : Ent := eP 10 600 12 150
theorem rP1 : entRun Try.prog XK 3000 eP1 = true := by kernel_rfl
theorem rP4 : entRun Try.prog XK 3000 eP4 = true := by kernel_rfl
theorem rP7 : entRun Try.prog XK 3000 eP7 = true := by kernel_rfl
theorem rP10 : entRun Try.prog XK 3000 eP10 = true := by kernel_rfl
theorem rP13 : entRun Try.prog XK 3000 eP13 = true := by kernel_rfl
theorem rP16 : entRun Try.prog XK 3000 eP16 = true := by kernel_rfl
theorem rP19 : entRun Try.prog XK 3000 eP19 = true := by kernel_rfl
theorem rP22 : entRun Try.prog XK 3000 eP22 = true := by kernel_rfl
theorem rP25 : entRun Try.prog XK 3000 eP25 = true := by kernel_rfl
theorem rP28 : entRun Try.prog XK 3000 eP28 = true := by kernel_rfl
end
end WE
end Go.Proofs.Ytmcdjginlikbcaa
