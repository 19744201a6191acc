/- Stage 6: the closed calls. -/
import Derived.Test.YtmcdjginlikbcaaYWoE
set_option linter.all false
set_option linter.unusedSimpArgs false
set_option linter.unusedVariables false
namespace Go.Proofs.Ytmcdjginlikbcaa
namespace WE
open Go Go.Ev WO
set_option maxRecDepth 1000000
noncomputable section
def eP0 : Ent := eP 11 600 5 150
def eP3 : Ent := eP 14 600 5 150
def eP6 : Ent := eP 17 600 5 150
def eP9 : Ent := eP 20 600 5 150
def eP12 : Ent := eP 7 420 8 330
def eP15 : Ent := eP 4 240 11 510
def eP18 : Ent := eP 12 660 3 90
def eP21 : Ent := eP 15 750 0 0
def eP24 : Ent := eP 10 600 8 150
def eP27 : Ent := eP 10 600 11 150
theorem rP0 : entRun Try.prog XK 3000 eP0 = true := by kernel_rfl
theorem rP3 : entRun Try.prog XK 3000 eP3 = true := by kernel_rfl
theorem rP6 : entRun Try.prog XK 3000 eP6 = true := by kernel_rfl
theorem rP9 : entRun Try.prog XK 3000 eP9 = true := by kernel_rfl
theorem rP12 : entRun Try.prog XK 3000 eP12 = true := by kernel_rfl
theorem rP15 : entRun Try.prog XK 3000 eP15 = true := by kernel_rfl
theorem rP18 : entRun Try.prog XK 3000 eP18 = true := by kernel_rfl
theorem rP21 : entRun Try.prog XK 3000 eP21 = true := by kernel_rfl
theorem rP24 : entRun Try.prog XK 3000 eP24 = true := by kernel_rfl
theorem rP27 : entRun Try.prog XK 3000 eP27 = true := by kernel_rfl
end
end WE
end Go.Proofs.Ytmcdjginlikbcaa
