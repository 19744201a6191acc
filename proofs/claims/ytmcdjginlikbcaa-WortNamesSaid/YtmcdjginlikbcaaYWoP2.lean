/- Stage 6: the closed calls. -/
import Derived.Test.YtmcdjginlikbcaaYWoE
set_option linter.all false
set_option linter.unusedSimpArgs false
set_option linter.unusedVariables false
namespace Go.Proofs.Ytmcdjginlikbcaa
namespace WE
open Go Go.Ev WO
set_option maxRecDepth 1000000
noncomputable section
def eP2 : Ent := eP 13 600 5 150
def eP5 : Ent := eP 16 600 5 150
def eP8 : Ent := eP 19 600 5 150
def eP11 : Ent := eP 8 480 7 270
def eP14 : Ent := eP 5 300 10 450
def eP17 : Ent := eP 11 630 4 120
def eP20 : Ent := eP 14 720 1 30
def eP23 : Ent := eP 10 600 7 150
def eP26 : Ent := eP 10 600 10 150
theorem rP2 : entRun Try.prog XK 3000 eP2 = true := by kernel_rfl
theorem rP5 : entRun Try.prog XK 3000 eP5 = true := by kernel_rfl
theorem rP8 : entRun Try.prog XK 3000 eP8 = true := by kernel_rfl
theorem rP11 : entRun Try.prog XK 3000 eP11 = true := by kernel_rfl
theorem rP14 : entRun Try.prog XK 3000 eP14 = true := by kernel_rfl
theorem rP17 : entRun Try.prog XK 3000 eP17 = true := by kernel_rfl
theorem rP20 : entRun Try.prog XK 3000 eP20 = true := by kernel_rfl
theorem rP23 : entRun Try.prog XK 3000 eP23 = true := by kernel_rfl
theorem rP26 : entRun Try.prog XK 3000 eP26 = true := by kernel_rfl
end
end WE
end Go.Proofs.Ytmcdjginlikbcaa
