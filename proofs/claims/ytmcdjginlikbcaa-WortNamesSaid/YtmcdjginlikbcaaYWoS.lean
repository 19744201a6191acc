/- Stage 6: a wort that can't be made. -/
import Derived.Test.YtmcdjginlikbcaaYWoP0
import Derived.Test.YtmcdjginlikbcaaYWoP1
import Derived.Test.YtmcdjginlikbcaaYWoP2
set_option linter.all false
set_option linter.unusedSimpArgs false
set_option linter.unusedVariables false
namespace Go.Proofs.Ytmcdjginlikbcaa
namespace WE
open Go Go.Ev WO
set_option maxRecDepth 1000000
noncomputable section
def eps : List Ent := [eP0, eP1, eP2, eP3, eP4, eP5, eP6, eP7, eP8, eP9, eP10, eP11, eP12, eP13, eP14, eP15, eP16, eP17, eP18, eP19, eP20, eP21, eP22, eP23, eP24, eP25, eP26, eP27, eP28]
theorem eps_ok : EntsOK Try.prog eps := .cons (fun _ _ _ h => ent_sound drawn XK_ok rP0 h) <| .cons (fun _ _ _ h => ent_sound drawn XK_ok rP1 h) <| .cons (fun _ _ _ h => ent_sound drawn XK_ok rP2 h) <| .cons (fun _ _ _ h => ent_sound drawn XK_ok rP3 h) <| .cons (fun _ _ _ h => ent_sound drawn XK_ok rP4 h) <| .cons (fun _ _ _ h => ent_sound drawn XK_ok rP5 h) <| .cons (fun _ _ _ h => ent_sound drawn XK_ok rP6 h) <| .cons (fun _ _ _ h => ent_sound drawn XK_ok rP7 h) <| .cons (fun _ _ _ h => ent_sound drawn XK_ok rP8 h) <| .cons (fun _ _ _ h => ent_sound drawn XK_ok rP9 h) <| .cons (fun _ _ _ h => ent_sound drawn XK_ok rP10 h) <| .cons (fun _ _ _ h => ent_sound drawn XK_ok rP11 h) <| .cons (fun _ _ _ h => ent_sound drawn XK_ok rP12 h) <| .cons (fun _ _ _ h => ent_sound drawn XK_ok rP13 h) <| .cons (fun _ _ _ h => ent_sound drawn XK_ok rP14 h) <| .cons (fun _ _ _ h => ent_sound drawn XK_ok rP15 h) <| .cons (fun _ _ _ h => ent_sound drawn XK_ok rP16 h) <| .cons (fun _ _ _ h => ent_sound drawn XK_ok rP17 h) <| .cons (fun _ _ _ h => ent_sound drawn XK_ok rP18 h) <| .cons (fun _ _ _ h => ent_sound drawn XK_ok rP19 h) <| .cons (fun _ _ _ h => ent_sound drawn XK_ok rP20 h) <| .cons (fun _ _ _ h => ent_sound drawn XK_ok rP21 h) <| .cons (fun _ _ _ h => ent_sound drawn XK_ok rP22 h) <| .cons (fun _ _ _ h => ent_sound drawn XK_ok rP23 h) <| .cons (fun _ _ _ h => ent_sound drawn XK_ok rP24 h) <| .cons (fun _ _ _ h => ent_sound drawn XK_ok rP25 h) <| .cons (fun _ _ _ h => ent_sound drawn XK_ok rP26 h) <| .cons (fun _ _ _ h => ent_sound drawn XK_ok rP27 h) <| .cons (fun _ _ _ h => ent_sound drawn XK_ok rP28 h) .nil
def XS : Ext := orX (entX (List.append eps eks)) XC
theorem XS_ok : ExtOK Try.prog XS := orX_ok (entX_ok (allApp eps_ok eks_ok)) XC_ok
theorem rS : entRun Try.prog XS 3000 eS = true := by kernel_rfl
end
end WE
end Go.Proofs.Ytmcdjginlikbcaa
