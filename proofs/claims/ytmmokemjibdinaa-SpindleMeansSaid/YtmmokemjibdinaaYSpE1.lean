/- Stage 1: SpindleSees: the reference's Floats. -/
import Derived.Test.YtmmokemjibdinaaYSpD1
import Derived.Test.YtmmokemjibdinaaYSpF
set_option linter.all false
set_option linter.unusedSimpArgs false
set_option linter.unusedVariables false
namespace Go.Proofs.Ytmmokemjibdinaa
open Go Go.Ev
set_option maxRecDepth 1000000
noncomputable section
def rfI (D lo hi : Int) : Int := cond (iLe lo D) (cond (iLe D hi) 0 (-1)) (-2)
theorem rfI_2 {D lo hi : Int} (h : D < lo) : -2 = rfI D lo hi := by unfold rfI; rw [(iLe_f lo D).mpr h]; rfl
theorem rfI_1 {D lo hi : Int} (h : lo ≤ D) (h2 : hi < D) : -1 = rfI D lo hi := by unfold rfI; rw [(iLe_t lo D).mpr h, (iLe_f D hi).mpr h2]; rfl
theorem rfI_0 {D lo hi : Int} (h : lo ≤ D) (h2 : D ≤ hi) : 0 = rfI D lo hi := by unfold rfI; rw [(iLe_t lo D).mpr h, (iLe_t D hi).mpr h2]; rfl
def X53 : Ext := conX [(53, cf val53)] false
theorem X53_ok : ExtOK Try.prog X53 := conX_ok (allCon_cons (con_ok con53) allCon_nil)
end
end Go.Proofs.Ytmmokemjibdinaa
