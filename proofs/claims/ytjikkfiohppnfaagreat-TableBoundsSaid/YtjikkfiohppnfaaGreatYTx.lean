/- Tables: the chapter's example as data; what the closed calls give. -/
import Derived.Test.YtjikkfiohppnfaaGreatYTa
import Derived.Test.YtjikkfiohppnfaaGreatYEe
set_option linter.all false
set_option linter.unusedSimpArgs false
set_option linter.unusedVariables false
namespace Go.Proofs.YtjikkfiohppnfaaGreat
open Go Go.Ev
set_option maxRecDepth 1000000
noncomputable section
noncomputable def nthLI (l : List (List Int)) (i : Nat) : List Int := l.getD i []
noncomputable def tD (m : Int) : DA := .st [.sl 1 3 (fun i _ => nthI [10, 14, 20] i), .sl 1 3 (fun i _ => nthI [0, 10, 20] i), .rr 1 3 (fun _ => 3) (fun i j _ => nthI (nthLI [[100, 140, 200], [90, m, 192], [80, 120, 170]] i) j)]
noncomputable def iD (a : Int) : DA := .one (.i .i64 a)
noncomputable def rD (a b : Int) : DA := .st [.i .i64 a, .i .i64 b]
noncomputable def vi (a : Int) : V := .int .i64 a
noncomputable def vrg (a b : Int) : V := .agg 2 (T.setL .lf 0 [vi a, vi b])
noncomputable def vrow (l : List Int) : V := .fz true 0 (fun i _ => .int .i64 (nthI l i)) (lenS' l) 1
noncomputable def vsp (l : List (List Int)) : V := .fz true 0 (fun i j => .int .i64 (nthI (nthLI l i) j)) (lenS' l) 2
noncomputable def dsp (l : List (List Int)) : DA := .one (.sl 2 (lenS' l) (fun i j => nthI (nthLI l i) j))
noncomputable def XT1s : Ext := conX [(67, cfM val67)] false
theorem XT1s_ok : ExtOK Tryz.prog XT1s := conX_ok (allCon_cons (con_okM con67) allCon_nil)
noncomputable def cBo (m a b c d l h e : Int) : CL := ⟨26, [tD m, rD a b, rD c d], .tup [vrg l h, vi e]⟩
noncomputable def cMe (m a b c d : Int) (v : V) (e : Int) : CL := ⟨28, [tD m, rD a b, rD c d], .tup [v, vi e]⟩
noncomputable def cMi (m : Int) (v : V) : CL := ⟨34, [tD m], .tup [v, vi 0]⟩
noncomputable def cTh (m k : Int) (r c : V) (e : Int) : CL := ⟨47, [tD m, iD k], .tup [r, c, vi e]⟩
noncomputable def cPm (m : Int) (l : DA) (k : Int) (b : Bool) : CL := ⟨43, [tD m, l, iD k], .bool b⟩
end
end Go.Proofs.YtjikkfiohppnfaaGreat
/- Tables: closed calls. -/
namespace Go.Proofs.YtjikkfiohppnfaaGreat
open Go Go.Ev
set_option maxRecDepth 1000000
noncomputable section
theorem k_bo1 : clRun Tryz.prog XT1s 3000 (cBo 131 12 14 0 5 90 115 0) = true := by kernel_rfl
theorem k_me1 : clRun Tryz.prog XT1s 3000 (cMe 131 10 12 135 136 (vrow [9,10]) 0) = true := by kernel_rfl
end
end Go.Proofs.YtjikkfiohppnfaaGreat
/- Tables: closed calls. -/
namespace Go.Proofs.YtjikkfiohppnfaaGreat
open Go Go.Ev
set_option maxRecDepth 1000000
noncomputable section
theorem k_mi3 : clRun Tryz.prog XT1s 3000 (cMi 210 (vsp [[1,1]])) = true := by kernel_rfl
end
end Go.Proofs.YtjikkfiohppnfaaGreat
/- Tables: closed calls. -/
namespace Go.Proofs.YtjikkfiohppnfaaGreat
open Go Go.Ev
set_option maxRecDepth 1000000
noncomputable section
theorem k_pm1 : clRun Tryz.prog XT1s 3000 (cPm 210 (dsp [[1,1]]) 1 true) = true := by kernel_rfl
end
end Go.Proofs.YtjikkfiohppnfaaGreat
/- Tables: closed calls. -/
namespace Go.Proofs.YtjikkfiohppnfaaGreat
open Go Go.Ev
set_option maxRecDepth 1000000
noncomputable section
theorem k_th1 : clRun Tryz.prog XT1s 3000 (cTh 131 20 (vrow [0,2]) (vrow [0,2]) 0) = true := by kernel_rfl
end
end Go.Proofs.YtjikkfiohppnfaaGreat
