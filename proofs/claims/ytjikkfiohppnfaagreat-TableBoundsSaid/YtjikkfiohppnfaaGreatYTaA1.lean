/- Tables: contracts: At. -/
import Derived.Test.YtjikkfiohppnfaaGreatYTaA0
set_option linter.all false
set_option linter.unusedSimpArgs false
set_option linter.unusedVariables false
namespace Go.Proofs.YtjikkfiohppnfaaGreat
open Go Go.Ev
set_option maxRecDepth 1000000
set_option maxHeartbeats 0
noncomputable section
theorem rAt1 (lw : Nat) (fw : Nat → Nat → Int) (lm : Nat) (fm : Nat → Nat → Int) (n : Nat) (ls : Nat → Nat) (f : Nat → Nat → Nat → Int) (x y : Int) (s1 : lw ≤ 1000) (s2 : lm ≤ 1000) (s3 : n ≤ 1000) (s4 : shortB n ls = true) (h : ¬ tabE lw fw lm fm n ls f = 0) : VC (runD0 Tryz.prog XA 300 20 (enc [.st [.sl 1 lw fw, .sl 1 lm fm, .rr 1 n ls f], .one (.i .i64 x), .one (.i .i64 y)] 0) 3 (fun v => valP v (.tup [.int .i64 0, .int .i64 (tabE lw fw lm fm n ls f)]))) (.go 21 .nil) := VC_of (((cond (cond (cond (allI IntKind.i64 (cellsI IntKind.i64 fw) lw 1) (cond (allI IntKind.i64 (cellsI IntKind.i64 fm) lm 1) (cond (cond true (allR 2 (rowsI 2 1 ls f) n 1) false) true false) false) false) true false) (cond (Nat.ble lw 1000) (cond (Nat.ble lm 1000) (cond (Nat.ble n 1000) (shortB n ls) false) false) false) false) = true ∧ ((not (iEq (tabE lw fw lm fm n ls f) (0))) = true ∧ ((((0) : Int) = (0)) ∧ ((((tabE lw fw lm fm n ls f) : Int) = (tabE lw fw lm fm n ls f)) ∧ True)))))
theorem rAt2 (lw : Nat) (fw : Nat → Nat → Int) (lm : Nat) (fm : Nat → Nat → Int) (n : Nat) (ls : Nat → Nat) (f : Nat → Nat → Nat → Int) (x y : Int) (s1 : lw ≤ 1000) (s2 : lm ≤ 1000) (s3 : n ≤ 1000) (s4 : shortB n ls = true) (h : tabE lw fw lm fm n ls f = 0) (h2 : 2 ≤ lw) (h3 : 2 ≤ lm) (hr : ¬ (fw 0 0 ≤ x ∧ x ≤ fw (Int.toNat ((lw : Int) - 1)) 0 ∧ fm 0 0 ≤ y ∧ y ≤ fm (Int.toNat ((lm : Int) - 1)) 0)) : VC (runD0 Tryz.prog XA 300 20 (enc [.st [.sl 1 lw fw, .sl 1 lm fm, .rr 1 n ls f], .one (.i .i64 x), .one (.i .i64 y)] 0) 3 (fun v => valP v (.tup [.int .i64 0, .int .i64 2]))) (.go 1369 (.sp (.go 256 (.sp .nil (.go 4180 (.sp (.go 20480 .nil) .nil)))) .nil)) := VC_of (((cond (cond (cond (allI IntKind.i64 (cellsI IntKind.i64 fw) lw 1) (cond (allI IntKind.i64 (cellsI IntKind.i64 fm) lm 1) (cond (cond true (allR 2 (rowsI 2 1 ls f) n 1) false) true false) false) false) true false) (cond (Nat.ble lw 1000) (cond (Nat.ble lm 1000) (cond (Nat.ble n 1000) (shortB n ls) false) false) false) false) = true ∧ ((not (iEq (tabE lw fw lm fm n ls f) (0))) = false ∧ ((Nat.blt 0 lw) = true ∧ ((small (((lw : Nat) : Int) - (1))) = true ∧ ((iIn (((lw : Nat) : Int) - (1)) lw) = true ∧ (((iLe (fw 0 0) x) = true → (((not (iLe x (fw (Int.toNat (((lw : Nat) : Int) - (1))) 0))) = true → ((((0) : Int) = (0)) ∧ ((((2) : Int) = (2)) ∧ True))) ∧
  ((not (iLe x (fw (Int.toNat (((lw : Nat) : Int) - (1))) 0))) = false → ((Nat.blt 0 lm) = true ∧ ((small (((lm : Nat) : Int) - (1))) = true ∧ ((iIn (((lm : Nat) : Int) - (1)) lm) = true ∧ (((iLe (fm 0 0) y) = true → ((not (iLe y (fm (Int.toNat (((lm : Nat) : Int) - (1))) 0))) = true ∧ ((((0) : Int) = (0)) ∧ ((((2) : Int) = (2)) ∧ True)))) ∧
  ((iLe (fm 0 0) y) = false → ((((0) : Int) = (0)) ∧ ((((2) : Int) = (2)) ∧ True)))))))))) ∧
  ((iLe (fw 0 0) x) = false → ((((0) : Int) = (0)) ∧ ((((2) : Int) = (2)) ∧ True))))))))))
theorem rAt3 (lw : Nat) (fw : Nat → Nat → Int) (lm : Nat) (fm : Nat → Nat → Int) (n : Nat) (ls : Nat → Nat) (f : Nat → Nat → Nat → Int) (x y : Int) (s1 : lw ≤ 1000) (s2 : lm ≤ 1000) (s3 : n ≤ 1000) (s4 : shortB n ls = true) (h : tabE lw fw lm fm n ls f = 0) (h2 : 2 ≤ lw) (h3 : 2 ≤ lm) (r1 : fw 0 0 ≤ x) (r2 : x ≤ fw (Int.toNat ((lw : Int) - 1)) 0) (r3 : fm 0 0 ≤ y) (r4 : y ≤ fm (Int.toNat ((lm : Int) - 1)) 0) (ho : stOkB lw fw lm fm n ls f x y = true) : VC (runD0 Tryz.prog XA 300 20 (enc [.st [.sl 1 lw fw, .sl 1 lm fm, .rr 1 n ls f], .one (.i .i64 x), .one (.i .i64 y)] 0) 3 (fun v => valP v (.tup [.int .i64 (strI lw fw lm fm f x y), .int .i64 0]))) (.go 6192467021923673 .nil) := VC_of (((cond (cond (cond (allI IntKind.i64 (cellsI IntKind.i64 fw) lw 1) (cond (allI IntKind.i64 (cellsI IntKind.i64 fm) lm 1) (cond (cond true (allR 2 (rowsI 2 1 ls f) n 1) false) true false) false) false) true false) (cond (Nat.ble lw 1000) (cond (Nat.ble lm 1000) (cond (Nat.ble n 1000) (shortB n ls) false) false) false) false) = true ∧ ((not (iEq (tabE lw fw lm fm n ls f) (0))) = false ∧ ((Nat.blt 0 lw) = true ∧ ((small (((lw : Nat) : Int) - (1))) = true ∧ ((iIn (((lw : Nat) : Int) - (1)) lw) = true ∧ ((iLe (fw 0 0) x) = true ∧ ((not (iLe x (fw (Int.toNat (((lw : Nat) : Int) - (1))) 0))) = false ∧ ((Nat.blt 0 lm) = true ∧ ((small (((lm : Nat) : Int) - (1))) = true ∧ ((iIn (((lm : Nat) : Int) - (1)) lm) = true ∧ ((iLe (fm 0 0) y) = true ∧ ((not (iLe y (fm (Int.toNat (((lm : Nat) : Int) - (1))) 0))) = false ∧ ((cond (cond (cond (allI IntKind.i64 (cellsI IntKind.i64 fw) lw 1) (cond (allI IntKind.i64 (cellsI IntKind.i64 fm) lm 1) (cond (cond true (allR 2 (rowsI 2 1 ls f) n 1) false) true false) false) false) true false) (stOkB lw fw lm fm n ls f x y) false) = true ∧ ((((strI lw fw lm fm f x y) : Int) = (strI lw fw lm fm f x y)) ∧ ((((0) : Int) = (0)) ∧ True))))))))))))))))
theorem conAt : Con Tryz.prog 20 valAt := by
  intro das v hv
  unfold valAt at hv
  split at hv
  · rename_i lw fw lm fm n ls f x y
    have hb := congrArg Prod.fst (Option.some.inj hv)
    have hv := congrArg Prod.snd (Option.some.inj hv)
    subst hv
    obtain ⟨s1, s2, s3, s4⟩ := smB_get hb
    rcases atE_cases lw fw lm fm n ls f x y with ⟨h, e1, e2⟩ | ⟨ok, h, hr, e1, e2⟩ | ⟨ok, h, h1, h2, e1, e2⟩ <;> rw [e1, e2]
    · exact con_runV drawnC XA_ok rfl (das := [.st [.sl 1 lw fw, .sl 1 lm fm, .rr 1 n ls f], .one (.i .i64 x), .one (.i .i64 y)]) (rAt1 lw fw lm fm n ls f x y s1 s2 s3 s4 h)
    · refine con_runV drawnC XA_ok rfl (das := [.st [.sl 1 lw fw, .sl 1 lm fm, .rr 1 n ls f], .one (.i .i64 x), .one (.i .i64 y)]) (rAt2 lw fw lm fm n ls f x y s1 s2 s3 s4 h ok.w.two ok.m.two ?_)
      rw [last_n ok.w.two, last_n ok.m.two]
      intro q
      exact hr ⟨⟨q.1, q.2.1⟩, ⟨q.2.2.1, q.2.2.2⟩⟩
    · refine con_runV drawnC XA_ok rfl (das := [.st [.sl 1 lw fw, .sl 1 lm fm, .rr 1 n ls f], .one (.i .i64 x), .one (.i .i64 y)]) (rAt3 lw fw lm fm n ls f x y s1 s2 s3 s4 h ok.w.two ok.m.two h1.1 ?_ h2.1 ?_ (st_ok ok h1 h2))
      · rw [last_n ok.w.two]; exact h1.2
      · rw [last_n ok.m.two]; exact h2.2
  · cases hv
end
end Go.Proofs.YtjikkfiohppnfaaGreat
