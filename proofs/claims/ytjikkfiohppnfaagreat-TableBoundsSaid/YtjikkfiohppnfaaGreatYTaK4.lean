/- Tables: contracts: Meanings. -/
import Derived.Test.YtjikkfiohppnfaaGreatYTaK3
import Derived.Test.YtjikkfiohppnfaaGreatYEe
set_option linter.all false
set_option linter.unusedSimpArgs false
set_option linter.unusedVariables false
namespace Go.Proofs.YtjikkfiohppnfaaGreat
open Go Go.Ev
set_option maxRecDepth 1000000
noncomputable section
noncomputable def mcN (lw : Nat) (fw : Nat → Nat → Int) (lm : Nat) (fm : Nat → Nat → Int) (f : Nat → Nat → Nat → Int) (wl wh sl sh : Int) : Nat := cntM (okm lw fw lm fm f wl wh sl sh) (fm 0 0) (nK lm fm)
noncomputable def mkR (lw : Nat) (fw : Nat → Nat → Int) (lm : Nat) (fm : Nat → Nat → Int) (f : Nat → Nat → Nat → Int) (wl wh sl sh : Int) (i : Nat) (_ : Nat) : Int := mkM (okm lw fw lm fm f wl wh sl sh) (fm 0 0) (nK lm fm) i
noncomputable def val76b : Val := fun das => match das with | [.st [.sl 1 lw fw, .sl 1 lm fm, .rr 1 n ls f], .st [.i .i64 wl, .i .i64 wh], .st [.i .i64 sl, .i .i64 sh]] => some (cond (iEq (tabE lw fw lm fm n ls f) 0) (rgI lw fw wl wh) false, .fz true 0 (cellsI .i64 (mkR lw fw lm fm f wl wh sl sh)) (mcN lw fw lm fm f wl wh sl sh) 1) | _ => none
theorem con76b : ConN Tryz.prog 76 val76b := con76
noncomputable def XN4 : Ext := conX [(23, cf valCk), (76, cfN val76b)] false
theorem XN4_ok : ExtOK Tryz.prog XN4 := conX_ok (allCon_cons (con_ok conCk) <| allCon_cons (con_okN con76b) allCon_nil)
noncomputable def nilIs (e : Int) (v : V) (_ : EH) : Prop := match v with | .tup [.nilSlice, .int .i64 e'] => e' = e | _ => False
noncomputable def rowEr (k : Nat) (len : Nat) (g : Nat → Nat → Int) (e : Int) (v : V) (_ : EH) : Prop := match v with | .tup [a, .int .i64 e'] => e' = e ∧ fzIs k a len g | _ => False
theorem k1 (lw : Nat) (fw : Nat → Nat → Int) (lm : Nat) (fm : Nat → Nat → Int) (n : Nat) (ls : Nat → Nat) (f : Nat → Nat → Nat → Int) (wl wh sl sh : Int) (s1 : lw ≤ 1000) (s2 : lm ≤ 1000) (s3 : n ≤ 1000) (s4 : shortB n ls = true) (h : ¬ tabE lw fw lm fm n ls f = 0) : VC (runDH Tryz.prog XN4 300 28 (enc [.st [.sl 1 lw fw, .sl 1 lm fm, .rr 1 n ls f], .st [.i .i64 wl, .i .i64 wh], .st [.i .i64 sl, .i .i64 sh]] 0) 3 (nilIs (tabE lw fw lm fm n ls f))) (.go 21 .nil) := VC_of (((cond (cond (cond (allI IntKind.i64 (cellsI IntKind.i64 fw) lw 1) (cond (allI IntKind.i64 (cellsI IntKind.i64 fm) lm 1) (cond (cond true (allR 2 (rowsI 2 1 ls f) n 1) false) true false) false) false) true false) (cond (Nat.ble lw 1000) (cond (Nat.ble lm 1000) (cond (Nat.ble n 1000) (shortB n ls) false) false) false) false) = true ∧ ((not (iEq (tabE lw fw lm fm n ls f) (0))) = true ∧ (((tabE lw fw lm fm n ls f) : Int) = (tabE lw fw lm fm n ls f)))))
theorem k2 (lw : Nat) (fw : Nat → Nat → Int) (lm : Nat) (fm : Nat → Nat → Int) (n : Nat) (ls : Nat → Nat) (f : Nat → Nat → Nat → Int) (wl wh sl sh : Int) (s1 : lw ≤ 1000) (s2 : lm ≤ 1000) (s3 : n ≤ 1000) (s4 : shortB n ls = true) (h : tabE lw fw lm fm n ls f = 0) (h2 : 2 ≤ lw ∧ lw ≤ 5) (hr : ¬ (wl ≤ wh ∧ fw 0 0 ≤ wl ∧ wl ≤ (fw (Int.toNat ((lw : Int) - 1)) 0) ∧ fw 0 0 ≤ wh ∧ wh ≤ (fw (Int.toNat ((lw : Int) - 1)) 0) ∧ sl ≤ sh)) : VC (runDH Tryz.prog XN4 300 28 (enc [.st [.sl 1 lw fw, .sl 1 lm fm, .rr 1 n ls f], .st [.i .i64 wl, .i .i64 wh], .st [.i .i64 sl, .i .i64 sh]] 0) 3 (nilIs 2)) (.go 1369 (.sp (.go 64 (.sp (.go 1024 (.sp (.go 262208 (.sp .nil (.go 80 .nil))) .nil)) .nil)) .nil)) := VC_of (((cond (cond (cond (allI IntKind.i64 (cellsI IntKind.i64 fw) lw 1) (cond (allI IntKind.i64 (cellsI IntKind.i64 fm) lm 1) (cond (cond true (allR 2 (rowsI 2 1 ls f) n 1) false) true false) false) false) true false) (cond (Nat.ble lw 1000) (cond (Nat.ble lm 1000) (cond (Nat.ble n 1000) (shortB n ls) false) false) false) false) = true ∧ ((not (iEq (tabE lw fw lm fm n ls f) (0))) = false ∧ ((Nat.blt 0 lw) = true ∧ ((small (((lw : Nat) : Int) - (1))) = true ∧ ((iIn (((lw : Nat) : Int) - (1)) lw) = true ∧ (((not (not (iLe wl wh))) = true → (((iLe (fw 0 0) wl) = true → (((iLe wl (fw (Int.toNat (((lw : Nat) : Int) - (1))) 0)) = true → ((iLe (fw 0 0) wh) = true ∧ (((not (iLe wh (fw (Int.toNat (((lw : Nat) : Int) - (1))) 0))) = true → (((2) : Int) = (2))) ∧
  ((not (iLe wh (fw (Int.toNat (((lw : Nat) : Int) - (1))) 0))) = false → ((not (iLe sl sh)) = true ∧ (((2) : Int) = (2))))))) ∧
  ((iLe wl (fw (Int.toNat (((lw : Nat) : Int) - (1))) 0)) = false → (((2) : Int) = (2))))) ∧
  ((iLe (fw 0 0) wl) = false → (((2) : Int) = (2))))) ∧
  ((not (not (iLe wl wh))) = false → (((2) : Int) = (2))))))))))
theorem k3 (lw : Nat) (fw : Nat → Nat → Int) (lm : Nat) (fm : Nat → Nat → Int) (n : Nat) (ls : Nat → Nat) (f : Nat → Nat → Nat → Int) (wl wh sl sh : Int) (s1 : lw ≤ 1000) (s2 : lm ≤ 1000) (s3 : n ≤ 1000) (s4 : shortB n ls = true) (h : tabE lw fw lm fm n ls f = 0) (h2 : 2 ≤ lw ∧ lw ≤ 5) (hr : wl ≤ wh ∧ fw 0 0 ≤ wl ∧ wl ≤ (fw (Int.toNat ((lw : Int) - 1)) 0) ∧ fw 0 0 ≤ wh ∧ wh ≤ (fw (Int.toNat ((lw : Int) - 1)) 0) ∧ sl ≤ sh) (hg : rgI lw fw wl wh = true) (hN : mcN lw fw lm fm f wl wh sl sh = 0) : VC (runDH Tryz.prog XN4 300 28 (enc [.st [.sl 1 lw fw, .sl 1 lm fm, .rr 1 n ls f], .st [.i .i64 wl, .i .i64 wh], .st [.i .i64 sl, .i .i64 sh]] 0) 3 (nilIs 7)) (.go 6199205163027400025 .nil) := VC_of (((cond (cond (cond (allI IntKind.i64 (cellsI IntKind.i64 fw) lw 1) (cond (allI IntKind.i64 (cellsI IntKind.i64 fm) lm 1) (cond (cond true (allR 2 (rowsI 2 1 ls f) n 1) false) true false) false) false) true false) (cond (Nat.ble lw 1000) (cond (Nat.ble lm 1000) (cond (Nat.ble n 1000) (shortB n ls) false) false) false) false) = true ∧ ((not (iEq (tabE lw fw lm fm n ls f) (0))) = false ∧ ((Nat.blt 0 lw) = true ∧ ((small (((lw : Nat) : Int) - (1))) = true ∧ ((iIn (((lw : Nat) : Int) - (1)) lw) = true ∧ ((not (not (iLe wl wh))) = true ∧ ((iLe (fw 0 0) wl) = true ∧ ((iLe wl (fw (Int.toNat (((lw : Nat) : Int) - (1))) 0)) = true ∧ ((iLe (fw 0 0) wh) = true ∧ ((not (iLe wh (fw (Int.toNat (((lw : Nat) : Int) - (1))) 0))) = false ∧ ((not (iLe sl sh)) = false ∧ ((cond (cond (cond (allI IntKind.i64 (cellsI IntKind.i64 fw) lw 1) (cond (allI IntKind.i64 (cellsI IntKind.i64 fm) lm 1) (cond (cond true (allR 2 (rowsI 2 1 ls f) n 1) false) true false) false) false) true false) (cond (iEq (tabE lw fw lm fm n ls f) (0)) (rgI lw fw wl wh) false) false) = true ∧ ((iEq (((mcN lw fw lm fm f wl wh sl sh) : Nat) : Int) (0)) = true ∧ (((7) : Int) = (7))))))))))))))))
theorem k4 (lw : Nat) (fw : Nat → Nat → Int) (lm : Nat) (fm : Nat → Nat → Int) (n : Nat) (ls : Nat → Nat) (f : Nat → Nat → Nat → Int) (wl wh sl sh : Int) (s1 : lw ≤ 1000) (s2 : lm ≤ 1000) (s3 : n ≤ 1000) (s4 : shortB n ls = true) (h : tabE lw fw lm fm n ls f = 0) (h2 : 2 ≤ lw ∧ lw ≤ 5) (hr : wl ≤ wh ∧ fw 0 0 ≤ wl ∧ wl ≤ (fw (Int.toNat ((lw : Int) - 1)) 0) ∧ fw 0 0 ≤ wh ∧ wh ≤ (fw (Int.toNat ((lw : Int) - 1)) 0) ∧ sl ≤ sh) (hg : rgI lw fw wl wh = true) (hN : ¬ mcN lw fw lm fm f wl wh sl sh = 0) : VC (runDH Tryz.prog XN4 300 28 (enc [.st [.sl 1 lw fw, .sl 1 lm fm, .rr 1 n ls f], .st [.i .i64 wl, .i .i64 wh], .st [.i .i64 sl, .i .i64 sh]] 0) 3 (rowEr 3 (mcN lw fw lm fm f wl wh sl sh) (mkR lw fw lm fm f wl wh sl sh) 0)) (.go 7352126667634247001 .nil) := VC_of (((cond (cond (cond (allI IntKind.i64 (cellsI IntKind.i64 fw) lw 1) (cond (allI IntKind.i64 (cellsI IntKind.i64 fm) lm 1) (cond (cond true (allR 2 (rowsI 2 1 ls f) n 1) false) true false) false) false) true false) (cond (Nat.ble lw 1000) (cond (Nat.ble lm 1000) (cond (Nat.ble n 1000) (shortB n ls) false) false) false) false) = true ∧ ((not (iEq (tabE lw fw lm fm n ls f) (0))) = false ∧ ((Nat.blt 0 lw) = true ∧ ((small (((lw : Nat) : Int) - (1))) = true ∧ ((iIn (((lw : Nat) : Int) - (1)) lw) = true ∧ ((not (not (iLe wl wh))) = true ∧ ((iLe (fw 0 0) wl) = true ∧ ((iLe wl (fw (Int.toNat (((lw : Nat) : Int) - (1))) 0)) = true ∧ ((iLe (fw 0 0) wh) = true ∧ ((not (iLe wh (fw (Int.toNat (((lw : Nat) : Int) - (1))) 0))) = false ∧ ((not (iLe sl sh)) = false ∧ ((cond (cond (cond (allI IntKind.i64 (cellsI IntKind.i64 fw) lw 1) (cond (allI IntKind.i64 (cellsI IntKind.i64 fm) lm 1) (cond (cond true (allR 2 (rowsI 2 1 ls f) n 1) false) true false) false) false) true false) (cond (iEq (tabE lw fw lm fm n ls f) (0)) (rgI lw fw wl wh) false) false) = true ∧ ((iEq (((mcN lw fw lm fm f wl wh sl sh) : Nat) : Int) (0)) = false ∧ ((((0) : Int) = (0)) ∧ (((V.fz true 18 (cellsI .i64 (fun (ii jj : Nat) => (mkR lw fw lm fm f wl wh sl sh ii jj))) (mcN lw fw lm fm f wl wh sl sh) 1) : V) = (V.fz true 18 (cellsI .i64 (fun (ii jj : Nat) => (mkR lw fw lm fm f wl wh sl sh ii jj))) (mcN lw fw lm fm f wl wh sl sh) 1)))))))))))))))))
noncomputable def msB (sl sh : Int) : Bool := iLe sl sh
noncomputable def meE (lw : Nat) (fw : Nat → Nat → Int) (lm : Nat) (fm : Nat → Nat → Int) (n : Nat) (ls : Nat → Nat) (f : Nat → Nat → Nat → Int) (wl wh sl sh : Int) : Int := cond (iEq (tabE lw fw lm fm n ls f) 0) (cond (cond (rgI lw fw wl wh) (msB sl sh) false) (cond (Nat.beq (mcN lw fw lm fm f wl wh sl sh) 0) 7 0) 2) (tabE lw fw lm fm n ls f)
noncomputable def meN (lw : Nat) (fw : Nat → Nat → Int) (lm : Nat) (fm : Nat → Nat → Int) (n : Nat) (ls : Nat → Nat) (f : Nat → Nat → Nat → Int) (wl wh sl sh : Int) : Nat := cond (iEq (meE lw fw lm fm n ls f wl wh sl sh) 0) (mcN lw fw lm fm f wl wh sl sh) 0
noncomputable def valMe : Val := fun das => match das with | [.st [.sl 1 lw fw, .sl 1 lm fm, .rr 1 n ls f], .st [.i .i64 wl, .i .i64 wh], .st [.i .i64 sl, .i .i64 sh]] => some (smB lw lm n ls, .tup [.fz true 0 (cellsI .i64 (mkR lw fw lm fm f wl wh sl sh)) (meN lw fw lm fm n ls f wl wh sl sh) 1, .int .i64 (meE lw fw lm fm n ls f wl wh sl sh)]) | _ => none
theorem meE_cases (lw : Nat) (fw : Nat → Nat → Int) (lm : Nat) (fm : Nat → Nat → Int) (n : Nat) (ls : Nat → Nat) (f : Nat → Nat → Nat → Int) (wl wh sl sh : Int) :
    (¬ tabE lw fw lm fm n ls f = 0 ∧ meE lw fw lm fm n ls f wl wh sl sh = tabE lw fw lm fm n ls f ∧ meN lw fw lm fm n ls f wl wh sl sh = 0) ∨
    (TabOk lw fw lm fm n ls f ∧ tabE lw fw lm fm n ls f = 0 ∧ ¬ (rgB lw fw wl wh ∧ sl ≤ sh) ∧ meE lw fw lm fm n ls f wl wh sl sh = 2 ∧ meN lw fw lm fm n ls f wl wh sl sh = 0) ∨
    (TabOk lw fw lm fm n ls f ∧ tabE lw fw lm fm n ls f = 0 ∧ rgB lw fw wl wh ∧ sl ≤ sh ∧ mcN lw fw lm fm f wl wh sl sh = 0 ∧ meE lw fw lm fm n ls f wl wh sl sh = 7 ∧ meN lw fw lm fm n ls f wl wh sl sh = 0) ∨
    (TabOk lw fw lm fm n ls f ∧ tabE lw fw lm fm n ls f = 0 ∧ rgB lw fw wl wh ∧ sl ≤ sh ∧ ¬ mcN lw fw lm fm f wl wh sl sh = 0 ∧ meE lw fw lm fm n ls f wl wh sl sh = 0 ∧ meN lw fw lm fm n ls f wl wh sl sh = mcN lw fw lm fm f wl wh sl sh) := by
  by_cases h : tabE lw fw lm fm n ls f = 0
  · have ok := tabE_get h
    by_cases hr : rgB lw fw wl wh ∧ sl ≤ sh
    · have e0 : meE lw fw lm fm n ls f wl wh sl sh = cond (Nat.beq (mcN lw fw lm fm f wl wh sl sh) 0) 7 0 := by unfold meE msB; rw [(iEq_t _ _).mpr h, rgI_t.mpr hr.1, (iLe_t _ _).mpr hr.2]; rfl
      by_cases hn : mcN lw fw lm fm f wl wh sl sh = 0
      · have e : meE lw fw lm fm n ls f wl wh sl sh = 7 := by rw [e0, hn]; rfl
        exact .inr (.inr (.inl ⟨ok, h, hr.1, hr.2, hn, e, by unfold meN; rw [e]; rfl⟩))
      · have q : Nat.beq (mcN lw fw lm fm f wl wh sl sh) 0 = false := by
          cases q : Nat.beq (mcN lw fw lm fm f wl wh sl sh) 0 with
          | true => exact absurd (nb q) hn
          | false => rfl
        have e : meE lw fw lm fm n ls f wl wh sl sh = 0 := by rw [e0, q]; rfl
        exact .inr (.inr (.inr ⟨ok, h, hr.1, hr.2, hn, e, by unfold meN; rw [e]; rfl⟩))
    · have q : cond (rgI lw fw wl wh) (msB sl sh) false = false := by
        cases q : cond (rgI lw fw wl wh) (msB sl sh) false with
        | false => rfl
        | true => obtain ⟨q1, q2⟩ := cond_tt q; exact absurd ⟨rgI_t.mp q1, (iLe_t _ _).mp q2⟩ hr
      have e : meE lw fw lm fm n ls f wl wh sl sh = 2 := by unfold meE; rw [(iEq_t _ _).mpr h, q]; rfl
      exact .inr (.inl ⟨ok, h, hr, e, by unfold meN; rw [e]; rfl⟩)
  · have e : meE lw fw lm fm n ls f wl wh sl sh = tabE lw fw lm fm n ls f := by unfold meE; rw [(iEq_f _ _).mpr h]; rfl
    exact .inl ⟨h, e, by unfold meN; rw [e, (iEq_f _ _).mpr h]; rfl⟩
theorem nilIs_fn {e : Int} {v : V} {H : EH} (h : nilIs e v H) (k new : Nat) (g : Nat → Nat → Int) : FnV H k new v (ageN new (.tup [.fz true 0 (cellsI .i64 g) 0 1, .int .i64 e])) := by
  unfold nilIs at h
  split at h
  · subst h
    refine .tup rfl fun i h1 h2 => ?_
    match i, h1, h2 with
    | 0, _, _ => exact .one .nilS
    | 1, _, _ => exact .one (.int _ _)
    | (i + 2), h1, _ => exact absurd h1 (by simp)
  · exact h.elim
theorem rowEr_fn {k len : Nat} {g : Nat → Nat → Int} {e : Int} {v : V} {H : EH} (h : rowEr k len g e v H) (new : Nat) : FnV H k new v (ageN new (.tup [.fz true 0 (cellsI .i64 g) len 1, .int .i64 e])) := by
  unfold rowEr at h
  split at h
  · obtain ⟨h0, h⟩ := h
    subst h0
    refine .tup rfl fun i h1 h2 => ?_
    match i, h1, h2 with
    | 0, _, _ => exact .one (fzIs_fn h new)
    | 1, _, _ => exact .one (.int _ _)
    | (i + 2), h1, _ => exact absurd h1 (by simp)
  · exact h.elim
theorem conMe : ConN Tryz.prog 28 valMe := by
  intro das v hv
  unfold valMe at hv
  split at hv
  · rename_i lw fw lm fm n ls f wl wh sl sh
    have hb := congrArg Prod.fst (Option.some.inj hv)
    have hv := congrArg Prod.snd (Option.some.inj hv)
    subst hv
    obtain ⟨s1, s2, s3, s4⟩ := smB_get hb
    have hg : ∀ {wl wh sl sh : Int}, 2 ≤ lw → rgB lw fw wl wh → sl ≤ sh → (wl ≤ wh ∧ fw 0 0 ≤ wl ∧ wl ≤ (fw (Int.toNat ((lw : Int) - 1)) 0) ∧ fw 0 0 ≤ wh ∧ wh ≤ (fw (Int.toNat ((lw : Int) - 1)) 0) ∧ sl ≤ sh) := fun w2 q1 q2 => by
      rw [last_n w2]
      exact ⟨q1.1, q1.2.1.1, q1.2.1.2, q1.2.2.1, q1.2.2.2, q2⟩
    rcases meE_cases lw fw lm fm n ls f wl wh sl sh with ⟨h, e1, e2⟩ | ⟨ok, h, hr, e1, e2⟩ | ⟨ok, h, h1, h2, h3, e1, e2⟩ | ⟨ok, h, h1, h2, h3, e1, e2⟩ <;> rw [e1, e2]
    · obtain ⟨v', H', q1, q2⟩ := runDH_ok drawnC XN4_ok (k1 lw fw lm fm n ls f wl wh sl sh s1 s2 s3 s4 h)
      exact ⟨v', H', q1, fun new => nilIs_fn q2 _ new _⟩
    · obtain ⟨v', H', q1, q2⟩ := runDH_ok drawnC XN4_ok (k2 lw fw lm fm n ls f wl wh sl sh s1 s2 s3 s4 h ⟨ok.w.two, ok.w.five⟩ (by
        rw [last_n ok.w.two]
        intro q
        exact hr ⟨⟨q.1, ⟨q.2.1, q.2.2.1⟩, ⟨q.2.2.2.1, q.2.2.2.2.1⟩⟩, q.2.2.2.2.2⟩))
      exact ⟨v', H', q1, fun new => nilIs_fn q2 _ new _⟩
    · obtain ⟨v', H', q1, q2⟩ := runDH_ok drawnC XN4_ok (k3 lw fw lm fm n ls f wl wh sl sh s1 s2 s3 s4 h ⟨ok.w.two, ok.w.five⟩ (hg ok.w.two h1 h2) (rgI_t.mpr h1) h3)
      exact ⟨v', H', q1, fun new => nilIs_fn q2 _ new _⟩
    · obtain ⟨v', H', q1, q2⟩ := runDH_ok drawnC XN4_ok (k4 lw fw lm fm n ls f wl wh sl sh s1 s2 s3 s4 h ⟨ok.w.two, ok.w.five⟩ (hg ok.w.two h1 h2) (rgI_t.mpr h1) h3)
      exact ⟨v', H', q1, fun new => rowEr_fn q2 new⟩
  · cases hv
end
end Go.Proofs.YtjikkfiohppnfaaGreat
