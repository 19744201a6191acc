/- Tables: contracts: whether some number of a row is in a range. -/
import Derived.Test.YtjikkfiohppnfaaGreatYTaM6
import Derived.Test.YtjikkfiohppnfaaGreatYEe
set_option linter.all false
set_option linter.unusedSimpArgs false
set_option linter.unusedVariables false
namespace Go.Proofs.YtjikkfiohppnfaaGreat
open Go Go.Ev
set_option maxRecDepth 1000000
noncomputable section
noncomputable def ixI (lo hi : Int) (g : Nat → Nat → Int) (len : Nat) : Int := Nat.rec (-1) (fun k ih => cond (iLe 0 ih) ih (cond (inB lo hi g k) (k : Int) (-1))) len
noncomputable def noB (lo hi : Int) (g : Nat → Nat → Int) (i : Nat) : Bool := not (inB lo hi g i)
noncomputable def anyI (lo hi : Int) (g : Nat → Nat → Int) (len : Nat) : Bool := not (allN (noB lo hi g) len)
noncomputable def ltX : LT := ⟨[0,1,7,8],[],[4],2⟩
noncomputable def sX (lo hi : Int) (len : Nat) (g : Nat → Nat → Int) (k : Nat) : LS := ⟨[.fz true 0 (cellsI .i64 g) len 1, clH lo hi, .int .i64 len, .int .i64 k], []⟩
noncomputable def bX : Code := sub [1,0,1,0,0] (bodyOf Tryz.prog 128)
theorem eX (lo hi : Int) (len : Nat) (g : Nat → Nat → Int) : VC (entD Tryz.prog noExt 300 128 [1,0,1,0] (dasA lo hi len g) (heap0 2) ltX 19 60 (sX lo hi len g 0)) .nil := VC_of ((True ∧ (((((V.fz true 0 (cellsI .i64 g) len 1) : V) = (V.fz true 0 (cellsI .i64 g) len 1)) ∧ (((V.func 65
  [V.agg (lenS' [D0.i IntKind.i64 lo, D0.i IntKind.i64 hi])
      (T.lf.setL 0 (encL [D0.i IntKind.i64 lo, D0.i IntKind.i64 hi] (nxD (DA.one (D0.sl 1 len g)) 0)))]
  [] : V) = V.func 65 [V.agg 2 (T.lf.setL 0 [V.int IntKind.i64 lo, V.int IntKind.i64 hi])] []) ∧ (((((len : Nat) : Int) : Int) = ((len : Nat) : Int)) ∧ ((((0) : Int) = ((0 : Nat) : Int)) ∧ True)))) ∧ True)))
theorem rX1 (lo hi : Int) (len k : Nat) (g : Nat → Nat → Int) (h1 : k < len) (h2 : len ≤ 1000000) (h3 : ¬ (lo ≤ g k 0 ∧ g k 0 ≤ hi)) : VC (roundD Tryz.prog noExt 300 bX (heap0 2) ltX 19 60 (sX lo hi len g k) (.next (sX lo hi len g (k + 1)))) (.go 21 (.sp (.go 5632 .nil) (.go 5120 .nil))) := VC_of (((not (iLe ((len : Nat) : Int) ((k : Nat) : Int))) = true ∧ ((Nat.blt k len) = true ∧ (((iLe lo (g k 0)) = true → ((iLe (g k 0) hi) = false ∧ ((small (((k : Nat) : Int) + (1))) = true ∧ (((((V.fz true 0 (cellsI .i64 g) len 1) : V) = (V.fz true 0 (cellsI .i64 g) len 1)) ∧ (((V.func 65 [V.agg 2 (T.lf.setL 0 [V.int IntKind.i64 lo, V.int IntKind.i64 hi])] [] : V) = V.func 65 [V.agg 2 (T.lf.setL 0 [V.int IntKind.i64 lo, V.int IntKind.i64 hi])] []) ∧ (((((len : Nat) : Int) : Int) = ((len : Nat) : Int)) ∧ ((((((k : Nat) : Int) + (1)) : Int) = (((k + 1) : Nat) : Int)) ∧ True)))) ∧ True)))) ∧
  ((iLe lo (g k 0)) = false → ((small (((k : Nat) : Int) + (1))) = true ∧ (((((V.fz true 0 (cellsI .i64 g) len 1) : V) = (V.fz true 0 (cellsI .i64 g) len 1)) ∧ (((V.func 65 [V.agg 2 (T.lf.setL 0 [V.int IntKind.i64 lo, V.int IntKind.i64 hi])] [] : V) = V.func 65 [V.agg 2 (T.lf.setL 0 [V.int IntKind.i64 lo, V.int IntKind.i64 hi])] []) ∧ (((((len : Nat) : Int) : Int) = ((len : Nat) : Int)) ∧ ((((((k : Nat) : Int) + (1)) : Int) = (((k + 1) : Nat) : Int)) ∧ True)))) ∧ True)))))))
theorem rX2 (lo hi : Int) (len k : Nat) (g : Nat → Nat → Int) (h1 : k < len) (h2 : len ≤ 1000000) (h3 : lo ≤ g k 0) (h4 : g k 0 ≤ hi) : VC (roundD Tryz.prog noExt 300 bX (heap0 2) ltX 19 60 (sX lo hi len g k) (.ret ⟨[.int .i64 k], []⟩)) (.go 81941 .nil) := VC_of (((not (iLe ((len : Nat) : Int) ((k : Nat) : Int))) = true ∧ ((Nat.blt k len) = true ∧ ((iLe lo (g k 0)) = true ∧ ((iLe (g k 0) hi) = true ∧ ((((((k : Nat) : Int) : Int) = ((k : Nat) : Int)) ∧ True) ∧ True))))))
theorem rX3 (lo hi : Int) (len k : Nat) (g : Nat → Nat → Int) (h1 : ¬ k < len) : VC (roundD Tryz.prog noExt 300 bX (heap0 2) ltX 19 60 (sX lo hi len g k) (.exit 0 ⟨[], []⟩)) (.go 6 .nil) := VC_of (((not (iLe ((len : Nat) : Int) ((k : Nat) : Int))) = false ∧ (True ∧ True)))
theorem fX1  : VC (fromD Tryz.prog noExt 300 128 [1,0,1,0] (Lv.res ltX 19 (endH (heap0 2) ltX 60 (.exit 0 ⟨[], []⟩)) (.exit 0 ⟨[], []⟩)) (.int .i64 (-1))) .nil := VC_of ((((-1) : Int) = (-1)))
theorem fX2 (k : Nat) : VC (fromD Tryz.prog noExt 300 128 [1,0,1,0] (Lv.res ltX 19 (endH (heap0 2) ltX 60 (.ret ⟨[.int .i64 k], []⟩)) (.ret ⟨[.int .i64 k], []⟩)) (.int .i64 k)) .nil := VC_of (((((k : Nat) : Int) : Int) = ((k : Nat) : Int)))
noncomputable def valIx : Val := fun das => match das with | [.one (.sl 1 len g), .cl 65 [.i .i64 lo, .i .i64 hi]] => some (Nat.ble len 1000000, .int .i64 (ixI lo hi g len)) | _ => none
theorem ix_none {lo hi : Int} {g : Nat → Nat → Int} : ∀ {len : Nat}, (∀ i, i < len → noB lo hi g i = true) → ixI lo hi g len = -1 := by
  intro len
  induction len with
  | zero => intro _; rfl
  | succ len ih =>
    intro h
    have e : ixI lo hi g (len + 1) = cond (iLe 0 (ixI lo hi g len)) (ixI lo hi g len) (cond (inB lo hi g len) (len : Int) (-1)) := rfl
    have q := h len (by omega)
    unfold noB at q
    rw [e, ih fun i hi => h i (by omega)]
    cases hb : inB lo hi g len with
    | true => rw [hb] at q; cases q
    | false => rfl
theorem ix_at {lo hi : Int} {g : Nat → Nat → Int} {N : Nat} (h : ∀ i, i < N → noB lo hi g i = true) (hN : inB lo hi g N = true) : ∀ {len : Nat}, N < len → ixI lo hi g len = (N : Int) := by
  intro len
  induction len with
  | zero => intro q; omega
  | succ len ih =>
    intro q
    have e : ixI lo hi g (len + 1) = cond (iLe 0 (ixI lo hi g len)) (ixI lo hi g len) (cond (inB lo hi g len) (len : Int) (-1)) := rfl
    rw [e]
    by_cases c : N = len
    · subst c
      rw [ix_none h, hN]; rfl
    · rw [ih (by omega), (iLe_t _ _).mpr (show (0 : Int) ≤ (N : Int) by omega)]; rfl
theorem no_t {lo hi : Int} {g : Nat → Nat → Int} {k : Nat} (h : noB lo hi g k = true) : ¬ (lo ≤ g k 0 ∧ g k 0 ≤ hi) := by
  unfold noB inB at h
  intro q
  rw [decide_eq_true q] at h; cases h
theorem no_f {lo hi : Int} {g : Nat → Nat → Int} {k : Nat} (h : noB lo hi g k = false) : inB lo hi g k = true := by
  unfold noB at h
  cases q : inB lo hi g k with
  | true => rfl
  | false => rw [q] at h; cases h
theorem conIx : Con Tryz.prog 128 valIx := by
  intro das v hv
  unfold valIx at hv
  split at hv
  · rename_i len g lo hi
    have hb := Nat.le_of_ble_eq_true (congrArg Prod.fst (Option.some.inj hv))
    have hv := congrArg Prod.snd (Option.some.inj hv)
    subst hv
    refine ⟨rfl, ?_⟩
    rcases first_bad (noB lo hi g) len with h | ⟨N, h1, h2, h3⟩
    · rw [ix_none h]
      exact con_loopD drawnC noExt_ok (das := dasA lo hi len g) (lv := .exit 0 ⟨[], []⟩) (by kernel_rfl) (by kernel_rfl) (eX lo hi len g).ok (loop_rule (body := bX) (fun _ e => by cases e) len (sX lo hi len g) (fun k hk =>
        round_of drawnC noExt_ok (rX1 lo hi len k g hk hb (no_t (h k hk))).ok (by kernel_rfl) (by kernel_rfl)) (round_of drawnC noExt_ok (rX3 lo hi len len g (by omega)).ok (by kernel_rfl) (by kernel_rfl))) fX1.ok
    · have q := no_f h3
      rw [ix_at h2 q h1]
      unfold inB at q
      have q := of_decide_eq_true q
      exact con_loopD drawnC noExt_ok (das := dasA lo hi len g) (lv := .ret ⟨[.int .i64 N], []⟩) (by kernel_rfl) (by kernel_rfl) (eX lo hi len g).ok (loop_rule (body := bX) (fun _ e => by cases e) N (sX lo hi len g) (fun k hk =>
        round_of drawnC noExt_ok (rX1 lo hi len k g (by omega) hb (no_t (h2 k hk))).ok (by kernel_rfl) (by kernel_rfl)) (round_of drawnC noExt_ok (rX2 lo hi len N g h1 hb q.1 q.2).ok (by kernel_rfl) (by kernel_rfl))) (fX2 N).ok
  · cases hv
noncomputable def XC : Ext := conX [(128, cf valIx)] false
theorem XC_ok : ExtOK Tryz.prog XC := conX_ok (allCon_cons (con_ok conIx) allCon_nil)
theorem cX1 (lo hi : Int) (len : Nat) (g : Nat → Nat → Int) (h2 : len ≤ 1000000) (h : 0 ≤ ixI lo hi g len) : VC (runD0 Tryz.prog XC 300 105 (enc (dasA lo hi len g) 0) 1 (fun v => valP v (.bool true))) (.go 5 .nil) := VC_of (((cond (cond (allI IntKind.i64 (cellsI IntKind.i64 g) len 1) true false) (Nat.ble len 1000000) false) = true ∧ ((iLe (0) (ixI lo hi g len)) = true)))
theorem cX2 (lo hi : Int) (len : Nat) (g : Nat → Nat → Int) (h2 : len ≤ 1000000) (h : ¬ 0 ≤ ixI lo hi g len) : VC (runD0 Tryz.prog XC 300 105 (enc (dasA lo hi len g) 0) 1 (fun v => valP v (.bool false))) (.go 5 .nil) := VC_of (((cond (cond (allI IntKind.i64 (cellsI IntKind.i64 g) len 1) true false) (Nat.ble len 1000000) false) = true ∧ ((iLe (0) (ixI lo hi g len)) = false)))
noncomputable def valCf : Val := fun das => match das with | [.one (.sl 1 len g), .cl 65 [.i .i64 lo, .i .i64 hi]] => some (Nat.ble len 1000000, .bool (anyI lo hi g len)) | _ => none
theorem conCf : Con Tryz.prog 105 valCf := by
  intro das v hv
  unfold valCf at hv
  split at hv
  · rename_i len g lo hi
    have hb := Nat.le_of_ble_eq_true (congrArg Prod.fst (Option.some.inj hv))
    have hv := congrArg Prod.snd (Option.some.inj hv)
    subst hv
    rcases first_bad (noB lo hi g) len with h | ⟨N, h1, h2, h3⟩
    · have e : anyI lo hi g len = false := by unfold anyI; rw [allN_true h]; rfl
      rw [e]
      exact con_runV drawnC XC_ok rfl (das := dasA lo hi len g) (cX2 lo hi len g hb (by rw [ix_none h]; omega))
    · have e : anyI lo hi g len = true := by unfold anyI; rw [allN_false h1 h3]; rfl
      rw [e]
      exact con_runV drawnC XC_ok rfl (das := dasA lo hi len g) (cX1 lo hi len g hb (by rw [ix_at h2 (no_f h3) h1]; omega))
  · cases hv
end
end Go.Proofs.YtjikkfiohppnfaaGreat
