/- Casks: contracts of the law's side: the reference's tenths and duty, what a truth is. -/
import Derived.Test.YtjlghnijlkgbaaaGreatYPrC4
import Derived.Test.YtjlghnijlkgbaaaGreatYTaR3
import Derived.Test.YtjlghnijlkgbaaaGreatYTaM5
set_option linter.all false
set_option linter.unusedSimpArgs false
set_option linter.unusedVariables false
namespace Go.Proofs.YtjlghnijlkgbaaaGreat
open Go Go.Ev
set_option maxRecDepth 1000000
set_option maxHeartbeats 0
noncomputable section
variable (lw : Nat) (fw : Nat → Nat → Int) (lm : Nat) (fm : Nat → Nat → Int) (n : Nat) (ls : Nat → Nat) (f : Nat → Nat → Nat → Int)
def ltX : LT := ⟨[0,1,5],[5],[],1⟩
def sX (g s : Int) (k : Nat) : LS := ⟨[.int .i64 g, .int .i64 s, .int .i64 k], []⟩
def bX : Code := sub [1,1,0,0,0] (bodyOf Tryz.prog 29)
theorem eX (g s : Int) : VC (entD Tryz.prog noExt 300 29 [1,1,0,0] [.one (.i .i64 g), .one (.i .i64 s)] (heap0 1) ltX 16 60 (sX g s 0)) .nil := VC_of ((True ∧ ((((g : Int) = g) ∧ (((s : Int) = s) ∧ ((((0) : Int) = (0)) ∧ True))) ∧ True)))
theorem rX1 (g s : Int) (k : Nat) (hp : 0 ≤ g * s ∧ g * s ≤ 1000000) (h : 100 * ((k : Int) + 1) ≤ g * s) : VC (roundD Tryz.prog noExt 300 bX (heap0 1) ltX 16 60 (sX g s k) (.next (sX g s (k + 1)))) (.go 1365 .nil) := VC_of (((small (((k : Nat) : Int) + (1))) = true ∧ ((small ((100) * (((k : Nat) : Int) + (1)))) = true ∧ ((small (g * s)) = true ∧ ((iLe ((100) * (((k : Nat) : Int) + (1))) (g * s)) = true ∧ ((small (((k : Nat) : Int) + (1))) = true ∧ ((((g : Int) = g) ∧ (((s : Int) = s) ∧ ((((((k : Nat) : Int) + (1)) : Int) = (((k + 1) : Nat) : Int)) ∧ True))) ∧ True)))))))
theorem rX2 (g s : Int) (k : Nat) (hp : 0 ≤ g * s ∧ g * s ≤ 1000000) (hk : k ≤ 1000000) (h : ¬ 100 * ((k : Int) + 1) ≤ g * s) : VC (roundD Tryz.prog noExt 300 bX (heap0 1) ltX 16 60 (sX g s k) (.exit 0 ⟨[.int .i64 k], []⟩)) (.go 405 .nil) := VC_of (((small (((k : Nat) : Int) + (1))) = true ∧ ((small ((100) * (((k : Nat) : Int) + (1)))) = true ∧ ((small (g * s)) = true ∧ ((iLe ((100) * (((k : Nat) : Int) + (1))) (g * s)) = false ∧ ((((((k : Nat) : Int) : Int) = ((k : Nat) : Int)) ∧ True) ∧ True))))))
theorem fX (k : Nat) : VC (fromD Tryz.prog noExt 300 29 [1,1,0,0] (Lv.res ltX 16 (endH (heap0 1) ltX 60 (.exit 0 ⟨[.int .i64 k], []⟩)) (.exit 0 ⟨[.int .i64 k], []⟩)) (.int .i64 k)) .nil := VC_of (((((k : Nat) : Int) : Int) = ((k : Nat) : Int)))
def valRt : Val := fun das => match das with | [.one (.i .i64 g), .one (.i .i64 s)] => some (cond (gaB g) (srB s) false, .int .i64 (Int.tdiv (g * s) 100)) | _ => none
theorem conRt : Con Tryz.prog 29 valRt := by
  intro das v hv
  unfold valRt at hv
  split at hv
  · rename_i g s
    have hb := congrArg Prod.fst (Option.some.inj hv)
    have hv := congrArg Prod.snd (Option.some.inj hv)
    subst hv
    obtain ⟨h1, h2⟩ := cond_tt hb
    have hp := gt_bd (gaB_t.mp h1) (srB_t.mp h2)
    refine ⟨rfl, ?_⟩
    obtain ⟨N, hN⟩ : ∃ N : Nat, Int.tdiv (g * s) 100 = (N : Int) := ⟨(g * s / 100).toNat, by rw [Int.tdiv_eq_ediv_of_nonneg hp.1]; omega⟩
    rw [Int.tdiv_eq_ediv_of_nonneg hp.1] at hN ⊢
    rw [hN]
    exact con_loopD drawnC noExt_ok (das := [.one (.i .i64 g), .one (.i .i64 s)]) (lv := .exit 0 ⟨[.int .i64 N], []⟩) (by kernel_rfl) (by kernel_rfl) (eX g s).ok (loop_rule (body := bX) (fun _ e => by cases e) N (sX g s) (fun k hk =>
      round_of drawnC noExt_ok (rX1 g s k (by omega) (by omega)).ok (by kernel_rfl) (by kernel_rfl)) (round_of drawnC noExt_ok (rX2 g s N (by omega) (by omega) (by omega)).ok (by kernel_rfl) (by kernel_rfl))) (fX N).ok
  · cases hv
def owB (x r : Int) : Bool := cond (iLe 0 x) (cond (iLe x 1980) (raB r) false) false
theorem ow1 (x r v : Int) (hp : 0 ≤ x * r ∧ x * r ≤ 1000000) (hm : 0 < Int.tmod (x * r) 10 ∧ Int.tmod (x * r) 10 < 10) (hv : Int.tdiv ((x * r) + (10 - Int.tmod (x * r) 10)) 10 = v) (hb : 0 ≤ v ∧ v ≤ 1000000) : VC (runD0 Tryz.prog noExt 300 66 (enc [.one (.i .i64 x), .one (.i .i64 r)] 0) 0 (fun y => valP y (.int .i64 v))) (.go 83217 .nil) := VC_of (((small (x * r)) = true ∧ ((not (iLe (Int.tmod (x * r) (10)) (0))) = true ∧ ((small ((10) - (Int.tmod (x * r) (10)))) = true ∧ ((small ((x * r) + ((10) - (Int.tmod (x * r) (10))))) = true ∧ ((small (Int.tdiv ((x * r) + ((10) - (Int.tmod (x * r) (10)))) (10))) = true ∧ (((Int.tdiv ((x * r) + ((10) - (Int.tmod (x * r) (10)))) (10)) : Int) = v)))))))
theorem ow2 (x r v : Int) (hp : 0 ≤ x * r ∧ x * r ≤ 1000000) (hm : Int.tmod (x * r) 10 = 0) (hv : Int.tdiv (x * r) 10 = v) (hb : 0 ≤ v ∧ v ≤ 1000000) : VC (runD0 Tryz.prog noExt 300 66 (enc [.one (.i .i64 x), .one (.i .i64 r)] 0) 0 (fun y => valP y (.int .i64 v))) (.go 1313 .nil) := VC_of (((small (x * r)) = true ∧ ((not (iLe (Int.tmod (x * r) (10)) (0))) = false ∧ ((small (Int.tdiv (x * r) (10))) = true ∧ (((Int.tdiv (x * r) (10)) : Int) = v)))))
def valRo : Val := fun das => match das with | [.one (.i .i64 x), .one (.i .i64 r)] => some (owB x r, .int .i64 (Int.tdiv (x * r + 9) 10)) | _ => none
theorem owB_t {x r : Int} : owB x r = true ↔ (0 ≤ x ∧ x ≤ 1980) ∧ 0 ≤ r ∧ r ≤ 200 := by
  unfold owB
  constructor
  · intro h
    obtain ⟨h1, h⟩ := cond_tt h
    obtain ⟨h2, h3⟩ := cond_tt h
    exact ⟨⟨(iLe_t _ _).mp h1, (iLe_t _ _).mp h2⟩, raB_t.mp h3⟩
  · rintro ⟨⟨h1, h2⟩, h3⟩
    rw [(iLe_t _ _).mpr h1, (iLe_t _ _).mpr h2, raB_t.mpr h3]; rfl
theorem conRo : Con Tryz.prog 66 valRo := by
  intro das v hv
  unfold valRo at hv
  split at hv
  · rename_i x r
    have hb := congrArg Prod.fst (Option.some.inj hv)
    have hv := congrArg Prod.snd (Option.some.inj hv)
    subst hv
    obtain ⟨h1, h2⟩ := owB_t.mp hb
    obtain ⟨p, q⟩ := nr_bd h1 h2
    have e := Int.tmod_eq_emod_of_nonneg (b := 10) p.1
    by_cases hm : Int.tmod (x * r) 10 = 0
    · refine con_runV drawnC noExt_ok rfl (das := [.one (.i .i64 x), .one (.i .i64 r)]) (ow2 x r _ p hm ?_ q)
      rw [Int.tdiv_eq_ediv_of_nonneg p.1, Int.tdiv_eq_ediv_of_nonneg (by omega)]
      omega
    · refine con_runV drawnC noExt_ok rfl (das := [.one (.i .i64 x), .one (.i .i64 r)]) (ow1 x r _ p (by omega) ?_ q)
      rw [Int.tdiv_eq_ediv_of_nonneg (by omega), Int.tdiv_eq_ediv_of_nonneg (by omega)]
      omega
  · cases hv
def tnG (fc t : Nat → Nat → Int) (i : Nat) : Int := Int.tdiv (fc i 0 * t i 0) 100
def duG (fc : Nat → Nat → Int) (r : Int) (t : Nat → Nat → Int) (k : Nat) : Int := Nat.rec (motive := fun _ => Int) 0 (fun i ih => ih + Int.tdiv (tnG fc t i * r + 9) 10) k
def tgB (fc t : Nat → Nat → Int) (i : Nat) : Bool := cond (gaB (fc i 0)) (srB (t i 0)) false
def XRd : Ext := conX [(29, cf valRt), (66, cf valRo)] false
theorem XRd_ok : ExtOK Tryz.prog XRd := conX_ok (allCon_cons (con_ok conRt) <| allCon_cons (con_ok conRo) allCon_nil)
def baseD (lw : Nat) (fw : Nat → Nat → Int) (lm : Nat) (fm : Nat → Nat → Int) (n : Nat) (ls : Nat → Nat) (f : Nat → Nat → Nat → Int) (r : Int) (nc : Nat) (fc : Nat → Nat → Int) : EH := ⟨setAt [(6, encL [.sl 1 lw fw, .sl 1 lm fm, .rr 1 n ls f, .i .i64 r, .sl 5 nc fc] 0)] .lf, 7, .lf, big⟩
def ltD : LT := ⟨[1,2,5,6],[5],[],7⟩
def sD (k : Nat) (t : Nat → Nat → Int) (c : Int) (i : Nat) : LS := ⟨[.fz true 4 (cellsI .i64 t) k 1, .ptr 6 0, .int .i64 c, .int .i64 i], []⟩
def bD : Code := sub [1,1,0,1,0,0] (bodyOf Tryz.prog 28)
theorem eD (r : Int) (nc : Nat) (fc : Nat → Nat → Int) (k : Nat) (t : Nat → Nat → Int) : VC (entD Tryz.prog XRd 300 28 [1,1,0,1,0] [.st [.sl 1 lw fw, .sl 1 lm fm, .rr 1 n ls f, .i .i64 r, .sl 5 nc fc], .one (.sl 1 k t)] (baseD lw fw lm fm n ls f r nc fc) ltD 30 60 (sD k t 0 0)) .nil := VC_of (((True ∧ (True ∧ (True ∧ (True ∧ (((((V.fz true 0 (cellsI .i64 fw) lw 1) : V) = (V.fz true 0 (cellsI .i64 fw) lw 1)) ∧ (((((V.fz true 1 (cellsI .i64 fm) lm 1) : V) = (V.fz true 1 (cellsI .i64 fm) lm 1)) ∧ ((((r : Int) = r) ∧ (True ∧ True)) ∧ True)) ∧ ((((V.fz true 2 (rowsI 2 1 ls f) n 1) : V) = (V.fz true 2 (rowsI 2 1 ls f) n 1)) ∧ (((((V.fz true 3 (cellsI .i64 fc) nc 5) : V) = (V.fz true 3 (cellsI .i64 fc) nc 5)) ∧ (True ∧ True)) ∧ True)))) ∧ (True ∧ True)))))) ∧ (((((V.fz true 4 (cellsI .i64 t) k 1) : V) = (V.fz true 4 (cellsI .i64 t) k 1)) ∧ ((((V.ptr 6 0) : V) = (V.ptr 6 0)) ∧ ((((0) : Int) = (0)) ∧ ((((0) : Int) = (0)) ∧ True)))) ∧ True)))
theorem rD1 (r : Int) (nc : Nat) (fc : Nat → Nat → Int) (k : Nat) (t : Nat → Nat → Int) (c : Int) (i : Nat) (h1 : i < k) (h2 : i < nc) (h3 : k ≤ 1000) (g1 : gaB (fc i 0) = true) (g2 : srB (t i 0) = true) (g3 : owB (Int.tdiv (fc i 0 * t i 0) 100) r = true) (hc : 0 ≤ c ∧ c ≤ 1000000000) (hq : 0 ≤ Int.tdiv (Int.tdiv (fc i 0 * t i 0) 100 * r + 9) 10 ∧ Int.tdiv (Int.tdiv (fc i 0 * t i 0) 100 * r + 9) 10 ≤ 1000000) : VC (roundD Tryz.prog XRd 300 bD (baseD lw fw lm fm n ls f r nc fc) ltD 30 60 (sD k t c i) (.next (sD k t (c + Int.tdiv (Int.tdiv (fc i 0 * t i 0) 100 * r + 9) 10) (i + 1)))) (.go 21845 .nil) := VC_of (((not (iLe ((k : Nat) : Int) ((i : Nat) : Int))) = true ∧ ((Nat.blt i nc) = true ∧ ((Nat.blt i k) = true ∧ ((cond true (cond (gaB (fc i 0)) (srB (t i 0)) false) false) = true ∧ ((cond true (owB (Int.tdiv ((fc i 0) * (t i 0)) (100)) r) false) = true ∧ ((small (c + (Int.tdiv (((Int.tdiv ((fc i 0) * (t i 0)) (100)) * r) + (9)) (10)))) = true ∧ ((small (((i : Nat) : Int) + (1))) = true ∧ (((((V.fz true 4 (cellsI .i64 t) k 1) : V) = (V.fz true 4 (cellsI .i64 t) k 1)) ∧ ((((V.ptr 6 0) : V) = (V.ptr 6 0)) ∧ ((((c + (Int.tdiv (((Int.tdiv ((fc i 0) * (t i 0)) (100)) * r) + (9)) (10))) : Int) = (c + (Int.tdiv (((Int.tdiv ((fc i 0) * (t i 0)) (100)) * r) + (9)) (10)))) ∧ ((((((i : Nat) : Int) + (1)) : Int) = (((i + 1) : Nat) : Int)) ∧ True)))) ∧ True)))))))))
theorem rD2 (r : Int) (nc : Nat) (fc : Nat → Nat → Int) (k : Nat) (t : Nat → Nat → Int) (c : Int) (i : Nat) (h1 : ¬ i < k) : VC (roundD Tryz.prog XRd 300 bD (baseD lw fw lm fm n ls f r nc fc) ltD 30 60 (sD k t c i) (.exit 0 ⟨[.int .i64 c], []⟩)) (.go 6 .nil) := VC_of (((not (iLe ((k : Nat) : Int) ((i : Nat) : Int))) = false ∧ ((((c : Int) = c) ∧ True) ∧ True)))
theorem fD (r : Int) (nc : Nat) (fc : Nat → Nat → Int) (c : Int) : VC (fromD Tryz.prog XRd 300 28 [1,1,0,1,0] (Lv.res ltD 30 (endH (baseD lw fw lm fm n ls f r nc fc) ltD 60 (.exit 0 ⟨[.int .i64 c], []⟩)) (.exit 0 ⟨[.int .i64 c], []⟩)) (.int .i64 c)) .nil := VC_of (((c : Int) = c))
def tgA (fc t : Nat → Nat → Int) (k : Nat) : Bool := allN (tgB fc t) k
def valRd : Val := fun das => match das with | [.st [.sl 1 lw fw, .sl 1 lm fm, .rr 1 n ls f, .i .i64 r, .sl 5 nc fc], .one (.sl 1 k t)] => some (cond (Nat.ble k nc) (cond (Nat.ble k 1000) (cond (raB r) (tgA fc t k) false) false) false, .int .i64 (duG fc r t k)) | _ => none
theorem tg_bd {fc t : Nat → Nat → Int} {r : Int} {i : Nat} (h : tgB fc t i = true) (hr : 0 ≤ r ∧ r ≤ 200) : (0 ≤ tnG fc t i ∧ tnG fc t i ≤ 1980) ∧ (0 ≤ Int.tdiv (tnG fc t i * r + 9) 10 ∧ Int.tdiv (tnG fc t i * r + 9) 10 ≤ 1000000) := by
  obtain ⟨h1, h2⟩ := cond_tt h
  have p := gt_bd (gaB_t.mp h1) (srB_t.mp h2)
  have q : 0 ≤ tnG fc t i ∧ tnG fc t i ≤ 1980 := by
    unfold tnG
    rw [Int.tdiv_eq_ediv_of_nonneg p.1]
    omega
  exact ⟨q, (nr_bd q hr).2⟩
theorem conRd : Con Tryz.prog 28 valRd := by
  intro das v hv
  unfold valRd at hv
  split at hv
  · rename_i lw fw lm fm n ls f r nc fc k t
    have hb := congrArg Prod.fst (Option.some.inj hv)
    have hv := congrArg Prod.snd (Option.some.inj hv)
    subst hv
    obtain ⟨h1, hb⟩ := cond_tt hb
    obtain ⟨h2, hb⟩ := cond_tt hb
    obtain ⟨h3, h4⟩ := cond_tt hb
    have h1 := Nat.le_of_ble_eq_true h1
    have h2 := Nat.le_of_ble_eq_true h2
    have hr := raB_t.mp h3
    have hg : ∀ i, i < k → tgB fc t i = true := fun i hi => allN_get (show allN (tgB fc t) k = true from h4) i hi
    have hs : ∀ j, j ≤ k → 0 ≤ duG fc r t j ∧ duG fc r t j ≤ 1000000 * (j : Int) := by
      intro j
      induction j with
      | zero => intro _; exact ⟨Int.le_refl _, Int.le_refl _⟩
      | succ j ih =>
        intro hj
        have a := ih (by omega)
        have b := (tg_bd (hg j (by omega)) hr).2
        have e : duG fc r t (j + 1) = duG fc r t j + Int.tdiv (tnG fc t j * r + 9) 10 := rfl
        rw [e]
        omega
    refine ⟨rfl, ?_⟩
    exact con_loopD drawnC XRd_ok (das := [.st [.sl 1 lw fw, .sl 1 lm fm, .rr 1 n ls f, .i .i64 r, .sl 5 nc fc], .one (.sl 1 k t)]) (lv := .exit 0 ⟨[.int .i64 (duG fc r t k)], []⟩) (by kernel_rfl) (by kernel_rfl) (eD lw fw lm fm n ls f r nc fc k t).ok (loop_rule (body := bD) (fun _ e => by cases e) k (fun i => sD k t (duG fc r t i) i) (fun i hi => by
      have a := hs i (by omega)
      have b := tg_bd (hg i hi) hr
      obtain ⟨q1, q2⟩ := cond_tt (hg i hi)
      exact round_of drawnC XRd_ok (rD1 lw fw lm fm n ls f r nc fc k t (duG fc r t i) i hi (by omega) h2 q1 q2 (owB_t.mpr ⟨b.1, hr⟩) (by omega) b.2).ok (by kernel_rfl) (by kernel_rfl)) (round_of drawnC XRd_ok (rD2 lw fw lm fm n ls f r nc fc k t (duG fc r t k) k (by omega)).ok (by kernel_rfl) (by kernel_rfl))) (fD lw fw lm fm n ls f r nc fc (duG fc r t k)).ok
  · cases hv
def itB (g t : Nat → Nat → Int) (i : Nat) : Bool := decide (g i 0 ≤ t i 0 ∧ t i 0 ≤ g i 1)
def isB (m : Nat) (g : Nat → Nat → Int) (k : Nat) (t : Nat → Nat → Int) : Bool := cond (Nat.beq k m) (allN (itB g t) m) false
end
end Go.Proofs.YtjlghnijlkgbaaaGreat
