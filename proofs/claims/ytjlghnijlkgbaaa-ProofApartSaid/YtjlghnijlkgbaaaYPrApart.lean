/- ProofApart: for every input the law returns true: the bounds of the duty are those of each cask alone, added up; a store without casks owes nothing. No condition. -/
import Derived.Test.YtjlghnijlkgbaaaRows
import Derived.WalkKit
import Derived.Test.YtjlghnijlkgbaaaYPrA1
import Derived.Test.YtjlghnijlkgbaaaYPrArg
import Derived.Test.YtjlghnijlkgbaaaYEd
set_option linter.all false
set_option linter.unusedSimpArgs false
set_option linter.unusedVariables false
namespace Go.Proofs.Ytjlghnijlkgbaaa
namespace PA
open Go Go.Ev Go.ChangeShapes Go.WideShapes Go.ChangeAt Go.RowKit
set_option maxRecDepth 1000000
noncomputable section
theorem sub_ok (lw : Nat) (fw : Nat → Nat → Int) (lm : Nat) (fm : Nat → Nat → Int) (n : Nat) (ls : Nat → Nat) (f : Nat → Nat → Nat → Int) (r : Int) (nc : Nat) (fc : Nat → Nat → Int) (h : ckE lw fw lm fm n ls f r nc fc = 0) {i : Nat} (hi : i < nc) : ckE lw fw lm fm n ls f r 1 (fun (ii jj : Nat) => fc (i + ii) jj) = 0 := by
  have ok := ckE_get lw fw lm fm n ls f r nc fc h
  obtain ⟨c1, c2, c3⟩ := ck_hyp lw fw lm fm n ls f r nc fc h
  have e : acB lw fw lm fm (fun (ii jj : Nat) => fc (i + ii) jj) 1 = true := allN_true fun k hk => by
    have : k = 0 := by omega
    subst this
    exact allN_get (show allN (caB lw fw lm fm fc) nc = true from c3) i hi
  unfold ckE
  rw [(iEq_t _ _).mpr c1, raB_t.mpr ok.rate, e]; rfl
def owG (fc : Nat → Nat → Int) (r : Int) (s : Nat → Int) (i : Nat) : Int := Int.tdiv (Int.tdiv (fc i 0 * s i) 100 * r + 9) 10
theorem dsL_sum (lw : Nat) (fw : Nat → Nat → Int) (lm : Nat) (fm : Nat → Nat → Int) (n : Nat) (ls : Nat → Nat) (f : Nat → Nat → Nat → Int) (r : Int) (nc : Nat) (fc : Nat → Nat → Int) (hc : ckE lw fw lm fm n ls f r nc fc = 0) : dsL lw fw lm fm n ls f r nc fc = Nat.rec (motive := fun _ => Int) 0 (fun i ih => ih + owG fc r (loS lw fw lm fm f fc) i) nc := by
  have ok := ckE_get lw fw lm fm n ls f r nc fc hc
  have e : dsL lw fw lm fm n ls f r nc fc = duF nc fc r (loV lw fw lm fm f nc fc 0) (loV lw fw lm fm f nc fc 1) (loV lw fw lm fm f nc fc 2) (loV lw fw lm fm f nc fc 3) (loV lw fw lm fm f nc fc 4) (loV lw fw lm fm f nc fc 5) := by unfold dsL; rw [hc]; rfl
  rw [e]
  have key : ∀ j, j ≤ nc → duF j fc r (loV lw fw lm fm f nc fc 0) (loV lw fw lm fm f nc fc 1) (loV lw fw lm fm f nc fc 2) (loV lw fw lm fm f nc fc 3) (loV lw fw lm fm f nc fc 4) (loV lw fw lm fm f nc fc 5) = Nat.rec (motive := fun _ => Int) 0 (fun i ih => ih + owG fc r (loS lw fw lm fm f fc) i) j := by
    intro j
    induction j with
    | zero => intro _; rfl
    | succ j ih =>
      intro hj
      have e1 : duF (j + 1) fc r (loV lw fw lm fm f nc fc 0) (loV lw fw lm fm f nc fc 1) (loV lw fw lm fm f nc fc 2) (loV lw fw lm fm f nc fc 3) (loV lw fw lm fm f nc fc 4) (loV lw fw lm fm f nc fc 5) = duF j fc r (loV lw fw lm fm f nc fc 0) (loV lw fw lm fm f nc fc 1) (loV lw fw lm fm f nc fc 2) (loV lw fw lm fm f nc fc 3) (loV lw fw lm fm f nc fc 4) (loV lw fw lm fm f nc fc 5) + Int.tdiv (tnF fc (loV lw fw lm fm f nc fc 0) (loV lw fw lm fm f nc fc 1) (loV lw fw lm fm f nc fc 2) (loV lw fw lm fm f nc fc 3) (loV lw fw lm fm f nc fc 4) (loV lw fw lm fm f nc fc 5) j 0 * r + 9) 10 := rfl
      have e3 : tnF fc (loV lw fw lm fm f nc fc 0) (loV lw fw lm fm f nc fc 1) (loV lw fw lm fm f nc fc 2) (loV lw fw lm fm f nc fc 3) (loV lw fw lm fm f nc fc 4) (loV lw fw lm fm f nc fc 5) j 0 = Int.tdiv (fc j 0 * loS lw fw lm fm f fc j) 100 := by unfold tnF; rw [lo_sel ok.six (by omega)]
      rw [e1, ih (by omega), e3]; rfl
  exact key nc (Nat.le_refl _)
theorem dsL_bd (lw : Nat) (fw : Nat → Nat → Int) (lm : Nat) (fm : Nat → Nat → Int) (n : Nat) (ls : Nat → Nat) (f : Nat → Nat → Nat → Int) (r : Int) (nc : Nat) (fc : Nat → Nat → Int) (h : StOk lw fw lm fm n ls f r nc fc) {i : Nat} (hi : i < nc) : 0 ≤ owG fc r (loS lw fw lm fm f fc) i ∧ owG fc r (loS lw fw lm fm f fc) i ≤ 1000000 := by
  have b := st_bd lw fw lm fm n ls f r nc fc h hi
  have g := gt_bd (t := loS lw fw lm fm f fc i) (h.cask i hi).1 (by omega)
  have q : 0 ≤ Int.tdiv (fc i 0 * loS lw fw lm fm f fc i) 100 ∧ Int.tdiv (fc i 0 * loS lw fw lm fm f fc i) 100 ≤ 1980 := by
    rw [Int.tdiv_eq_ediv_of_nonneg g.1]; omega
  exact (nr_bd q h.rate).2
theorem dsH_sum (lw : Nat) (fw : Nat → Nat → Int) (lm : Nat) (fm : Nat → Nat → Int) (n : Nat) (ls : Nat → Nat) (f : Nat → Nat → Nat → Int) (r : Int) (nc : Nat) (fc : Nat → Nat → Int) (hc : ckE lw fw lm fm n ls f r nc fc = 0) : dsH lw fw lm fm n ls f r nc fc = Nat.rec (motive := fun _ => Int) 0 (fun i ih => ih + owG fc r (hiS lw fw lm fm f fc) i) nc := by
  have ok := ckE_get lw fw lm fm n ls f r nc fc hc
  have e : dsH lw fw lm fm n ls f r nc fc = duF nc fc r (hiV lw fw lm fm f nc fc 0) (hiV lw fw lm fm f nc fc 1) (hiV lw fw lm fm f nc fc 2) (hiV lw fw lm fm f nc fc 3) (hiV lw fw lm fm f nc fc 4) (hiV lw fw lm fm f nc fc 5) := by unfold dsH; rw [hc]; rfl
  rw [e]
  have key : ∀ j, j ≤ nc → duF j fc r (hiV lw fw lm fm f nc fc 0) (hiV lw fw lm fm f nc fc 1) (hiV lw fw lm fm f nc fc 2) (hiV lw fw lm fm f nc fc 3) (hiV lw fw lm fm f nc fc 4) (hiV lw fw lm fm f nc fc 5) = Nat.rec (motive := fun _ => Int) 0 (fun i ih => ih + owG fc r (hiS lw fw lm fm f fc) i) j := by
    intro j
    induction j with
    | zero => intro _; rfl
    | succ j ih =>
      intro hj
      have e1 : duF (j + 1) fc r (hiV lw fw lm fm f nc fc 0) (hiV lw fw lm fm f nc fc 1) (hiV lw fw lm fm f nc fc 2) (hiV lw fw lm fm f nc fc 3) (hiV lw fw lm fm f nc fc 4) (hiV lw fw lm fm f nc fc 5) = duF j fc r (hiV lw fw lm fm f nc fc 0) (hiV lw fw lm fm f nc fc 1) (hiV lw fw lm fm f nc fc 2) (hiV lw fw lm fm f nc fc 3) (hiV lw fw lm fm f nc fc 4) (hiV lw fw lm fm f nc fc 5) + Int.tdiv (tnF fc (hiV lw fw lm fm f nc fc 0) (hiV lw fw lm fm f nc fc 1) (hiV lw fw lm fm f nc fc 2) (hiV lw fw lm fm f nc fc 3) (hiV lw fw lm fm f nc fc 4) (hiV lw fw lm fm f nc fc 5) j 0 * r + 9) 10 := rfl
      have e3 : tnF fc (hiV lw fw lm fm f nc fc 0) (hiV lw fw lm fm f nc fc 1) (hiV lw fw lm fm f nc fc 2) (hiV lw fw lm fm f nc fc 3) (hiV lw fw lm fm f nc fc 4) (hiV lw fw lm fm f nc fc 5) j 0 = Int.tdiv (fc j 0 * hiS lw fw lm fm f fc j) 100 := by unfold tnF; rw [hi_sel ok.six (by omega)]
      rw [e1, ih (by omega), e3]; rfl
  exact key nc (Nat.le_refl _)
theorem dsH_bd (lw : Nat) (fw : Nat → Nat → Int) (lm : Nat) (fm : Nat → Nat → Int) (n : Nat) (ls : Nat → Nat) (f : Nat → Nat → Nat → Int) (r : Int) (nc : Nat) (fc : Nat → Nat → Int) (h : StOk lw fw lm fm n ls f r nc fc) {i : Nat} (hi : i < nc) : 0 ≤ owG fc r (hiS lw fw lm fm f fc) i ∧ owG fc r (hiS lw fw lm fm f fc) i ≤ 1000000 := by
  have b := st_bd lw fw lm fm n ls f r nc fc h hi
  have g := gt_bd (t := hiS lw fw lm fm f fc i) (h.cask i hi).1 (by omega)
  have q : 0 ≤ Int.tdiv (fc i 0 * hiS lw fw lm fm f fc i) 100 ∧ Int.tdiv (fc i 0 * hiS lw fw lm fm f fc i) 100 ≤ 1980 := by
    rw [Int.tdiv_eq_ediv_of_nonneg g.1]; omega
  exact (nr_bd q h.rate).2
def valG : Val := fun das => match das with
  | [.st [.sl 1 lw fw, .sl 1 lm fm, .rr 1 n ls f, .i .i64 r, .sl 5 nc fc]] => some (true, .bool true)
  | _ => none
theorem conG : Con Try.prog 4 valG := by
  intro das x hv
  unfold valG at hv
  split at hv
  · rename_i lw fw lm fm n ls f r nc fc
    have hv := congrArg Prod.snd (Option.some.inj hv)
    subst hv
    have fin : ∀ {h : HT}, VC (runD0 Try.prog XP 600 4 (enc [.st [.sl 1 lw fw, .sl 1 lm fm, .rr 1 n ls f, .i .i64 r, .sl 5 nc fc]] 0) 4 (fun v => valP v (.bool true))) h → flatV (.bool true) = true ∧ ∃ v' H', SpecCall Try.prog 4 (enc [.st [.sl 1 lw fw, .sl 1 lm fm, .rr 1 n ls f, .i .i64 r, .sl 5 nc fc]] 0) (heap0 5) v' H' ∧ valP v' (.bool true) := fun hvc =>
      con_runV drawnC XP_ok rfl (das := [.st [.sl 1 lw fw, .sl 1 lm fm, .rr 1 n ls f, .i .i64 r, .sl 5 nc fc]]) hvc
    cases hth : thB lw lm n ls with
    | false => exact fin (ab1 lw fw lm fm n ls f r nc fc hth)
    | true =>
    have hs := th_sm hth
    by_cases h9 : nc ≤ 9
    · by_cases hc : ckE lw fw lm fm n ls f r nc fc = 0
      · have ok := ckE_get lw fw lm fm n ls f r nc fc hc
        obtain ⟨c1, c2, c3⟩ := ck_hyp lw fw lm fm n ls f r nc fc hc
        obtain ⟨s1, s2, s3, s4⟩ := smB_get hs
        have t1 := ok.ok.w.two
        have t2 := ok.ok.w.five
        have t3 := ok.ok.m.two
        have t4 := ok.ok.m.five
        have eL := dsL_sum lw fw lm fm n ls f r nc fc hc
        have eH := dsH_sum lw fw lm fm n ls f r nc fc hc
        have k : ∀ i, i < nc → ckE lw fw lm fm n ls f r 1 (fun (ii jj : Nat) => fc (i + ii) jj) = 0 := fun i hi => sub_ok lw fw lm fm n ls f r nc fc hc hi
        have gL : ∀ i, i < nc → dsL lw fw lm fm n ls f r 1 (fun (ii jj : Nat) => fc (i + ii) jj) = 0 + owG fc r (loS lw fw lm fm f fc) i := fun i hi => dsL_sum lw fw lm fm n ls f r 1 _ (k i hi)
        have gH : ∀ i, i < nc → dsH lw fw lm fm n ls f r 1 (fun (ii jj : Nat) => fc (i + ii) jj) = 0 + owG fc r (hiS lw fw lm fm f fc) i := fun i hi => dsH_sum lw fw lm fm n ls f r 1 _ (k i hi)
        have bL : ∀ i, i < nc → _ := fun i hi => dsL_bd lw fw lm fm n ls f r nc fc ok hi
        have bH : ∀ i, i < nc → _ := fun i hi => dsH_bd lw fw lm fm n ls f r nc fc ok hi
        have : nc = 0 ∨ nc = 1 ∨ nc = 2 ∨ nc = 3 ∨ nc = 4 ∨ nc = 5 ∨ nc = 6 := by omega
        rcases this with rfl | rfl | rfl | rfl | rfl | rfl | rfl
        · have eL : dsL lw fw lm fm n ls f r 0 fc = 0 := eL
          have eH : dsH lw fw lm fm n ls f r 0 fc = 0 := eH
          refine con_runV drawnC XP_ok rfl (das := [.st [.sl 1 lw fw, .sl 1 lm fm, .rr 1 n ls f, .i .i64 r, .sl 5 0 fc]]) (ac0 lw fw lm fm n ls f r fc hth hs s1 s2 s3 s4 t1 t2 t3 t4 ok.rate hc c1 (by exact eL) (by exact eH) )
        · have eL : dsL lw fw lm fm n ls f r 1 fc = 0 + owG fc r (loS lw fw lm fm f fc) 0 := eL
          have eH : dsH lw fw lm fm n ls f r 1 fc = 0 + owG fc r (hiS lw fw lm fm f fc) 0 := eH
          have l0 := gL 0 (by omega)
          have u0 := gH 0 (by omega)
          have x0 := bL 0 (by omega)
          have y0 := bH 0 (by omega)
          refine con_runV drawnC XP_ok rfl (das := [.st [.sl 1 lw fw, .sl 1 lm fm, .rr 1 n ls f, .i .i64 r, .sl 5 1 fc]]) (ac1 lw fw lm fm n ls f r fc hth hs s1 s2 s3 s4 t1 t2 t3 t4 ok.rate hc c1 (by rw [eL, l0]; omega) (by rw [eH, u0]; omega) (k 0 (by omega)) (by rw [l0]; omega) (by rw [u0]; omega))
        · have eL : dsL lw fw lm fm n ls f r 2 fc = 0 + owG fc r (loS lw fw lm fm f fc) 0 + owG fc r (loS lw fw lm fm f fc) 1 := eL
          have eH : dsH lw fw lm fm n ls f r 2 fc = 0 + owG fc r (hiS lw fw lm fm f fc) 0 + owG fc r (hiS lw fw lm fm f fc) 1 := eH
          have l0 := gL 0 (by omega)
          have u0 := gH 0 (by omega)
          have x0 := bL 0 (by omega)
          have y0 := bH 0 (by omega)
          have l1 := gL 1 (by omega)
          have u1 := gH 1 (by omega)
          have x1 := bL 1 (by omega)
          have y1 := bH 1 (by omega)
          refine con_runV drawnC XP_ok rfl (das := [.st [.sl 1 lw fw, .sl 1 lm fm, .rr 1 n ls f, .i .i64 r, .sl 5 2 fc]]) (ac2 lw fw lm fm n ls f r fc hth hs s1 s2 s3 s4 t1 t2 t3 t4 ok.rate hc c1 (by rw [eL, l0, l1]; omega) (by rw [eH, u0, u1]; omega) (k 0 (by omega)) (by rw [l0]; omega) (by rw [u0]; omega) (k 1 (by omega)) (by rw [l1]; omega) (by rw [u1]; omega))
        · have eL : dsL lw fw lm fm n ls f r 3 fc = 0 + owG fc r (loS lw fw lm fm f fc) 0 + owG fc r (loS lw fw lm fm f fc) 1 + owG fc r (loS lw fw lm fm f fc) 2 := eL
          have eH : dsH lw fw lm fm n ls f r 3 fc = 0 + owG fc r (hiS lw fw lm fm f fc) 0 + owG fc r (hiS lw fw lm fm f fc) 1 + owG fc r (hiS lw fw lm fm f fc) 2 := eH
          have l0 := gL 0 (by omega)
          have u0 := gH 0 (by omega)
          have x0 := bL 0 (by omega)
          have y0 := bH 0 (by omega)
          have l1 := gL 1 (by omega)
          have u1 := gH 1 (by omega)
          have x1 := bL 1 (by omega)
          have y1 := bH 1 (by omega)
          have l2 := gL 2 (by omega)
          have u2 := gH 2 (by omega)
          have x2 := bL 2 (by omega)
          have y2 := bH 2 (by omega)
          refine con_runV drawnC XP_ok rfl (das := [.st [.sl 1 lw fw, .sl 1 lm fm, .rr 1 n ls f, .i .i64 r, .sl 5 3 fc]]) (ac3 lw fw lm fm n ls f r fc hth hs s1 s2 s3 s4 t1 t2 t3 t4 ok.rate hc c1 (by rw [eL, l0, l1, l2]; omega) (by rw [eH, u0, u1, u2]; omega) (k 0 (by omega)) (by rw [l0]; omega) (by rw [u0]; omega) (k 1 (by omega)) (by rw [l1]; omega) (by rw [u1]; omega) (k 2 (by omega)) (by rw [l2]; omega) (by rw [u2]; omega))
        · have eL : dsL lw fw lm fm n ls f r 4 fc = 0 + owG fc r (loS lw fw lm fm f fc) 0 + owG fc r (loS lw fw lm fm f fc) 1 + owG fc r (loS lw fw lm fm f fc) 2 + owG fc r (loS lw fw lm fm f fc) 3 := eL
          have eH : dsH lw fw lm fm n ls f r 4 fc = 0 + owG fc r (hiS lw fw lm fm f fc) 0 + owG fc r (hiS lw fw lm fm f fc) 1 + owG fc r (hiS lw fw lm fm f fc) 2 + owG fc r (hiS lw fw lm fm f fc) 3 := eH
          have l0 := gL 0 (by omega)
          have u0 := gH 0 (by omega)
          have x0 := bL 0 (by omega)
          have y0 := bH 0 (by omega)
          have l1 := gL 1 (by omega)
          have u1 := gH 1 (by omega)
          have x1 := bL 1 (by omega)
          have y1 := bH 1 (by omega)
          have l2 := gL 2 (by omega)
          have u2 := gH 2 (by omega)
          have x2 := bL 2 (by omega)
          have y2 := bH 2 (by omega)
          have l3 := gL 3 (by omega)
          have u3 := gH 3 (by omega)
          have x3 := bL 3 (by omega)
          have y3 := bH 3 (by omega)
          refine con_runV drawnC XP_ok rfl (das := [.st [.sl 1 lw fw, .sl 1 lm fm, .rr 1 n ls f, .i .i64 r, .sl 5 4 fc]]) (ac4 lw fw lm fm n ls f r fc hth hs s1 s2 s3 s4 t1 t2 t3 t4 ok.rate hc c1 (by rw [eL, l0, l1, l2, l3]; omega) (by rw [eH, u0, u1, u2, u3]; omega) (k 0 (by omega)) (by rw [l0]; omega) (by rw [u0]; omega) (k 1 (by omega)) (by rw [l1]; omega) (by rw [u1]; omega) (k 2 (by omega)) (by rw [l2]; omega) (by rw [u2]; omega) (k 3 (by omega)) (by rw [l3]; omega) (by rw [u3]; omega))
        · have eL : dsL lw fw lm fm n ls f r 5 fc = 0 + owG fc r (loS lw fw lm fm f fc) 0 + owG fc r (loS lw fw lm fm f fc) 1 + owG fc r (loS lw fw lm fm f fc) 2 + owG fc r (loS lw fw lm fm f fc) 3 + owG fc r (loS lw fw lm fm f fc) 4 := eL
          have eH : dsH lw fw lm fm n ls f r 5 fc = 0 + owG fc r (hiS lw fw lm fm f fc) 0 + owG fc r (hiS lw fw lm fm f fc) 1 + owG fc r (hiS lw fw lm fm f fc) 2 + owG fc r (hiS lw fw lm fm f fc) 3 + owG fc r (hiS lw fw lm fm f fc) 4 := eH
          have l0 := gL 0 (by omega)
          have u0 := gH 0 (by omega)
          have x0 := bL 0 (by omega)
          have y0 := bH 0 (by omega)
          have l1 := gL 1 (by omega)
          have u1 := gH 1 (by omega)
          have x1 := bL 1 (by omega)
          have y1 := bH 1 (by omega)
          have l2 := gL 2 (by omega)
          have u2 := gH 2 (by omega)
          have x2 := bL 2 (by omega)
          have y2 := bH 2 (by omega)
          have l3 := gL 3 (by omega)
          have u3 := gH 3 (by omega)
          have x3 := bL 3 (by omega)
          have y3 := bH 3 (by omega)
          have l4 := gL 4 (by omega)
          have u4 := gH 4 (by omega)
          have x4 := bL 4 (by omega)
          have y4 := bH 4 (by omega)
          refine con_runV drawnC XP_ok rfl (das := [.st [.sl 1 lw fw, .sl 1 lm fm, .rr 1 n ls f, .i .i64 r, .sl 5 5 fc]]) (ac5 lw fw lm fm n ls f r fc hth hs s1 s2 s3 s4 t1 t2 t3 t4 ok.rate hc c1 (by rw [eL, l0, l1, l2, l3, l4]; omega) (by rw [eH, u0, u1, u2, u3, u4]; omega) (k 0 (by omega)) (by rw [l0]; omega) (by rw [u0]; omega) (k 1 (by omega)) (by rw [l1]; omega) (by rw [u1]; omega) (k 2 (by omega)) (by rw [l2]; omega) (by rw [u2]; omega) (k 3 (by omega)) (by rw [l3]; omega) (by rw [u3]; omega) (k 4 (by omega)) (by rw [l4]; omega) (by rw [u4]; omega))
        · have eL : dsL lw fw lm fm n ls f r 6 fc = 0 + owG fc r (loS lw fw lm fm f fc) 0 + owG fc r (loS lw fw lm fm f fc) 1 + owG fc r (loS lw fw lm fm f fc) 2 + owG fc r (loS lw fw lm fm f fc) 3 + owG fc r (loS lw fw lm fm f fc) 4 + owG fc r (loS lw fw lm fm f fc) 5 := eL
          have eH : dsH lw fw lm fm n ls f r 6 fc = 0 + owG fc r (hiS lw fw lm fm f fc) 0 + owG fc r (hiS lw fw lm fm f fc) 1 + owG fc r (hiS lw fw lm fm f fc) 2 + owG fc r (hiS lw fw lm fm f fc) 3 + owG fc r (hiS lw fw lm fm f fc) 4 + owG fc r (hiS lw fw lm fm f fc) 5 := eH
          have l0 := gL 0 (by omega)
          have u0 := gH 0 (by omega)
          have x0 := bL 0 (by omega)
          have y0 := bH 0 (by omega)
          have l1 := gL 1 (by omega)
          have u1 := gH 1 (by omega)
          have x1 := bL 1 (by omega)
          have y1 := bH 1 (by omega)
          have l2 := gL 2 (by omega)
          have u2 := gH 2 (by omega)
          have x2 := bL 2 (by omega)
          have y2 := bH 2 (by omega)
          have l3 := gL 3 (by omega)
          have u3 := gH 3 (by omega)
          have x3 := bL 3 (by omega)
          have y3 := bH 3 (by omega)
          have l4 := gL 4 (by omega)
          have u4 := gH 4 (by omega)
          have x4 := bL 4 (by omega)
          have y4 := bH 4 (by omega)
          have l5 := gL 5 (by omega)
          have u5 := gH 5 (by omega)
          have x5 := bL 5 (by omega)
          have y5 := bH 5 (by omega)
          refine con_runV drawnC XP_ok rfl (das := [.st [.sl 1 lw fw, .sl 1 lm fm, .rr 1 n ls f, .i .i64 r, .sl 5 6 fc]]) (ac6 lw fw lm fm n ls f r fc hth hs s1 s2 s3 s4 t1 t2 t3 t4 ok.rate hc c1 (by rw [eL, l0, l1, l2, l3, l4, l5]; omega) (by rw [eH, u0, u1, u2, u3, u4, u5]; omega) (k 0 (by omega)) (by rw [l0]; omega) (by rw [u0]; omega) (k 1 (by omega)) (by rw [l1]; omega) (by rw [u1]; omega) (k 2 (by omega)) (by rw [l2]; omega) (by rw [u2]; omega) (k 3 (by omega)) (by rw [l3]; omega) (by rw [u3]; omega) (k 4 (by omega)) (by rw [l4]; omega) (by rw [u4]; omega) (k 5 (by omega)) (by rw [l5]; omega) (by rw [u5]; omega))
      · exact fin (ab3 lw fw lm fm n ls f r nc fc hth h9 hc)
    · exact fin (ab2 lw fw lm fm n ls f r nc fc hth h9)
  · cases hv
end
theorem apart_any {W : World} {H : Type} {enc : TypeId × Value → H} {base : Nat} {args : List Value} {ds : List (DataW H)} {p : List MemPlace} (hval : ∀ (j : Nat) t v, Try.f4.params[j]? = some t → args[j]? = some v → Value.okWide Try.prog W .any base t v)
    (hA : DataW.TrodAll enc Try.prog W 0 (fun _ => true) true Try.f4.params.toList args ds p) : Calls Try.prog 4 args.toArray W (fun e w' => e = .returned (.bool true) ∧ Below W.heap.size W w') := by
  rw [Try.params4] at hA hval
  obtain ⟨x0, a0, d0, _, _, _, rfl, rfl, rfl, u0, hA⟩ := trodAll_cons hA
  obtain ⟨rfl, rfl, rfl⟩ := trodAll_nil hA
  obtain ⟨lw, fw, lm, fm, n, ls, f, r, nc, fc, r0⟩ := store_arg u0
  have hcf : cf valG [.agg 5 (T.setL .lf 0 [.fz true 0 (cellsI .i64 fw) lw 1, .fz true 0 (cellsI .i64 fm) lm 1, .fz true 0 (rowsI 0 1 ls f) n 1, .int .i64 r, .fz true 0 (cellsI .i64 fc) nc 5])] (heap0 1) = some (true, .bool true) := by
    have e1 : okL [.agg 5 (T.setL .lf 0 [.fz true 0 (cellsI .i64 fw) lw 1, .fz true 0 (cellsI .i64 fm) lm 1, .fz true 0 (rowsI 0 1 ls f) n 1, .int .i64 r, .fz true 0 (cellsI .i64 fc) nc 5])] = cond (cond (allI .i64 (cellsI .i64 fw) lw 1) (cond (allI .i64 (cellsI .i64 fm) lm 1) (cond (allR 0 (rowsI 0 1 ls f) n 1) (cond true (cond (allI .i64 (cellsI .i64 fc) nc 5) true false) false) false) false) false) (true) false := by kernel_rfl
    have e2 : cf valG [.agg 5 (T.setL .lf 0 [.fz true 0 (cellsI .i64 fw) lw 1, .fz true 0 (cellsI .i64 fm) lm 1, .fz true 0 (rowsI 0 1 ls f) n 1, .int .i64 r, .fz true 0 (cellsI .i64 fc) nc 5])] (heap0 1) = some (cond (okL [.agg 5 (T.setL .lf 0 [.fz true 0 (cellsI .i64 fw) lw 1, .fz true 0 (cellsI .i64 fm) lm 1, .fz true 0 (rowsI 0 1 ls f) n 1, .int .i64 r, .fz true 0 (cellsI .i64 fc) nc 5])]) (true) false, .bool true) := by kernel_rfl
    rw [e2, e1]
    simp only [allI_cells, allR_rows, cond_true]
  have hs : SpecCall Try.prog 4 [.agg 5 (T.setL .lf 0 [.fz true 0 (cellsI .i64 fw) lw 1, .fz true 0 (cellsI .i64 fm) lm 1, .fz true 0 (rowsI 0 1 ls f) n 1, .int .i64 r, .fz true 0 (cellsI .i64 fc) nc 5])] (heap0 1) (.bool true) (bump (heap0 1)) := con_ok conG _ _ _ hcf
  have hal := al_cons r0 (show AL (renW W) [] ([] : List Value).toArray from AL.nil _)
  exact (run_args hs hal).mono fun e w' ⟨x, R, h1, h2, h3⟩ => by cases h2; exact ⟨h1, h3⟩
theorem apart_lifted (os : Os) (started : os.Started) (H : Type) (enc : TypeId × Value → H) :
    ReturnsInHanded {} Try.checked os 4 .any (Rows.proofApartSpec.pre6 enc Try.prog Try.f4 Rows.proofApartRow.domain false) (Rows.proofApartSpec.post enc Try.prog Try.f4 false true false false) := by
  refine returnsInHanded_of_change (C := Try.checked) own started (by kernel_rfl) Try.func4
    (ChangeSpec.witness6 (enc := enc) (C := Try.checked) false ⟨#[], #[.agg #[.slice none 0 0, .slice none 0 0, .slice none 0 0, .int .i64 0, .slice none 0 0]], []⟩ 8 (by kernel_rfl) (by kernel_rfl) (by kernel_rfl) (by kernel_rfl)) ?_
  intro W base args ds gs before hval0 hW hcnd _
  have hW' := hW
  obtain ⟨p, q, hA0, hV, rfl, hfz, hnd⟩ := hW
  have hval : ∀ (j : Nat) t v, Try.f4.params[j]? = some t → args.toList[j]? = some v → Value.okWide Try.prog W .any base t v := fun j t v h1 h2 => hval0 j t v h1 (by simpa using h2)
  have h := apart_any (args := args.toList) hval hA0
  rw [show args.toList.toArray = args by simp] at h
  have hds : ∃ da, ds = [da] := by
    rw [Try.params4] at hA0
    obtain ⟨x0, a0, d0, _, _, _, _, rfl, _, _, hA⟩ := trodAll_cons hA0
    obtain ⟨_, rfl, _⟩ := trodAll_nil hA
    exact ⟨_, rfl⟩
  obtain ⟨da, rfl⟩ := hds
  refine h.mono fun e W' ⟨he, hb⟩ => ?_
  exact ⟨_, he, Law.law_post laidOut (tb := 4) (by kernel_rfl) Try.underlying4 (fun t ht => by
    rw [Try.params4] at ht
    have ht : t ∈ [59] := ht
    simp only [List.mem_cons, List.not_mem_nil, or_false] at ht
    subst ht; exact ⟨by kernel_rfl, of_decide_eq_true (by kernel_rfl)⟩) rfl hW' rfl rfl rfl hb⟩
theorem proofApart_holds : Rows.ProofApartSaid :=
  OpenClaim.holds_of_wide 4 Try.f4 rfl rfl rfl rfl rfl rfl rfl ⟨rfl, rfl, rfl, rfl, rfl⟩ rfl rfl rfl rfl rfl (by kernel_rfl) Try.func4 (by kernel_rfl)
    (of_decide_eq_true (by kernel_rfl)) (by unfold Func.isWrapper; first | (rw [if_pos (by decide +kernel)]; kernel_rfl) | (rw [if_neg (by decide +kernel)]; exact ⟨rfl, rfl⟩))
    (fun os started H enc _ => apart_lifted os started H enc)
end PA
theorem proofApart_holds : Rows.ProofApartSaid := PA.proofApart_holds
end Go.Proofs.Ytjlghnijlkgbaaa
