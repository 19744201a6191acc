/- TableTruth: for every input the law returns true: the strength at each point of both ranges is within the bounds, both ends are reached, its mark can mean it, and no mark can mean a strength above the greatest one. No condition. -/
import Derived.Test.YtdgaghmjocokcaaGreatRows
import Derived.WalkKit
import Derived.Test.YtdgaghmjocokcaaGreatYTaY1
import Derived.Test.YtdgaghmjocokcaaGreatYTaM7
import Derived.Test.YtdgaghmjocokcaaGreatYTaArg
set_option linter.all false
set_option linter.unusedSimpArgs false
set_option linter.unusedVariables false
namespace Go.Proofs.YtdgaghmjocokcaaGreat
open Go Go.Ev Go.ChangeShapes Go.WideShapes Go.ChangeAt Go.RowKit
set_option maxRecDepth 1000000
noncomputable section
def accB (v : Nat → Int) (r : Int) (t : Nat) : Bool := Nat.rec false (fun t ih => bor ih (iEq (v t) r)) t
theorem accB_t {v : Nat → Int} {r : Int} : ∀ {T t : Nat}, t < T → v t = r → accB v r T = true := by
  intro T
  induction T with
  | zero => intro t h; omega
  | succ T ih =>
    intro t h e
    have q : accB v r (T + 1) = bor (accB v r T) (iEq (v T) r) := rfl
    rw [q]
    by_cases c : t = T
    · subst c
      rw [(iEq_t _ _).mpr e]
      unfold bor
      cases accB v r t <;> rfl
    · rw [ih (by omega) e]; rfl
def valG : Val := fun das => match das with
  | [.st [.sl 1 lw fw, .sl 1 lm fm, .rr 1 n ls f], .one (.i .u8 a), .one (.i .u8 b), .one (.i .u8 c), .one (.i .u8 d)] => some (decide (0 ≤ a ∧ a ≤ 255 ∧ 0 ≤ b ∧ b ≤ 255 ∧ 0 ≤ c ∧ c ≤ 255 ∧ 0 ≤ d ∧ d ≤ 255), .bool true)
  | _ => none
theorem conG : Con Tryz.prog 9 valG := by
  intro das x hv
  unfold valG at hv
  split at hv
  · rename_i lw fw lm fm n ls f a b c d
    have hb := congrArg Prod.fst (Option.some.inj hv)
    have hv := congrArg Prod.snd (Option.some.inj hv)
    subst hv
    have h8 := of_decide_eq_true hb
    have fin : ∀ {h : HT}, VC (runD0 Tryz.prog XY 600 9 (enc [.st [.sl 1 lw fw, .sl 1 lm fm, .rr 1 n ls f], .one (.i .u8 a), .one (.i .u8 b), .one (.i .u8 c), .one (.i .u8 d)] 0) 3 (fun v => valP v (.bool true))) h → flatV (.bool true) = true ∧ ∃ v' H', SpecCall Tryz.prog 9 (enc [.st [.sl 1 lw fw, .sl 1 lm fm, .rr 1 n ls f], .one (.i .u8 a), .one (.i .u8 b), .one (.i .u8 c), .one (.i .u8 d)] 0) (heap0 4) v' H' ∧ valP v' (.bool true) := fun hvc =>
      con_runV drawnC XY_ok rfl (das := [.st [.sl 1 lw fw, .sl 1 lm fm, .rr 1 n ls f], .one (.i .u8 a), .one (.i .u8 b), .one (.i .u8 c), .one (.i .u8 d)]) hvc
    cases hth : thB lw lm n ls with
    | false => exact fin (ya lw fw lm fm n ls f a b c d hth)
    | true =>
    by_cases hf : faE lw fw lm fm n ls f = 0
    · have ht : tabE lw fw lm fm n ls f = 0 := by rw [← fa_tab]; exact hf
      have ok := tabE_get ht
      have hs := th_sm hth
      have w2 := ok.w.two
      have w5 := ok.w.five
      have m2 := ok.m.two
      have m5 := ok.m.five
      have rw1 := tw_rg (a := a) (b := b) ok.w (by omega) (by omega)
      have rm1 := tw_rg (a := c) (b := d) ok.m (by omega) (by omega)
      have w0 := ok.w.inn 0 (by omega)
      have w9 := ok.w.inn (lw - 1) (by omega)
      have m0 := ok.m.inn 0 (by omega)
      have m9 := ok.m.inn (lm - 1) (by omega)
      have rw1' := rw1
      have rm1' := rm1
      unfold rgB onB at rw1' rm1'
      have b1 := bo_ok ht rw1 rm1
      have r1 : 0 ≤ (twL lw fw a b) ∧ (twL lw fw a b) ≤ (twH lw fw a b) ∧ (twH lw fw a b) ≤ 1000 := by omega
      have r2 : 0 ≤ (twL lm fm c d) ∧ (twL lm fm c d) ≤ (twH lm fm c d) ∧ (twH lm fm c d) ≤ 1000 := by omega
      have pt : ∀ {x y : Int}, (twL lw fw a b) ≤ x → x ≤ (twH lw fw a b) → (twL lm fm c d) ≤ y → y ≤ (twH lm fm c d) → atE lw fw lm fm n ls f x y = 0 ∧ atV lw fw lm fm n ls f x y = strI lw fw lm fm f x y ∧ (boL lw fw lm fm n ls f (twL lw fw a b) (twH lw fw a b) (twL lm fm c d) (twH lm fm c d)) ≤ strI lw fw lm fm f x y ∧ strI lw fw lm fm f x y ≤ (boH lw fw lm fm n ls f (twL lw fw a b) (twH lw fw a b) (twL lm fm c d) (twH lm fm c d)) := fun {x y} h1 h2 h3 h4 => by
        have q := at_ok (x := x) (y := y) ht (by unfold onB; omega) (by unfold onB; omega)
        have p := bd_in (lw := lw) (fw := fw) (lm := lm) (fm := fm) (f := f) (a := (twL lw fw a b)) (b := (twH lw fw a b)) (c := (twL lm fm c d)) (d := (twH lm fm c d)) (x := x) (y := y) rw1.1 rm1.1 ⟨h1, h2⟩ ⟨h3, h4⟩
        refine ⟨q.1, q.2, ?_, ?_⟩
        · rw [b1.2.1]; exact p.1
        · rw [b1.2.2]; exact p.2
      have hM := nM_eq (twL lm fm c d) (twH lm fm c d) rm1.1
      have hW : (nW (twL lw fw a b) (twH lw fw a b) : Int) = (twH lw fw a b) - (twL lw fw a b) + 1 := nM_eq (twL lw fw a b) (twH lw fw a b) rw1.1
      have inner : ∀ i : Nat, (twL lw fw a b) + ((i : Nat) : Int) ≤ (twH lw fw a b) → JL Tryz.prog (baseN lw fw lm fm n ls f a b c d) ltN 160 60 none (.loop bN) (sN (accB (valsS lw fw lm fm f (twL lw fw a b) (twL lm fm c d) (twH lm fm c d)) (boL lw fw lm fm n ls f (twL lw fw a b) (twH lw fw a b) (twL lm fm c d) (twH lm fm c d)) (i * (nM (twL lm fm c d) (twH lm fm c d)))) (accB (valsS lw fw lm fm f (twL lw fw a b) (twL lm fm c d) (twH lm fm c d)) (boH lw fw lm fm n ls f (twL lw fw a b) (twH lw fw a b) (twL lm fm c d) (twH lm fm c d)) (i * (nM (twL lm fm c d) (twH lm fm c d)))) ((twL lw fw a b) + ((i : Nat) : Int)) (twL lm fm c d)) (xN (accB (valsS lw fw lm fm f (twL lw fw a b) (twL lm fm c d) (twH lm fm c d)) (boL lw fw lm fm n ls f (twL lw fw a b) (twH lw fw a b) (twL lm fm c d) (twH lm fm c d)) ((i + 1) * (nM (twL lm fm c d) (twH lm fm c d)))) (accB (valsS lw fw lm fm f (twL lw fw a b) (twL lm fm c d) (twH lm fm c d)) (boH lw fw lm fm n ls f (twL lw fw a b) (twH lw fw a b) (twL lm fm c d) (twH lm fm c d)) ((i + 1) * (nM (twL lm fm c d) (twH lm fm c d)))) ((twL lw fw a b) + ((i : Nat) : Int))) := fun i hi => by
        have e0 : sN (accB (valsS lw fw lm fm f (twL lw fw a b) (twL lm fm c d) (twH lm fm c d)) (boL lw fw lm fm n ls f (twL lw fw a b) (twH lw fw a b) (twL lm fm c d) (twH lm fm c d)) (i * (nM (twL lm fm c d) (twH lm fm c d)))) (accB (valsS lw fw lm fm f (twL lw fw a b) (twL lm fm c d) (twH lm fm c d)) (boH lw fw lm fm n ls f (twL lw fw a b) (twH lw fw a b) (twL lm fm c d) (twH lm fm c d)) (i * (nM (twL lm fm c d) (twH lm fm c d)))) ((twL lw fw a b) + ((i : Nat) : Int)) (twL lm fm c d) = (fun k : Nat => sN (accB (valsS lw fw lm fm f (twL lw fw a b) (twL lm fm c d) (twH lm fm c d)) (boL lw fw lm fm n ls f (twL lw fw a b) (twH lw fw a b) (twL lm fm c d) (twH lm fm c d)) (i * (nM (twL lm fm c d) (twH lm fm c d)) + k)) (accB (valsS lw fw lm fm f (twL lw fw a b) (twL lm fm c d) (twH lm fm c d)) (boH lw fw lm fm n ls f (twL lw fw a b) (twH lw fw a b) (twL lm fm c d) (twH lm fm c d)) (i * (nM (twL lm fm c d) (twH lm fm c d)) + k)) ((twL lw fw a b) + ((i : Nat) : Int)) ((twL lm fm c d) + ((k : Nat) : Int))) 0 := by
          show _ = sN _ _ _ ((twL lm fm c d) + ((0 : Nat) : Int))
          rw [show (twL lm fm c d) + ((0 : Nat) : Int) = (twL lm fm c d) by omega]; rfl
        rw [e0]
        refine loop_rule (lv := xN (accB (valsS lw fw lm fm f (twL lw fw a b) (twL lm fm c d) (twH lm fm c d)) (boL lw fw lm fm n ls f (twL lw fw a b) (twH lw fw a b) (twL lm fm c d) (twH lm fm c d)) ((i + 1) * (nM (twL lm fm c d) (twH lm fm c d)))) (accB (valsS lw fw lm fm f (twL lw fw a b) (twL lm fm c d) (twH lm fm c d)) (boH lw fw lm fm n ls f (twL lw fw a b) (twH lw fw a b) (twL lm fm c d) (twH lm fm c d)) ((i + 1) * (nM (twL lm fm c d) (twH lm fm c d)))) ((twL lw fw a b) + ((i : Nat) : Int))) (body := bN) (fun _ e => by cases e) (nM (twL lm fm c d) (twH lm fm c d)) (fun k : Nat => sN (accB (valsS lw fw lm fm f (twL lw fw a b) (twL lm fm c d) (twH lm fm c d)) (boL lw fw lm fm n ls f (twL lw fw a b) (twH lw fw a b) (twL lm fm c d) (twH lm fm c d)) (i * (nM (twL lm fm c d) (twH lm fm c d)) + k)) (accB (valsS lw fw lm fm f (twL lw fw a b) (twL lm fm c d) (twH lm fm c d)) (boH lw fw lm fm n ls f (twL lw fw a b) (twH lw fw a b) (twL lm fm c d) (twH lm fm c d)) (i * (nM (twL lm fm c d) (twH lm fm c d)) + k)) ((twL lw fw a b) + ((i : Nat) : Int)) ((twL lm fm c d) + ((k : Nat) : Int))) (fun k hk => ?_) ?_
        · have p := pt (x := (twL lw fw a b) + ((i : Nat) : Int)) (y := (twL lm fm c d) + ((k : Nat) : Int)) (by omega) hi (by omega) (by omega)
          have va := val_at lw fw lm fm f (twL lw fw a b) (twL lm fm c d) (twH lm fm c d) (i := i) (k := k) rm1.1 hk
          have hr := yd lw fw lm fm n ls f a b c d (accB (valsS lw fw lm fm f (twL lw fw a b) (twL lm fm c d) (twH lm fm c d)) (boL lw fw lm fm n ls f (twL lw fw a b) (twH lw fw a b) (twL lm fm c d) (twH lm fm c d)) (i * (nM (twL lm fm c d) (twH lm fm c d)) + k)) (accB (valsS lw fw lm fm f (twL lw fw a b) (twL lm fm c d) (twH lm fm c d)) (boH lw fw lm fm n ls f (twL lw fw a b) (twH lw fw a b) (twL lm fm c d) (twH lm fm c d)) (i * (nM (twL lm fm c d) (twH lm fm c d)) + k)) ((twL lw fw a b) + ((i : Nat) : Int)) ((twL lm fm c d) + ((k : Nat) : Int)) hth hs r1 r2 ⟨by omega, by omega⟩ ⟨by omega, by omega⟩ p.1 (by rw [p.2.1]; exact p.2.2.1) (by rw [p.2.1]; exact p.2.2.2)
          have hj := round_of drawnC XY_ok hr.ok (by kernel_rfl) (by kernel_rfl)
          rw [p.2.1, ← va] at hj
          show JL _ _ _ _ _ _ _ _ (.next (sN (accB (valsS lw fw lm fm f (twL lw fw a b) (twL lm fm c d) (twH lm fm c d)) (boL lw fw lm fm n ls f (twL lw fw a b) (twH lw fw a b) (twL lm fm c d) (twH lm fm c d)) (i * (nM (twL lm fm c d) (twH lm fm c d)) + (k + 1))) (accB (valsS lw fw lm fm f (twL lw fw a b) (twL lm fm c d) (twH lm fm c d)) (boH lw fw lm fm n ls f (twL lw fw a b) (twH lw fw a b) (twL lm fm c d) (twH lm fm c d)) (i * (nM (twL lm fm c d) (twH lm fm c d)) + (k + 1))) ((twL lw fw a b) + ((i : Nat) : Int)) ((twL lm fm c d) + ((k + 1 : Nat) : Int))))
          rw [show (twL lm fm c d) + ((k + 1 : Nat) : Int) = (twL lm fm c d) + ((k : Nat) : Int) + 1 by omega]
          exact hj
        · have e1 : (i + 1) * (nM (twL lm fm c d) (twH lm fm c d)) = i * (nM (twL lm fm c d) (twH lm fm c d)) + (nM (twL lm fm c d) (twH lm fm c d)) := by rw [Nat.add_mul, Nat.one_mul]
          rw [e1]
          exact round_of drawnC XY_ok (ye lw fw lm fm n ls f a b c d _ _ ((twL lw fw a b) + ((i : Nat) : Int)) ((twL lm fm c d) + (((nM (twL lm fm c d) (twH lm fm c d)) : Nat) : Int)) (by omega)).ok (by kernel_rfl) (by kernel_rfl)
      have outer : JL Tryz.prog (baseY lw fw lm fm n ls f a b c d) ltO 160 90 none (.loop bO) (sO false false (twL lw fw a b)) (xO (accB (valsS lw fw lm fm f (twL lw fw a b) (twL lm fm c d) (twH lm fm c d)) (boL lw fw lm fm n ls f (twL lw fw a b) (twH lw fw a b) (twL lm fm c d) (twH lm fm c d)) (nW (twL lw fw a b) (twH lw fw a b) * (nM (twL lm fm c d) (twH lm fm c d)))) (accB (valsS lw fw lm fm f (twL lw fw a b) (twL lm fm c d) (twH lm fm c d)) (boH lw fw lm fm n ls f (twL lw fw a b) (twH lw fw a b) (twL lm fm c d) (twH lm fm c d)) (nW (twL lw fw a b) (twH lw fw a b) * (nM (twL lm fm c d) (twH lm fm c d))))) := by
        have e0 : sO false false (twL lw fw a b) = (fun i : Nat => sO (accB (valsS lw fw lm fm f (twL lw fw a b) (twL lm fm c d) (twH lm fm c d)) (boL lw fw lm fm n ls f (twL lw fw a b) (twH lw fw a b) (twL lm fm c d) (twH lm fm c d)) (i * (nM (twL lm fm c d) (twH lm fm c d)))) (accB (valsS lw fw lm fm f (twL lw fw a b) (twL lm fm c d) (twH lm fm c d)) (boH lw fw lm fm n ls f (twL lw fw a b) (twH lw fw a b) (twL lm fm c d) (twH lm fm c d)) (i * (nM (twL lm fm c d) (twH lm fm c d)))) ((twL lw fw a b) + ((i : Nat) : Int))) 0 := by
          show _ = sO (accB (valsS lw fw lm fm f (twL lw fw a b) (twL lm fm c d) (twH lm fm c d)) (boL lw fw lm fm n ls f (twL lw fw a b) (twH lw fw a b) (twL lm fm c d) (twH lm fm c d)) (0 * (nM (twL lm fm c d) (twH lm fm c d)))) (accB (valsS lw fw lm fm f (twL lw fw a b) (twL lm fm c d) (twH lm fm c d)) (boH lw fw lm fm n ls f (twL lw fw a b) (twH lw fw a b) (twL lm fm c d) (twH lm fm c d)) (0 * (nM (twL lm fm c d) (twH lm fm c d)))) ((twL lw fw a b) + ((0 : Nat) : Int))
          rw [show (twL lw fw a b) + ((0 : Nat) : Int) = (twL lw fw a b) by omega, Nat.zero_mul]; rfl
        rw [e0]
        refine loop_rule (lv := xO (accB (valsS lw fw lm fm f (twL lw fw a b) (twL lm fm c d) (twH lm fm c d)) (boL lw fw lm fm n ls f (twL lw fw a b) (twH lw fw a b) (twL lm fm c d) (twH lm fm c d)) (nW (twL lw fw a b) (twH lw fw a b) * (nM (twL lm fm c d) (twH lm fm c d)))) (accB (valsS lw fw lm fm f (twL lw fw a b) (twL lm fm c d) (twH lm fm c d)) (boH lw fw lm fm n ls f (twL lw fw a b) (twH lw fw a b) (twL lm fm c d) (twH lm fm c d)) (nW (twL lw fw a b) (twH lw fw a b) * (nM (twL lm fm c d) (twH lm fm c d))))) (body := bO) (fun _ e => by cases e) (nW (twL lw fw a b) (twH lw fw a b)) (fun i : Nat => sO (accB (valsS lw fw lm fm f (twL lw fw a b) (twL lm fm c d) (twH lm fm c d)) (boL lw fw lm fm n ls f (twL lw fw a b) (twH lw fw a b) (twL lm fm c d) (twH lm fm c d)) (i * (nM (twL lm fm c d) (twH lm fm c d)))) (accB (valsS lw fw lm fm f (twL lw fw a b) (twL lm fm c d) (twH lm fm c d)) (boH lw fw lm fm n ls f (twL lw fw a b) (twH lw fw a b) (twL lm fm c d) (twH lm fm c d)) (i * (nM (twL lm fm c d) (twH lm fm c d)))) ((twL lw fw a b) + ((i : Nat) : Int))) (fun i hi => ?_) ?_
        · show JL _ _ _ _ _ _ _ _ (.next (sO (accB (valsS lw fw lm fm f (twL lw fw a b) (twL lm fm c d) (twH lm fm c d)) (boL lw fw lm fm n ls f (twL lw fw a b) (twH lw fw a b) (twL lm fm c d) (twH lm fm c d)) ((i + 1) * (nM (twL lm fm c d) (twH lm fm c d)))) (accB (valsS lw fw lm fm f (twL lw fw a b) (twL lm fm c d) (twH lm fm c d)) (boH lw fw lm fm n ls f (twL lw fw a b) (twH lw fw a b) (twL lm fm c d) (twH lm fm c d)) ((i + 1) * (nM (twL lm fm c d) (twH lm fm c d)))) ((twL lw fw a b) + ((i + 1 : Nat) : Int))))
          rw [show (twL lw fw a b) + ((i + 1 : Nat) : Int) = (twL lw fw a b) + ((i : Nat) : Int) + 1 by omega]
          have hc : sub [1,0,0,1,0] bO = .loop bN := by kernel_rfl
          have hi2 := inner i (by omega)
          rw [← hc] at hi2
          exact JL_nest drawnC XY_ok (by kernel_rfl) (by kernel_rfl) (yf lw fw lm fm n ls f a b c d _ _ _ (by omega)) hi2 (yg lw fw lm fm n ls f a b c d _ _ _ ⟨by omega, by omega⟩)
        · exact round_of drawnC XY_ok (yh lw fw lm fm n ls f a b c d _ _ _ (by omega)).ok (by kernel_rfl) (by kernel_rfl)
      have hlow : accB (valsS lw fw lm fm f (twL lw fw a b) (twL lm fm c d) (twH lm fm c d)) (boL lw fw lm fm n ls f (twL lw fw a b) (twH lw fw a b) (twL lm fm c d) (twH lm fm c d)) (nW (twL lw fw a b) (twH lw fw a b) * (nM (twL lm fm c d) (twH lm fm c d))) = true := by
        obtain ⟨x, y, hx, hy, e⟩ := bdL_at (lw := lw) (fw := fw) (lm := lm) (fm := fm) (f := f) (a := (twL lw fw a b)) (b := (twH lw fw a b)) (c := (twL lm fm c d)) (d := (twH lm fm c d)) rw1.1 rm1.1
        obtain ⟨t, t1, t2⟩ := pt_at (lw := lw) (fw := fw) (lm := lm) (fm := fm) (f := f) (a := (twL lw fw a b)) (b := (twH lw fw a b)) (c := (twL lm fm c d)) (d := (twH lm fm c d)) rw1.1 rm1.1 hx hy
        exact accB_t t1 (by rw [b1.2.1, e]; exact t2)
      have hhigh : accB (valsS lw fw lm fm f (twL lw fw a b) (twL lm fm c d) (twH lm fm c d)) (boH lw fw lm fm n ls f (twL lw fw a b) (twH lw fw a b) (twL lm fm c d) (twH lm fm c d)) (nW (twL lw fw a b) (twH lw fw a b) * (nM (twL lm fm c d) (twH lm fm c d))) = true := by
        obtain ⟨x, y, hx, hy, e⟩ := bdH_at (lw := lw) (fw := fw) (lm := lm) (fm := fm) (f := f) (a := (twL lw fw a b)) (b := (twH lw fw a b)) (c := (twL lm fm c d)) (d := (twH lm fm c d)) rw1.1 rm1.1
        obtain ⟨t, t1, t2⟩ := pt_at (lw := lw) (fw := fw) (lm := lm) (fm := fm) (f := f) (a := (twL lw fw a b)) (b := (twH lw fw a b)) (c := (twL lm fm c d)) (d := (twH lm fm c d)) rw1.1 rm1.1 hx hy
        exact accB_t t1 (by rw [b1.2.2, e]; exact t2)
      rw [hlow, hhigh] at outer
      have pv := pt (x := (twL lw fw a b)) (y := (twH lm fm c d)) (Int.le_refl _) rw1.1 rm1.1 (Int.le_refl _)
      have hmem : ∃ i, i < mcN lw fw lm fm f (twL lw fw a b) (twH lw fw a b) (atV lw fw lm fm n ls f (twL lw fw a b) (twH lm fm c d)) (atV lw fw lm fm n ls f (twL lw fw a b) (twH lm fm c d)) ∧ mkR lw fw lm fm f (twL lw fw a b) (twH lw fw a b) (atV lw fw lm fm n ls f (twL lw fw a b) (twH lm fm c d)) (atV lw fw lm fm n ls f (twL lw fw a b) (twH lm fm c d)) i 0 = (twH lm fm c d) := (mkR_mem ok rw1.1).mpr ⟨by unfold onB; omega, (twL lw fw a b), ⟨Int.le_refl _, rw1.1⟩, by rw [pv.2.1]; exact ⟨Int.le_refl _, Int.le_refl _⟩⟩
      have n1 := meN_eq (sl := (atV lw fw lm fm n ls f (twL lw fw a b) (twH lm fm c d))) (sh := (atV lw fw lm fm n ls f (twL lw fw a b) (twH lm fm c d))) ht rw1 (Int.le_refl _)
      have k1 : meE lw fw lm fm n ls f (twL lw fw a b) (twH lw fw a b) (atV lw fw lm fm n ls f (twL lw fw a b) (twH lm fm c d)) (atV lw fw lm fm n ls f (twL lw fw a b) (twH lm fm c d)) = 0 := by
        rcases me_ok (sl := (atV lw fw lm fm n ls f (twL lw fw a b) (twH lm fm c d))) (sh := (atV lw fw lm fm n ls f (twL lw fw a b) (twH lm fm c d))) ht rw1 (Int.le_refl _) with k | k
        · obtain ⟨i, hi, _⟩ := hmem
          rw [k.1] at hi; omega
        · exact k.2.1
      have k2 : meE lw fw lm fm n ls f (twL lw fw a b) (twH lw fw a b) 2001 9999 = 7 := by
        rcases me_ok (sl := 2001) (sh := 9999) ht rw1 (by omega) with k | k
        · exact k.2.1
        · exfalso
          obtain ⟨o, y, hy, q1, q2⟩ := (mkR_mem (sl := 2001) (sh := 9999) ok rw1.1).mp ⟨0, by omega, rfl⟩
          have := str_bd (x := y) ok (by unfold onB; omega) o
          omega
      refine ⟨rfl, ?_⟩
      have hc : sub [1,1,1,1,1,1,0,1,0] (bodyOf Tryz.prog 9) = .loop bO := by kernel_rfl
      rw [← hc] at outer
      exact con_loopD (das := [.st [.sl 1 lw fw, .sl 1 lm fm, .rr 1 n ls f], .one (.i .u8 a), .one (.i .u8 b), .one (.i .u8 c), .one (.i .u8 d)]) (lv := xO true true) drawnC XY_ok (by kernel_rfl) (by kernel_rfl) (yc lw fw lm fm n ls f a b c d hth hf hs (by omega) (by omega) (lines_ln ok.w (by omega)) (lines_ln ok.m (by omega)) ⟨by omega, by omega⟩ ⟨by omega, by omega⟩ ⟨by omega, by omega⟩ ⟨by omega, by omega⟩ b1.1).ok outer
        (yi lw fw lm fm n ls f a b c d hth hs pv.1 k1 (by rw [has_t, n1]; exact hmem) (by rw [n1]; have := mcN_le (wl := (twL lw fw a b)) (wh := (twH lw fw a b)) (sl := (atV lw fw lm fm n ls f (twL lw fw a b) (twH lm fm c d))) (sh := (atV lw fw lm fm n ls f (twL lw fw a b) (twH lm fm c d))) ok; omega) k2).ok
    · exact fin (yb lw fw lm fm n ls f a b c d hth hf)
  · cases hv
end
theorem truth_any {W : World} {H : Type} {enc : TypeId × Value → H} {base : Nat} {args : List Value} {ds : List (DataW H)} {p : List MemPlace} (hval : ∀ (j : Nat) t v, Tryz.f9.params[j]? = some t → args[j]? = some v → Value.okWide Tryz.prog W .any base t v)
    (hA : DataW.TrodAll enc Tryz.prog W 0 (fun _ => true) true Tryz.f9.params.toList args ds p) : Calls Tryz.prog 9 args.toArray W (fun e w' => e = .returned (.bool true) ∧ Below W.heap.size W w') := by
  rw [Tryz.params9] at hA hval
  obtain ⟨x0, a0, d0, _, _, _, rfl, rfl, rfl, t0, hA⟩ := trodAll_cons hA
  obtain ⟨x1, a1, d1, _, _, _, rfl, rfl, rfl, t1, hA⟩ := trodAll_cons hA
  obtain ⟨x2, a2, d2, _, _, _, rfl, rfl, rfl, t2, hA⟩ := trodAll_cons hA
  obtain ⟨x3, a3, d3, _, _, _, rfl, rfl, rfl, t3, hA⟩ := trodAll_cons hA
  obtain ⟨x4, a4, d4, _, _, _, rfl, rfl, rfl, t4, hA⟩ := trodAll_cons hA
  obtain ⟨rfl, rfl, rfl⟩ := trodAll_nil hA
  obtain ⟨lw, fw, lm, fm, n, ls, f, r0⟩ := table_arg t0
  obtain ⟨n1, r1, b1⟩ := arg_int (P := Tryz.prog) (k := .u8) (by kernel_rfl) (hval 1 _ x1 rfl rfl) t1
  obtain ⟨n2, r2, b2⟩ := arg_int (P := Tryz.prog) (k := .u8) (by kernel_rfl) (hval 2 _ x2 rfl rfl) t2
  obtain ⟨n3, r3, b3⟩ := arg_int (P := Tryz.prog) (k := .u8) (by kernel_rfl) (hval 3 _ x3 rfl rfl) t3
  obtain ⟨n4, r4, b4⟩ := arg_int (P := Tryz.prog) (k := .u8) (by kernel_rfl) (hval 4 _ x4 rfl rfl) t4
  have hcf : cf valG [.agg 3 (T.setL .lf 0 [.fz true 0 (cellsI .i64 fw) lw 1, .fz true 0 (cellsI .i64 fm) lm 1, .fz true 0 (rowsI 0 1 ls f) n 1]), .int .u8 n1, .int .u8 n2, .int .u8 n3, .int .u8 n4] (heap0 1) = some (true, .bool true) := by
    have q1 : IntKind.u8.min = 0 := by kernel_rfl
    have p1 : IntKind.u8.max = 255 := by kernel_rfl
    rw [q1, p1] at b1
    have q2 : IntKind.u8.min = 0 := by kernel_rfl
    have p2 : IntKind.u8.max = 255 := by kernel_rfl
    rw [q2, p2] at b2
    have q3 : IntKind.u8.min = 0 := by kernel_rfl
    have p3 : IntKind.u8.max = 255 := by kernel_rfl
    rw [q3, p3] at b3
    have q4 : IntKind.u8.min = 0 := by kernel_rfl
    have p4 : IntKind.u8.max = 255 := by kernel_rfl
    rw [q4, p4] at b4
    have hd : decide (0 ≤ n1 ∧ n1 ≤ 255 ∧ 0 ≤ n2 ∧ n2 ≤ 255 ∧ 0 ≤ n3 ∧ n3 ≤ 255 ∧ 0 ≤ n4 ∧ n4 ≤ 255) = true := decide_eq_true (by omega)
    have e1 : okL [.agg 3 (T.setL .lf 0 [.fz true 0 (cellsI .i64 fw) lw 1, .fz true 0 (cellsI .i64 fm) lm 1, .fz true 0 (rowsI 0 1 ls f) n 1]), .int .u8 n1, .int .u8 n2, .int .u8 n3, .int .u8 n4] = cond (cond (allI .i64 (cellsI .i64 fw) lw 1) (cond (allI .i64 (cellsI .i64 fm) lm 1) (cond (allR 0 (rowsI 0 1 ls f) n 1) true false) false) false) true false := by kernel_rfl
    have e2 : cf valG [.agg 3 (T.setL .lf 0 [.fz true 0 (cellsI .i64 fw) lw 1, .fz true 0 (cellsI .i64 fm) lm 1, .fz true 0 (rowsI 0 1 ls f) n 1]), .int .u8 n1, .int .u8 n2, .int .u8 n3, .int .u8 n4] (heap0 1) = some (cond (okL [.agg 3 (T.setL .lf 0 [.fz true 0 (cellsI .i64 fw) lw 1, .fz true 0 (cellsI .i64 fm) lm 1, .fz true 0 (rowsI 0 1 ls f) n 1]), .int .u8 n1, .int .u8 n2, .int .u8 n3, .int .u8 n4]) (decide (0 ≤ n1 ∧ n1 ≤ 255 ∧ 0 ≤ n2 ∧ n2 ≤ 255 ∧ 0 ≤ n3 ∧ n3 ≤ 255 ∧ 0 ≤ n4 ∧ n4 ≤ 255)) false, .bool true) := by kernel_rfl
    rw [e2, e1, allI_cells, allI_cells, allR_rows, hd]; rfl
  have hs : SpecCall Tryz.prog 9 [.agg 3 (T.setL .lf 0 [.fz true 0 (cellsI .i64 fw) lw 1, .fz true 0 (cellsI .i64 fm) lm 1, .fz true 0 (rowsI 0 1 ls f) n 1]), .int .u8 n1, .int .u8 n2, .int .u8 n3, .int .u8 n4] (heap0 1) (.bool true) (bump (heap0 1)) := con_ok conG _ _ _ hcf
  have hal := al_cons r0 (al_cons r1 (al_cons r2 (al_cons r3 (al_cons r4 (show AL (renW W) [] ([] : List Value).toArray from AL.nil _)))))
  exact (run_args hs hal).mono fun e w' ⟨x, R, h1, h2, h3⟩ => by cases h2; exact ⟨h1, h3⟩
theorem truth_lifted (os : Os) (started : os.Started) (H : Type) (enc : TypeId × Value → H) :
    ReturnsInHanded {} Tryz.checked os 9 .any (Rows.tableTruthSpec.pre6 enc Tryz.prog Tryz.f9 Rows.tableTruthRow.domain false) (Rows.tableTruthSpec.post enc Tryz.prog Tryz.f9 false true false false) := by
  refine returnsInHanded_of_change (C := Tryz.checked) own started (by kernel_rfl) Tryz.func9
    (ChangeSpec.witness6 (enc := enc) (C := Tryz.checked) false ⟨#[], #[.agg #[.slice none 0 0, .slice none 0 0, .slice none 0 0], .int .u8 0, .int .u8 0, .int .u8 0, .int .u8 0], []⟩ 8 (by kernel_rfl) (by kernel_rfl) (by kernel_rfl) (by kernel_rfl)) ?_
  intro W base args ds gs before hval0 hW hcnd _
  have hW' := hW
  obtain ⟨p, q, hA0, hV, rfl, hfz, hnd⟩ := hW
  have hval : ∀ (j : Nat) t v, Tryz.f9.params[j]? = some t → args.toList[j]? = some v → Value.okWide Tryz.prog W .any base t v := fun j t v h1 h2 => hval0 j t v h1 (by simpa using h2)
  have h := truth_any (args := args.toList) hval hA0
  rw [show args.toList.toArray = args by simp] at h
  have hds : ∃ a b c d e0, ds = [a, b, c, d, e0] := by
    rw [Tryz.params9] at hA0
    obtain ⟨x0, a0, d0, _, _, _, _, rfl, _, _, hA0⟩ := trodAll_cons hA0
    obtain ⟨x1, a1, d1, _, _, _, _, rfl, _, _, hA0⟩ := trodAll_cons hA0
    obtain ⟨x2, a2, d2, _, _, _, _, rfl, _, _, hA0⟩ := trodAll_cons hA0
    obtain ⟨x3, a3, d3, _, _, _, _, rfl, _, _, hA0⟩ := trodAll_cons hA0
    obtain ⟨x4, a4, d4, _, _, _, _, rfl, _, _, hA⟩ := trodAll_cons hA0
    obtain ⟨_, rfl, _⟩ := trodAll_nil hA
    exact ⟨_, _, _, _, _, rfl⟩
  obtain ⟨a, b, c, d, e0, rfl⟩ := hds
  refine h.mono fun e W' ⟨he, hb⟩ => ?_
  exact ⟨_, he, Law.law_post laidOut (tb := 4) (by kernel_rfl) Tryz.underlying4 (fun t ht => by
    rw [Tryz.params9] at ht
    have ht : t ∈ [25, 5, 5, 5, 5] := ht
    simp only [List.mem_cons, List.not_mem_nil, or_false] at ht
    rcases ht with rfl | rfl | rfl | rfl | rfl <;> exact ⟨by kernel_rfl, of_decide_eq_true (by kernel_rfl)⟩) rfl hW' rfl rfl rfl hb⟩
theorem tableTruth_holds : Rows.TableTruthSaid :=
  OpenClaim.holds_of_wide 9 Tryz.f9 rfl rfl rfl rfl rfl rfl rfl ⟨rfl, rfl, rfl, rfl, rfl⟩ rfl rfl rfl rfl rfl (by kernel_rfl) Tryz.func9 (by kernel_rfl)
    (of_decide_eq_true (by kernel_rfl)) (by unfold Func.isWrapper; first | (rw [if_pos (by decide +kernel)]; kernel_rfl) | (rw [if_neg (by decide +kernel)]; exact ⟨rfl, rfl⟩))
    (fun os started H enc _ => truth_lifted os started H enc)
end Go.Proofs.YtdgaghmjocokcaaGreat
