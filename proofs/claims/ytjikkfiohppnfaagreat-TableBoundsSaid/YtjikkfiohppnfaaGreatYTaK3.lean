/- Tables: the marks that can mean strengths, as a contract. -/
import Derived.Test.YtjikkfiohppnfaaGreatYTaK2
set_option linter.all false
set_option linter.unusedSimpArgs false
set_option linter.unusedVariables false
namespace Go.Proofs.YtjikkfiohppnfaaGreat
open Go Go.Ev
set_option maxRecDepth 1000000
noncomputable section
section
variable (ok : Int → Bool) (m0 : Int)
def cntM (k : Nat) : Nat := Nat.rec 0 (fun k ih => cond (ok (m0 + ((k : Nat) : Int))) (ih + 1) ih) k
def FM (k : Nat) : Nat → Option V := Nat.rec (fun _ => none) (fun k ih => cond (ok (m0 + ((k : Nat) : Int))) (up ih (cntM ok m0 k) (m0 + ((k : Nat) : Int))) ih) k
def mkM (k : Nat) : Nat → Int := Nat.rec (fun _ => 0) (fun k ih => cond (ok (m0 + ((k : Nat) : Int))) (fun i => cond (Nat.beq i (cntM ok m0 k)) (m0 + ((k : Nat) : Int)) (ih i)) ih) k
theorem cnt_t {k : Nat} (h : ok (m0 + ((k : Nat) : Int)) = true) : cntM ok m0 (k + 1) = cntM ok m0 k + 1 := by show cond _ _ _ = _; rw [h]; rfl
theorem cnt_f {k : Nat} (h : ok (m0 + ((k : Nat) : Int)) = false) : cntM ok m0 (k + 1) = cntM ok m0 k := by show cond _ _ _ = _; rw [h]; rfl
theorem FM_t {k : Nat} (h : ok (m0 + ((k : Nat) : Int)) = true) : FM ok m0 (k + 1) = up (FM ok m0 k) (cntM ok m0 k) (m0 + ((k : Nat) : Int)) := by show cond _ _ _ = _; rw [h]; rfl
theorem FM_f {k : Nat} (h : ok (m0 + ((k : Nat) : Int)) = false) : FM ok m0 (k + 1) = FM ok m0 k := by show cond _ _ _ = _; rw [h]; rfl
theorem mk_t {k : Nat} (h : ok (m0 + ((k : Nat) : Int)) = true) : mkM ok m0 (k + 1) = fun i => cond (Nat.beq i (cntM ok m0 k)) (m0 + ((k : Nat) : Int)) (mkM ok m0 k i) := by show cond _ _ _ = _; rw [h]; rfl
theorem mk_f {k : Nat} (h : ok (m0 + ((k : Nat) : Int)) = false) : mkM ok m0 (k + 1) = mkM ok m0 k := by show cond _ _ _ = _; rw [h]; rfl
theorem cnt_le : ∀ k, cntM ok m0 k ≤ k
  | 0 => Nat.le_refl _
  | k + 1 => by
    have := cnt_le k
    cases h : ok (m0 + ((k : Nat) : Int)) with
    | true => rw [cnt_t ok m0 h]; omega
    | false => rw [cnt_f ok m0 h]; omega
theorem FM_zero : ∀ {k}, cntM ok m0 k = 0 → FM ok m0 k = fun _ => none := by
  intro k
  induction k with
  | zero => intro _; rfl
  | succ k ih =>
    intro h0
    cases h : ok (m0 + ((k : Nat) : Int)) with
    | true => rw [cnt_t ok m0 h] at h0; omega
    | false => rw [cnt_f ok m0 h] at h0; rw [FM_f ok m0 h]; exact ih h0
theorem FM_get : ∀ {k i}, i < cntM ok m0 k → FM ok m0 k i = some (.int .i64 (mkM ok m0 k i)) := by
  intro k
  induction k with
  | zero => intro i hi; exact absurd hi (by show ¬ i < 0; omega)
  | succ k ih =>
    intro i hi
    cases h : ok (m0 + ((k : Nat) : Int)) with
    | true =>
      rw [cnt_t ok m0 h] at hi
      rw [FM_t ok m0 h, mk_t ok m0 h]
      show cond (Nat.beq i (cntM ok m0 k)) (some (V.int .i64 (m0 + ((k : Nat) : Int)))) (FM ok m0 k i) = some (V.int .i64 (cond (Nat.beq i (cntM ok m0 k)) (m0 + ((k : Nat) : Int)) (mkM ok m0 k i)))
      cases q : Nat.beq i (cntM ok m0 k) with
      | true => rfl
      | false =>
        have : i ≠ cntM ok m0 k := fun e => by rw [e, nbeq_refl] at q; cases q
        exact ih (by omega)
    | false =>
      rw [cnt_f ok m0 h] at hi
      rw [FM_f ok m0 h, mk_f ok m0 h]
      exact ih hi
end
def okm (lw : Nat) (fw : Nat → Nat → Int) (lm : Nat) (fm : Nat → Nat → Int) (f : Nat → Nat → Nat → Int) (wl wh sl sh m : Int) : Bool := anyI sl sh (fun i _ => valsS lw fw lm fm f wl m m i) (nW wl wh * nM m m)
def nK (lm : Nat) (fm : Nat → Nat → Int) : Nat := Int.toNat (fm (lm - 1) 0 - fm 0 0 + 1)
section
variable (lw : Nat) (fw : Nat → Nat → Int) (lm : Nat) (fm : Nat → Nat → Int) (n : Nat) (ls : Nat → Nat) (f : Nat → Nat → Nat → Int) (wl wh sl sh : Int)
def stM (k : Nat) : GS := cond (Nat.beq (cntM (okm lw fw lm fm f wl wh sl sh) (fm 0 0) k) 0) (gM0 (fm 0 0 + ((k : Nat) : Int))) (gM (fm 0 0 + ((k : Nat) : Int)) (cntM (okm lw fw lm fm f wl wh sl sh) (fm 0 0) k) (FM (okm lw fw lm fm f wl wh sl sh) (fm 0 0) k) false)
theorem stM_0 {k : Nat} (h : cntM (okm lw fw lm fm f wl wh sl sh) (fm 0 0) k = 0) : stM lw fw lm fm f wl wh sl sh k = gM0 (fm 0 0 + ((k : Nat) : Int)) := by unfold stM; rw [h]; rfl
theorem stM_1 {k : Nat} (h : ¬ cntM (okm lw fw lm fm f wl wh sl sh) (fm 0 0) k = 0) : stM lw fw lm fm f wl wh sl sh k = gM (fm 0 0 + ((k : Nat) : Int)) (cntM (okm lw fw lm fm f wl wh sl sh) (fm 0 0) k) (FM (okm lw fw lm fm f wl wh sl sh) (fm 0 0) k) false := by
  unfold stM
  cases q : Nat.beq (cntM (okm lw fw lm fm f wl wh sl sh) (fm 0 0) k) 0 with
  | true => exact absurd (nb q) h
  | false => rfl
theorem okG0 (ts : List Nat) (s : GS) (h : (envM lw fw lm fm n ls f wl wh sl sh).okB ⟨ts, s⟩ = true) (hn : s.acc = none) : (envM lw fw lm fm n ls f wl wh sl sh).ok ⟨ts, s⟩ := ⟨h, by show accFlat s.acc; rw [hn]; exact trivial⟩
theorem okG1 (ts : List Nat) (l : List V) (T : Nat) (F : Nat → Option V) (lit : Bool) (h : (envM lw fw lm fm n ls f wl wh sl sh).okB ⟨ts, ⟨l, [], some ⟨10, 10, T, .fn F, .tmp 7, lit⟩⟩⟩ = true) (hF : ∀ i, i < T → ∃ v, F i = some (.int .i64 v)) : (envM lw fw lm fm n ls f wl wh sl sh).ok ⟨ts, ⟨l, [], some ⟨10, 10, T, .fn F, .tmp 7, lit⟩⟩⟩ :=
  ⟨h, fun i hi => by obtain ⟨v, e⟩ := hF i hi; exact ⟨_, e, rfl⟩⟩
theorem loopM (ht : TabOk lw fw lm fm n ls f) (hw : rgB lw fw wl wh) : JP Tryz.prog (envM lw fw lm fm n ls f wl wh sl sh) none (.loop bM) ⟨tsM, gM0 (fm 0 0)⟩ (.exit 0)
    ⟨[7], cond (Nat.beq (cntM (okm lw fw lm fm f wl wh sl sh) (fm 0 0) (nK lm fm)) 0) xM0 (xM (cntM (okm lw fw lm fm f wl wh sl sh) (fm 0 0) (nK lm fm)) (FM (okm lw fw lm fm f wl wh sl sh) (fm 0 0) (nK lm fm)))⟩ := by
  have m2' := ht.m.two
  have m5' := ht.m.five
  have ma := ht.m.inn 0 (by omega)
  have mz := ht.m.inn (lm - 1) (by omega)
  have hK : ((nK lm fm : Nat) : Int) = fm (lm - 1) 0 - fm 0 0 + 1 := by
    have := lines_le ht.m (show 0 ≤ lm - 1 by omega) (by omega)
    unfold nK; omega
  have hl : Int.toNat ((lm : Int) - 1) = lm - 1 := by omega
  have e0 : gM0 (fm 0 0) = stM lw fw lm fm f wl wh sl sh 0 := by
    have : fm 0 0 + ((0 : Nat) : Int) = fm 0 0 := by omega
    unfold stM
    rw [this]; rfl
  rw [e0]
  have hFg : ∀ k i, i < cntM (okm lw fw lm fm f wl wh sl sh) (fm 0 0) k → ∃ v, FM (okm lw fw lm fm f wl wh sl sh) (fm 0 0) k i = some (.int .i64 v) := fun k i hi => ⟨_, FM_get _ _ hi⟩
  have w2 := ht.w.two
  have wa := ht.w.inn 0 (by omega)
  have wz := ht.w.inn (lw - 1) (by omega)
  refine JP_loop (o := .exit 0) (fun q => by cases q) (nK lm fm) (stM lw fw lm fm f wl wh sl sh) (fun k hk => ?_) ?_
  · have hm : fm 0 0 + ((k : Nat) : Int) ≤ fm (Int.toNat ((lm : Int) - 1)) 0 := by rw [hl]; omega
    have hb : -1000 ≤ fm 0 0 + ((k : Nat) : Int) ∧ fm 0 0 + ((k : Nat) : Int) ≤ 1000 := by omega
    have hp := pts_ok ht hw (c := fm 0 0 + ((k : Nat) : Int)) (d := fm 0 0 + ((k : Nat) : Int)) ⟨Int.le_refl _, ⟨by omega, by rw [hl] at hm; exact hm⟩, ⟨by omega, by rw [hl] at hm; exact hm⟩⟩
    have hn : nW wl wh * nM (fm 0 0 + ((k : Nat) : Int)) (fm 0 0 + ((k : Nat) : Int)) ≤ 1000000 := by
      have q1 := nM_eq (fm 0 0 + ((k : Nat) : Int)) (fm 0 0 + ((k : Nat) : Int)) (Int.le_refl _)
      have q2 : (nW wl wh : Int) = wh - wl + 1 := nM_eq wl wh hw.1
      have p1 := hw.2.1.1
      have p2 := hw.2.2.2
      have := Nat.mul_le_mul (show nW wl wh ≤ 101 by omega) (show nM (fm 0 0 + ((k : Nat) : Int)) (fm 0 0 + ((k : Nat) : Int)) ≤ 1 by omega)
      omega
    have hc := cnt_le (okm lw fw lm fm f wl wh sl sh) (fm 0 0) k
    have hs : fm 0 0 + (((k + 1 : Nat)) : Int) = fm 0 0 + ((k : Nat) : Int) + 1 := by omega
    cases ho : okm lw fw lm fm f wl wh sl sh (fm 0 0 + ((k : Nat) : Int)) with
    | true =>
      have c1 := cnt_t (okm lw fw lm fm f wl wh sl sh) (fm 0 0) ho
      rw [stM_1 lw fw lm fm f wl wh sl sh (k := k + 1) (by rw [c1]; omega), hs, FM_t _ _ ho, c1]
      by_cases c0 : cntM (okm lw fw lm fm f wl wh sl sh) (fm 0 0) k = 0
      · rw [stM_0 lw fw lm fm f wl wh sl sh c0, FM_zero _ _ c0, c0]
        have := piece_of drawnC XM_ok (okG0 lw fw lm fm n ls f wl wh sl sh tsM (gM0 (fm 0 0 + ((k : Nat) : Int))) (by kernel_rfl) rfl) (okG1 lw fw lm fm n ls f wl wh sl sh tsM _ 1 (up (fun _ => none) 0 (fm 0 0 + ((k : Nat) : Int))) true (by kernel_rfl) (fun i hi => by
          have : i = 0 := by omega
          subst this; exact ⟨_, rfl⟩)) (m1 lw fw lm fm n ls f wl wh sl sh (fm 0 0 + ((k : Nat) : Int)) ⟨m2', m5'⟩ hm hb hp hn ho).ok
        exact this
      · rw [stM_1 lw fw lm fm f wl wh sl sh c0]
        exact piece_of drawnC XM_ok (okG1 lw fw lm fm n ls f wl wh sl sh tsM _ _ _ false (by kernel_rfl) (hFg k)) (okG1 lw fw lm fm n ls f wl wh sl sh tsM _ _ _ false (by kernel_rfl) (fun i hi => by
          have := hFg (k + 1) i (by rw [c1]; exact hi)
          rw [FM_t _ _ ho] at this; exact this)) (m3 lw fw lm fm n ls f wl wh sl sh (fm 0 0 + ((k : Nat) : Int)) _ _ (by omega) ⟨m2', m5'⟩ hm hb hp hn ho).ok
    | false =>
      have c1 := cnt_f (okm lw fw lm fm f wl wh sl sh) (fm 0 0) ho
      by_cases c0 : cntM (okm lw fw lm fm f wl wh sl sh) (fm 0 0) k = 0
      · rw [stM_0 lw fw lm fm f wl wh sl sh c0, stM_0 lw fw lm fm f wl wh sl sh (k := k + 1) (by rw [c1]; exact c0), hs]
        exact piece_of drawnC XM_ok (okG0 lw fw lm fm n ls f wl wh sl sh tsM _ (by kernel_rfl) rfl) (okG0 lw fw lm fm n ls f wl wh sl sh tsM _ (by kernel_rfl) rfl) (m2 lw fw lm fm n ls f wl wh sl sh (fm 0 0 + ((k : Nat) : Int)) ⟨m2', m5'⟩ hm hb hp hn ho).ok
      · rw [stM_1 lw fw lm fm f wl wh sl sh c0, stM_1 lw fw lm fm f wl wh sl sh (k := k + 1) (by rw [c1]; exact c0), hs, c1, FM_f _ _ ho]
        exact piece_of drawnC XM_ok (okG1 lw fw lm fm n ls f wl wh sl sh tsM _ _ _ false (by kernel_rfl) (hFg k)) (okG1 lw fw lm fm n ls f wl wh sl sh tsM _ _ _ false (by kernel_rfl) (hFg k)) (m4 lw fw lm fm n ls f wl wh sl sh (fm 0 0 + ((k : Nat) : Int)) _ _ (by omega) ⟨m2', m5'⟩ hm hb hp hn ho).ok
  · have hm : ¬ fm 0 0 + ((nK lm fm : Nat) : Int) ≤ fm (Int.toNat ((lm : Int) - 1)) 0 := by rw [hl]; omega
    by_cases c0 : cntM (okm lw fw lm fm f wl wh sl sh) (fm 0 0) (nK lm fm) = 0
    · rw [stM_0 lw fw lm fm f wl wh sl sh c0, c0]
      exact piece_of drawnC XM_ok (okG0 lw fw lm fm n ls f wl wh sl sh tsM _ (by kernel_rfl) rfl) (okG0 lw fw lm fm n ls f wl wh sl sh [7] xM0 (by kernel_rfl) rfl) (m5 lw fw lm fm n ls f wl wh sl sh _ ⟨m2', m5'⟩ hm).ok
    · rw [stM_1 lw fw lm fm f wl wh sl sh c0]
      have q : Nat.beq (cntM (okm lw fw lm fm f wl wh sl sh) (fm 0 0) (nK lm fm)) 0 = false := by
        cases q : Nat.beq (cntM (okm lw fw lm fm f wl wh sl sh) (fm 0 0) (nK lm fm)) 0 with
        | true => exact absurd (nb q) c0
        | false => rfl
      rw [q]
      exact piece_of drawnC XM_ok (okG1 lw fw lm fm n ls f wl wh sl sh tsM _ _ _ false (by kernel_rfl) (hFg _)) (okG1 lw fw lm fm n ls f wl wh sl sh [7] _ _ _ false (by kernel_rfl) (hFg _)) (m6 lw fw lm fm n ls f wl wh sl sh _ _ _ ⟨m2', m5'⟩ hm).ok
end
noncomputable def val76 : Val := fun das => match das with | [.st [.sl 1 lw fw, .sl 1 lm fm, .rr 1 n ls f], .st [.i .i64 wl, .i .i64 wh], .st [.i .i64 sl, .i .i64 sh]] => some (cond (iEq (tabE lw fw lm fm n ls f) 0) (rgI lw fw wl wh) false, .fz true 0 (cellsI .i64 (fun i _ => mkM (okm lw fw lm fm f wl wh sl sh) (fm 0 0) (nK lm fm) i)) (cntM (okm lw fw lm fm f wl wh sl sh) (fm 0 0) (nK lm fm)) 1) | _ => none
theorem con76 : ConN Tryz.prog 76 val76 := by
  intro das v hv
  unfold val76 at hv
  split at hv
  · rename_i lw fw lm fm n ls f wl wh sl sh
    have hb := congrArg Prod.fst (Option.some.inj hv)
    have hv := congrArg Prod.snd (Option.some.inj hv)
    subst hv
    obtain ⟨h1, h2⟩ := cond_tt hb
    have ht := tabE_get ((iEq_t _ _).mp h1)
    have hw := rgI_t.mp h2
    have hL := loopM lw fw lm fm n ls f wl wh sl sh ht hw
    have hc : sub [1,1,0,1,0] (bodyOf Tryz.prog 76) = .loop bM := by kernel_rfl
    rw [← hc] at hL
    by_cases c0 : cntM (okm lw fw lm fm f wl wh sl sh) (fm 0 0) (nK lm fm) = 0
    · rw [c0] at hL ⊢
      obtain ⟨v', H', q1, q2⟩ := con_atD (das := [.st [.sl 1 lw fw, .sl 1 lm fm, .rr 1 n ls f], .st [.i .i64 wl, .i .i64 wh], .st [.i .i64 sl, .i .i64 sh]]) drawnC XM_ok (by kernel_rfl) (mE lw fw lm fm n ls f wl wh sl sh ⟨ht.m.two, ht.m.five⟩) (okG0 lw fw lm fm n ls f wl wh sl sh tsM _ (by kernel_rfl) rfl) hL (m7 lw fw lm fm n ls f wl wh sl sh)
      have q2 : v' = .nilSlice := q2
      subst q2
      exact ⟨_, H', q1, fun new => .one (.one .nilS)⟩
    · have q : Nat.beq (cntM (okm lw fw lm fm f wl wh sl sh) (fm 0 0) (nK lm fm)) 0 = false := by
        cases q : Nat.beq (cntM (okm lw fw lm fm f wl wh sl sh) (fm 0 0) (nK lm fm)) 0 with
        | true => exact absurd (nb q) c0
        | false => rfl
      rw [q] at hL
      obtain ⟨v', H', q1, q2⟩ := con_atD (das := [.st [.sl 1 lw fw, .sl 1 lm fm, .rr 1 n ls f], .st [.i .i64 wl, .i .i64 wh], .st [.i .i64 sl, .i .i64 sh]]) drawnC XM_ok (by kernel_rfl) (mE lw fw lm fm n ls f wl wh sl sh ⟨ht.m.two, ht.m.five⟩) (okG0 lw fw lm fm n ls f wl wh sl sh tsM _ (by kernel_rfl) rfl) hL (m8 lw fw lm fm n ls f wl wh sl sh _ _)
      exact ⟨v', H', q1, rowIs_fn q2 (f := mkM (okm lw fw lm fm f wl wh sl sh) (fm 0 0) (nK lm fm)) fun i hi => FM_get _ _ hi⟩
  · cases hv
end
end Go.Proofs.YtjikkfiohppnfaaGreat
