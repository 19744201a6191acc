/- Tables: the marks that can mean strengths, to the reference, as a contract. -/
import Derived.Test.YtjikkfiohppnfaaGreatYTaU0
import Derived.Test.YtjikkfiohppnfaaGreatYTaM7
set_option linter.all false
set_option linter.unusedSimpArgs false
set_option linter.unusedVariables false
namespace Go.Proofs.YtjikkfiohppnfaaGreat
open Go Go.Ev
set_option maxRecDepth 1000000
noncomputable section
theorem any_up {lo hi : Int} {g : Nat → Nat → Int} {k : Nat} (h : anyI lo hi g k = true) : anyI lo hi g (k + 1) = true := by
  obtain ⟨i, h1, h2⟩ := any_t.mp h
  exact any_t.mpr ⟨i, by omega, h2⟩
theorem any_in {lo hi : Int} {g : Nat → Nat → Int} {k : Nat} (h : lo ≤ g k 0 ∧ g k 0 ≤ hi) : anyI lo hi g (k + 1) = true := any_t.mpr ⟨k, by omega, h⟩
theorem any_out {lo hi : Int} {g : Nat → Nat → Int} {k : Nat} (h : anyI lo hi g k = false) (h2 : ¬ (lo ≤ g k 0 ∧ g k 0 ≤ hi)) : anyI lo hi g (k + 1) = false := by
  cases q : anyI lo hi g (k + 1) with
  | false => rfl
  | true =>
    obtain ⟨i, q1, q2⟩ := any_t.mp q
    by_cases c : i = k
    · subst c; exact absurd q2 h2
    · rw [any_t.mpr ⟨i, by omega, q2⟩] at h; cases h
theorem any_cg {lo hi : Int} {g g2 : Nat → Nat → Int} {n n2 : Nat} (e : n = n2) (h : ∀ i, i < n → g i 0 = g2 i 0) : anyI lo hi g n = anyI lo hi g2 n2 := by
  subst e
  have l : ∀ {g g2 : Nat → Nat → Int}, (∀ i, i < n → g i 0 = g2 i 0) → anyI lo hi g n = true → anyI lo hi g2 n = true := fun h q => by
    obtain ⟨i, q1, q2⟩ := any_t.mp q
    exact any_t.mpr ⟨i, q1, by rw [← h i q1]; exact q2⟩
  cases q : anyI lo hi g n with
  | true => exact (l h q).symm
  | false =>
    cases q2 : anyI lo hi g2 n with
    | false => rfl
    | true => rw [l (fun i hi => (h i hi).symm) q2] at q; cases q
section
variable (lw : Nat) (fw : Nat → Nat → Int) (lm : Nat) (fm : Nat → Nat → Int) (n : Nat) (ls : Nat → Nat) (f : Nat → Nat → Nat → Int) (wl wh sl sh : Int)
def gW (m : Int) (i : Nat) (_ : Nat) : Int := strI lw fw lm fm f (wl + ((i : Nat) : Int)) m
theorem okm_eq (m : Int) : anyI sl sh (gW lw fw lm fm f wl m) (nW wl wh) = okm lw fw lm fm f wl wh sl sh m := by
  have h1 : nM m m = 1 := by have := nM_eq m m (Int.le_refl _); omega
  refine any_cg (by rw [h1, Nat.mul_one]) fun i _ => ?_
  show strI lw fw lm fm f (wl + ((i : Nat) : Int)) m = strI lw fw lm fm f (wl + ((i / nM m m : Nat) : Int)) (m + ((i % nM m m : Nat) : Int))
  rw [h1, Nat.div_one, Nat.mod_one, show m + ((0 : Nat) : Int) = m by omega]
theorem innU (m : Int) (T : Nat) (F : Nat → Option V) (hT : tabE lw fw lm fm n ls f = 0) (hw : rgB lw fw wl wh) (hm : onB lm fm m) (b : Bool) (hb : okm lw fw lm fm f wl wh sl sh m = b) : JL Tryz.prog (baseIn lw fw lm fm n ls f wl wh sl sh m T F) ltIn 48 60 none (.loop bIn) (sIn m T false wl) (xIn m T b) := by
  have ht := tabE_get hT
  have w2 := ht.w.two
  have wa := ht.w.inn 0 (by omega)
  have wz := ht.w.inn (lw - 1) (by omega)
  have hw' := hw
  unfold rgB onB at hw'
  have hN : (nW wl wh : Int) = wh - wl + 1 := nM_eq wl wh hw.1
  have e0 : sIn m T false wl = (fun k : Nat => sIn m T (anyI sl sh (gW lw fw lm fm f wl m) k) (wl + ((k : Nat) : Int))) 0 := by
    show _ = sIn m T _ (wl + ((0 : Nat) : Int))
    rw [show wl + ((0 : Nat) : Int) = wl by omega]; rfl
  rw [e0, ← hb, ← okm_eq]
  refine loop_rule (lv := xIn m T (anyI sl sh (gW lw fw lm fm f wl m) (nW wl wh))) (body := bIn) (fun _ e => by cases e) (nW wl wh) (fun k : Nat => sIn m T (anyI sl sh (gW lw fw lm fm f wl m) k) (wl + ((k : Nat) : Int))) (fun k hk => ?_) (round_of drawnC XRb_ok (i4 lw fw lm fm n ls f wl wh sl sh m T F _ _ (by omega)).ok (by kernel_rfl) (by kernel_rfl))
  show JL _ _ _ _ _ _ _ (sIn m T (anyI sl sh (gW lw fw lm fm f wl m) k) (wl + ((k : Nat) : Int))) (.next (sIn m T (anyI sl sh (gW lw fw lm fm f wl m) (k + 1)) (wl + ((k + 1 : Nat) : Int))))
  rw [show wl + ((k + 1 : Nat) : Int) = wl + ((k : Nat) : Int) + 1 by omega]
  have o1 : onI lw fw (wl + ((k : Nat) : Int)) = true := onI_t.mpr (by unfold onB; omega)
  have o2 : onI lm fm m = true := onI_t.mpr hm
  have h1 : -1000 ≤ wl + ((k : Nat) : Int) ∧ wl + ((k : Nat) : Int) ≤ wh := by omega
  have h2 : wh ≤ 1000 := by omega
  cases q : anyI sl sh (gW lw fw lm fm f wl m) k with
  | true => rw [any_up q]; exact round_of drawnC XRb_ok (i1 lw fw lm fm n ls f wl wh sl sh m T F _ h1 h2).ok (by kernel_rfl) (by kernel_rfl)
  | false =>
    by_cases c : sl ≤ gW lw fw lm fm f wl m k 0 ∧ gW lw fw lm fm f wl m k 0 ≤ sh
    · rw [any_in c]; exact round_of drawnC XRb_ok (i2 lw fw lm fm n ls f wl wh sl sh m T F _ hT h1 h2 o1 o2 c).ok (by kernel_rfl) (by kernel_rfl)
    · rw [any_out q c]; exact round_of drawnC XRb_ok (i3 lw fw lm fm n ls f wl wh sl sh m T F _ hT h1 h2 o1 o2 c).ok (by kernel_rfl) (by kernel_rfl)
theorem innU0 (m : Int) (hT : tabE lw fw lm fm n ls f = 0) (hw : rgB lw fw wl wh) (hm : onB lm fm m) (b : Bool) (hb : okm lw fw lm fm f wl wh sl sh m = b) : JL Tryz.prog (baseIn0 lw fw lm fm n ls f wl wh sl sh m) ltIn 48 60 none (.loop bIn) (sIn0 m false wl) (xIn0 m b) := by
  have ht := tabE_get hT
  have w2 := ht.w.two
  have wa := ht.w.inn 0 (by omega)
  have wz := ht.w.inn (lw - 1) (by omega)
  have hw' := hw
  unfold rgB onB at hw'
  have hN : (nW wl wh : Int) = wh - wl + 1 := nM_eq wl wh hw.1
  have e0 : sIn0 m false wl = (fun k : Nat => sIn0 m (anyI sl sh (gW lw fw lm fm f wl m) k) (wl + ((k : Nat) : Int))) 0 := by
    show _ = sIn0 m _ (wl + ((0 : Nat) : Int))
    rw [show wl + ((0 : Nat) : Int) = wl by omega]; rfl
  rw [e0, ← hb, ← okm_eq]
  refine loop_rule (lv := xIn0 m (anyI sl sh (gW lw fw lm fm f wl m) (nW wl wh))) (body := bIn) (fun _ e => by cases e) (nW wl wh) (fun k : Nat => sIn0 m (anyI sl sh (gW lw fw lm fm f wl m) k) (wl + ((k : Nat) : Int))) (fun k hk => ?_) (round_of drawnC XRb_ok (j4 lw fw lm fm n ls f wl wh sl sh m _ _ (by omega)).ok (by kernel_rfl) (by kernel_rfl))
  show JL _ _ _ _ _ _ _ (sIn0 m (anyI sl sh (gW lw fw lm fm f wl m) k) (wl + ((k : Nat) : Int))) (.next (sIn0 m (anyI sl sh (gW lw fw lm fm f wl m) (k + 1)) (wl + ((k + 1 : Nat) : Int))))
  rw [show wl + ((k + 1 : Nat) : Int) = wl + ((k : Nat) : Int) + 1 by omega]
  have o1 : onI lw fw (wl + ((k : Nat) : Int)) = true := onI_t.mpr (by unfold onB; omega)
  have o2 : onI lm fm m = true := onI_t.mpr hm
  have h1 : -1000 ≤ wl + ((k : Nat) : Int) ∧ wl + ((k : Nat) : Int) ≤ wh := by omega
  have h2 : wh ≤ 1000 := by omega
  cases q : anyI sl sh (gW lw fw lm fm f wl m) k with
  | true => rw [any_up q]; exact round_of drawnC XRb_ok (j1 lw fw lm fm n ls f wl wh sl sh m _ h1 h2).ok (by kernel_rfl) (by kernel_rfl)
  | false =>
    by_cases c : sl ≤ gW lw fw lm fm f wl m k 0 ∧ gW lw fw lm fm f wl m k 0 ≤ sh
    · rw [any_in c]; exact round_of drawnC XRb_ok (j2 lw fw lm fm n ls f wl wh sl sh m _ hT h1 h2 o1 o2 c).ok (by kernel_rfl) (by kernel_rfl)
    · rw [any_out q c]; exact round_of drawnC XRb_ok (j3 lw fw lm fm n ls f wl wh sl sh m _ hT h1 h2 o1 o2 c).ok (by kernel_rfl) (by kernel_rfl)
def stU (k : Nat) : GS := cond (Nat.beq (cntM (okm lw fw lm fm f wl wh sl sh) (fm 0 0) k) 0) (gUr0 (fm 0 0 + ((k : Nat) : Int))) (gUr (fm 0 0 + ((k : Nat) : Int)) (cntM (okm lw fw lm fm f wl wh sl sh) (fm 0 0) k) (FM (okm lw fw lm fm f wl wh sl sh) (fm 0 0) k) false)
theorem stU_0 {k : Nat} (h : cntM (okm lw fw lm fm f wl wh sl sh) (fm 0 0) k = 0) : stU lw fw lm fm f wl wh sl sh k = gUr0 (fm 0 0 + ((k : Nat) : Int)) := by unfold stU; rw [h]; rfl
theorem stU_1 {k : Nat} (h : ¬ cntM (okm lw fw lm fm f wl wh sl sh) (fm 0 0) k = 0) : stU lw fw lm fm f wl wh sl sh k = gUr (fm 0 0 + ((k : Nat) : Int)) (cntM (okm lw fw lm fm f wl wh sl sh) (fm 0 0) k) (FM (okm lw fw lm fm f wl wh sl sh) (fm 0 0) k) false := by
  unfold stU
  cases q : Nat.beq (cntM (okm lw fw lm fm f wl wh sl sh) (fm 0 0) k) 0 with
  | true => exact absurd (nb q) h
  | false => rfl
theorem okU0 (ts : List Nat) (s : GS) (h : (envUr lw fw lm fm n ls f wl wh sl sh).okB ⟨ts, s⟩ = true) (hn : s.acc = none) : (envUr lw fw lm fm n ls f wl wh sl sh).ok ⟨ts, s⟩ := ⟨h, by show accFlat s.acc; rw [hn]; exact trivial⟩
theorem okU1 (ts : List Nat) (l : List V) (T : Nat) (F : Nat → Option V) (lit : Bool) (h : (envUr lw fw lm fm n ls f wl wh sl sh).okB ⟨ts, ⟨l, [], some ⟨7, 7, T, .fn F, .tmp 7, lit⟩⟩⟩ = true) (hF : ∀ i, i < T → ∃ v, F i = some (.int .i64 v)) : (envUr lw fw lm fm n ls f wl wh sl sh).ok ⟨ts, ⟨l, [], some ⟨7, 7, T, .fn F, .tmp 7, lit⟩⟩⟩ :=
  ⟨h, fun i hi => by obtain ⟨v, e⟩ := hF i hi; exact ⟨_, e, rfl⟩⟩
theorem loopU (hT : tabE lw fw lm fm n ls f = 0) (hw : rgB lw fw wl wh) : JP Tryz.prog (envUr lw fw lm fm n ls f wl wh sl sh) none (.loop bUr) ⟨tsUr, gUr0 (fm 0 0)⟩ (.exit 0)
    ⟨[7], cond (Nat.beq (cntM (okm lw fw lm fm f wl wh sl sh) (fm 0 0) (nK lm fm)) 0) xUr0 (xUr (cntM (okm lw fw lm fm f wl wh sl sh) (fm 0 0) (nK lm fm)) (FM (okm lw fw lm fm f wl wh sl sh) (fm 0 0) (nK lm fm)))⟩ := by
  have ht := tabE_get hT
  have m2' := ht.m.two
  have m5' := ht.m.five
  have ma := ht.m.inn 0 (by omega)
  have mz := ht.m.inn (lm - 1) (by omega)
  have hK : ((nK lm fm : Nat) : Int) = fm (lm - 1) 0 - fm 0 0 + 1 := by
    have := lines_le ht.m (show 0 ≤ lm - 1 by omega) (by omega)
    unfold nK; omega
  have hl : Int.toNat ((lm : Int) - 1) = lm - 1 := by omega
  have e0 : gUr0 (fm 0 0) = stU lw fw lm fm f wl wh sl sh 0 := by
    have : fm 0 0 + ((0 : Nat) : Int) = fm 0 0 := by omega
    unfold stU
    rw [this]; rfl
  rw [e0]
  have hFg : ∀ k i, i < cntM (okm lw fw lm fm f wl wh sl sh) (fm 0 0) k → ∃ v, FM (okm lw fw lm fm f wl wh sl sh) (fm 0 0) k i = some (.int .i64 v) := fun k i hi => ⟨_, FM_get _ _ hi⟩
  have w2 := ht.w.two
  have wa := ht.w.inn 0 (by omega)
  have wz := ht.w.inn (lw - 1) (by omega)
  refine JP_loop (o := .exit 0) (fun q => by cases q) (nK lm fm) (stU lw fw lm fm f wl wh sl sh) (fun k hk => ?_) ?_
  · have hm : fm 0 0 + ((k : Nat) : Int) ≤ fm (Int.toNat ((lm : Int) - 1)) 0 := by rw [hl]; omega
    have hb : -1000 ≤ fm 0 0 + ((k : Nat) : Int) ∧ fm 0 0 + ((k : Nat) : Int) ≤ 1000 := by omega
    have hmo : onB lm fm (fm 0 0 + ((k : Nat) : Int)) := by unfold onB; omega
    have hin : Code.loop bIn = sub [1,0,0,1,0,1,0] bUr := by kernel_rfl
    have hc := cnt_le (okm lw fw lm fm f wl wh sl sh) (fm 0 0) k
    have hs : fm 0 0 + (((k + 1 : Nat)) : Int) = fm 0 0 + ((k : Nat) : Int) + 1 := by omega
    cases ho : okm lw fw lm fm f wl wh sl sh (fm 0 0 + ((k : Nat) : Int)) with
    | true =>
      have c1 := cnt_t (okm lw fw lm fm f wl wh sl sh) (fm 0 0) ho
      rw [stU_1 lw fw lm fm f wl wh sl sh (k := k + 1) (by rw [c1]; omega), hs, FM_t _ _ ho, c1]
      by_cases c0 : cntM (okm lw fw lm fm f wl wh sl sh) (fm 0 0) k = 0
      · rw [stU_0 lw fw lm fm f wl wh sl sh c0, FM_zero _ _ c0, c0]
        have := JP_nest drawnC XRb_ok (c := bUr) (p := [1,0,0,1,0,1,0]) (okU0 lw fw lm fm n ls f wl wh sl sh tsUr (gUr0 (fm 0 0 + ((k : Nat) : Int))) (by kernel_rfl) rfl) (okU1 lw fw lm fm n ls f wl wh sl sh tsUr _ 1 (up (fun _ => none) 0 (fm 0 0 + ((k : Nat) : Int))) true (by kernel_rfl) (fun i hi => by
          have : i = 0 := by omega
          subst this; exact ⟨_, rfl⟩)) (n1 lw fw lm fm n ls f wl wh sl sh (fm 0 0 + ((k : Nat) : Int)) ⟨m2', m5'⟩ hm hb) (hin ▸ innU0 lw fw lm fm n ls f wl wh sl sh (fm 0 0 + ((k : Nat) : Int)) hT hw hmo true ho) (n3 lw fw lm fm n ls f wl wh sl sh (fm 0 0 + ((k : Nat) : Int)) hb)
        exact this
      · rw [stU_1 lw fw lm fm f wl wh sl sh c0]
        exact JP_nest drawnC XRb_ok (c := bUr) (p := [1,0,0,1,0,1,0]) (okU1 lw fw lm fm n ls f wl wh sl sh tsUr _ _ _ false (by kernel_rfl) (hFg k)) (okU1 lw fw lm fm n ls f wl wh sl sh tsUr _ _ _ false (by kernel_rfl) (fun i hi => by
          have := hFg (k + 1) i (by rw [c1]; exact hi)
          rw [FM_t _ _ ho] at this; exact this)) (n2 lw fw lm fm n ls f wl wh sl sh (fm 0 0 + ((k : Nat) : Int)) _ _ ⟨m2', m5'⟩ hm hb) (hin ▸ innU lw fw lm fm n ls f wl wh sl sh (fm 0 0 + ((k : Nat) : Int)) _ _ hT hw hmo true ho) (n5 lw fw lm fm n ls f wl wh sl sh (fm 0 0 + ((k : Nat) : Int)) _ _ (by omega) hb)
    | false =>
      have c1 := cnt_f (okm lw fw lm fm f wl wh sl sh) (fm 0 0) ho
      by_cases c0 : cntM (okm lw fw lm fm f wl wh sl sh) (fm 0 0) k = 0
      · rw [stU_0 lw fw lm fm f wl wh sl sh c0, stU_0 lw fw lm fm f wl wh sl sh (k := k + 1) (by rw [c1]; exact c0), hs]
        exact JP_nest drawnC XRb_ok (c := bUr) (p := [1,0,0,1,0,1,0]) (okU0 lw fw lm fm n ls f wl wh sl sh tsUr _ (by kernel_rfl) rfl) (okU0 lw fw lm fm n ls f wl wh sl sh tsUr _ (by kernel_rfl) rfl) (n1 lw fw lm fm n ls f wl wh sl sh (fm 0 0 + ((k : Nat) : Int)) ⟨m2', m5'⟩ hm hb) (hin ▸ innU0 lw fw lm fm n ls f wl wh sl sh (fm 0 0 + ((k : Nat) : Int)) hT hw hmo false ho) (n4 lw fw lm fm n ls f wl wh sl sh (fm 0 0 + ((k : Nat) : Int)) hb)
      · rw [stU_1 lw fw lm fm f wl wh sl sh c0, stU_1 lw fw lm fm f wl wh sl sh (k := k + 1) (by rw [c1]; exact c0), hs, c1, FM_f _ _ ho]
        exact JP_nest drawnC XRb_ok (c := bUr) (p := [1,0,0,1,0,1,0]) (okU1 lw fw lm fm n ls f wl wh sl sh tsUr _ _ _ false (by kernel_rfl) (hFg k)) (okU1 lw fw lm fm n ls f wl wh sl sh tsUr _ _ _ false (by kernel_rfl) (hFg k)) (n2 lw fw lm fm n ls f wl wh sl sh (fm 0 0 + ((k : Nat) : Int)) _ _ ⟨m2', m5'⟩ hm hb) (hin ▸ innU lw fw lm fm n ls f wl wh sl sh (fm 0 0 + ((k : Nat) : Int)) _ _ hT hw hmo false ho) (n6 lw fw lm fm n ls f wl wh sl sh (fm 0 0 + ((k : Nat) : Int)) _ _ (by omega) hb)
  · have hm : ¬ fm 0 0 + ((nK lm fm : Nat) : Int) ≤ fm (Int.toNat ((lm : Int) - 1)) 0 := by rw [hl]; omega
    by_cases c0 : cntM (okm lw fw lm fm f wl wh sl sh) (fm 0 0) (nK lm fm) = 0
    · rw [stU_0 lw fw lm fm f wl wh sl sh c0, c0]
      exact piece_of drawnC XRb_ok (okU0 lw fw lm fm n ls f wl wh sl sh tsUr _ (by kernel_rfl) rfl) (okU0 lw fw lm fm n ls f wl wh sl sh [7] xUr0 (by kernel_rfl) rfl) (u5 lw fw lm fm n ls f wl wh sl sh _ ⟨m2', m5'⟩ hm).ok
    · rw [stU_1 lw fw lm fm f wl wh sl sh c0]
      have q : Nat.beq (cntM (okm lw fw lm fm f wl wh sl sh) (fm 0 0) (nK lm fm)) 0 = false := by
        cases q : Nat.beq (cntM (okm lw fw lm fm f wl wh sl sh) (fm 0 0) (nK lm fm)) 0 with
        | true => exact absurd (nb q) c0
        | false => rfl
      rw [q]
      exact piece_of drawnC XRb_ok (okU1 lw fw lm fm n ls f wl wh sl sh tsUr _ _ _ false (by kernel_rfl) (hFg _)) (okU1 lw fw lm fm n ls f wl wh sl sh [7] _ _ _ false (by kernel_rfl) (hFg _)) (u6 lw fw lm fm n ls f wl wh sl sh _ _ _ ⟨m2', m5'⟩ hm).ok
end
noncomputable def valRm : Val := fun das => match das with | [.st [.sl 1 lw fw, .sl 1 lm fm, .rr 1 n ls f], .st [.i .i64 wl, .i .i64 wh], .st [.i .i64 sl, .i .i64 sh]] => some (cond (iEq (tabE lw fw lm fm n ls f) 0) (rgI lw fw wl wh) false, .fz true 0 (cellsI .i64 (fun i _ => mkM (okm lw fw lm fm f wl wh sl sh) (fm 0 0) (nK lm fm) i)) (cntM (okm lw fw lm fm f wl wh sl sh) (fm 0 0) (nK lm fm)) 1) | _ => none
theorem conRm : ConN Tryz.prog 30 valRm := by
  intro das v hv
  unfold valRm at hv
  split at hv
  · rename_i lw fw lm fm n ls f wl wh sl sh
    have hb := congrArg Prod.fst (Option.some.inj hv)
    have hv := congrArg Prod.snd (Option.some.inj hv)
    subst hv
    obtain ⟨h1, h2⟩ := cond_tt hb
    have ht := tabE_get ((iEq_t _ _).mp h1)
    have hw := rgI_t.mp h2
    have hL := loopU lw fw lm fm n ls f wl wh sl sh ((iEq_t _ _).mp h1) hw
    have hc : sub [1,1,0,1,0] (bodyOf Tryz.prog 30) = .loop bUr := by kernel_rfl
    rw [← hc] at hL
    by_cases c0 : cntM (okm lw fw lm fm f wl wh sl sh) (fm 0 0) (nK lm fm) = 0
    · rw [c0] at hL ⊢
      obtain ⟨v', H', q1, q2⟩ := con_atD (das := [.st [.sl 1 lw fw, .sl 1 lm fm, .rr 1 n ls f], .st [.i .i64 wl, .i .i64 wh], .st [.i .i64 sl, .i .i64 sh]]) drawnC XRb_ok (by kernel_rfl) (uE lw fw lm fm n ls f wl wh sl sh ⟨ht.m.two, ht.m.five⟩) (okU0 lw fw lm fm n ls f wl wh sl sh tsUr _ (by kernel_rfl) rfl) hL (u7 lw fw lm fm n ls f wl wh sl sh)
      have q2 : v' = .nilSlice := q2
      subst q2
      exact ⟨_, H', q1, fun new => .one (.one .nilS)⟩
    · have q : Nat.beq (cntM (okm lw fw lm fm f wl wh sl sh) (fm 0 0) (nK lm fm)) 0 = false := by
        cases q : Nat.beq (cntM (okm lw fw lm fm f wl wh sl sh) (fm 0 0) (nK lm fm)) 0 with
        | true => exact absurd (nb q) c0
        | false => rfl
      rw [q] at hL
      obtain ⟨v', H', q1, q2⟩ := con_atD (das := [.st [.sl 1 lw fw, .sl 1 lm fm, .rr 1 n ls f], .st [.i .i64 wl, .i .i64 wh], .st [.i .i64 sl, .i .i64 sh]]) drawnC XRb_ok (by kernel_rfl) (uE lw fw lm fm n ls f wl wh sl sh ⟨ht.m.two, ht.m.five⟩) (okU0 lw fw lm fm n ls f wl wh sl sh tsUr _ (by kernel_rfl) rfl) hL (u8 lw fw lm fm n ls f wl wh sl sh _ _)
      exact ⟨v', H', q1, rowIs_fn q2 (f := mkM (okm lw fw lm fm f wl wh sl sh) (fm 0 0) (nK lm fm)) fun i hi => FM_get _ _ hi⟩
  · cases hv
end
end Go.Proofs.YtjikkfiohppnfaaGreat
