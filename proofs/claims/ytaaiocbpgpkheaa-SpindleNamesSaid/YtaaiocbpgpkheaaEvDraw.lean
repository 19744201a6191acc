/- Regions whose order is open: the evaluator is sound. -/
import Derived.Test.YtaaiocbpgpkheaaEvDraw4
namespace Go.Ev
open Go

variable {P : Program}

theorem Fr.wk {R : Ren} {H : EH} {W W' : Nat → Prop} {w w' : World} (h : Fr R H W w w') (hs : ∀ g, W g → W' g) : Fr R H W' w w' :=
  ⟨h.os, h.tape, h.output, h.size, fun r hr hn => h.keep r hr fun b o d ho hb hw => hn b o d ho hb (hs _ hw)⟩

theorem one_run {f : Task → Option Res} (hs : Sound P f) {ops : Array Oper} {o : Oper} {a a' : EA} {H H' : EH} {fp : FP} (h : StepAt P f ops o a H a' H' fp) {R : Ren} {w : World} {A : Act} (hr : Rel R All H w) (hw : WF H) (hf : Free R H H') (ha : AR R a A) :
    ∃ R' w' A', Rel R' All H' w' ∧ AR R' a' A' ∧ (∀ b, H'.next ≤ b → R'.bm b = R.bm b) ∧ ES H H' (fun g => Wf fp g ∧ H'.low ≤ g) := by
  cases h with
  | yes hwt h =>
    rename_i v H1
    obtain ⟨R', w', x, W, h1, h2, h3⟩ := op_run hs h (hr.lowTo big) (hw.lowTo big) hf ha
    have hle : R.le R' := h3.rx.le hf hr.img
    refine ⟨R', w', A.put o.dst x, ?_, (ha.mono hle).put _ h1, fun b hb => h3.rx.same b (fun ⟨_, q⟩ => by have hb : H1.next ≤ b := hb; omega), ?_⟩
    · exact Rel.lowTo (h3.rel.weak fun _ _ => .inl trivial) _
    · have he := ES.lowTo (m := minN H.low H1.low) h3.es (by rw [minN_eq]; omega) (by rw [minN_eq]; omega)
      exact he.wk (fun g hg => ⟨foot_wr (h2 g hg), he.wr g hg⟩) (fun g hg => hg.2)
  | no hwt =>
    exact ⟨R, w, A.put o.dst undef, hr, ha.put _ (.bad _), fun b _ => rfl, (ES.refl hw).wk (fun g hg => hg.elim) (fun g hg => hg.2)⟩

theorem one_draw {f : Task → Option Res} (hs : Sound P f) {ops : Array Oper} {o : Oper} {a a' : EA} {H H' : EH} {fp : FP} (h : StepAt P f ops o a H a' H' fp) {R : Ren} {S : Nat → Prop} {w : World} {A : Act} (hr : Rel R S H w) (hw : WF H) (hf : Free R H H')
    (hρ : ∀ x, x ∈ o.op.operands → VR R (a.eval x) (A.eval x)) (hg : ∀ g w o' d, o.guard = some (g, w) → ops[g]? = some o' → o'.dst = some d → VR R (getD' a.tm d) (A.tmps.getD d undef)) (hS : ∀ g, Tf fp g → S g)
    {n : Nat} {rr : Option Nat} {K : Act → World → Prop} {Q : Exit → Act → World → Prop}
    (hK : ∀ R' w' v x, a' = a.put o.dst v → VR R' v x → RX R R' H H' w → Fr R H (fun g => Wf fp g ∧ H'.low ≤ g) w w' → Rel R' (Up S H.next) H' w' → K (A.put o.dst x) w') :
    if Region.wanted o (yielded ops A.tmps) then o.wpIn (FF rr) n P A w K Q else (∀ f, o.about P w A.eval = some f → (FF rr).fn f) ∧ K (A.put o.dst undef) w := by
  cases h with
  | yes hwt h =>
    rename_i v H1
    rw [if_pos (wantedE_yes' hg hwt)]
    refine op_draw hs h R w A n rr S (hr.lowTo big) (hw.lowTo big) hf hρ (fun g ht => hS g (foot_tch ht)) K Q fun R' w' x W h1 h2 h3 => ?_
    refine hK R' w' v x rfl h1 ⟨h3.rx.same, h3.rx.zs, h3.rx.neu⟩ (Fr.wk (H := H) (W := W) ⟨h3.fr.os, h3.fr.tape, h3.fr.output, h3.fr.size, h3.fr.keep⟩ fun g hg => ⟨foot_wr (h2 g hg), Nat.le_trans ?_ (h3.es.wr g hg)⟩) (Rel.lowTo h3.rel _)
    show minN H.low H1.low ≤ H1.low
    rw [minN_eq]; omega
  | no hwt =>
    rw [if_neg (by rw [wantedE_no' hg hwt]; simp)]
    exact ⟨fun f _ => FF_fn rr f, hK R w .bad undef rfl (.bad _) (.refl _ _ _) (.refl _ _ _ _) (Sim.refl hw hr).rel⟩

section
variable {ops : Array Oper} {As : Nat → EA} {Hs : Nat → EH} {fp : Nat → FP} {f : Task → Option Res}

def Wdd (Hs : Nat → EH) (fp : Nat → FP) (k g : Nat) : Prop := Wf (fp k) g ∧ (Hs (k + 1)).low ≤ g

theorem text_run (hs : Sound P f) (hst : ∀ k (h : k < ops.size), StepAt P f ops ops[k] (As k) (Hs k) (As (k + 1)) (Hs (k + 1)) (fp k)) {R0 : Ren} {w0 : World} {A0 : Act} (hr : Rel R0 All (Hs 0) w0) (hw : WF (Hs 0)) (hf : Free R0 (Hs 0) (Hs ops.size)) (ha : AR R0 (As 0) A0) :
    ∀ k, k ≤ ops.size → (∃ R w A, Rel R All (Hs k) w ∧ WF (Hs k) ∧ AR R (As k) A ∧ Free R (Hs k) (Hs ops.size)) ∧ ∀ m, m < k → ES (Hs m) (Hs (m + 1)) (Wdd Hs fp m) := by
  have mono : ∀ j, j ≤ ops.size → ∀ i, i ≤ j → (Hs i).next ≤ (Hs j).next := by
    intro j
    induction j with
    | zero => intro _ i hi; have : i = 0 := by omega
              subst this; exact Nat.le_refl _
    | succ j ih =>
      intro hj i hi
      by_cases e : i = j + 1
      · subst e; exact Nat.le_refl _
      · exact Nat.le_trans (ih (by omega) i (by omega)) (step_next hs (hst j hj))
  intro k
  induction k with
  | zero => intro _; exact ⟨⟨R0, w0, A0, hr, hw, ha, hf⟩, fun m hm => by omega⟩
  | succ k ih =>
    intro hk
    obtain ⟨⟨R, w, A, h1, h2, h3, h4⟩, h5⟩ := ih (by omega)
    obtain ⟨R', w', A', g1, g2, g3, g4⟩ := one_run hs (hst k hk) h1 h2 (h4.less (mono ops.size (Nat.le_refl _) (k + 1) hk)) h3
    refine ⟨⟨R', w', A', g1, g4.wf, g2, fun b b1 b2 => ?_⟩, fun m hm => ?_⟩
    · rw [g3 b b1]; exact h4 b (Nat.le_trans g4.next b1) b2
    · by_cases e : m = k
      · subst e; exact g4
      · exact h5 m (by omega)

theorem reg_of (hs : Sound P f) (hst : ∀ k (h : k < ops.size), StepAt P f ops ops[k] (As k) (Hs k) (As (k + 1)) (Hs (k + 1)) (fp k)) {fps : List FP} (hl : fps.length = ops.size) (hfp : ∀ k, k < ops.size → nthF fps k = fp k) (hp : pairsOk ops fps fps 0 = true)
    {R0 : Ren} {w0 : World} {A0 : Act} (hr : Rel R0 All (Hs 0) w0) (hw : WF (Hs 0)) (hf : Free R0 (Hs 0) (Hs ops.size)) (ha : AR R0 (As 0) A0) : Reg ops As Hs (fun i => Tf (fp i)) (Wdd Hs fp) := by
  have tr := text_run hs hst hr hw hf ha
  have pair : ∀ i k, i < ops.size → k < ops.size → i ≠ k → ¬ Bf ops i k → ¬ Bf ops k i → compat (fp i) (fp k) = true ∨ compat (fp k) (fp i) = true ∨ (noisy (fp i) = false ∧ noisy (fp k) = false) := fun i k hi hk hne b1 b2 => by
    by_cases n1 : noisy (fp i) = true
    · have := pairsOk_spec fps 0 hp i (by rw [hl]; exact hi) (by rw [hfp i hi]; exact n1) k (by rw [Nat.zero_add]; exact mem_open hk hne b1 b2)
      rw [hfp i hi, hfp k hk] at this
      exact .inl this
    · by_cases n2 : noisy (fp k) = true
      · have := pairsOk_spec fps 0 hp k (by rw [hl]; exact hk) (by rw [hfp k hk]; exact n2) i (by rw [Nat.zero_add]; exact mem_open hi (Ne.symm hne) b2 b1)
        rw [hfp i hi, hfp k hk] at this
        exact .inr (.inl this)
      · exact .inr (.inr ⟨by simpa using n1, by simpa using n2⟩)
  refine ⟨fun k hk => (tr ops.size (Nat.le_refl _)).2 k hk, hw, fun i k hi hk hne b1 b2 g hg hwd ht => ?_, fun i k hi hk hne b1 b2 g hg hwd h1 h2 => ?_, fun i g hi hg hwd => ?_, fun i o ho => ?_, fun i hi => ha.tm.out i hi⟩
  · obtain ⟨p1, p2, p3⟩ := apart_spec (pair i k hi hk hne b1 b2)
    have hwf := hwd.1
    unfold Wf at hwf
    unfold Tf at ht
    match ek : (fp k).hv with
    | 0 =>
      rw [ek] at hwf
      match ei : (fp i).hv with
      | 0 =>
        rw [ei] at ht
        obtain ⟨q1, q2, _⟩ := p1 ek ei g hwf
        exact ht.elim q1 q2
      | n + 1 =>
        have hwf : g ∈ (fp k).wrs := hwf
        rw [p2 ek (by omega)] at hwf; simp at hwf
    | 1 =>
      rw [ek] at hwf
      have hwf : (fp k).lo ≤ g := hwf
      rw [(step_fp (hst k hk)).1 (by omega)] at hwf; omega
    | n + 2 =>
      obtain ⟨q1, q2, q3, q4⟩ := p3 (by omega)
      rw [q1, q3, q4] at ht
      simp at ht
  · obtain ⟨p1, p2, p3⟩ := apart_spec (pair i k hi hk hne b1 b2)
    obtain ⟨l1, l2⟩ := (step_fp (hst i hi)).2 (by omega)
    have hwf := hwd.1
    unfold Wf at hwf
    match ek : (fp k).hv with
    | 0 =>
      rw [ek] at hwf
      match ei : (fp i).hv with
      | 0 => exact (p1 ek ei g hwf).2.2 (by omega) (by omega)
      | n + 1 =>
        have hwf : g ∈ (fp k).wrs := hwf
        rw [p2 ek (by omega)] at hwf; simp at hwf
    | 1 =>
      rw [ek] at hwf
      have hwf : (fp k).lo ≤ g := hwf
      rw [(step_fp (hst k hk)).1 (by omega)] at hwf; omega
    | n + 2 =>
      obtain ⟨q1, q2, q3, q4⟩ := p3 (by omega)
      omega
  · have hwf := hwd.1
    unfold Wf at hwf
    show Tf (fp i) g
    unfold Tf
    match ei : (fp i).hv with
    | 0 => rw [ei] at hwf; exact .inr hwf
    | n + 1 => trivial
  · have hi : i < ops.size := (Array.getElem?_eq_some_iff.1 ho).1
    have e : ops[i] = o := (Array.getElem?_eq_some_iff.1 ho).2
    have := hst i hi
    rw [e] at this
    generalize As (i + 1) = a' at this ⊢
    generalize Hs (i + 1) = H' at this
    generalize fp i = fpi at this
    cases this with
    | yes _ _ => exact ⟨_, rfl⟩
    | no _ => exact ⟨_, rfl⟩

/-- whatever order is picked from here on -/
theorem any_sound (hs : Sound P f) (hst : ∀ k (h : k < ops.size), StepAt P f ops ops[k] (As k) (Hs k) (As (k + 1)) (Hs (k + 1)) (fp k)) (hsh : Shape ops) {R0 : Ren} {w0 : World} {A0 : Act} (G : Reg ops As Hs (fun i => Tf (fp i)) (Wdd Hs fp))
    {n : Nat} {rr : Option Nat} {Q : Exit → Act → World → Prop} (hQ : ∀ (L : Nat → Prop) R A w, (∀ k, k < ops.size → L k) → Inv ops As Hs (Wdd Hs fp) R0 w0 A0 L R A w → Q .normal A w) :
    ∀ (fuel : Nat) (listed : Array Bool) R A w, listed.size = ops.size → listed.toList.count false = fuel → Inv ops As Hs (Wdd Hs fp) R0 w0 A0 (fun k => listed[k]? = some true) R A w → wpAnyIn (FF rr) n P .any ops Q fuel listed A w := by
  have full : ∀ (listed : Array Bool), listed.size = ops.size → Region.ready .any ops listed = [] → ∀ k, k < ops.size → listed[k]? = some true := by
    intro listed hsz hnil k
    induction k using Nat.strongRecOn with
    | ind k ih =>
      intro hk
      apply Classical.byContradiction
      intro hn
      have : k ∈ Region.ready .any ops listed := by
        rw [mem_ready]
        refine ⟨?_, _, Array.getElem?_eq_getElem hk, fun e he hb => ?_⟩
        · rw [Array.getD_eq_getD_getElem?]
          rw [Array.getElem?_eq_getElem (by omega)] at hn ⊢
          simpa using hn
        · have hlt := hsh.back k _ (Array.getElem?_eq_getElem hk) e he hb
          rw [Array.getD_eq_getD_getElem?, ih e.on hlt (by omega)]; rfl
      rw [hnil] at this; cases this
  intro fuel
  induction fuel with
  | zero =>
    intro listed R A w hsz hc hI
    have hall : ∀ k, k < ops.size → listed[k]? = some true := fun k hk => by
      have h := List.count_eq_zero.1 hc
      rw [Array.getElem?_eq_getElem (by omega)]
      cases e : listed[k]'(by omega) with
      | true => rfl
      | false => exact (h (by rw [← e]; exact Array.mem_toList_iff.2 (Array.getElem_mem _))).elim
    refine ⟨?_, hQ _ R A w hall hI⟩
    cases hrd : Region.ready .any ops listed with
    | nil => rfl
    | cons k l =>
      have : k ∈ Region.ready .any ops listed := by rw [hrd]; simp
      rw [mem_ready] at this
      obtain ⟨h0, o, ho, _⟩ := this
      rw [Array.getD_eq_getD_getElem?, hall k (Array.getElem?_eq_some_iff.1 ho).1] at h0
      cases h0
  | succ fuel ih =>
    intro listed R A w hsz hc hI
    refine ⟨fun hnil => hQ _ R A w (full listed hsz hnil) hI, fun i hi => ?_⟩
    rw [mem_ready] at hi
    obtain ⟨h0, o, ho, hpre⟩ := hi
    have hiN : i < ops.size := (Array.getElem?_eq_some_iff.1 ho).1
    have eo : ops[i] = o := (Array.getElem?_eq_some_iff.1 ho).2
    have hLi : listed[i]? = some false := by
      rw [Array.getD_eq_getD_getElem?] at h0
      rw [Array.getElem?_eq_getElem (by omega)] at h0 ⊢
      simpa using h0
    have hL : ¬ listed[i]? = some true := by rw [hLi]; simp
    have hdir : ∀ e ∈ o.after, Region.binds .any e = true → listed[e.on]? = some true := fun e he hb => by
      have := hpre e he hb
      rw [Array.getD_eq_getD_getElem?] at this
      cases e' : listed[e.on]? with
      | none => rw [e'] at this; cases this
      | some y => rw [e'] at this; simp at this; rw [this]
    have hall : ∀ k, Bf ops k i → listed[k]? = some true := fun k hb => by
      obtain ⟨o', e, q1, q2, q3, _, q5⟩ := bf_step hsh.back hb
      rw [ho] at q1; cases q1
      have := hdir e q2 q3
      rcases q5 with q | q
      · rw [← q]; exact this
      · exact hI.closed.bf hsh.back _ this q
    have hcl : Closed ops (fun k => k = i ∨ listed[k]? = some true) := fun j oj hj hoj e he hb => by
      rcases hj with rfl | hj
      · rw [ho] at hoj; cases hoj; exact .inr (hdir e he hb)
      · exact .inr (hI.closed j oj hj hoj e he hb)
    have sync : ∀ t, t ∈ tmpsOf ops o → ∀ k, k < ops.size → Wr ops k t → (k < i ↔ listed[k]? = some true) := fun t ht k hk ⟨ok, hok, hd⟩ => by
      by_cases e : k = i
      · subst e; exact ⟨fun h => absurd h (Nat.lt_irrefl _), fun h => absurd h hL⟩
      · rcases hsh.tmp k i o ok t hok ho hd e (.inl ht) with q | q
        · exact ⟨fun _ => hall k q, fun _ => bf_lt hsh.back _ q⟩
        · have := bf_lt hsh.back _ q
          exact ⟨fun h => by omega, fun h => absurd (hI.closed.bf hsh.back k h q) hL⟩
    have tv : ∀ t, t ∈ tmpsOf ops o → VR R (getD' (As i).tm t) (A.tmps.getD t undef) := fun t ht => hI.tmp i (by omega) t (sync t ht)
    have hsti := hst i hiN
    rw [eo] at hsti
    unfold wpOpIn
    simp only [ho]
    refine one_draw hs hsti (hI.rel G (by omega)) (G.wfs i (by omega)) (hI.non i hiN hL) (fun x hx => ?_) (fun g wnt o' d hg ho' hd => ?_) (fun g ht => touch_sy G hsh hI.closed hiN hL hall ht) fun R' w' v x has hv hrx hfr hrel => ?_
    · cases x with
      | tmp t => exact tv t (List.mem_append_left _ (List.mem_filterMap.2 ⟨.tmp t, by simpa using hx, rfl⟩))
      | const v => exact VR.ofC R v
      | global g => exact .bad _
      | func g => exact .func rfl (fun i h1 _ => by simp at h1) rfl (fun i h1 _ => by simp at h1)
    · refine tv d (List.mem_append_right _ ?_)
      rw [hg]; simp [ho', hd]
    · refine ih (listed.setIfInBounds i true) R' _ w' (by simpa using hsz) ?_ ?_
      · rw [Array.toList_setIfInBounds, List.count_set (by simp; omega)]
        have : listed.toList[i]'(by simp; omega) = false := by
          have := (Array.getElem?_eq_some_iff.1 hLi).2
          simpa using this
        rw [this, hc]
        simp
      · have := inv_step G hsh hI ho hL hall hcl hrx hfr hrel hv has
        have e : (fun k => (listed.setIfInBounds i true)[k]? = some true) = (fun k => k = i ∨ listed[k]? = some true) := by
          funext k
          apply propext
          rw [Array.getElem?_setIfInBounds]
          by_cases e : i = k
          · subst e
            rw [if_pos rfl, if_pos (by omega)]
            exact ⟨fun _ => .inl rfl, fun _ => rfl⟩
          · rw [if_neg e]
            exact ⟨fun h => .inr h, fun h => h.elim (fun q => absurd q.symm e) id⟩
        rw [e]; exact this
end

theorem drawn_sound (hm : P.follows .mixedOrders = true) : DrawnSound P := by
  intro f hs ops a H res hshape h
  have hsh := shape_of hshape
  unfold doneD at h
  split at h
  · rename_i r hr
    cases hp : pairsOk ops r.fps r.fps 0 with
    | false => rw [hp] at h; cases h
    | true =>
      rw [hp] at h
      have h : some (Res.normal r.a r.H) = some res := h
      cases h
      obtain ⟨As, Hs, fp, e1, e2, e3, e4, e5, e6, e7⟩ := evOpsD_seq _ _ _ _ hr
      rw [Array.length_toList] at e3 e4 e5
      have hst : ∀ k (h : k < ops.size), StepAt P f ops ops[k] (As k) (Hs k) (As (k + 1)) (Hs (k + 1)) (fp k) := fun k hk => by
        have := e7 k (by simpa using hk)
        simpa using this
      have mono : ∀ j, j ≤ ops.size → (Hs 0).next ≤ (Hs j).next := by
        intro j
        induction j with
        | zero => intro _; exact Nat.le_refl _
        | succ j ih => intro hj; exact Nat.le_trans (ih (by omega)) (step_next hs (hst j hj))
      subst e1; subst e2
      refine ⟨(fun v H' e => by cases e), by show (Hs 0).next ≤ r.H.next; rw [← e4]; exact mono _ (Nat.le_refl _), fun R w A n rr id hr hw hf ha => ?_⟩
      have hf : Free R (Hs 0) (Hs ops.size) := by rw [e4]; exact hf
      have G := reg_of hs hst e5 (fun k hk => e6 k (by simpa using hk)) hp hr hw hf ha
      refine wpIn_region_any hm (any_sound (R0 := R) (w0 := w) (A0 := A) hs hst hsh G (fun L R' A' w' hL hI => ?_) ops.size _ R A _ (by simp) (by simp) ?_)
      · have hsy : ∀ g, Sy ops Hs (Wdd Hs fp) L ops.size g := fun g k hk _ _ => ⟨fun _ => hL k hk, fun _ => hk⟩
        have hrel := (hI.rel G (Nat.le_refl _)).weak (S' := Up All (Hs 0).next) fun g _ => hsy g
        have hsim : SimA R R' (Hs 0) (Hs ops.size) w w' := Sim.toA ⟨G.chain ops.size (Nat.zero_le _) (Nat.le_refl _), hI.rx, hI.fr, hrel⟩
        refine ⟨R', by rw [← e4]; exact hsim, ?_⟩
        have fr := G.frame ops.size (Nat.le_refl _)
        show AR R' r.a A'
        rw [← e3]
        refine ⟨⟨by rw [hI.tsz, fr.1], fun i hi => fr.2.2 i (by rw [← fr.1]; exact hi), fun t => hI.tmp ops.size (Nat.le_refl _) t fun k hk _ => ⟨fun _ => hL k hk, fun _ => hk⟩⟩, ?_⟩
        rw [fr.2.1, hI.df]
        exact ha.df.mono (hsim.le hr hf)
      · have := inv_start (w := { w with drawn := w.drawn + 1 }) G hr hf ha rfl rfl rfl rfl
        have e : (fun (k : Nat) => (Array.replicate ops.size false)[k]? = some true) = (fun _ => False) := by
          funext k
          apply propext
          rw [Array.getElem?_replicate]
          by_cases e : k < ops.size
          · rw [if_pos e]; simp
          · rw [if_neg e]; simp
        rw [e]; exact this
  · cases h

theorem run_sound' (hm : P.follows .mixedOrders = true) {X : Ext} (hX : ExtOK P X) {n : Nat} {g : FuncId} {args : List V} {v : V} (h : runV P X n g args = some v) {args' : Array Value} (ha : AL noRen args args') (w : World) :
    Calls P g args' w (fun e w' => ∃ x R, e = .returned x ∧ VR R v x ∧ RowKit.Below w.heap.size w w') := run_sound (drawn_sound hm) hX h ha w
end Go.Ev
