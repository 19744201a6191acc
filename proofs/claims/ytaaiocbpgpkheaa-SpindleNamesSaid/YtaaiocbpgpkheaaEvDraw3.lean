/- Regions whose order is open, 3: one more operation is carried out. -/
import Derived.Test.YtaaiocbpgpkheaaEvDraw2
namespace Go.Ev
open Go

section
variable {ops : Array Oper} {As : Nat → EA} {Hs : Nat → EH} {T Wd : Nat → Nat → Prop}

theorem touch_sy (G : Reg ops As Hs T Wd) (hsh : Shape ops) {L : Nat → Prop} (hc : Closed ops L) {i : Nat} (hiN : i < ops.size) (hL : ¬ L i) (hpre : ∀ k, Bf ops k i → L k) {g : Nat} (ht : T i g) : Sy ops Hs Wd L i g := by
  intro k hk hg hw
  by_cases e : k = i
  · subst e; exact ⟨fun h => absurd h (Nat.lt_irrefl _), fun h => absurd h hL⟩
  · by_cases b1 : Bf ops k i
    · exact ⟨fun _ => hpre k b1, fun _ => bf_lt hsh.back _ b1⟩
    · by_cases b2 : Bf ops i k
      · have := bf_lt hsh.back _ b2
        exact ⟨fun h => by omega, fun h => absurd (hc.bf hsh.back k h b2) hL⟩
      · exact (G.nc i k hiN hk (fun h => e h.symm) b2 b1 g hg hw ht).elim

variable {R0 : Ren} {w0 : World} {A0 : Act} {L : Nat → Prop} {R : Ren} {A : Act} {w : World}

theorem Inv.rel (G : Reg ops As Hs T Wd) (hI : Inv ops As Hs Wd R0 w0 A0 L R A w) {i : Nat} (hi : i ≤ ops.size) : Rel R (Sy ops Hs Wd L i) (Hs i) w :=
  ⟨hI.img, hI.obj i hi, fun b b' o o' r d d' h h' e e' => by
    obtain ⟨p, p1, p2, p3⟩ := G.fin hi h
    obtain ⟨p', p1', p2', p3'⟩ := G.fin hi h'
    rw [← p2, ← p3, ← p2', ← p3']
    exact hI.inj b b' p p' r d d' p1 p1' e e'⟩

theorem act_put_ne (A : Act) (d : Option Tmp) (x : Value) {t : Nat} (h : d ≠ some t) : (A.put d x).tmps.getD t undef = A.tmps.getD t undef := by
  cases d with
  | none => rfl
  | some u =>
    have hu : t ≠ u := fun e => h (by rw [e])
    show (A.tmps.setIfInBounds u x).getD t undef = _
    rw [Array.getD_eq_getD_getElem?, Array.getD_eq_getD_getElem?, Array.getElem?_setIfInBounds_ne (Ne.symm hu)]
theorem act_put_eq (A : Act) (x : Value) {t : Nat} (h : t < A.tmps.size) : (A.put (some t) x).tmps.getD t undef = x := by
  show (A.tmps.setIfInBounds t x).getD t undef = x
  rw [Array.getD_eq_getD_getElem?, Array.getElem?_setIfInBounds_self_of_lt h]; rfl
theorem act_put_size (A : Act) (d : Option Tmp) (x : Value) : (A.put d x).tmps.size = A.tmps.size ∧ (A.put d x).defers = A.defers := by
  cases d with
  | none => exact ⟨rfl, rfl⟩
  | some u => exact ⟨by show (A.tmps.setIfInBounds u x).size = _; simp, rfl⟩

theorem inv_step (G : Reg ops As Hs T Wd) (hsh : Shape ops) (hI : Inv ops As Hs Wd R0 w0 A0 L R A w) {i : Nat} {o : Oper} (hi : ops[i]? = some o) (hL : ¬ L i) (hpre : ∀ k, Bf ops k i → L k) (hcl : Closed ops (fun k => k = i ∨ L k))
    {R' : Ren} {w' : World} {v : V} {x : Value} (hrx : RX R R' (Hs i) (Hs (i + 1)) w) (hfr : Fr R (Hs i) (Wd i) w w') (hrel : Rel R' (Up (Sy ops Hs Wd L i) (Hs i).next) (Hs (i + 1)) w') (hv : VR R' v x) (has : As (i + 1) = (As i).put o.dst v) :
    Inv ops As Hs Wd R0 w0 A0 (fun k => k = i ∨ L k) R' (A.put o.dst x) w' := by
  have hiN : i < ops.size := (Array.getElem?_eq_some_iff.1 hi).1
  have hfree : Free R (Hs i) (Hs (i + 1)) := hI.non i hiN hL
  have hle : R.le R' := hrx.le hfree hI.img
  have touch := fun g => touch_sy (g := g) G hsh hI.closed hiN hL hpre
  have hbf : ∀ k, L k → i < k → ¬ Bf ops i k ∧ ¬ Bf ops k i := fun k hk hlt => ⟨fun hb => hL (hI.closed.bf hsh.back k hk hb), fun hb => by have := bf_lt hsh.back _ hb; omega⟩
  have later : ∀ k, k < ops.size → L k → i < k → ∀ g, g < (Hs k).next → Wd k g → T i g → False := fun k hk hLk hlt g hg hw ht =>
    G.nc i k hiN hk (by omega) (hbf k hLk hlt).1 (hbf k hLk hlt).2 g hg hw ht
  have later2 : ∀ k, k < ops.size → L k → i < k → ∀ g, g < (Hs k).next → Wd k g → (Hs i).next ≤ g → g < (Hs (i + 1)).next → False := fun k hk hLk hlt g hg hw h1 h2 =>
    G.nc2 i k hiN hk (by omega) (hbf k hLk hlt).1 (hbf k hLk hlt).2 g hg hw h1 h2
  have nx : ∀ {a b : Nat}, a ≤ b → b ≤ ops.size → (Hs a).next ≤ (Hs b).next := fun h hj => G.next h hj
  have newAt : ∀ {j b : Nat} {p : EO}, j ≤ ops.size → (Hs j).objs.get b = some p → (Hs i).next ≤ b → b < (Hs (i + 1)).next → i < j ∧ ∃ p1, (Hs (i + 1)).objs.get b = some p1 := fun {j b p} hj hp h1 h2 => by
    refine ⟨?_, G.at (by omega) hj hp h2⟩
    have l1 := (G.wfs j hj).lt b p hp
    apply Nat.lt_of_not_le
    intro hji
    have := nx hji (show i ≤ ops.size by omega)
    omega
  refine ⟨hcl, hrel.img, fun j hj b p r d hp hb => ?_, ?_, ?_, fun j hj t hs => ?_, (act_put_size A o.dst x).2.trans hI.df, fun k hk hnk b h1 h2 => ?_, ⟨fun b hn => ?_, fun r hr => ?_, fun b r d h1 h2 e => ?_⟩,
    ⟨hfr.os.trans hI.fr.os, hfr.tape.trans hI.fr.tape, hfr.output.trans hI.fr.output, Nat.le_trans hI.fr.size hfr.size, fun r hr hn => ?_⟩⟩
  · -- objects
    by_cases hnew : (Hs i).next ≤ b ∧ b < (Hs (i + 1)).next
    · obtain ⟨hij, p1, hp1⟩ := newAt hj hp hnew.1 hnew.2
      have hor := hrel.obj b p1 r d hp1 hb
      obtain ⟨sr, sk⟩ := G.same (show i + 1 ≤ ops.size by omega) hj hp1 hp
      have hrt := (G.es i hiN).neu b p1 hp1 hnew.1
      by_cases hs : Sy ops Hs Wd (fun k => k = i ∨ L k) j (rootO b p)
      · obtain ⟨q1, q2⟩ := G.still (show i + 1 ≤ j by omega) hj hp1 (fun k h1 h2 hw => by
          have l1 := (G.wfs (i + 1) (by omega)).root b p1 hp1
          have l2 := nx h1 (show k ≤ ops.size by omega)
          have hg : rootO b p1 < (Hs k).next := by omega
          have hLk := (hs k (by omega) (by rw [← sr]; exact hg) (by rw [← sr]; exact hw)).1 h2
          rcases hLk with e | hLk
          · omega
          · rcases hrt with q | q
            · exact later2 k (by omega) hLk (by omega) _ hg hw q (by omega)
            · by_cases hlt : rootO b p1 < (Hs i).next
              · exact later k (by omega) hLk (by omega) _ hg hw (G.wt i _ hiN hlt q)
              · exact later2 k (by omega) hLk (by omega) _ hg hw (by omega) (by omega))
        rw [hp] at q1; cases q1
        refine hor.mono (.refl R') hb rfl (fun _ => ?_) (fun q => by rw [← q2]; exact q)
        rcases hrt with q | q
        · exact .inr q
        · by_cases hlt : rootO b p < (Hs i).next
          · exact .inl (touch _ (G.wt i _ hiN hlt q))
          · exact .inr (by omega)
      · exact hor.weak sk.symm hs
    · have hb' : R.bm b = some (r, d) := by rw [← hrx.same b hnew]; exact hb
      by_cases hW : Wd i (rootO b p) ∧ rootO b p < (Hs i).next
      · have ht := G.wt i _ hiN hW.2 hW.1
        have hbi : b < (Hs i).next := by
          apply Nat.lt_of_not_le
          intro hge
          have l0 := (G.wfs j hj).lt b p hp
          have l1 := nx (Nat.zero_le i) (show i ≤ ops.size by omega)
          obtain ⟨k, k1, k2, k3⟩ := find_born j (by omega) l0
          have hik : i < k := by
            apply Nat.lt_of_not_le
            intro hki
            by_cases e : k = i
            · subst e; exact hnew ⟨k2, k3⟩
            · have := nx (show k + 1 ≤ i by omega) (show i ≤ ops.size by omega)
              omega
          have hLk : L k := by
            apply Classical.byContradiction
            intro hn
            have := hI.non k (by omega) hn b k2 k3
            rw [hb'] at this; cases this
          obtain ⟨pk, hpk⟩ := G.at (show k + 1 ≤ ops.size by omega) hj hp k3
          have sr := (G.same (show k + 1 ≤ ops.size by omega) hj hpk hp).1
          have l2 := nx (show i ≤ k by omega) (show k ≤ ops.size by omega)
          rcases (G.es k (by omega)).neu b pk hpk k2 with q | q
          · rw [sr] at q; omega
          · rw [sr] at q; exact later k (by omega) hLk hik _ (by omega) q ht
        obtain ⟨p1, hp1⟩ := G.at (show i + 1 ≤ ops.size by omega) hj hp (by have := nx (show i ≤ i + 1 by omega) (show i + 1 ≤ ops.size by omega); omega)
        have hor := hrel.obj b p1 r d hp1 hb
        obtain ⟨sr, sk⟩ := G.same (show i + 1 ≤ ops.size by omega) hj hp1 hp
        by_cases hs : Sy ops Hs Wd (fun k => k = i ∨ L k) j (rootO b p)
        · have hij : i < j := (hs i hiN hW.2 hW.1).2 (.inl rfl)
          obtain ⟨q1, q2⟩ := G.still (show i + 1 ≤ j by omega) hj hp1 (fun k h1 h2 hw => by
            rw [sr] at hw
            have l2 := nx (show i ≤ k by omega) (show k ≤ ops.size by omega)
            have hg : rootO b p < (Hs k).next := by omega
            rcases (hs k (by omega) hg hw).1 h2 with e | hLk
            · omega
            · exact later k (by omega) hLk (by omega) _ hg hw ht)
          rw [hp] at q1; cases q1
          exact hor.mono (.refl R') hb rfl (fun _ => .inl (touch _ ht)) (fun q => by rw [← q2]; exact q)
        · exact hor.weak sk.symm hs
      · have hor := hI.obj j hj b p r d hp hb'
        have hheap : w'.heap[r]? = w.heap[r]? := hfr.keep r (hI.img b r d hb') fun b1 p1 d1 h1 e1 hw => by
          obtain ⟨q, q1, q2, q3⟩ := G.fin hj hp
          obtain ⟨q', q1', q2', q3'⟩ := G.fin (show i ≤ ops.size by omega) h1
          have l1 := (G.wfs i (by omega)).root b1 p1 h1
          have l2 := (G.wfs i (by omega)).lt b1 p1 h1
          have er : rootO b p = rootO b1 p1 := by
            rcases hI.inj b b1 q q' r d d1 q1 q1' hb' e1 with e | ⟨_, _, _, e⟩
            · subst e; rw [q1] at q1'; cases q1'; rw [← q2, ← q2']
            · rw [← q2, ← q2']; exact e
          exact hW ⟨by rw [er]; exact hw, by omega⟩
        refine hor.mono hle hb' hheap (fun hs k hk hg hw => ?_) id
        have := hs k hk hg hw
        by_cases e : k = i
        · subst e; exact (hW ⟨hw, hg⟩).elim
        · exact ⟨fun h => (this.1 h).elim (fun q => absurd q e) id, fun h => this.2 (.inr h)⟩
  · -- no two names for one
    have key : ∀ b b' p p' r d d', (Hs ops.size).objs.get b = some p → (Hs ops.size).objs.get b' = some p' → R'.bm b = some (r, d) → R'.bm b' = some (r, d') → ((Hs i).next ≤ b ∧ b < (Hs (i + 1)).next) → ¬ ((Hs i).next ≤ b' ∧ b' < (Hs (i + 1)).next) →
        (d = d' ∧ kindO p = 0 ∧ kindO p' = 0 ∧ rootO b p = rootO b' p') := by
      intro b b' p p' r d d' hp hp' e e' hn hn'
      rw [hrx.same b' hn'] at e'
      rcases hrx.neu b r d hn.1 hn.2 e with q | ⟨b0, o0, o1, q1, q2, q3, q4, q5, q6⟩
      · have := hI.img b' r d' e'; omega
      · obtain ⟨s1, s2⟩ := G.same (show i + 1 ≤ ops.size by omega) (Nat.le_refl _) q3 hp
        obtain ⟨o0', z1, z2, z3⟩ := G.fin (show i ≤ ops.size by omega) q1
        rcases hI.inj b0 b' o0' p' r d d' z1 hp' q2 e' with y | ⟨y1, y2, y3, y4⟩
        · subst y
          rw [z1] at hp'; cases hp'
          rw [q2] at e'; cases e'
          exact ⟨rfl, by rw [← s2]; exact q5, by rw [z3]; exact q4, by rw [← s1, ← q6, z2]⟩
        · exact ⟨y1, by rw [← s2]; exact q5, y3, by rw [← s1, ← q6, ← z2]; exact y4⟩
    intro b b' p p' r d d' hp hp' e e'
    by_cases hn : (Hs i).next ≤ b ∧ b < (Hs (i + 1)).next
    · by_cases hn' : (Hs i).next ≤ b' ∧ b' < (Hs (i + 1)).next
      · obtain ⟨_, p1, hp1⟩ := newAt (Nat.le_refl _) hp hn.1 hn.2
        obtain ⟨_, p1', hp1'⟩ := newAt (Nat.le_refl _) hp' hn'.1 hn'.2
        obtain ⟨s1, s2⟩ := G.same (show i + 1 ≤ ops.size by omega) (Nat.le_refl _) hp1 hp
        obtain ⟨s1', s2'⟩ := G.same (show i + 1 ≤ ops.size by omega) (Nat.le_refl _) hp1' hp'
        rw [← s1, ← s2, ← s1', ← s2']
        exact hrel.inj b b' p1 p1' r d d' hp1 hp1' e e'
      · exact .inr (key b b' p p' r d d' hp hp' e e' hn hn')
    · by_cases hn' : (Hs i).next ≤ b' ∧ b' < (Hs (i + 1)).next
      · obtain ⟨k1, k2, k3, k4⟩ := key b' b p' p r d' d hp' hp e' e hn' hn
        exact .inr ⟨k1.symm, k3, k2, k4.symm⟩
      · rw [hrx.same b hn] at e
        rw [hrx.same b' hn'] at e'
        exact hI.inj b b' p p' r d d' hp hp' e e'
  · rw [(act_put_size A o.dst x).1]; exact hI.tsz
  · -- temporaries
    by_cases hd : o.dst = some t
    · have hij : i < j := (hs i hiN ⟨o, hi, hd⟩).2 (.inl rfl)
      rw [G.tmps (i := i + 1) j (by omega) hj (fun k h1 h2 ⟨ok, hok, hdk⟩ => by
        rcases (hs k (by omega) ⟨ok, hok, hdk⟩).1 h2 with e | hLk
        · omega
        · have := hbf k hLk (by omega)
          rcases hsh.tmp i k ok o t hi hok hd (by omega) (.inr hdk) with q | q
          · exact this.1 q
          · exact this.2 q), has, getD'_put]
      have hn := (G.frame i (by omega)).1
      by_cases ht : t < (As i).n
      · rw [if_pos ⟨hd, ht⟩, hd, act_put_eq A x (by rw [hI.tsz, ← hn]; exact ht)]; exact hv
      · rw [if_neg (fun h => ht h.2)]
        have : (As i).tm.get t = none := (G.frame i (by omega)).2.2 t (by rw [← hn]; exact Nat.le_of_not_lt ht)
        unfold getD'; rw [this]; exact .bad _
    · rw [act_put_ne A o.dst x hd]
      refine (hI.tmp j hj t fun k hk hw => ?_).mono hle
      have := hs k hk hw
      have hne : k ≠ i := fun e => by subst e; obtain ⟨ok, h1, h2⟩ := hw; rw [hi] at h1; cases h1; exact hd h2
      exact ⟨fun h => (this.1 h).elim (fun q => absurd q hne) id, fun h => this.2 (.inr h)⟩
  · -- names not yet given
    have hki : k ≠ i := fun e => hnk (.inl e)
    rw [hrx.same b ?_]
    · exact hI.non k hk (fun h => hnk (.inr h)) b h1 h2
    · intro h
      rcases Nat.lt_or_gt_of_ne hki with q | q
      · have := nx (show k + 1 ≤ i by omega) (show i ≤ ops.size by omega); omega
      · have := nx (show i + 1 ≤ k by omega) (show k ≤ ops.size by omega); omega
  · have l1 := nx (Nat.zero_le i) (show i ≤ ops.size by omega)
    have l2 := nx (show i + 1 ≤ ops.size by omega) (Nat.le_refl _)
    rw [hrx.same b (by omega)]; exact hI.rx.same b hn
  · rw [hrx.zs r (Nat.lt_of_lt_of_le hr hI.fr.size)]; exact hI.rx.zs r hr
  · by_cases hn : (Hs i).next ≤ b ∧ b < (Hs (i + 1)).next
    · rcases hrx.neu b r d hn.1 hn.2 e with q | ⟨b0, o0, o1, q1, q2, q3, q4, q5, q6⟩
      · have := hI.fr.size; exact .inl (by omega)
      · obtain ⟨p, p1, p2, p3⟩ := G.fin (show i + 1 ≤ ops.size by omega) q3
        have l0 := (G.wfs i (by omega)).lt b0 o0 q1
        have l1 := nx (show i ≤ ops.size by omega) (Nat.le_refl _)
        by_cases hb0 : b0 < (Hs 0).next
        · obtain ⟨z, hz⟩ := G.at (Nat.zero_le _) (show i ≤ ops.size by omega) q1 hb0
          obtain ⟨s1, s2⟩ := G.same (Nat.zero_le _) (show i ≤ ops.size by omega) hz q1
          rw [hI.rx.same b0 (by omega)] at q2
          exact .inr ⟨b0, z, p, hz, q2, p1, by rw [s2]; exact q4, by rw [p3]; exact q5, by rw [s1, p2]; exact q6⟩
        · rcases hI.rx.neu b0 r d (by omega) (by omega) q2 with y | ⟨b1, y0, y1, z1, z2, z3, z4, z5, z6⟩
          · exact .inl y
          · obtain ⟨s1, s2⟩ := G.same (show i ≤ ops.size by omega) (Nat.le_refl _) q1 z3
            exact .inr ⟨b1, y0, p, z1, z2, p1, z4, by rw [p3]; exact q5, by rw [z6, ← s1, p2]; exact q6⟩
    · rw [hrx.same b hn] at e
      exact hI.rx.neu b r d h1 h2 e
  · refine (hfr.keep r (Nat.lt_of_lt_of_le hr hI.fr.size) fun b p d hp e hw => ?_).trans (hI.fr.keep r hr hn)
    have l0 := (G.wfs i (by omega)).lt b p hp
    have l1 := nx (show i ≤ ops.size by omega) (Nat.le_refl _)
    by_cases hb0 : b < (Hs 0).next
    · obtain ⟨z, hz⟩ := G.at (Nat.zero_le _) (show i ≤ ops.size by omega) hp hb0
      obtain ⟨s1, s2⟩ := G.same (Nat.zero_le _) (show i ≤ ops.size by omega) hz hp
      rw [hI.rx.same b (by omega)] at e
      exact hn b z d hz e ⟨i, Nat.zero_le _, hiN, by rw [s1]; exact hw⟩
    · rcases hI.rx.neu b r d (by omega) (by omega) e with y | ⟨b1, y0, y1, z1, z2, z3, z4, z5, z6⟩
      · omega
      · obtain ⟨s1, s2⟩ := G.same (show i ≤ ops.size by omega) (Nat.le_refl _) hp z3
        exact hn b1 y0 d z1 z2 ⟨i, Nat.zero_le _, hiN, by rw [z6, ← s1]; exact hw⟩
end
end Go.Ev
