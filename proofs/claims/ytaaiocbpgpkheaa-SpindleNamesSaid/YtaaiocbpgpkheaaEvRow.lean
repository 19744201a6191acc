/- A store into a row, and an append: a new version of a row. -/
import Derived.Test.YtaaiocbpgpkheaaEvPrim
namespace Go.Ev
open Go

theorem valid_none {H : EH} {b sz g : Nat} (h : H.grps.get g = none) : H.valid b sz g = true := by unfold EH.valid; rw [h]
theorem valid_some {H : EH} {b sz g mn mx : Nat} {at_ : T Nat} (h : H.grps.get g = some (mn, mx, at_)) : H.valid b sz g = true ↔ mn ≤ sz ∧ sz ≤ mx ∧ at_.get sz = some b := by
  unfold EH.valid
  rw [h]
  show cond (Nat.ble mn sz) (cond (Nat.ble sz mx) _ false) false = true ↔ _
  rw [cond_ble, cond_ble]
  by_cases h1 : mn ≤ sz
  · by_cases h2 : sz ≤ mx
    · rw [if_pos h1, if_pos h2]
      cases e : at_.get sz with
      | none => simp
      | some b' =>
        show Nat.beq b b' = true ↔ _
        rw [nbeq, decide_eq_true_iff]
        exact ⟨fun h => ⟨h1, h2, by rw [h]⟩, fun h => by have := h.2.2; injection this with this; exact this.symm⟩
    · rw [if_pos h1, if_neg h2]; simp [h2]
  · rw [if_neg h1]; simp [h1]

/-- after a store at version b of size sz no other version of its row is valid -/
theorem killO_valid {H : EH} (hw : WF H) {b : Nat} {c : T V} {lo sz g : Nat} (hb : H.objs.get b = some (.cells c lo sz g)) (hv : H.valid b sz g = true) {H' : EH} (hg : H'.grps = killO H.grps g sz)
    {b2 sz2 : Nat} {c2 : T V} {lo2 : Nat} (hb2 : H.objs.get b2 = some (.cells c2 lo2 sz2 g)) (hv2 : H'.valid b2 sz2 g = true) : b2 = b := by
  cases e : H.grps.get g with
  | none => exact hw.uniq g e b2 b _ _ hb2 hb rfl rfl
  | some x =>
    obtain ⟨mn, mx, at_⟩ := x
    have h1 := ((valid_some e).1 hv).2.2
    have e2 : H'.grps.get g = some (sz, sz, at_) := by
      rw [hg]; unfold killO; rw [e]; exact T.get_set_eq _ _ _
    obtain ⟨a1, a2, a3⟩ := (valid_some e2).1 hv2
    have : sz2 = sz := by omega
    subst this
    rw [h1] at a3; cases a3; rfl
theorem killO_other (grps : T Grp) {g g2 : Nat} (sz : Nat) (h : g2 ≠ g) : (killO grps g sz).get g2 = grps.get g2 := by
  unfold killO
  cases grps.get g with
  | none => rfl
  | some x => exact T.get_set_ne _ _ h
theorem killO_none (grps : T Grp) {g g2 : Nat} (sz : Nat) : (killO grps g sz).get g2 = none → grps.get g2 = none := by
  intro h
  by_cases e : g2 = g
  · subst e
    unfold killO at h
    cases q : grps.get g2 with
    | none => rfl
    | some x => rw [q] at h; obtain ⟨a, b, c⟩ := x; simp only [T.get_set_eq] at h; cases h
  · rw [killO_other grps sz e] at h; exact h

/-- P2 -/
theorem sim_store {R : Ren} {S : Nat → Prop} {H : EH} {w w' : World} (hr : Rel R S H w) (hw : WF H) {b r d : Nat} {c c' : T V} {lo sz g : Nat} (hb : H.objs.get b = some (.cells c lo sz g)) (hv : H.valid b sz g = true)
    (hm : R.bm b = some (r, d)) {cs' : Array Value} {t : TypeId} {fz : Nat × Nat} (hsz : cs'.size = R.zs r) (hfz : ∀ i, ¬ (fz.1 ≤ i ∧ i < fz.2))
    (hnew : ∀ i, lo ≤ i → i < sz → d ≤ i ∧ ∃ x y, c'.get i = some x ∧ scal x = true ∧ cs'[i - d]? = some y ∧ VR R x y) (hWU : WU w r (.cells cs' t fz) w') :
    Sim R R S H ⟨H.objs.set b (.cells c' lo sz g), H.next, killO H.grps g sz, minN H.low g⟩ (fun x => x = g) w w' := by
  have f : ∀ b1 o1, (H.objs.set b (.cells c' lo sz g)).get b1 = some o1 → ∃ q, H.objs.get b1 = some q ∧ rootO b1 q = rootO b1 o1 ∧ kindO q = kindO o1 := fun b1 o1 h1 => by
    by_cases e : b1 = b
    · subst e; rw [T.get_set_eq] at h1; cases h1; exact ⟨_, hb, rfl, rfl⟩
    · rw [T.get_set_ne _ _ e] at h1; exact ⟨o1, h1, rfl, rfl⟩
  refine ⟨⟨Nat.le_refl _, by show minN H.low g ≤ _; rw [minN_eq]; omega, fun b2 o2 h => ?_, fun b2 o2 h hn => ?_, fun b2 o2 h hlt => ?_, ⟨fun b2 o2 h => ?_, fun b2 o2 h => ?_, fun g' hg b1 b2 o1 o2 h1 h2 e1 e2 => ?_, fun g' x hg => ?_⟩, fun g' hg => ?_, fun b2 o2 h hge => ?_⟩,
    ⟨fun _ _ => rfl, fun _ _ => rfl, fun b _ _ h1 h2 _ => absurd h1 (by have h2' : b < H.next := h2; omega)⟩,
    ⟨hWU.os, hWU.tape, hWU.output, by rw [hWU.size]; exact Nat.le_refl _, fun r' hr' hn => ?_⟩,
    ⟨fun b2 r2 d2 e => by rw [hWU.size]; exact hr.img b2 r2 d2 e, fun b2 o2 r2 d2 h e => ?_, fun b1 b2 o1 o2 r2 d1 d2 h1 h2 e1 e2 => ?_⟩⟩
  · by_cases e : b2 = b
    · subst e; rw [hb] at h; cases h; exact ⟨_, T.get_set_eq _ _ _, rfl, rfl⟩
    · exact ⟨o2, by show (H.objs.set b _).get b2 = _; rw [T.get_set_ne _ _ e]; exact h, rfl, rfl⟩
  · by_cases e : b2 = b
    · subst e; rw [hb] at h; cases h; exact absurd rfl hn
    · exact ⟨by show (H.objs.set b _).get b2 = _; rw [T.get_set_ne _ _ e]; exact h, killO_other _ _ hn⟩
  · obtain ⟨q, a, _⟩ := f b2 o2 h; exact ⟨q, a⟩
  · obtain ⟨q, a, _⟩ := f b2 o2 h; exact hw.lt b2 q a
  · obtain ⟨q, a, e, _⟩ := f b2 o2 h; rw [← e]; exact hw.root b2 q a
  · obtain ⟨q1, a1, a2, a3⟩ := f b1 o1 h1
    obtain ⟨q2, c1, c2, c3⟩ := f b2 o2 h2
    exact hw.uniq g' (killO_none _ _ hg) b1 b2 q1 q2 a1 c1 (a2.trans e1) (c2.trans e2)
  · have hg' : (killO H.grps g sz).get g' = some x := hg
    by_cases e : g' = g
    · subst e
      exact Nat.lt_of_le_of_lt (hw.root b _ hb) (hw.lt b _ hb)
    · rw [killO_other _ _ e] at hg'; exact hw.gdom g' x hg'
  · subst hg; show minN H.low g' ≤ g'; rw [minN_eq]; omega
  · obtain ⟨q, a, _⟩ := f b2 o2 h; exact absurd (hw.lt b2 q a) (by omega)
  · refine hWU.old r' fun e => ?_
    subst e; exact hn b _ d hb hm rfl
  · have h' : (H.objs.set b (.cells c' lo sz g)).get b2 = some o2 := h
    by_cases eb : b2 = b
    · subst eb; rw [T.get_set_eq] at h'; cases h'
      rw [hm] at e; cases e
      exact ⟨cs', t, fz, hWU.neu, hsz, hfz, fun _ _ => hnew⟩
    · rw [T.get_set_ne _ _ eb] at h'
      by_cases er : r2 = r
      · subst er
        rcases hr.inj b2 b o2 _ r2 d2 d h' hb e hm with q | ⟨q, k1, _, k3⟩
        · exact absurd q eb
        · cases o2 with
          | cells c2 lo2 sz2 g2 =>
            have k3' : g2 = g := k3
            subst k3'
            obtain ⟨cs, t2, fz2, p1, p2, p3, _⟩ := hr.obj b2 _ r2 d2 h' e
            refine ⟨cs', t, fz, hWU.neu, hsz, hfz, fun _ v => ?_⟩
            exact absurd (killO_valid hw hb hv (H' := ⟨H.objs.set b (.cells c' lo sz g2), H.next, killO H.grps g2 sz, minN H.low g2⟩) rfl h' v) eb
          | map es clk => cases k1
          | loop => cases k1
          | dfr => cases k1
          | iter => cases k1
      · refine (hr.obj b2 o2 r2 d2 h' e).mono (.refl _) e (hWU.old r2 er) (fun s => s.elim id fun q => absurd (hw.root b2 o2 h') (by have := hw.lt b2 o2 h'; omega)) (fun v => ?_)
        cases o2 with
        | cells c2 lo2 sz2 g2 =>
          by_cases eg : g2 = g
          · subst eg
            exact absurd (killO_valid hw hb hv (H' := ⟨H.objs.set b (.cells c' lo sz g2), H.next, killO H.grps g2 sz, minN H.low g2⟩) rfl h' v) eb
          · have e3 : (killO H.grps g sz).get g2 = H.grps.get g2 := killO_other _ _ eg
            have v' : EH.valid ⟨H.objs.set b (.cells c' lo sz g), H.next, killO H.grps g sz, minN H.low g⟩ b2 sz2 g2 = true := v
            show H.valid b2 sz2 g2 = true
            unfold EH.valid at v' ⊢
            rw [e3] at v'
            exact v'
        | map es clk => rfl
        | loop => rfl
        | dfr => rfl
        | iter => rfl
  · obtain ⟨q1, a1, a2, a3⟩ := f b1 o1 h1
    obtain ⟨q2, c1, c2, c3⟩ := f b2 o2 h2
    rcases hr.inj b1 b2 q1 q2 r2 d1 d2 a1 c1 e1 e2 with q | ⟨q, p1, p2, p3⟩
    · exact .inl q
    · exact .inr ⟨q, by rw [← a3]; exact p1, by rw [← c3]; exact p2, by rw [← a2, ← c2]; exact p3⟩

theorem clearAt_zero (v i : Nat) (at_ : T Nat) : clearAt v 0 i at_ = at_ := rfl
theorem clearAt_succ (v m i : Nat) (at_ : T Nat) : clearAt v (m + 1) i at_ = clearAt v m (i + 1) (at_.set i v) := rfl
theorem get_clearAt (v : Nat) : ∀ (m i : Nat) (at_ : T Nat) (j : Nat), (clearAt v m i at_).get j = if i ≤ j ∧ j < i + m then some v else at_.get j := by
  intro m
  induction m with
  | zero => intro i at_ j; rw [clearAt_zero, if_neg (by omega)]
  | succ m ih =>
    intro i at_ j
    rw [clearAt_succ, ih, T.get_set]
    by_cases h : i + 1 ≤ j ∧ j < i + 1 + m
    · rw [if_pos h, if_pos (by omega)]
    · rw [if_neg h]
      by_cases e : j = i
      · subst e; rw [if_pos rfl, if_pos (by omega)]
      · rw [if_neg e, if_neg (by omega)]

/-- after an append at n, behind which the new version has the size sz', an old version is valid only if it was, and is no longer than n -/
theorem appG_valid {H : EH} (hw : WF H) {b : Nat} {c : T V} {lo sz g n sz' : Nat} (hb : H.objs.get b = some (.cells c lo sz g)) (hv : H.valid b sz g = true) (hn : n ≤ sz) (hs : n < sz') {H' : EH}
    (hg : H'.grps = H.grps.set g (appG (grpOf H g sz b) n sz' H.next)) {b2 sz2 : Nat} {c2 : T V} {lo2 : Nat} (hb2 : H.objs.get b2 = some (.cells c2 lo2 sz2 g)) (hv2 : H'.valid b2 sz2 g = true) :
    H.valid b2 sz2 g = true ∧ sz2 ≤ n := by
  have hlt := hw.lt b2 _ hb2
  have key : ∀ mn mx (at_ : T Nat), grpOf H g sz b = (mn, mx, at_) → (mn ≤ sz ∧ sz ≤ mx) → (minN mn sz' ≤ sz2 ∧ sz2 ≤ sz' ∧ (clearAt H.next (sz' - n) (n + 1) at_).get sz2 = some b2) → mn ≤ sz2 ∧ sz2 ≤ mx ∧ at_.get sz2 = some b2 ∧ sz2 ≤ n := by
    intro mn mx at_ _ h0 ⟨h1, h2, h3⟩
    rw [minN_eq] at h1
    rw [get_clearAt] at h3
    by_cases e : n + 1 ≤ sz2 ∧ sz2 < n + 1 + (sz' - n)
    · rw [if_pos e] at h3; cases h3; omega
    · rw [if_neg e] at h3; exact ⟨by omega, by omega, h3, by omega⟩
  cases e : H.grps.get g with
  | none =>
    have eb := hw.uniq g e b2 b _ _ hb2 hb rfl rfl
    subst eb
    rw [hb] at hb2; cases hb2
    have e0 : grpOf H g sz b2 = (sz, sz, T.set .lf sz b2) := by unfold grpOf; rw [e]
    have e2 : H'.grps.get g = some (minN sz sz', sz', clearAt H.next (sz' - n) (n + 1) (T.set .lf sz b2)) := by rw [hg, T.get_set_eq, e0]; rfl
    obtain ⟨_, _, _, q⟩ := key _ _ _ e0 ⟨Nat.le_refl _, Nat.le_refl _⟩ ((valid_some e2).1 hv2)
    exact ⟨hv, q⟩
  | some x =>
    obtain ⟨mn, mx, at_⟩ := x
    have h1 := (valid_some e).1 hv
    have e0 : grpOf H g sz b = (mn, mx, at_) := by unfold grpOf; rw [e]
    have e2 : H'.grps.get g = some (minN mn sz', sz', clearAt H.next (sz' - n) (n + 1) at_) := by rw [hg, T.get_set_eq, e0]; rfl
    obtain ⟨q1, q2, q3, q4⟩ := key _ _ _ e0 ⟨h1.1, h1.2.1⟩ ((valid_some e2).1 hv2)
    exact ⟨(valid_some e).2 ⟨q1, q2, q3⟩, q4⟩

/-- P3: the new version lies at r', its places moved by d'; the world has changed at r' alone, and where it was known up to n it is as it was -/
theorem sim_append {R : Ren} {S : Nat → Prop} {H : EH} {w w' : World} (hr : Rel R S H w) (hw : WF H) (hf : R.bm H.next = none) {b r d : Nat} {c c' : T V} {lo sz g n off sz' : Nat} (hb : H.objs.get b = some (.cells c lo sz g)) (hv : H.valid b sz g = true)
    (hm : R.bm b = some (r, d)) (hn : n ≤ sz) (hs : n < sz') {r' d' : Nat} {cs' : Array Value} {t : TypeId} {fz : Nat × Nat} (hfz : ∀ i, ¬ (fz.1 ≤ i ∧ i < fz.2))
    (hcase : (r' = w.heap.size ∧ w'.heap.size = w.heap.size + 1 ∧ ∀ q, q < w.heap.size → w'.heap[q]? = w.heap[q]?) ∨
      (r' = r ∧ d' = d ∧ w'.heap.size = w.heap.size ∧ cs'.size = R.zs r ∧ (∀ q, q ≠ r → w'.heap[q]? = w.heap[q]?) ∧ ∀ cs t2 fz2, w.heap[r]? = some (.cells cs t2 fz2) → ∀ k, k + d < n → cs'[k]? = cs[k]?))
    (hneu : w'.heap[r']? = some (.cells cs' t fz)) (hos : w'.os = w.os) (htape : w'.tape = w.tape) (hout : w'.output = w.output)
    (hnew : ∀ R', R.le R' → ∀ i, off ≤ i → i < sz' → d' ≤ i ∧ ∃ x y, c'.get i = some x ∧ scal x = true ∧ cs'[i - d']? = some y ∧ VR R' x y) :
    ∃ R', Sim R R' S H ⟨H.objs.set H.next (.cells c' off sz' g), H.next + 1, H.grps.set g (appG (grpOf H g sz b) n sz' H.next), minN H.low g⟩ (fun x => x = g) w w' ∧ R'.bm H.next = some (r', d') ∧ R'.zs r' = cs'.size := by
  let R' : Ren := ⟨fun x => if x = H.next then some (r', d') else R.bm x, fun q => if q = r' then cs'.size else R.zs q⟩
  have hgl : g < H.next := Nat.lt_of_le_of_lt (hw.root b _ hb) (hw.lt b _ hb)
  have hrl := hr.img b r d hm
  have hzs : ∀ q, q < w.heap.size → R'.zs q = R.zs q := fun q hq => by
    show (if q = r' then _ else _) = _
    by_cases e : q = r'
    · rw [if_pos e]
      rcases hcase with ⟨a, _, _⟩ | ⟨a, _, _, z, _⟩
      · omega
      · rw [z, e, a]
    · rw [if_neg e]
  have hle : R.le R' := ⟨fun x y e => by
      show (if x = H.next then _ else _) = _
      rw [if_neg (by intro h; rw [h, hf] at e; cases e)]; exact e,
    fun x q y e => hzs q (hr.img x q y e)⟩
  have hb0 : R'.bm H.next = some (r', d') := if_pos rfl
  have hz0 : R'.zs r' = cs'.size := if_pos rfl
  have hbn : ∀ x, x ≠ H.next → R'.bm x = R.bm x := fun x e => if_neg e
  have hlt : ∀ x o', H.objs.get x = some o' → x ≠ H.next := fun x o' h => by have := hw.lt x o' h; omega
  have hsize : w.heap.size ≤ w'.heap.size := by rcases hcase with ⟨_, a, _⟩ | ⟨_, _, a, _⟩ <;> omega
  have hold : ∀ q, q < w.heap.size → q ≠ r → w'.heap[q]? = w.heap[q]? := fun q h1 h2 => by
    rcases hcase with ⟨_, _, a⟩ | ⟨_, _, _, _, a, _⟩
    · exact a q h1
    · exact a q h2
  have hobj : ∀ x o', (H.objs.set H.next (.cells c' off sz' g)).get x = some o' → x ≠ H.next → H.objs.get x = some o' := fun x o' h e => by rw [T.get_set_ne _ _ e] at h; exact h
  refine ⟨R', ⟨⟨Nat.le_succ _, by show minN H.low g ≤ _; rw [minN_eq]; omega, fun x o' h => ⟨o', by show (H.objs.set _ _).get x = _; rw [T.get_set_ne _ _ (hlt x o' h)]; exact h, rfl, rfl⟩,
    fun x o' h hn' => ⟨by show (H.objs.set _ _).get x = _; rw [T.get_set_ne _ _ (hlt x o' h)]; exact h, T.get_set_ne _ _ hn'⟩, fun x o' h hx => ⟨o', hobj x o' h (by omega)⟩,
    ⟨fun x o' h => ?_, fun x o' h => ?_, fun g' hg x y o1 o2 h1 h2 e1 e2 => ?_, fun g' x h => ?_⟩, fun g' hg => ?_, fun x o' h hx => ?_⟩,
    ⟨fun x h => hbn x (by intro e; exact h ⟨by omega, by show x < H.next + 1; omega⟩), hzs, fun x q y h1 h2 e => ?_⟩,
    ⟨hos, htape, hout, hsize, fun q hq hq' => hold q hq fun e => ?_⟩, ⟨fun x q y e => ?_, fun x o' q y h e => ?_, fun x x' o1 o2 q y y' h1 h2 e1 e2 => ?_⟩⟩, hb0, hz0⟩
  · by_cases e : x = H.next
    · subst e; exact Nat.lt_succ_self _
    · exact Nat.lt_succ_of_lt (hw.lt x o' (hobj x o' h e))
  · by_cases e : x = H.next
    · subst e; have h' : (H.objs.set H.next (.cells c' off sz' g)).get H.next = some o' := h
      rw [T.get_set_eq] at h'; cases h'; exact Nat.le_of_lt hgl
    · exact hw.root x o' (hobj x o' h e)
  · have hg' : (H.grps.set g (appG (grpOf H g sz b) n sz' H.next)).get g' = none := hg
    have hgn : g' ≠ g := fun e => by subst e; rw [T.get_set_eq] at hg'; cases hg'
    rw [T.get_set_ne _ _ hgn] at hg'
    have nn : ∀ x o, (H.objs.set H.next (.cells c' off sz' g)).get x = some o → rootO x o = g' → x ≠ H.next := fun x o h e q => by
      subst q; rw [T.get_set_eq] at h; cases h; exact hgn e.symm
    exact hw.uniq g' hg' x y o1 o2 (hobj x o1 h1 (nn x o1 h1 e1)) (hobj y o2 h2 (nn y o2 h2 e2)) e1 e2
  · have h' : (H.grps.set g (appG (grpOf H g sz b) n sz' H.next)).get g' = some x := h
    by_cases e : g' = g
    · subst e; exact Nat.lt_succ_of_lt hgl
    · rw [T.get_set_ne _ _ e] at h'; exact Nat.lt_succ_of_lt (hw.gdom g' x h')
  · subst hg; show minN H.low g' ≤ g'; rw [minN_eq]; omega
  · by_cases e : x = H.next
    · subst e; have h' : (H.objs.set H.next (.cells c' off sz' g)).get H.next = some o' := h
      rw [T.get_set_eq] at h'; cases h'; exact .inr rfl
    · exact absurd (hw.lt x o' (hobj x o' h e)) (by omega)
  · have : x = H.next := by have h2' : x < H.next + 1 := h2; omega
    subst this; rw [hb0] at e; cases e
    rcases hcase with ⟨a, _, _⟩ | ⟨a, a2, _⟩
    · exact .inl (by omega)
    · exact .inr ⟨b, _, _, hb, by rw [a, a2]; exact hm, T.get_set_eq _ _ _, rfl, rfl, rfl⟩
  · subst e; exact hq' b _ d hb hm rfl
  · by_cases ex : x = H.next
    · subst ex; rw [hb0] at e; cases e
      rcases hcase with ⟨a, a2, _⟩ | ⟨a, _, a2, _⟩ <;> omega
    · rw [hbn x ex] at e; have := hr.img x q y e; omega
  · have h' : (H.objs.set H.next (.cells c' off sz' g)).get x = some o' := h
    by_cases ex : x = H.next
    · subst ex
      rw [T.get_set_eq] at h'; cases h'
      rw [hb0] at e; cases e
      exact ⟨cs', t, fz, hneu, hz0.symm, hfz, fun _ _ => hnew R' hle⟩
    · have h2 := hobj x o' h ex
      rw [hbn x ex] at e
      have hs' : Up S H.next (rootO x o') → S (rootO x o') := fun s => s.elim id fun q => absurd (hw.root x o' h2) (by have := hw.lt x o' h2; omega)
      by_cases eq : q = r
      · subst eq
        rcases hr.inj x b o' _ q y d h2 hb e hm with p | ⟨p, k1, _, k3⟩
        · subst p
          rw [hb] at h2; cases h2
          rw [hm] at e; cases e
          obtain ⟨cs, t2, fz2, p1, p2, p3, p4⟩ := hr.obj x _ q d hb hm
          rcases hcase with ⟨_, _, a⟩ | ⟨a1, a2, a3, a4, a5, a6⟩
          · refine ⟨cs, t2, fz2, (a q hrl).trans p1, by rw [hzs q hrl]; exact p2, p3, fun s v i hi hj => ?_⟩
            obtain ⟨v1, v2⟩ := appG_valid hw hb hv hn hs (H' := ⟨H.objs.set H.next (.cells c' off sz' g), H.next + 1, H.grps.set g (appG (grpOf H g sz x) n sz' H.next), minN H.low g⟩) rfl hb v
            obtain ⟨z, x1, y1, z1, z2, z3, z4⟩ := p4 (hs' s) v1 i hi hj
            exact ⟨z, x1, y1, z1, z2, z3, z4.mono hle⟩
          · subst a1
            refine ⟨cs', t, fz, hneu, by rw [hzs _ hrl]; exact a4, hfz, fun s v i hi hj => ?_⟩
            obtain ⟨v1, v2⟩ := appG_valid hw hb hv hn hs (H' := ⟨H.objs.set H.next (.cells c' off sz' g), H.next + 1, H.grps.set g (appG (grpOf H g sz x) n sz' H.next), minN H.low g⟩) rfl hb v
            obtain ⟨z, x1, y1, z1, z2, z3, z4⟩ := p4 (hs' s) v1 i hi hj
            exact ⟨z, x1, y1, z1, z2, (a6 cs t2 fz2 p1 (i - d) (by omega)).trans z3, z4.mono hle⟩
        · subst p
          cases o' with
          | cells c2 lo2 sz2 g2 =>
            have k3' : g2 = g := k3
            subst k3'
            obtain ⟨cs, t2, fz2, p1, p2, p3, p4⟩ := hr.obj x _ q y h2 e
            rcases hcase with ⟨_, _, a⟩ | ⟨a1, a2, a3, a4, a5, a6⟩
            · refine ⟨cs, t2, fz2, (a q hrl).trans p1, by rw [hzs q hrl]; exact p2, p3, fun s v i hi hj => ?_⟩
              obtain ⟨v1, v2⟩ := appG_valid hw hb hv hn hs (H' := ⟨H.objs.set H.next (.cells c' off sz' g2), H.next + 1, H.grps.set g2 (appG (grpOf H g2 sz b) n sz' H.next), minN H.low g2⟩) rfl h2 v
              obtain ⟨z, x1, y1, z1, z2, z3, z4⟩ := p4 (hs' s) v1 i hi hj
              exact ⟨z, x1, y1, z1, z2, z3, z4.mono hle⟩
            · subst a1
              refine ⟨cs', t, fz, hneu, by rw [hzs _ hrl]; exact a4, hfz, fun s v i hi hj => ?_⟩
              obtain ⟨v1, v2⟩ := appG_valid hw hb hv hn hs (H' := ⟨H.objs.set H.next (.cells c' off sz' g2), H.next + 1, H.grps.set g2 (appG (grpOf H g2 sz b) n sz' H.next), minN H.low g2⟩) rfl h2 v
              obtain ⟨z, x1, y1, z1, z2, z3, z4⟩ := p4 (hs' s) v1 i hi hj
              exact ⟨z, x1, y1, z1, z2, (a6 cs t2 fz2 p1 (i - y) (by omega)).trans z3, z4.mono hle⟩
          | map es clk => cases k1
          | loop => cases k1
          | dfr => cases k1
          | iter => cases k1
      · refine (hr.obj x o' q y h2 e).mono hle e (hold q (hr.img x q y e) eq) hs' (fun v => ?_)
        cases o' with
        | cells c2 lo2 sz2 g2 =>
          by_cases eg : g2 = g
          · subst eg
            exact (appG_valid hw hb hv hn hs (H' := ⟨H.objs.set H.next (.cells c' off sz' g2), H.next + 1, H.grps.set g2 (appG (grpOf H g2 sz b) n sz' H.next), minN H.low g2⟩) rfl h2 v).1
          · have e3 : (H.grps.set g (appG (grpOf H g sz b) n sz' H.next)).get g2 = H.grps.get g2 := T.get_set_ne _ _ eg
            have v' : EH.valid ⟨H.objs.set H.next (.cells c' off sz' g), H.next + 1, H.grps.set g (appG (grpOf H g sz b) n sz' H.next), minN H.low g⟩ x sz2 g2 = true := v
            show H.valid x sz2 g2 = true
            unfold EH.valid at v' ⊢
            rw [e3] at v'
            exact v'
        | map es clk => rfl
        | loop => rfl
        | dfr => rfl
        | iter => rfl
  · have hrec : ∀ x o, (H.objs.set H.next (.cells c' off sz' g)).get x = some o → ∀ q y, R'.bm x = some (q, y) → (x = H.next ∧ kindO o = 0 ∧ rootO x o = g ∧ q = r' ∧ y = d') ∨ (x ≠ H.next ∧ H.objs.get x = some o ∧ R.bm x = some (q, y)) := fun x o h q y e => by
      by_cases ex : x = H.next
      · subst ex; rw [T.get_set_eq] at h; cases h; rw [hb0] at e; cases e; exact .inl ⟨rfl, rfl, rfl, rfl, rfl⟩
      · rw [hbn x ex] at e; exact .inr ⟨ex, hobj x o h ex, e⟩
    rcases hrec x o1 h1 q y e1 with ⟨a1, a2, a3, a4, a5⟩ | ⟨a1, a2, a3⟩
    · rcases hrec x' o2 h2 q y' e2 with ⟨c1, c2, c3, c4, c5⟩ | ⟨c1, c2, c3⟩
      · exact .inl (a1.trans c1.symm)
      · subst a4
        have := hr.img x' _ y' c3
        rcases hcase with ⟨p, _, _⟩ | ⟨p1, p2, _⟩
        · omega
        · subst p1
          rcases hr.inj x' b o2 _ _ y' d c2 hb c3 hm with z | ⟨z1, z2, z3, z4⟩
          · subst z; rw [hb] at c2; cases c2; rw [hm] at c3; cases c3
            exact .inr ⟨by omega, a2, rfl, a3⟩
          · exact .inr ⟨by omega, a2, z2, a3.trans z4.symm⟩
    · rcases hrec x' o2 h2 q y' e2 with ⟨c1, c2, c3, c4, c5⟩ | ⟨c1, c2, c3⟩
      · subst c4
        have := hr.img x _ y a3
        rcases hcase with ⟨p, _, _⟩ | ⟨p1, p2, _⟩
        · omega
        · subst p1
          rcases hr.inj x b o1 _ _ y d a2 hb a3 hm with z | ⟨z1, z2, z3, z4⟩
          · subst z; rw [hb] at a2; cases a2; rw [hm] at a3; cases a3
            exact .inr ⟨by omega, rfl, c2, c3.symm⟩
          · exact .inr ⟨by omega, z2, c2, z4.trans c3.symm⟩
      · exact hr.inj x x' o1 o2 q y y' a2 c2 a3 c3
end Go.Ev
