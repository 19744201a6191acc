/- The ways to change both heaps, each with what it keeps. -/
import Derived.Test.YtaaiocbpgpkheaaEvHeap
namespace Go.Ev
open Go

structure Sim (R R' : Ren) (S : Nat → Prop) (H H' : EH) (W : Nat → Prop) (w w' : World) : Prop where
  es : ES H H' W
  rx : RX R R' H H' w
  fr : Fr R H W w w'
  rel : Rel R' (Up S H.next) H' w'
theorem Sim.refl {R : Ren} {S : Nat → Prop} {H : EH} {w : World} (hw : WF H) (hr : Rel R S H w) : Sim R R S H H (fun _ => False) w w :=
  ⟨.refl hw, .refl _ _ _, .refl _ _ _ _, ⟨hr.img, fun b o r d ho hb => (hr.obj b o r d ho hb).mono (.refl R) hb rfl (fun s => s.elim id fun q => absurd (hw.root b o ho) (by have := hw.lt b o ho; omega)) id, hr.inj⟩⟩
theorem Sim.trans {R R1 R2 : Ren} {S : Nat → Prop} {A B C : EH} {W W' : Nat → Prop} {w w1 w2 : World} (h : Sim R R1 S A B W w w1) (k : Sim R1 R2 (Up S A.next) B C W' w1 w2) :
    Sim R R2 S A C (fun g => W g ∨ W' g) w w2 :=
  ⟨h.es.trans k.es, h.rx.trans k.rx h.es k.es h.fr.size, h.fr.trans k.fr h.rx h.es, k.rel.weak fun _ q => .inl q⟩

/-- a new object of the world's -/
structure WA (w : World) (ob : Obj) (w' : World) : Prop where
  size : w'.heap.size = w.heap.size + 1
  neu : w'.heap[w.heap.size]? = some ob
  old : ∀ r, r < w.heap.size → w'.heap[r]? = w.heap[r]?
  os : w'.os = w.os
  tape : w'.tape = w.tape
  output : w'.output = w.output
/-- one object of the world's changed -/
structure WU (w : World) (r : Nat) (ob : Obj) (w' : World) : Prop where
  size : w'.heap.size = w.heap.size
  neu : w'.heap[r]? = some ob
  old : ∀ r', r' ≠ r → w'.heap[r']? = w.heap[r']?
  os : w'.os = w.os
  tape : w'.tape = w.tape
  output : w'.output = w.output
theorem WA.push (w : World) (ob : Obj) : WA w ob { w with heap := w.heap.push ob } :=
  ⟨by simp, by simp, fun r hr => by simp [Array.getElem?_push, Nat.ne_of_lt hr], rfl, rfl, rfl⟩
theorem WU.trans {w w1 w2 : World} {r : Nat} {o1 o2 : Obj} (h : WU w r o1 w1) (k : WU w1 r o2 w2) : WU w r o2 w2 :=
  ⟨k.size.trans h.size, k.neu, fun r' e => (k.old r' e).trans (h.old r' e), k.os.trans h.os, k.tape.trans h.tape, k.output.trans h.output⟩

theorem fN_eq {β : Type} (n : Nat) (k : Nat → β) : fN n k = k n := by cases n <;> rfl
theorem minN_eq (a b : Nat) : minN a b = min a b := by
  show cond (Nat.ble a b) a b = _; rw [cond_ble]; by_cases h : a ≤ b
  · rw [if_pos h, Nat.min_eq_left h]
  · rw [if_neg h, Nat.min_eq_right (by omega)]

/-- P1 -/
theorem es_new {H : EH} (hw : WF H) (o : EO) (ho : rootO H.next o = H.next) : ES H ⟨H.objs.set H.next o, H.next + 1, H.grps, H.low⟩ (fun _ => False) := by
  have hne : ∀ b o', H.objs.get b = some o' → b ≠ H.next := fun b o' h => by have := hw.lt b o' h; omega
  have hg : H.grps.get H.next = none := by
    cases e : H.grps.get H.next with
    | none => rfl
    | some x => have := hw.gdom _ _ e; omega
  refine ⟨Nat.le_succ _, Nat.le_refl _, fun b o' h => ⟨o', by show (H.objs.set _ _).get b = _; rw [T.get_set_ne _ _ (hne b o' h)]; exact h, rfl, rfl⟩,
    fun b o' h _ => ⟨by show (H.objs.set _ _).get b = _; rw [T.get_set_ne _ _ (hne b o' h)]; exact h, rfl⟩, fun b o' h hb => ?_, ⟨fun b o' h => ?_, fun b o' h => ?_, fun g hgn b b' o1 o2 h1 h2 e1 e2 => ?_, fun g x h => ?_⟩, fun _ h => h.elim, fun b o' h hb => ?_⟩
  · have h' : (H.objs.set H.next o).get b = some o' := h
    rw [T.get_set_ne _ _ (by omega)] at h'; exact ⟨o', h'⟩
  · have h' : (H.objs.set H.next o).get b = some o' := h
    by_cases e : b = H.next
    · subst e; exact Nat.lt_succ_self _
    · rw [T.get_set_ne _ _ e] at h'; exact Nat.lt_succ_of_lt (hw.lt b o' h')
  · have h' : (H.objs.set H.next o).get b = some o' := h
    by_cases e : b = H.next
    · subst e; rw [T.get_set_eq] at h'; cases h'; omega
    · rw [T.get_set_ne _ _ e] at h'; exact hw.root b o' h'
  · have h1' : (H.objs.set H.next o).get b = some o1 := h1
    have h2' : (H.objs.set H.next o).get b' = some o2 := h2
    by_cases ea : b = H.next
    · by_cases eb : b' = H.next
      · rw [ea, eb]
      · rw [T.get_set_ne _ _ eb] at h2'
        subst ea; rw [T.get_set_eq] at h1'; cases h1'
        have := hw.root b' o2 h2'; have := hw.lt b' o2 h2'; omega
    · rw [T.get_set_ne _ _ ea] at h1'
      by_cases eb : b' = H.next
      · subst eb; rw [T.get_set_eq] at h2'; cases h2'
        have := hw.root b o1 h1'; have := hw.lt b o1 h1'; omega
      · rw [T.get_set_ne _ _ eb] at h2'
        exact hw.uniq g hgn b b' o1 o2 h1' h2' e1 e2
  · exact Nat.lt_succ_of_lt (hw.gdom g x h)
  · have h' : (H.objs.set H.next o).get b = some o' := h
    by_cases e : b = H.next
    · subst e; rw [T.get_set_eq] at h'; cases h'; exact .inl (by omega)
    · rw [T.get_set_ne _ _ e] at h'; exact absurd (hw.lt b o' h') (by omega)

theorem sim_new {R : Ren} {S : Nat → Prop} {H : EH} {w w' : World} (hr : Rel R S H w) (hw : WF H) (hf : R.bm H.next = none) (o : EO) (ho : rootO H.next o = H.next) (ob : Obj) (z : Nat)
    (hor : ∀ R', R.le R' → R'.bm H.next = some (w.heap.size, 0) → R'.zs w.heap.size = z → OR R' True true o w.heap.size 0 w') (hWA : WA w ob w') :
    ∃ R', Sim R R' S H ⟨H.objs.set H.next o, H.next + 1, H.grps, H.low⟩ (fun _ => False) w w' ∧ R'.bm H.next = some (w.heap.size, 0) ∧ R'.zs w.heap.size = z := by
  let R' : Ren := ⟨fun b => if b = H.next then some (w.heap.size, 0) else R.bm b, fun r => if r = w.heap.size then z else R.zs r⟩
  have hle : R.le R' := ⟨fun b x e => by
      show (if b = H.next then _ else _) = _
      rw [if_neg (by intro h; rw [h, hf] at e; cases e)]; exact e,
    fun b r d e => by show (if r = w.heap.size then _ else _) = _; rw [if_neg (Nat.ne_of_lt (hr.img b r d e))]⟩
  have hb0 : R'.bm H.next = some (w.heap.size, 0) := if_pos rfl
  have hz0 : R'.zs w.heap.size = z := if_pos rfl
  have hbn : ∀ b, b ≠ H.next → R'.bm b = R.bm b := fun b e => if_neg e
  have hlt : ∀ b o', H.objs.get b = some o' → b ≠ H.next := fun b o' h => by have := hw.lt b o' h; omega
  refine ⟨R', ⟨es_new hw o ho, ⟨fun b h => hbn b (by intro e; exact h ⟨by omega, by show b < H.next + 1; omega⟩), fun r hr' => if_neg (Nat.ne_of_lt hr'), fun b r d h1 h2 e => ?_⟩,
    ⟨hWA.os, hWA.tape, hWA.output, by rw [hWA.size]; omega, fun r hr' _ => hWA.old r hr'⟩, ⟨fun b r d e => ?_, fun b o' r d h e => ?_, fun b b' o1 o2 r d d' h1 h2 e1 e2 => ?_⟩⟩, hb0, hz0⟩
  · have : b = H.next := by have h2' : b < H.next + 1 := h2; omega
    subst this; rw [hb0] at e; cases e; exact .inl (Nat.le_refl _)
  · rw [hWA.size]
    by_cases eb : b = H.next
    · subst eb; rw [hb0] at e; cases e; omega
    · rw [hbn b eb] at e; have := hr.img b r d e; omega
  · have h' : (H.objs.set H.next o).get b = some o' := h
    by_cases eb : b = H.next
    · subst eb
      rw [T.get_set_eq] at h'; cases h'
      rw [hb0] at e; cases e
      exact (hor R' hle hb0 hz0).mono (.refl _) hb0 rfl (fun _ => trivial) (fun _ => rfl)
    · rw [T.get_set_ne _ _ eb] at h'
      rw [hbn b eb] at e
      refine (hr.obj b o' r d h' e).mono hle e (hWA.old r (hr.img b r d e)) (fun s => s.elim id fun q => absurd (hw.root b o' h') (by have := hw.lt b o' h'; omega)) (fun v => ?_)
      cases o' <;> exact v
  · have h1' : (H.objs.set H.next o).get b = some o1 := h1
    have h2' : (H.objs.set H.next o).get b' = some o2 := h2
    by_cases ea : b = H.next
    · by_cases eb : b' = H.next
      · exact .inl (ea.trans eb.symm)
      · rw [hbn b' eb] at e2
        rw [ea, hb0] at e1; cases e1
        have := hr.img b' _ d' e2; omega
    · rw [hbn b ea] at e1
      rw [T.get_set_ne _ _ ea] at h1'
      by_cases eb : b' = H.next
      · rw [eb, hb0] at e2; cases e2
        have := hr.img b _ d e1; omega
      · rw [hbn b' eb] at e2
        rw [T.get_set_ne _ _ eb] at h2'
        exact hr.inj b b' o1 o2 r d d' h1' h2' e1 e2

/-- P4: an object that is no row is another one of its kind -/
theorem sim_obj {R : Ren} {S : Nat → Prop} {H : EH} {w w' : World} (hr : Rel R S H w) (hw : WF H) {b r : Nat} {o o' : EO} (hb : H.objs.get b = some o) (hm : R.bm b = some (r, 0)) (hk : kindO o ≠ 0) (hk' : kindO o' = kindO o)
    (ob : Obj) (hor : OR R True true o' r 0 w') (hWU : WU w r ob w') :
    Sim R R S H ⟨H.objs.set b o', H.next, H.grps, minN H.low b⟩ (fun g => g = b) w w' := by
  have hro : ∀ o, kindO o ≠ 0 → rootO b o = b := fun o h => by cases o <;> first | rfl | exact absurd rfl h
  have hk2 : kindO o' ≠ 0 := by rw [hk']; exact hk
  refine ⟨⟨Nat.le_refl _, by show minN H.low b ≤ _; rw [minN_eq]; omega, fun b2 o2 h => ?_, fun b2 o2 h hn => ?_, fun b2 o2 h hlt => ?_, ⟨fun b2 o2 h => ?_, fun b2 o2 h => ?_, fun g hg b1 b2 o1 o2 h1 h2 e1 e2 => ?_, hw.gdom⟩, fun g hg => ?_, fun b2 o2 h hge => ?_⟩,
    ⟨fun _ _ => rfl, fun _ _ => rfl, fun b _ _ h1 h2 _ => absurd h1 (by have h2' : b < H.next := h2; omega)⟩,
    ⟨hWU.os, hWU.tape, hWU.output, by rw [hWU.size]; exact Nat.le_refl _, fun r' hr' hn => ?_⟩,
    ⟨fun b2 r2 d2 e => by rw [hWU.size]; exact hr.img b2 r2 d2 e, fun b2 o2 r2 d2 h e => ?_, fun b1 b2 o1 o2 r2 d1 d2 h1 h2 e1 e2 => ?_⟩⟩
  · by_cases e : b2 = b
    · subst e; rw [hb] at h; cases h
      exact ⟨o', T.get_set_eq _ _ _, (hro o' hk2).trans (hro o hk).symm, hk'⟩
    · exact ⟨o2, by show (H.objs.set b o').get b2 = _; rw [T.get_set_ne _ _ e]; exact h, rfl, rfl⟩
  · by_cases e : b2 = b
    · subst e; rw [hb] at h; cases h; exact absurd (hro o hk) hn
    · exact ⟨by show (H.objs.set b o').get b2 = _; rw [T.get_set_ne _ _ e]; exact h, rfl⟩
  · by_cases e : b2 = b
    · subst e; exact ⟨o, hb⟩
    · have h' : (H.objs.set b o').get b2 = some o2 := h
      rw [T.get_set_ne _ _ e] at h'; exact ⟨o2, h'⟩
  · by_cases e : b2 = b
    · subst e; exact hw.lt b2 o hb
    · have h' : (H.objs.set b o').get b2 = some o2 := h
      rw [T.get_set_ne _ _ e] at h'; exact hw.lt b2 o2 h'
  · have h' : (H.objs.set b o').get b2 = some o2 := h
    by_cases e : b2 = b
    · subst e; rw [T.get_set_eq] at h'; cases h'; rw [hro o' hk2]; exact Nat.le_refl _
    · rw [T.get_set_ne _ _ e] at h'; exact hw.root b2 o2 h'
  · have h1' : (H.objs.set b o').get b1 = some o1 := h1
    have h2' : (H.objs.set b o').get b2 = some o2 := h2
    have f1 : ∃ q, H.objs.get b1 = some q ∧ rootO b1 q = rootO b1 o1 := by
      by_cases e : b1 = b
      · subst e; rw [T.get_set_eq] at h1'; cases h1'; exact ⟨o, hb, (hro o hk).trans (hro o' hk2).symm⟩
      · rw [T.get_set_ne _ _ e] at h1'; exact ⟨o1, h1', rfl⟩
    have f2 : ∃ q, H.objs.get b2 = some q ∧ rootO b2 q = rootO b2 o2 := by
      by_cases e : b2 = b
      · subst e; rw [T.get_set_eq] at h2'; cases h2'; exact ⟨o, hb, (hro o hk).trans (hro o' hk2).symm⟩
      · rw [T.get_set_ne _ _ e] at h2'; exact ⟨o2, h2', rfl⟩
    obtain ⟨q1, a1, a2⟩ := f1
    obtain ⟨q2, c1, c2⟩ := f2
    exact hw.uniq g hg b1 b2 q1 q2 a1 c1 (a2.trans e1) (c2.trans e2)
  · subst hg; show minN H.low g ≤ g; rw [minN_eq]; omega
  · by_cases e : b2 = b
    · subst e; exact absurd (hw.lt b2 o hb) (by omega)
    · have h' : (H.objs.set b o').get b2 = some o2 := h
      rw [T.get_set_ne _ _ e] at h'; exact absurd (hw.lt b2 o2 h') (by omega)
  · refine hWU.old r' fun e => ?_
    subst e; exact hn b o 0 hb hm (hro o hk)
  · have h' : (H.objs.set b o').get b2 = some o2 := h
    by_cases eb : b2 = b
    · subst eb; rw [T.get_set_eq] at h'; cases h'
      rw [hm] at e; cases e
      exact hor.mono (.refl _) hm rfl (fun _ => trivial) (fun _ => rfl)
    · rw [T.get_set_ne _ _ eb] at h'
      have hne : r2 ≠ r := fun er => by
        subst er
        rcases hr.inj b2 b o2 o r2 d2 0 h' hb e hm with q | ⟨_, _, q, _⟩
        · exact eb q
        · exact hk q
      refine (hr.obj b2 o2 r2 d2 h' e).mono (.refl _) e (hWU.old r2 hne) (fun s => s.elim id fun q => absurd (hw.root b2 o2 h') (by have := hw.lt b2 o2 h'; omega)) (fun v => ?_)
      cases o2 <;> exact v
  · have f : ∀ b1 o1, (H.objs.set b o').get b1 = some o1 → ∃ q, H.objs.get b1 = some q ∧ rootO b1 q = rootO b1 o1 ∧ kindO q = kindO o1 := fun b1 o1 h1 => by
      by_cases e : b1 = b
      · subst e; rw [T.get_set_eq] at h1; cases h1; exact ⟨o, hb, (hro o hk).trans (hro o' hk2).symm, hk'.symm⟩
      · rw [T.get_set_ne _ _ e] at h1; exact ⟨o1, h1, rfl, rfl⟩
    obtain ⟨q1, a1, a2, a3⟩ := f b1 o1 h1
    obtain ⟨q2, c1, c2, c3⟩ := f b2 o2 h2
    rcases hr.inj b1 b2 q1 q2 r2 d1 d2 a1 c1 e1 e2 with q | ⟨q, p1, p2, p3⟩
    · exact .inl q
    · exact .inr ⟨q, by rw [← a3]; exact p1, by rw [← c3]; exact p2, by rw [← a2, ← c2]; exact p3⟩
end Go.Ev
