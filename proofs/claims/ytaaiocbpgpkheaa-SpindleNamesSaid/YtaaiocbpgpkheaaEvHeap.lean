/- Abstract heap and machine's world: the relation, what a step keeps, and the four ways to change both: a new object, a store, an append, a change of an object that is no row of cells. -/
import Derived.Test.YtaaiocbpgpkheaaEvRel
namespace Go.Ev
open Go

def rootO (b : Nat) (o : EO) : Nat := match o with
  | .cells _ _ _ g => g
  | _ => b
def kindO (o : EO) : Nat := match o with
  | .cells _ _ _ _ => 0
  | .map _ _ => 1
  | .loop _ _ _ _ _ _ _ _ => 2
  | .dfr _ => 3
  | .iter _ => 4
noncomputable def EH.vd (H : EH) (b : Nat) (o : EO) : Bool := match o with
  | .cells _ _ sz g => H.valid b sz g
  | _ => true

/-- the entries of a map -/
def ER (R : Ren) : List (V × V × Nat) → List MapEntry → Prop
  | [], [] => True
  | e :: es, e' :: es' => (VR R e.1 e'.key ∧ VR R e.2.1 e'.val ∧ e'.born = e.2.2) ∧ ER R es es'
  | _, _ => False
theorem ER.mono {R R' : Ren} (hle : R.le R') : ∀ {l : List (V × V × Nat)} {l' : List MapEntry}, ER R l l' → ER R' l l'
  | [], [], _ => trivial
  | _ :: _, _ :: _, ⟨⟨h1, h2, h3⟩, k⟩ => ⟨⟨h1.mono hle, h2.mono hle, h3⟩, ER.mono hle k⟩

/-- an object, where it is valid and in step, is what lies at r -/
def OR (R : Ren) (s : Prop) (vd : Bool) (o : EO) (r d : Nat) (w : World) : Prop := match o with
  | .cells c lo sz _ => ∃ cs t fz, w.heap[r]? = some (.cells cs t fz) ∧ cs.size = R.zs r ∧ (∀ i, ¬ (fz.1 ≤ i ∧ i < fz.2)) ∧
      (s → vd = true → ∀ i, lo ≤ i → i < sz → d ≤ i ∧ ∃ x y, c.get i = some x ∧ scal x = true ∧ cs[i - d]? = some y ∧ VR R x y)
  | .map es clk => d = 0 ∧ ∃ es' clk', w.heap[r]? = some (.map es' clk') ∧ (s → clk' = clk ∧ ER R es es'.toList)
  | .loop st pend tm n ps as bd df => d = 0 ∧ ∃ L, w.heap[r]? = some (.loop L) ∧ (s → L.state = st ∧ L.pending = pend ∧ L.params = ps ∧ L.assign = as ∧ L.body = bd ∧ TR R tm n L.tmps ∧ R.bm df = some (L.defers, 0))
  | .dfr o => d = 0 ∧ ∃ x, w.heap[r]? = some (.deferred x) ∧ (s → x = if o then some [] else none)
  | .iter o => d = 0 ∧ ∃ a since seen last, w.heap[r]? = some (.mapIter a since seen last) ∧ (s → match o with
      | some (m, c) => since = c ∧ seen = #[] ∧ last = c ∧ ∃ rm, a = some rm ∧ R.bm m = some (rm, 0)
      | none => True)

structure Rel (R : Ren) (S : Nat → Prop) (H : EH) (w : World) : Prop where
  img : ∀ b r d, R.bm b = some (r, d) → r < w.heap.size
  obj : ∀ b o r d, H.objs.get b = some o → R.bm b = some (r, d) → OR R (S (rootO b o)) (H.vd b o) o r d w
  inj : ∀ b b' o o' r d d', H.objs.get b = some o → H.objs.get b' = some o' → R.bm b = some (r, d) → R.bm b' = some (r, d') →
    b = b' ∨ (d = d' ∧ kindO o = 0 ∧ kindO o' = 0 ∧ rootO b o = rootO b' o')

structure WF (H : EH) : Prop where
  lt : ∀ b o, H.objs.get b = some o → b < H.next
  root : ∀ b o, H.objs.get b = some o → rootO b o ≤ b
  uniq : ∀ g, H.grps.get g = none → ∀ b b' o o', H.objs.get b = some o → H.objs.get b' = some o' → rootO b o = g → rootO b' o' = g → b = b'
  gdom : ∀ g x, H.grps.get g = some x → g < H.next

/-- what a step of the evaluator keeps; W: the roots of what it writes -/
structure ES (H H' : EH) (W : Nat → Prop) : Prop where
  next : H.next ≤ H'.next
  low : H'.low ≤ H.low
  old : ∀ b o, H.objs.get b = some o → ∃ o', H'.objs.get b = some o' ∧ rootO b o' = rootO b o ∧ kindO o' = kindO o
  keep : ∀ b o, H.objs.get b = some o → ¬ W (rootO b o) → H'.objs.get b = some o ∧ H'.grps.get (rootO b o) = H.grps.get (rootO b o)
  back : ∀ b o', H'.objs.get b = some o' → b < H.next → ∃ o, H.objs.get b = some o
  wf : WF H'
  wr : ∀ g, W g → H'.low ≤ g
  neu : ∀ b o', H'.objs.get b = some o' → H.next ≤ b → H.next ≤ rootO b o' ∨ W (rootO b o')

/-- what the renaming gains -/
structure RX (R R' : Ren) (H H' : EH) (w : World) : Prop where
  same : ∀ b, ¬ (H.next ≤ b ∧ b < H'.next) → R'.bm b = R.bm b
  zs : ∀ r, r < w.heap.size → R'.zs r = R.zs r
  neu : ∀ b r d, H.next ≤ b → b < H'.next → R'.bm b = some (r, d) → w.heap.size ≤ r ∨
    ∃ b0 o0 o, H.objs.get b0 = some o0 ∧ R.bm b0 = some (r, d) ∧ H'.objs.get b = some o ∧ kindO o0 = 0 ∧ kindO o = 0 ∧ rootO b0 o0 = rootO b o

/-- what the world keeps -/
structure Fr (R : Ren) (H : EH) (W : Nat → Prop) (w w' : World) : Prop where
  os : w'.os = w.os
  tape : w'.tape = w.tape
  output : w'.output = w.output
  size : w.heap.size ≤ w'.heap.size
  keep : ∀ r, r < w.heap.size → (∀ b o d, H.objs.get b = some o → R.bm b = some (r, d) → ¬ W (rootO b o)) → w'.heap[r]? = w.heap[r]?

/-- no new name is taken -/
def Free (R : Ren) (H H' : EH) : Prop := ∀ b, H.next ≤ b → b < H'.next → R.bm b = none
def Up (S : Nat → Prop) (n : Nat) : Nat → Prop := fun g => S g ∨ n ≤ g

theorem RX.le {R R' : Ren} {H H' : EH} {w : World} (h : RX R R' H H' w) (hf : Free R H H') (himg : ∀ b r d, R.bm b = some (r, d) → r < w.heap.size) : R.le R' := by
  refine ⟨fun b x e => ?_, fun b r d e => h.zs r (himg b r d e)⟩
  by_cases hb : H.next ≤ b ∧ b < H'.next
  · rw [hf b hb.1 hb.2] at e; cases e
  · rw [h.same b hb]; exact e

theorem OR.mono {R R' : Ren} {s s' : Prop} {vd vd' : Bool} {o : EO} {b r d : Nat} {w w' : World} (h : OR R s vd o r d w) (hle : R.le R') (hb : R.bm b = some (r, d))
    (hw : w'.heap[r]? = w.heap[r]?) (hs : s' → s) (hv : vd' = true → vd = true) : OR R' s' vd' o r d w' := by
  cases o with
  | cells c lo sz g =>
    obtain ⟨cs, t, fz, h1, h2, h3, h4⟩ := h
    exact ⟨cs, t, fz, hw.trans h1, by rw [hle.zs _ _ _ hb]; exact h2, h3, fun a v i hi hj => let ⟨q, x, y, e1, e2, e3, e4⟩ := h4 (hs a) (hv v) i hi hj; ⟨q, x, y, e1, e2, e3, e4.mono hle⟩⟩
  | map es clk => obtain ⟨e, es', clk', h1, h2⟩ := h; exact ⟨e, es', clk', hw.trans h1, fun a => let ⟨p, q⟩ := h2 (hs a); ⟨p, q.mono hle⟩⟩
  | loop st pend tm n ps as bd df =>
    obtain ⟨e, L, h1, h2⟩ := h
    exact ⟨e, L, hw.trans h1, fun a => let ⟨p1, p2, p3, p4, p5, p6, p7⟩ := h2 (hs a); ⟨p1, p2, p3, p4, p5, p6.mono hle, hle.bm _ _ p7⟩⟩
  | dfr o => obtain ⟨e, x, h1, h2⟩ := h; exact ⟨e, x, hw.trans h1, fun a => h2 (hs a)⟩
  | iter o =>
    obtain ⟨e, x, y, z, u, h1, h2⟩ := h
    refine ⟨e, x, y, z, u, hw.trans h1, fun a => ?_⟩
    have := h2 (hs a)
    cases o with
    | none => trivial
    | some p => obtain ⟨q1, q2, q3, rm, q4, q5⟩ := this; exact ⟨q1, q2, q3, rm, q4, hle.bm _ _ q5⟩

theorem Rel.weak {R : Ren} {S S' : Nat → Prop} {H : EH} {w : World} (h : Rel R S H w) (hs : ∀ g, S' g → S g) : Rel R S' H w :=
  ⟨h.img, fun b o r d ho hb => (h.obj b o r d ho hb).mono (.refl R) hb rfl (hs _) id, h.inj⟩

/-! composition -/
theorem ES.refl {H : EH} (h : WF H) : ES H H (fun _ => False) :=
  ⟨Nat.le_refl _, Nat.le_refl _, fun _ o ho => ⟨o, ho, rfl, rfl⟩, fun _ _ ho _ => ⟨ho, rfl⟩, fun _ o ho _ => ⟨o, ho⟩, h, fun _ h => h.elim, fun b o ho hb => absurd (h.lt b o ho) (by omega)⟩
theorem ES.trans {A B C : EH} {W W' : Nat → Prop} (h : ES A B W) (k : ES B C W') : ES A C (fun g => W g ∨ W' g) := by
  refine ⟨Nat.le_trans h.next k.next, Nat.le_trans k.low h.low, fun b o ho => ?_, fun b o ho hn => ?_, fun b o' ho hb => ?_, k.wf, fun g hg => ?_, fun b o' ho hb => ?_⟩
  · obtain ⟨o1, h1, e1, q1⟩ := h.old b o ho
    obtain ⟨o2, h2, e2, q2⟩ := k.old b o1 h1
    exact ⟨o2, h2, e2.trans e1, q2.trans q1⟩
  · obtain ⟨h1, e1⟩ := h.keep b o ho (fun x => hn (.inl x))
    obtain ⟨h2, e2⟩ := k.keep b o h1 (fun x => hn (.inr x))
    exact ⟨h2, e2.trans e1⟩
  · obtain ⟨o1, h1⟩ := k.back b o' ho (Nat.lt_of_lt_of_le hb h.next)
    exact h.back b o1 h1 hb
  · rcases hg with hg | hg
    · exact Nat.le_trans k.low (h.wr g hg)
    · exact k.wr g hg
  · by_cases hb' : b < B.next
    · obtain ⟨o1, h1⟩ := k.back b o' ho hb'
      obtain ⟨o2, h2, e2, _⟩ := k.old b o1 h1
      rw [ho] at h2; cases h2
      rcases h.neu b o1 h1 hb with q | q
      · exact .inl (by rw [e2]; exact q)
      · exact .inr (.inl (by rw [e2]; exact q))
    · rcases k.neu b o' ho (by omega) with q | q
      · exact .inl (Nat.le_trans h.next q)
      · exact .inr (.inr q)
theorem RX.refl (R : Ren) (H : EH) (w : World) : RX R R H H w := ⟨fun _ _ => rfl, fun _ _ => rfl, fun b _ _ h1 h2 _ => absurd h1 (by omega)⟩
theorem RX.trans {R R1 R2 : Ren} {A B C : EH} {w w1 : World} {W W' : Nat → Prop} (h : RX R R1 A B w) (k : RX R1 R2 B C w1) (ha : ES A B W) (hb : ES B C W') (hsz : w.heap.size ≤ w1.heap.size) : RX R R2 A C w := by
  refine ⟨fun b hn => ?_, fun r hr => (k.zs r (by omega)).trans (h.zs r hr), fun b r d h1 h2 e => ?_⟩
  · have := ha.next; have := hb.next
    rw [k.same b (by omega), h.same b (by omega)]
  · by_cases hb' : b < B.next
    · rw [k.same b (by omega)] at e
      rcases h.neu b r d h1 hb' e with q | ⟨b0, o0, o, q1, q2, q3, q4, q5, q6⟩
      · exact .inl q
      · obtain ⟨o2, p1, p2, p3⟩ := hb.old b o q3
        exact .inr ⟨b0, o0, o2, q1, q2, p1, q4, by rw [p3]; exact q5, by rw [p2]; exact q6⟩
    · rcases k.neu b r d (by omega) h2 e with q | ⟨b0, o0, o, q1, q2, q3, q4, q5, q6⟩
      · exact .inl (by omega)
      · by_cases hb0 : A.next ≤ b0 ∧ b0 < B.next
        · rcases h.neu b0 r d hb0.1 hb0.2 q2 with q | ⟨b1, o1, o', p1, p2, p3, p4, p5, p6⟩
          · exact .inl q
          · rw [q1] at p3; cases p3
            exact .inr ⟨b1, o1, o, p1, p2, q3, p4, q5, p6.trans q6⟩
        · rw [h.same b0 hb0] at q2
          have hlt := ha.wf.lt b0 o0 q1
          obtain ⟨o1, p1⟩ := ha.back b0 o0 q1 (by omega)
          obtain ⟨o2, p2, p3, p4⟩ := ha.old b0 o1 p1
          rw [q1] at p2; cases p2
          exact .inr ⟨b0, o1, o, p1, q2, q3, by rw [← p4]; exact q4, q5, by rw [← p3]; exact q6⟩
theorem Fr.refl (R : Ren) (H : EH) (W : Nat → Prop) (w : World) : Fr R H W w w := ⟨rfl, rfl, rfl, Nat.le_refl _, fun _ _ _ => rfl⟩
theorem Fr.trans {R R1 : Ren} {A B : EH} {w w1 w2 : World} {W W' : Nat → Prop} (h : Fr R A W w w1) (k : Fr R1 B W' w1 w2) (hx : RX R R1 A B w) (ha : ES A B W) :
    Fr R A (fun g => W g ∨ W' g) w w2 := by
  refine ⟨k.os.trans h.os, k.tape.trans h.tape, k.output.trans h.output, Nat.le_trans h.size k.size, fun r hr hn => ?_⟩
  rw [k.keep r (Nat.lt_of_lt_of_le hr h.size) ?_, h.keep r hr fun b o d ho hb hw => hn b o d ho hb (.inl hw)]
  intro b o d ho hb hw
  by_cases hb' : A.next ≤ b ∧ b < B.next
  · rcases hx.neu b r d hb'.1 hb'.2 hb with q | ⟨b0, o0, o', q1, q2, q3, _, _, q6⟩
    · omega
    · rw [ho] at q3; cases q3
      exact hn b0 o0 d q1 q2 (.inr (by rw [q6]; exact hw))
  · rw [hx.same b hb'] at hb
    have hlt := ha.wf.lt b o ho
    obtain ⟨o1, p1⟩ := ha.back b o ho (by omega)
    obtain ⟨o2, p2, p3, _⟩ := ha.old b o1 p1
    rw [ho] at p2; cases p2
    exact hn b o1 d p1 hb (.inr (by rw [← p3]; exact hw))
end Go.Ev
