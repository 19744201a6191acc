/- Regions whose order is open, 2: what holds in the middle of whatever order. -/
import Derived.Test.YtaaiocbpgpkheaaEvDraw1
namespace Go.Ev
open Go

variable {P : Program}

/-- the run in the order of the text, and who is in whose way -/
structure Reg (ops : Array Oper) (As : Nat → EA) (Hs : Nat → EH) (T Wd : Nat → Nat → Prop) : Prop where
  es : ∀ k, k < ops.size → ES (Hs k) (Hs (k + 1)) (Wd k)
  wf : WF (Hs 0)
  nc : ∀ i k, i < ops.size → k < ops.size → i ≠ k → ¬ Bf ops i k → ¬ Bf ops k i → ∀ g, g < (Hs k).next → Wd k g → T i g → False
  nc2 : ∀ i k, i < ops.size → k < ops.size → i ≠ k → ¬ Bf ops i k → ¬ Bf ops k i → ∀ g, g < (Hs k).next → Wd k g → (Hs i).next ≤ g → g < (Hs (i + 1)).next → False
  wt : ∀ i g, i < ops.size → g < (Hs i).next → Wd i g → T i g
  put : ∀ i o, ops[i]? = some o → ∃ v, As (i + 1) = (As i).put o.dst v
  out : ∀ i, (As 0).n ≤ i → (As 0).tm.get i = none

section
variable {ops : Array Oper} {As : Nat → EA} {Hs : Nat → EH} {T Wd : Nat → Nat → Prop} (G : Reg ops As Hs T Wd) (hsh : Shape ops)

def Wds (Wd : Nat → Nat → Prop) (i j : Nat) (g : Nat) : Prop := ∃ k, i ≤ k ∧ k < j ∧ Wd k g
include G in
theorem Reg.wfs : ∀ i, i ≤ ops.size → WF (Hs i)
  | 0, _ => G.wf
  | i + 1, h => (G.es i h).wf
include G in
theorem Reg.chain {i : Nat} : ∀ j, i ≤ j → j ≤ ops.size → ES (Hs i) (Hs j) (Wds Wd i j) := by
  intro j
  induction j with
  | zero =>
    intro h1 h2
    have : i = 0 := by omega
    subst this
    have e := ES.refl (G.wfs 0 h2)
    exact ⟨e.next, e.low, e.old, fun b o h _ => e.keep b o h id, e.back, e.wf, fun g ⟨k, a, b, _⟩ => by omega, fun b o h1 h2 => (e.neu b o h1 h2).imp id fun h => h.elim⟩
  | succ j ih =>
    intro h1 h2
    by_cases e : i = j + 1
    · subst e
      have e := ES.refl (G.wfs (j + 1) h2)
      exact ⟨e.next, e.low, e.old, fun b o h _ => e.keep b o h id, e.back, e.wf, fun g ⟨k, a, b, _⟩ => by omega, fun b o h1 h2 => (e.neu b o h1 h2).imp id fun h => h.elim⟩
    · have c := (ih (by omega) (by omega)).trans (G.es j (by omega))
      have sub : ∀ g, (Wds Wd i j g ∨ Wd j g) ↔ Wds Wd i (j + 1) g := fun g =>
        ⟨fun h => h.elim (fun ⟨k, a, b, c⟩ => ⟨k, a, by omega, c⟩) (fun h => ⟨j, by omega, by omega, h⟩),
         fun ⟨k, ka, kb, kw⟩ => by
          by_cases e : k = j
          · rw [e] at kw; exact .inr kw
          · exact .inl ⟨k, ka, by omega, kw⟩⟩
      exact ⟨c.next, c.low, c.old, fun b o h hn => c.keep b o h fun q => hn ((sub _).1 q), c.back, c.wf, fun g h => c.wr g ((sub g).2 h), fun b o h1 h2 => (c.neu b o h1 h2).imp id (sub _).1⟩
include G in
theorem Reg.next {i j : Nat} (h : i ≤ j) (hj : j ≤ ops.size) : (Hs i).next ≤ (Hs j).next := (G.chain j h hj).next
include G in
/-- every object of the run is there at its end, of the same root and kind -/
theorem Reg.fin {j b : Nat} {o : EO} (hj : j ≤ ops.size) (h : (Hs j).objs.get b = some o) : ∃ o', (Hs ops.size).objs.get b = some o' ∧ rootO b o' = rootO b o ∧ kindO o' = kindO o := (G.chain ops.size hj (Nat.le_refl _)).old b o h
include G in
theorem Reg.same {i j b : Nat} {o o' : EO} (hi : i ≤ ops.size) (hj : j ≤ ops.size) (h : (Hs i).objs.get b = some o) (h' : (Hs j).objs.get b = some o') : rootO b o = rootO b o' ∧ kindO o = kindO o' := by
  obtain ⟨p, p1, p2, p3⟩ := G.fin hi h
  obtain ⟨q, q1, q2, q3⟩ := G.fin hj h'
  rw [p1] at q1; cases q1
  exact ⟨p2.symm.trans q2, p3.symm.trans q3⟩
include G in
theorem Reg.at {i j b : Nat} {o : EO} (hi : i ≤ ops.size) (hj : j ≤ ops.size) (h : (Hs j).objs.get b = some o) (hb : b < (Hs i).next) : ∃ o', (Hs i).objs.get b = some o' := by
  by_cases e : i ≤ j
  · exact (G.chain j e hj).back b o h hb
  · obtain ⟨o', h1, _⟩ := (G.chain i (by omega) hi).old b o h
    exact ⟨o', h1⟩
include G in
/-- where nobody writes, an object stays as it is -/
theorem Reg.still {i j b : Nat} {o : EO} (h1 : i ≤ j) (hj : j ≤ ops.size) (h : (Hs i).objs.get b = some o) (hn : ∀ k, i ≤ k → k < j → Wd k (rootO b o) → False) : (Hs j).objs.get b = some o ∧ (Hs j).vd b o = (Hs i).vd b o := by
  obtain ⟨e1, e2⟩ := (G.chain j h1 hj).keep b o h (fun ⟨k, a, b, c⟩ => hn k a b c)
  refine ⟨e1, ?_⟩
  cases o with
  | cells c lo sz g =>
    show (Hs j).valid b sz g = (Hs i).valid b sz g
    unfold EH.valid
    rw [show (Hs j).grps.get g = (Hs i).grps.get g from e2]
  | _ => rfl
theorem find_born {Hs : Nat → EH} {b : Nat} : ∀ j, (Hs 0).next ≤ b → b < (Hs j).next → ∃ k, k < j ∧ (Hs k).next ≤ b ∧ b < (Hs (k + 1)).next
  | 0, h1, h2 => by omega
  | j + 1, h1, h2 => by
    by_cases h : b < (Hs j).next
    · obtain ⟨k, a, c⟩ := find_born j h1 h
      exact ⟨k, by omega, c⟩
    · exact ⟨j, by omega, by omega, h2⟩

theorem getD'_put (a : EA) (d : Option Tmp) (v : V) (t : Nat) : getD' (a.put d v).tm t = if d = some t ∧ t < a.n then v else getD' a.tm t := by
  cases d with
  | none => rw [if_neg (by simp)]; rfl
  | some u =>
    show getD' (cond (Nat.blt u a.n) (⟨a.tm.set u v, a.n, a.df⟩ : EA) a).tm t = _
    rw [cond_blt]
    by_cases hu : u < a.n
    · rw [if_pos hu]
      show getD' (a.tm.set u v) t = _
      rw [getD'_set]
      by_cases e : t = u
      · subst e; rw [if_pos rfl, if_pos ⟨rfl, hu⟩]
      · rw [if_neg e, if_neg (by intro h; exact e (by have := h.1; simp at this; exact this.symm))]
    · rw [if_neg hu, if_neg (by intro h; have := h.1; simp at this; subst this; exact hu h.2)]
theorem put_n (a : EA) (d : Option Tmp) (v : V) : (a.put d v).n = a.n ∧ (a.put d v).df = a.df ∧ ((∀ i, a.n ≤ i → a.tm.get i = none) → ∀ i, a.n ≤ i → (a.put d v).tm.get i = none) := by
  cases d with
  | none => exact ⟨rfl, rfl, fun h => h⟩
  | some u =>
    show (cond (Nat.blt u a.n) (⟨a.tm.set u v, a.n, a.df⟩ : EA) a).n = _ ∧ (cond (Nat.blt u a.n) (⟨a.tm.set u v, a.n, a.df⟩ : EA) a).df = _ ∧ (_ → ∀ i, _ → (cond (Nat.blt u a.n) (⟨a.tm.set u v, a.n, a.df⟩ : EA) a).tm.get i = none)
    rw [cond_blt]
    by_cases hu : u < a.n
    · rw [if_pos hu]
      exact ⟨rfl, rfl, fun h i hi => by show (a.tm.set u v).get i = none; rw [T.get_set_ne _ _ (Nat.ne_of_lt (Nat.lt_of_lt_of_le hu hi)).symm]; exact h i hi⟩
    · rw [if_neg hu]; exact ⟨rfl, rfl, fun h => h⟩
include G in
theorem Reg.frame : ∀ j, j ≤ ops.size → (As j).n = (As 0).n ∧ (As j).df = (As 0).df ∧ ∀ i, (As 0).n ≤ i → (As j).tm.get i = none
  | 0, _ => ⟨rfl, rfl, G.out⟩
  | j + 1, h => by
    obtain ⟨e1, e2, e3⟩ := Reg.frame j (by omega)
    obtain ⟨v, hv⟩ := G.put j _ (Array.getElem?_eq_getElem h)
    obtain ⟨f1, f2, f3⟩ := put_n (As j) ops[j].dst v
    rw [hv]
    exact ⟨f1.trans e1, f2.trans e2, fun i hi => f3 (fun i hi => e3 i (by omega)) i (by omega)⟩
def Wr (ops : Array Oper) (k : Nat) (t : Tmp) : Prop := ∃ o, ops[k]? = some o ∧ o.dst = some t
include G in
theorem Reg.tmps {i t : Nat} : ∀ j, i ≤ j → j ≤ ops.size → (∀ k, i ≤ k → k < j → ¬ Wr ops k t) → getD' (As j).tm t = getD' (As i).tm t := by
  intro j
  induction j with
  | zero => intro h _ _; have : i = 0 := by omega
            subst this; rfl
  | succ j ih =>
    intro h1 h2 hn
    by_cases e : i = j + 1
    · subst e; rfl
    · obtain ⟨v, hv⟩ := G.put j _ (Array.getElem?_eq_getElem h2)
      rw [hv, getD'_put, if_neg, ih (by omega) (by omega) fun k a b => hn k a (by omega)]
      intro h
      exact hn j (by omega) (by omega) ⟨_, Array.getElem?_eq_getElem h2, h.1⟩

/-- in step, at place j of the text, with what has been carried out -/
def Sy (ops : Array Oper) (Hs : Nat → EH) (Wd : Nat → Nat → Prop) (L : Nat → Prop) (j g : Nat) : Prop := ∀ k, k < ops.size → g < (Hs k).next → Wd k g → (k < j ↔ L k)

structure Inv (ops : Array Oper) (As : Nat → EA) (Hs : Nat → EH) (Wd : Nat → Nat → Prop) (R0 : Ren) (w0 : World) (A0 : Act) (L : Nat → Prop) (R : Ren) (A : Act) (w : World) : Prop where
  closed : Closed ops L
  img : ∀ b r d, R.bm b = some (r, d) → r < w.heap.size
  obj : ∀ j, j ≤ ops.size → ∀ b o r d, (Hs j).objs.get b = some o → R.bm b = some (r, d) → OR R (Sy ops Hs Wd L j (rootO b o)) ((Hs j).vd b o) o r d w
  inj : ∀ b b' o o' r d d', (Hs ops.size).objs.get b = some o → (Hs ops.size).objs.get b' = some o' → R.bm b = some (r, d) → R.bm b' = some (r, d') →
    b = b' ∨ (d = d' ∧ kindO o = 0 ∧ kindO o' = 0 ∧ rootO b o = rootO b' o')
  tsz : A.tmps.size = (As 0).n
  tmp : ∀ j, j ≤ ops.size → ∀ t, (∀ k, k < ops.size → Wr ops k t → (k < j ↔ L k)) → VR R (getD' (As j).tm t) (A.tmps.getD t undef)
  df : A.defers = A0.defers
  non : ∀ k, k < ops.size → ¬ L k → ∀ b, (Hs k).next ≤ b → b < (Hs (k + 1)).next → R.bm b = none
  rx : RX R0 R (Hs 0) (Hs ops.size) w0
  fr : Fr R0 (Hs 0) (Wds Wd 0 ops.size) w0 w

theorem OR.weak {R : Ren} {s s' : Prop} {vd vd' : Bool} {o o' : EO} {r d : Nat} {w : World} (h : OR R s vd o r d w) (hk : kindO o' = kindO o) (hs : ¬ s') : OR R s' vd' o' r d w := by
  cases o <;> cases o' <;> first | (simp [kindO] at hk; done) | skip
  · obtain ⟨cs, t, fz, h1, h2, h3, _⟩ := h
    exact ⟨cs, t, fz, h1, h2, h3, fun q => absurd q hs⟩
  · obtain ⟨e, es', clk', h1, _⟩ := h
    exact ⟨e, es', clk', h1, fun q => absurd q hs⟩
  · obtain ⟨e, L, h1, _⟩ := h
    exact ⟨e, L, h1, fun q => absurd q hs⟩
  · obtain ⟨e, x, h1, _⟩ := h
    exact ⟨e, x, h1, fun q => absurd q hs⟩
  · obtain ⟨e, x1, x2, x3, x4, h1, _⟩ := h
    exact ⟨e, x1, x2, x3, x4, h1, fun q => absurd q hs⟩

include G in
theorem inv_start {R0 : Ren} {w0 w : World} {A0 : Act} (hr : Rel R0 All (Hs 0) w0) (hf : Free R0 (Hs 0) (Hs ops.size)) (ha : AR R0 (As 0) A0) (hh : w.heap = w0.heap) (ho : w.os = w0.os) (ht : w.tape = w0.tape) (hp : w.output = w0.output) :
    Inv ops As Hs Wd R0 w0 A0 (fun _ => False) R0 A0 w := by
  have old : ∀ j, j ≤ ops.size → ∀ b o r d, (Hs j).objs.get b = some o → R0.bm b = some (r, d) → ∃ o0, (Hs 0).objs.get b = some o0 := fun j hj b o r d h e => by
    refine G.at (Nat.zero_le _) hj h ?_
    have h1 := (G.wfs j hj).lt b o h
    have h2 := G.next hj (Nat.le_refl _)
    apply Nat.lt_of_not_le
    intro hge
    rw [hf b hge (by omega)] at e; cases e
  refine ⟨fun j o h => h.elim, fun b r d e => by rw [hh]; exact hr.img b r d e, fun j hj b o r d h e => ?_, fun b b' o o' r d d' h h' e e' => ?_, ha.tm.size, fun j hj t hs => ?_, rfl, fun k hk _ b h1 h2 => ?_,
    ⟨fun _ _ => rfl, fun _ _ => rfl, fun b r d h1 h2 e => by rw [hf b h1 h2] at e; cases e⟩, ⟨ho, ht, hp, by rw [hh]; exact Nat.le_refl _, fun r hr _ => by rw [hh]⟩⟩
  · obtain ⟨o0, h0⟩ := old j hj b o r d h e
    have hor := hr.obj b o0 r d h0 e
    by_cases hs : Sy ops Hs Wd (fun _ => False) j (rootO b o)
    · obtain ⟨q1, q2⟩ := G.still (Nat.zero_le j) hj h0 (fun k _ hk hw => by
        have e1 := (G.same (Nat.zero_le _) hj h0 h).1
        have l1 := G.wf.root b o0 h0
        have l2 := G.wf.lt b o0 h0
        have l3 := G.next (Nat.zero_le k) (show k ≤ ops.size by omega)
        exact (hs k (by omega) (by rw [← e1]; omega) (by rw [← e1]; exact hw)).1 hk)
      rw [h] at q1; cases q1
      exact hor.mono (.refl R0) e (by rw [hh]) (fun _ => trivial) (fun q => by rw [← q2]; exact q)
    · exact (hor.mono (.refl R0) e (by rw [hh]) (fun q => q) id).weak (G.same hj (Nat.zero_le _) h h0).2 hs
  · obtain ⟨p, p1⟩ := old ops.size (Nat.le_refl _) b o r d h e
    obtain ⟨p', p1'⟩ := old ops.size (Nat.le_refl _) b' o' r d' h' e'
    obtain ⟨s1, s2⟩ := G.same (Nat.zero_le _) (Nat.le_refl _) p1 h
    obtain ⟨s1', s2'⟩ := G.same (Nat.zero_le _) (Nat.le_refl _) p1' h'
    rw [← s1, ← s2, ← s1', ← s2']
    exact hr.inj b b' p p' r d d' p1 p1' e e'
  · rw [G.tmps j (Nat.zero_le j) hj (fun k _ hk hw => (hs k (by omega) hw).1 hk)]
    exact ha.tm.val t
  · have := G.next (Nat.zero_le k) (show k ≤ ops.size by omega)
    have := G.next (show k + 1 ≤ ops.size by omega) (Nat.le_refl _)
    exact hf b (by omega) (by omega)
end
end Go.Ev
