/- What it is that an abstract value, an abstract heap and a machine's world agree: the relations, and what they keep. -/
import Derived.Test.YtaaiocbpgpkheaaEvT
import Derived.RangeFuncLeaves
import Derived.Below
namespace Go.Ev
open Go

structure Ren where
  bm : Nat → Option (Nat × Nat)
  zs : Nat → Nat

inductive VR (R : Ren) : V → Value → Prop where
  | bad (v : Value) : VR R .bad v
  | bool (b : Bool) : VR R (.bool b) (.bool b)
  | int (k : IntKind) (n : Int) : VR R (.int k n) (.int k n)
  | str (s : ByteArray) : VR R (.str s) (.string s)
  | nilPtr : VR R .nilPtr (.pointer none)
  | ptr {b off r d o : Nat} (h : R.bm b = some (r, d)) (e : o + d = off) : VR R (.ptr b off) (.pointer (some ⟨r, o, none⟩))
  | nilSlice : VR R .nilSlice (.slice none 0 0)
  | slice {b off len e r d o cap : Nat} (h : R.bm b = some (r, d)) (ho : cap ≠ 0 → o + d = off) (hl : len ≤ cap) (hz : o + cap * e ≤ R.zs r) : VR R (.slice b off len e) (.slice (some ⟨r, o, none⟩) len cap)
  | nilMap : VR R .nilMap (.map none)
  | map {b r : Nat} (h : R.bm b = some (r, 0)) : VR R (.map b) (.map (some r))
  | nilFunc : VR R .nilFunc .nilFunc
  | func {f : FuncId} {l m : List V} {l' m' : Array Value} (hl : l.length = l'.size) (h : ∀ i (h1 : i < l.length) (h2 : i < l'.size), VR R l[i] l'[i])
      (hm : m.length = m'.size) (h' : ∀ i (h1 : i < m.length) (h2 : i < m'.size), VR R m[i] m'[i]) : VR R (.func f l m) (.func (.func f) l' m')
  | yld {b r : Nat} (h : R.bm b = some (r, 0)) : VR R (.yld b) (.func (.yield r) #[] #[])
  | nilIface : VR R .nilIface .nilIface
  | agg {n : Nat} {c : T V} {cs : Array Value} (g : Nat → V) (hn : cs.size = n) (hg : ∀ i, i < n → c.get i = some (g i)) (hs : ∀ i, i < n → scal (g i) = true)
      (h : ∀ i (h1 : i < cs.size), VR R (g i) cs[i]) : VR R (.agg n c) (.agg cs)
  | tup {l : List V} {vs : Array Value} (hl : l.length = vs.size) (h : ∀ i (h1 : i < l.length) (h2 : i < vs.size), VR R l[i] vs[i]) : VR R (.tup l) (.tuple vs)

/-- lists and arrays, place by place -/
def AL (R : Ren) (l : List V) (vs : Array Value) : Prop := l.length = vs.size ∧ ∀ i (h1 : i < l.length) (h2 : i < vs.size), VR R l[i] vs[i]

structure Ren.le (R R' : Ren) : Prop where
  bm : ∀ b x, R.bm b = some x → R'.bm b = some x
  zs : ∀ b r d, R.bm b = some (r, d) → R'.zs r = R.zs r

theorem Ren.le.refl (R : Ren) : R.le R := ⟨fun _ _ h => h, fun _ _ _ _ => rfl⟩
theorem Ren.le.trans {A B C : Ren} (h : A.le B) (k : B.le C) : A.le C := ⟨fun b x e => k.bm b x (h.bm b x e), fun b r d e => (k.zs b r d (h.bm _ _ e)).trans (h.zs b r d e)⟩

theorem VR.mono {R R' : Ren} (hle : R.le R') {v : V} {x : Value} (h : VR R v x) : VR R' v x := by
  induction h with
  | bad v => exact .bad v
  | bool b => exact .bool b
  | int k n => exact .int k n
  | str s => exact .str s
  | nilPtr => exact .nilPtr
  | ptr h e => exact .ptr (hle.bm _ _ h) e
  | nilSlice => exact .nilSlice
  | slice h ho hl hz => exact .slice (hle.bm _ _ h) ho hl (by rw [hle.zs _ _ _ h]; exact hz)
  | nilMap => exact .nilMap
  | map h => exact .map (hle.bm _ _ h)
  | nilFunc => exact .nilFunc
  | func hl _ hm _ ih ih' => exact .func hl ih hm ih'
  | yld h => exact .yld (hle.bm _ _ h)
  | nilIface => exact .nilIface
  | agg g hn hg hs _ ih => exact .agg g hn hg hs ih
  | tup hl _ ih => exact .tup hl ih

theorem AL.mono {R R' : Ren} (hle : R.le R') {l : List V} {vs : Array Value} (h : AL R l vs) : AL R' l vs := ⟨h.1, fun i h1 h2 => (h.2 i h1 h2).mono hle⟩
theorem AL.nil (R : Ren) : AL R [] #[] := ⟨rfl, fun i h _ => by simp at h⟩
theorem AL.one {R : Ren} {v : V} {x : Value} (h : VR R v x) : AL R [v] #[x] := ⟨rfl, fun i h1 h2 => by
  have : i = 0 := by simp at h1; exact h1
  subst this; exact h⟩
theorem AL.append {R : Ren} {l m : List V} {a b : Array Value} (h : AL R l a) (k : AL R m b) : AL R (l ++ m) (a ++ b) := by
  refine ⟨by simp [h.1, k.1], fun i h1 h2 => ?_⟩
  by_cases hi : i < l.length
  · have ha : i < a.size := by rw [← h.1]; exact hi
    rw [List.getElem_append_left hi, Array.getElem_append_left ha]; exact h.2 i hi ha
  · have ha : ¬ i < a.size := by rw [← h.1]; exact hi
    rw [List.getElem_append_right (by omega), Array.getElem_append_right (by omega)]
    have e : i - l.length = i - a.size := by rw [h.1]
    have h1' : i - l.length < m.length := by simp at h1; omega
    have h2' : i - l.length < b.size := by rw [← k.1]; exact h1'
    have := k.2 (i - l.length) h1' h2'
    simpa [e] using this
theorem AL.get? {R : Ren} {l : List V} {vs : Array Value} (h : AL R l vs) {i : Nat} {v : V} (hv : l[i]? = some v) : ∃ x, vs[i]? = some x ∧ VR R v x := by
  obtain ⟨h1, rfl⟩ := List.getElem?_eq_some_iff.1 hv
  have h2 : i < vs.size := by rw [← h.1]; exact h1
  exact ⟨vs[i], Array.getElem?_eq_some_iff.2 ⟨h2, rfl⟩, h.2 i h1 h2⟩

/-- the temporaries of a frame -/
structure TR (R : Ren) (tm : T V) (n : Nat) (tmps : Array Value) : Prop where
  size : tmps.size = n
  out : ∀ i, n ≤ i → tm.get i = none
  val : ∀ i, VR R (getD' tm i) (tmps.getD i undef)
theorem TR.mono {R R' : Ren} (hle : R.le R') {tm : T V} {n : Nat} {tmps : Array Value} (h : TR R tm n tmps) : TR R' tm n tmps := ⟨h.size, h.out, fun i => (h.val i).mono hle⟩
theorem getD'_set (tm : T V) (t i : Nat) (v : V) : getD' (tm.set t v) i = if i = t then v else getD' tm i := by
  unfold getD'; rw [T.get_set]; by_cases h : i = t <;> simp [h]
theorem TR.set {R : Ren} {tm : T V} {n : Nat} {tmps : Array Value} (h : TR R tm n tmps) {t : Nat} (ht : t < n) {v : V} {x : Value} (hv : VR R v x) : TR R (tm.set t v) n (tmps.setIfInBounds t x) := by
  refine ⟨by simp [h.size], fun i hi => by rw [T.get_set_ne _ _ (by omega)]; exact h.out i hi, fun i => ?_⟩
  rw [getD'_set]
  by_cases e : i = t
  · subst e
    rw [if_pos rfl]
    have : (tmps.setIfInBounds i x).getD i undef = x := by
      simp [Array.getD, h.size, ht]
    rw [this]; exact hv
  · rw [if_neg e]
    have : (tmps.setIfInBounds t x).getD i undef = tmps.getD i undef := by
      simp only [Array.getD, Array.size_setIfInBounds]
      split
      · rename_i hi
        exact Array.getElem_setIfInBounds_ne _ (by omega)
      · rfl
    rw [this]; exact h.val i

def markOf (r : Nat) : Deferred := { target := .collected r, args := #[] }
/-- the marks of loops among a frame's deferred calls -/
def DR (R : Ren) : List Nat → List Deferred → Prop
  | [], [] => True
  | b :: bs, d :: ds => (∃ r, R.bm b = some (r, 0) ∧ d = markOf r) ∧ DR R bs ds
  | _, _ => False
theorem DR.mono {R R' : Ren} (hle : R.le R') : ∀ {l : List Nat} {ds : List Deferred}, DR R l ds → DR R' l ds
  | [], [], _ => trivial
  | _ :: _, _ :: _, ⟨⟨r, h, e⟩, k⟩ => ⟨⟨r, hle.bm _ _ h, e⟩, DR.mono hle k⟩
structure AR (R : Ren) (a : EA) (a' : Act) : Prop where
  tm : TR R a.tm a.n a'.tmps
  df : DR R a.df a'.defers
theorem AR.mono {R R' : Ren} (hle : R.le R') {a : EA} {a' : Act} (h : AR R a a') : AR R' a a' := ⟨h.tm.mono hle, h.df.mono hle⟩
theorem AR.put {R : Ren} {a : EA} {a' : Act} (h : AR R a a') (d : Option Tmp) {v : V} {x : Value} (hv : VR R v x) : AR R (a.put d v) (a'.put d x) := by
  cases d with
  | none => exact h
  | some t =>
    show AR R (cond (Nat.blt t a.n) _ _) _
    rw [cond_blt]
    by_cases ht : t < a.n
    · rw [if_pos ht]; exact ⟨h.tm.set ht hv, h.df⟩
    · rw [if_neg ht]
      have : (a'.put (some t) x) = a' := by
        show ({ a' with tmps := a'.tmps.setIfInBounds t x } : Act) = a'
        have e : a'.tmps.setIfInBounds t x = a'.tmps := Array.setIfInBounds_eq_of_size_le (by rw [h.tm.size]; exact Nat.le_of_not_lt ht)
        rw [e]
      rw [this]; exact h

theorem allScal_cons (x : V) (l : List V) : allScal (x :: l) = cond (scal x) (allScal l) false := rfl
theorem mapC_cons (x : Value) (l : List Value) : mapC (x :: l) = ofC1 x :: mapC l := rfl
theorem lenV_eq (l : List V) : lenV l = l.length := by
  induction l with
  | nil => rfl
  | cons x l ih => show Nat.succ (lenV l) = _; rw [ih]; rfl
theorem mapC_eq (l : List Value) : mapC l = l.map ofC1 := by
  induction l with
  | nil => rfl
  | cons x l ih => rw [mapC_cons, ih]; rfl
theorem allScal_get {l : List V} (h : allScal l = true) : ∀ i (hi : i < l.length), scal l[i] = true := by
  induction l with
  | nil => intro i hi; simp at hi
  | cons x l ih =>
    rw [allScal_cons] at h
    cases hx : scal x with
    | false => rw [hx] at h; cases h
    | true =>
      rw [hx] at h
      intro i hi
      cases i with
      | zero => exact hx
      | succ i => exact ih h i (by simpa using hi)
theorem VR.ofC1 (R : Ren) (v : Value) : VR R (ofC1 v) v := by
  unfold Ev.ofC1
  split <;> first | exact .bool _ | exact .int _ _ | exact .str _ | exact .nilPtr | exact .nilSlice | exact .nilMap | exact .nilFunc | exact .nilIface | exact .bad _
theorem VR.ofC (R : Ren) (v : Value) : VR R (ofC v) v := by
  unfold Ev.ofC
  split
  · rename_i cs
    unfold aggL
    cases hs : allScal (mapC cs.toList) with
    | false => exact .bad _
    | true =>
      show VR R (.agg _ _) _
      rw [lenV_eq, mapC_eq]
      rw [mapC_eq] at hs
      refine .agg (fun i => Ev.ofC1 (cs.getD i undef)) (by simp) (fun i hi => ?_) (fun i hi => ?_) (fun i hi => ?_)
      · have hi' : i < cs.size := by simpa using hi
        rw [T.get_setL, if_pos (by simpa using hi)]
        simp [Array.getD, hi']
      · have hi' : i < cs.size := by simpa using hi
        have := allScal_get hs i hi
        simpa [Array.getD, hi'] using this
      · have e : cs.getD i undef = cs[i] := by simp [Array.getD, hi]
        show VR R (Ev.ofC1 (cs.getD i undef)) cs[i]
        rw [e]; exact VR.ofC1 R _
  · exact VR.ofC1 R v
theorem AR.eval {R : Ren} {a : EA} {a' : Act} (h : AR R a a') (x : Operand) : VR R (a.eval x) (a'.eval x) := by
  cases x with
  | tmp t => exact h.tm.val t
  | const v => exact VR.ofC R v
  | global g => exact .bad _
  | func f => exact .func rfl (fun i h1 _ => by simp at h1) rfl (fun i h1 _ => by simp at h1)
end Go.Ev
