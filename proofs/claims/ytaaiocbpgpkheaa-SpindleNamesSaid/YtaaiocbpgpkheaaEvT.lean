/- The evaluator's tries: reading behind writing. -/
import Derived.Test.YtaaiocbpgpkheaaEvDef
namespace Go.Ev
open Go
theorem nbeq (a b : Nat) : Nat.beq a b = decide (a = b) := by
  by_cases h : a = b
  · subst h; simp
  · rw [decide_eq_false h]; cases e : Nat.beq a b with | false => rfl | true => exact absurd (Nat.eq_of_beq_eq_true e) h
theorem cond_beq {β : Type} (a b : Nat) (x y : β) : cond (Nat.beq a b) x y = if a = b then x else y := by rw [nbeq]; by_cases h : a = b <;> simp [h]
theorem cond_ble {β : Type} (a b : Nat) (x y : β) : cond (Nat.ble a b) x y = if a ≤ b then x else y := by
  by_cases h : a ≤ b
  · rw [Nat.ble_eq_true_of_le h, if_pos h]; rfl
  · have : Nat.ble a b = false := by cases e : Nat.ble a b with | false => rfl | true => exact absurd (Nat.le_of_ble_eq_true e) h
    rw [this, if_neg h]; rfl
theorem cond_blt {β : Type} (a b : Nat) (x y : β) : cond (Nat.blt a b) x y = if a < b then x else y := cond_ble (a + 1) b x y
namespace T
variable {α : Type}
@[simp] theorem get_lf (k : Nat) : (T.lf : T α).get k = none := rfl
theorem get_nd (v : Option α) (l r : T α) (k : Nat) : (T.nd v l r).get k = if k = 0 then v else if k % 2 = 1 then l.get ((k - 1) / 2) else r.get ((k - 2) / 2) := by
  show cond (Nat.beq k 0) v (cond (Nat.beq (Nat.mod k 2) 1) (l.get ((k - 1) / 2)) (r.get ((k - 2) / 2))) = _
  rw [cond_beq, cond_beq]; rfl
theorem sing_succ (v : α) (n k : Nat) : T.sing v (n + 1) k = if k = 0 then .nd (some v) .lf .lf else if k % 2 = 1 then .nd none (T.sing v n ((k - 1) / 2)) .lf else .nd none .lf (T.sing v n ((k - 2) / 2)) := by
  show cond (Nat.beq k 0) _ (cond (Nat.beq (Nat.mod k 2) 1) _ _) = _
  rw [cond_beq, cond_beq]; rfl
theorem get_sing (v : α) : ∀ (n k j : Nat), k < n → (T.sing v n k).get j = if j = k then some v else none := by
  intro n
  induction n with
  | zero => intro k j h; omega
  | succ n ih =>
    intro k j h
    rw [sing_succ]
    by_cases h0 : k = 0
    · rw [if_pos h0, get_nd]; subst h0
      by_cases hj : j = 0
      · simp [hj]
      · simp [hj]
    · rw [if_neg h0]
      by_cases h1 : k % 2 = 1
      · rw [if_pos h1, get_nd]
        by_cases hj : j = 0
        · have : j ≠ k := by omega
          simp [hj]; omega
        · rw [if_neg hj]
          by_cases hj1 : j % 2 = 1
          · rw [if_pos hj1, ih _ _ (by omega)]
            by_cases e : j = k
            · subst e; simp
            · rw [if_neg e, if_neg (by omega)]
          · rw [if_neg hj1, if_neg (by omega)]; rfl
      · rw [if_neg h1, get_nd]
        by_cases hj : j = 0
        · simp [hj]; omega
        · rw [if_neg hj]
          by_cases hj1 : j % 2 = 1
          · rw [if_pos hj1, if_neg (by omega)]; rfl
          · rw [if_neg hj1, ih _ _ (by omega)]
            by_cases e : j = k
            · subst e; simp
            · rw [if_neg e, if_neg (by omega)]
theorem set_lf (k : Nat) (v : α) : (T.lf : T α).set k v = T.sing v (k + 1) k := rfl
theorem set_nd (x : Option α) (l r : T α) (k : Nat) (v : α) : (T.nd x l r).set k v = if k = 0 then .nd (some v) l r else if k % 2 = 1 then .nd x (l.set ((k - 1) / 2) v) r else .nd x l (r.set ((k - 2) / 2) v) := by
  show cond (Nat.beq k 0) _ (cond (Nat.beq (Nat.mod k 2) 1) _ _) = _
  rw [cond_beq, cond_beq]; rfl
theorem get_set (t : T α) : ∀ (k j : Nat) (v : α), (t.set k v).get j = if j = k then some v else t.get j := by
  induction t with
  | lf => intro k j v; rw [set_lf, get_sing _ _ _ _ (by omega)]; rfl
  | nd x l r ihl ihr =>
    intro k j v
    rw [set_nd, get_nd x l r]
    by_cases h0 : k = 0
    · rw [if_pos h0, get_nd]; subst h0
      by_cases hj : j = 0
      · simp [hj]
      · simp [hj]
    · rw [if_neg h0]
      by_cases h1 : k % 2 = 1
      · rw [if_pos h1, get_nd]
        by_cases hj : j = 0
        · rw [if_pos hj, if_neg (by omega), if_pos hj]
        · rw [if_neg hj]
          by_cases hj1 : j % 2 = 1
          · rw [if_pos hj1, ihl]
            by_cases e : j = k
            · subst e; simp
            · rw [if_neg e, if_neg (by omega), if_neg hj, if_pos hj1]
          · rw [if_neg hj1, if_neg (by omega), if_neg hj, if_neg hj1]
      · rw [if_neg h1, get_nd]
        by_cases hj : j = 0
        · rw [if_pos hj, if_neg (by omega), if_pos hj]
        · rw [if_neg hj]
          by_cases hj1 : j % 2 = 1
          · rw [if_pos hj1, if_neg (by omega), if_neg hj, if_pos hj1]
          · rw [if_neg hj1, ihr]
            by_cases e : j = k
            · subst e; simp
            · rw [if_neg e, if_neg (by omega), if_neg hj, if_neg hj1]
theorem del_nd (x : Option α) (l r : T α) (k : Nat) : (T.nd x l r).del k = if k = 0 then .nd none l r else if k % 2 = 1 then .nd x (l.del ((k - 1) / 2)) r else .nd x l (r.del ((k - 2) / 2)) := by
  show cond (Nat.beq k 0) _ (cond (Nat.beq (Nat.mod k 2) 1) _ _) = _
  rw [cond_beq, cond_beq]; rfl
theorem get_del (t : T α) : ∀ (k j : Nat), (t.del k).get j = if j = k then none else t.get j := by
  induction t with
  | lf => intro k j; show none = _; by_cases h : j = k <;> simp [h]
  | nd x l r ihl ihr =>
    intro k j
    rw [del_nd, get_nd x l r]
    by_cases h0 : k = 0
    · rw [if_pos h0, get_nd]; subst h0
      by_cases hj : j = 0
      · simp [hj]
      · simp [hj]
    · rw [if_neg h0]
      by_cases h1 : k % 2 = 1
      · rw [if_pos h1, get_nd]
        by_cases hj : j = 0
        · rw [if_pos hj, if_neg (by omega), if_pos hj]
        · rw [if_neg hj]
          by_cases hj1 : j % 2 = 1
          · rw [if_pos hj1, ihl]
            by_cases e : j = k
            · subst e; simp
            · rw [if_neg e, if_neg (by omega), if_neg hj, if_pos hj1]
          · rw [if_neg hj1, if_neg (by omega), if_neg hj, if_neg hj1]
      · rw [if_neg h1, get_nd]
        by_cases hj : j = 0
        · rw [if_pos hj, if_neg (by omega), if_pos hj]
        · rw [if_neg hj]
          by_cases hj1 : j % 2 = 1
          · rw [if_pos hj1, if_neg (by omega), if_neg hj, if_pos hj1]
          · rw [if_neg hj1, ihr]
            by_cases e : j = k
            · subst e; simp
            · rw [if_neg e, if_neg (by omega), if_neg hj, if_neg hj1]
theorem get_set_eq (t : T α) (k : Nat) (v : α) : (t.set k v).get k = some v := by rw [get_set, if_pos rfl]
theorem get_set_ne (t : T α) {k j : Nat} (v : α) (h : j ≠ k) : (t.set k v).get j = t.get j := by rw [get_set, if_neg h]
theorem setL_nil (t : T α) (i : Nat) : t.setL i [] = t := rfl
theorem setL_cons (t : T α) (i : Nat) (x : α) (l : List α) : t.setL i (x :: l) = (t.set i x).setL (i + 1) l := rfl
theorem get_setL (l : List α) : ∀ (t : T α) (i j : Nat), (t.setL i l).get j = if i ≤ j ∧ j < i + l.length then l[j - i]? else t.get j := by
  induction l with
  | nil => intro t i j; rw [setL_nil, if_neg (by simp)]
  | cons x l ih =>
    intro t i j
    rw [setL_cons, ih, get_set]
    simp only [List.length_cons]
    by_cases h : i + 1 ≤ j ∧ j < i + 1 + l.length
    · rw [if_pos h, if_pos (by omega)]
      obtain ⟨d, rfl⟩ : ∃ d, j = i + 1 + d := ⟨j - (i + 1), by omega⟩
      rw [show i + 1 + d - (i + 1) = d by omega, show i + 1 + d - i = d + 1 by omega]; rfl
    · rw [if_neg h]
      by_cases e : j = i
      · subst e; rw [if_pos rfl, if_pos (by omega)]; simp
      · rw [if_neg e, if_neg (by omega)]
end T
theorem copyT_zero (src : T V) (i j : Nat) (d : T V) : copyT src 0 i j d = some d := rfl
theorem copyT_succ (src : T V) (n i j : Nat) (d : T V) : copyT src (n + 1) i j d = (match src.get i with | some v => copyT src n (i + 1) (j + 1) (d.set j v) | none => none) := rfl
theorem get_copyT (src : T V) : ∀ (n i j : Nat) (d d' : T V), copyT src n i j d = some d' →
    (∀ k, k < n → ∃ v, src.get (i + k) = some v ∧ d'.get (j + k) = some v) ∧ (∀ k, k < j ∨ j + n ≤ k → d'.get k = d.get k) := by
  intro n
  induction n with
  | zero => intro i j d d' h; cases h; exact ⟨fun k hk => by omega, fun _ _ => rfl⟩
  | succ n ih =>
    intro i j d d' h
    rw [copyT_succ] at h
    cases hs : src.get i with
    | none => rw [hs] at h; cases h
    | some v =>
      rw [hs] at h
      obtain ⟨h1, h2⟩ := ih _ _ _ _ h
      refine ⟨fun k hk => ?_, fun k hk => ?_⟩
      · cases k with
        | zero => exact ⟨v, hs, by rw [Nat.add_zero, h2 j (by omega), T.get_set_eq]⟩
        | succ k => obtain ⟨x, e1, e2⟩ := h1 k (by omega); exact ⟨x, by rw [show i + (k + 1) = i + 1 + k by omega]; exact e1, by rw [show j + (k + 1) = j + 1 + k by omega]; exact e2⟩
      · rw [h2 k (by omega), T.get_set_ne _ _ (by omega)]
end Go.Ev
