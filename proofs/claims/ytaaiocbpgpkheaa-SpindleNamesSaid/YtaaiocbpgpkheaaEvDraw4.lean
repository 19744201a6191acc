/- Regions whose order is open, 4: the theorem. -/
import Derived.Test.YtaaiocbpgpkheaaEvDraw3
namespace Go.Ev
open Go

variable {P : Program}

theorem ES.wk {H H' : EH} {W W' : Nat → Prop} (h : ES H H' W) (h1 : ∀ g, W g → W' g) (h2 : ∀ g, W' g → H'.low ≤ g) : ES H H' W' :=
  ⟨h.next, h.low, h.old, fun b o hb hn => h.keep b o hb fun q => hn (h1 _ q), h.back, h.wf, h2, fun b o hb hn => (h.neu b o hb hn).imp id (h1 _)⟩
theorem ES.lowTo {H H1 : EH} {W : Nat → Prop} {n m : Nat} (h : ES (lowTo H n) H1 W) (h1 : m ≤ H.low) (h2 : m ≤ H1.low) : ES H (lowTo H1 m) W :=
  ⟨h.next, h1, h.old, h.keep, h.back, ⟨h.wf.lt, h.wf.root, h.wf.uniq, h.wf.gdom⟩, fun g hg => Nat.le_trans h2 (h.wr g hg), h.neu⟩
theorem WF.lowTo {H : EH} (h : WF H) (n : Nat) : WF (lowTo H n) := ⟨h.lt, h.root, h.uniq, h.gdom⟩
theorem Rel.lowTo {R : Ren} {S : Nat → Prop} {H : EH} {w : World} (h : Rel R S H w) (n : Nat) : Rel R S (lowTo H n) w := ⟨h.img, h.obj, h.inj⟩

/-! footprints -/
def Tf (f : FP) (g : Nat) : Prop := match f.hv with | 0 => g ∈ f.rd ∨ g ∈ f.wrs | _ + 1 => True
def Wf (f : FP) (g : Nat) : Prop := match f.hv with | 0 => g ∈ f.wrs | 1 => f.lo ≤ g | _ + 2 => True
theorem memL_iff (x : Nat) (l : List Nat) : memL x l = true ↔ x ∈ l := by
  induction l with
  | nil => exact ⟨fun h => (by cases h), fun h => by simp at h⟩
  | cons y l ih =>
    show cond (Nat.beq x y) true (memL x l) = true ↔ _
    rw [cond_beq]
    by_cases e : x = y
    · rw [if_pos e]; simp [e]
    · rw [if_neg e, ih]; simp [e]
theorem disj_spec {l m : List Nat} (h : disj l m = true) {x : Nat} (h1 : x ∈ l) (h2 : x ∈ m) : False := by
  induction l with
  | nil => simp at h1
  | cons y l ih =>
    have h : cond (memL y m) false (disj l m) = true := h
    cases e : memL y m with
    | true => rw [e] at h; cases h
    | false =>
      rw [e] at h
      rcases List.mem_cons.1 h1 with q | q
      · subst q; rw [(memL_iff x m).2 h2] at e; cases e
      · exact ih h q
theorem outL_spec {lo hi : Nat} {l : List Nat} (h : outL lo hi l = true) {x : Nat} (h1 : x ∈ l) (h2 : lo ≤ x) (h3 : x < hi) : False := by
  induction l with
  | nil => simp at h1
  | cons y l ih =>
    have h : cond (Nat.ble lo y) (cond (Nat.blt y hi) false (outL lo hi l)) (outL lo hi l) = true := h
    rw [cond_ble, cond_blt] at h
    rcases List.mem_cons.1 h1 with q | q
    · subst q; rw [if_pos h2, if_pos h3] at h; cases h
    · refine ih ?_ q
      split at h
      · split at h
        · cases h
        · exact h
      · exact h
theorem isNilL_spec {l : List Nat} (h : isNilL l = true) : l = [] := by cases l with
  | nil => rfl
  | cons x l => cases h
theorem clear1_spec {f g : FP} (h : clear1 f g = true) : disj f.wrs g.rd = true ∧ disj f.wrs g.wrs = true ∧ outL g.lo g.hi f.wrs = true := by
  unfold clear1 at h
  cases h1 : disj f.wrs g.rd <;> rw [h1] at h <;> try (cases h; done)
  cases h2 : disj f.wrs g.wrs <;> rw [h2] at h <;> try (cases h; done)
  exact ⟨rfl, rfl, h⟩
theorem idle_spec {f : FP} (h : idle f = true) : f.hv = 0 ∧ f.lo = f.hi ∧ f.rd = [] ∧ f.wrs = [] := by
  unfold idle at h
  rw [cond_beq, cond_beq] at h
  split at h
  · rename_i e1
    split at h
    · rename_i e2
      cases e3 : isNilL f.rd with
      | false => rw [e3] at h; cases h
      | true => rw [e3] at h; exact ⟨e1, e2, isNilL_spec e3, isNilL_spec h⟩
    · cases h
  · cases h

/-- two operations of which either may come first are not in each other's way -/
theorem apart_spec {fi fk : FP} (h : compat fi fk = true ∨ compat fk fi = true ∨ (noisy fi = false ∧ noisy fk = false)) :
    (fk.hv = 0 → fi.hv = 0 → ∀ g, g ∈ fk.wrs → (g ∈ fi.rd → False) ∧ (g ∈ fi.wrs → False) ∧ (fi.lo ≤ g → g < fi.hi → False)) ∧
    (fk.hv = 0 → fi.hv ≠ 0 → fk.wrs = []) ∧ (2 ≤ fk.hv → fi.hv = 0 ∧ fi.lo = fi.hi ∧ fi.rd = [] ∧ fi.wrs = []) := by
  have both : clear1 fk fi = true → ∀ g, g ∈ fk.wrs → (g ∈ fi.rd → False) ∧ (g ∈ fi.wrs → False) ∧ (fi.lo ≤ g → g < fi.hi → False) := fun hc g hg => by
    obtain ⟨a, b, c⟩ := clear1_spec hc
    exact ⟨fun h => disj_spec a hg h, fun h => disj_spec b hg h, fun h1 h2 => outL_spec c hg h1 h2⟩
  have quiet : ∀ f : FP, noisy f = false → f.hv ≤ 1 ∧ f.wrs = [] := fun f h => by
    unfold noisy at h
    rw [cond_ble] at h
    split at h
    · rename_i e
      refine ⟨e, isNilL_spec ?_⟩
      cases e : isNilL f.wrs with
      | true => rfl
      | false => rw [e] at h; cases h
    · cases h
  refine ⟨fun ek ei => ?_, fun ek ei => ?_, fun ek => ?_⟩
  · rcases h with h | h | ⟨_, h⟩
    · unfold compat at h
      rw [ek, ei] at h
      simp only [cond_eq_ite] at h
      split at h
      · exact both h
      · cases h
    · unfold compat at h
      rw [ek, ei] at h
      simp only [cond_eq_ite] at h
      split at h
      · rename_i hc; exact both hc
      · cases h
    · rw [(quiet _ h).2]; intro g hg; simp at hg
  · rcases h with h | h | ⟨_, h⟩
    · unfold compat at h
      rw [ek] at h
      match e : fi.hv, ei with
      | 1, _ => rw [e] at h; exact isNilL_spec h
      | n + 2, _ => rw [e] at h; exact (idle_spec h).2.2.2
    · unfold compat at h
      rw [ek] at h
      match e : fi.hv, ei with
      | 1, _ => rw [e] at h; exact isNilL_spec h
      | n + 2, _ => rw [e] at h; exact (idle_spec h).2.2.2
    · exact (quiet _ h).2
  · obtain ⟨m, em⟩ : ∃ m, fk.hv = m + 2 := ⟨fk.hv - 2, by omega⟩
    rcases h with h | h | ⟨_, h⟩
    · unfold compat at h
      rw [em] at h
      match e : fi.hv with
      | 0 => rw [e] at h; exact (by have := idle_spec h; rw [e] at this; exact this)
      | 1 => rw [e] at h; cases h
      | n + 2 => rw [e] at h; cases h
    · unfold compat at h
      rw [em] at h
      match e : fi.hv with
      | 0 => rw [e] at h; exact (by have := idle_spec h; rw [e] at this; exact this)
      | 1 => rw [e] at h; cases h
      | n + 2 => rw [e] at h; cases h
    · have := (quiet _ h).1; omega

theorem allCompat_spec {fps : List FP} {f : FP} {l : List Nat} (h : allCompat fps f l = true) : ∀ j, j ∈ l → compat f (nthF fps j) = true := by
  induction l with
  | nil => intro j hj; simp at hj
  | cons y l ih =>
    intro j hj
    have h : cond (compat f (nthF fps y)) (allCompat fps f l) false = true := h
    cases e : compat f (nthF fps y) with
    | false => rw [e] at h; cases h
    | true =>
      rw [e] at h
      rcases List.mem_cons.1 hj with q | q
      · subst q; exact e
      · exact ih h j q
theorem pairsOk_spec {ops : Array Oper} {fps : List FP} : ∀ (l : List FP) (i : Nat), pairsOk ops fps l i = true → ∀ m, m < l.length → noisy (nthF l m) = true → ∀ j, j ∈ openOf ops (i + m) → compat (nthF l m) (nthF fps j) = true := by
  intro l
  induction l with
  | nil => intro i _ m hm; simp at hm
  | cons f l ih =>
    intro i h m hm hno j hj
    have h : cond (noisy f) (cond (allCompat fps f (openOf ops i)) (pairsOk ops fps l (i + 1)) false) (pairsOk ops fps l (i + 1)) = true := h
    cases m with
    | zero =>
      have hno : noisy f = true := hno
      rw [hno] at h
      cases e : allCompat fps f (openOf ops i) with
      | false => rw [e] at h; cases h
      | true => exact allCompat_spec e j hj
    | succ m =>
      refine ih (i + 1) ?_ m (by simpa using hm) hno j (by rw [show i + 1 + m = i + (m + 1) by omega]; exact hj)
      cases e1 : noisy f <;> rw [e1] at h
      · exact h
      · cases e2 : allCompat fps f (openOf ops i) <;> rw [e2] at h
        · cases h
        · exact h
theorem mem_open {ops : Array Oper} {i k : Nat} (hk : k < ops.size) (hne : i ≠ k) (h1 : ¬ Bf ops i k) (h2 : ¬ Bf ops k i) : k ∈ openOf ops i := by
  unfold openOf
  simp only [List.mem_filter, List.mem_range]
  refine ⟨hk, ?_⟩
  unfold Bf at h1 h2
  by_cases h : k < i
  · rw [if_pos h]; simpa using h2
  · rw [if_neg h, if_pos (by omega)]; simpa using h1

theorem step_next {f : Task → Option Res} (hs : Sound P f) {ops : Array Oper} {o : Oper} {a a' : EA} {H H' : EH} {fp : FP} (h : StepAt P f ops o a H a' H' fp) : H.next ≤ H'.next := by
  cases h with
  | yes hw h => exact (op_sound hs h).1
  | no hw => exact Nat.le_refl _
theorem step_fp {f : Task → Option Res} {ops : Array Oper} {o : Oper} {a a' : EA} {H H' : EH} {fp : FP} (h : StepAt P f ops o a H a' H' fp) : (fp.hv ≠ 0 → fp.lo = H.next) ∧ (H.next < H'.next → fp.lo = H.next ∧ fp.hi = H'.next) := by
  cases h with
  | yes hw h =>
    rename_i v H1
    show ((fpOf o.op a H H1 (opK o.op)).hv ≠ 0 → _) ∧ (_ → _)
    have hk : (fpOf o.op a H H1 (opK o.op)).lo = H.next ∧ (fpOf o.op a H H1 (opK o.op)).hi = H1.next := by
      cases opK o.op with
      | light => unfold fpOf fpL; cases touch o.op <;> exact ⟨rfl, rfl⟩
      | heavy g args => exact ⟨rfl, rfl⟩
    exact ⟨fun _ => hk.1, fun _ => hk⟩
  | no hw => exact ⟨fun h => absurd rfl h, fun h => absurd h (Nat.lt_irrefl _)⟩
/-- what an operation is said to write, and touch, by its kind and by its footprint -/
theorem foot_wr {op : Op} {a : EA} {H H1 : EH} {g : Nat} (h : WrS (opK op) (fpOf op a H H1 (opK op)) H1 g) : Wf (fpOf op a H H1 (opK op)) g := by
  cases hk : opK op with
  | light =>
    rw [hk] at h
    have h : g ∈ (fpL a H H1 (touch op)).wrs := h
    show Wf (fpL a H H1 (touch op)) g
    have e : (fpL a H H1 (touch op)).hv = 0 := by unfold fpL; cases touch op <;> rfl
    unfold Wf; rw [e]; exact h
  | heavy x args =>
    rw [hk] at h
    have h : H1.low ≤ g := h
    show Wf (fpH H H1) g
    unfold Wf fpH
    simp only [cond_ble]
    by_cases e : H.next ≤ H1.low
    · rw [if_pos e]; exact Nat.le_trans e h
    · rw [if_neg e]; trivial
theorem foot_tch {op : Op} {a : EA} {H H1 : EH} {g : Nat} (h : Tch (opK op) (fpOf op a H H1 (opK op)) g) : Tf (fpOf op a H H1 (opK op)) g := by
  cases hk : opK op with
  | light =>
    rw [hk] at h
    show Tf (fpL a H H1 (touch op)) g
    have e : (fpL a H H1 (touch op)).hv = 0 := by unfold fpL; cases touch op <;> rfl
    unfold Tf; rw [e]; exact h
  | heavy x args =>
    show Tf (fpH H H1) g
    unfold Tf fpH
    simp only [cond_ble]
    by_cases e : H.next ≤ H1.low
    · rw [if_pos e]; trivial
    · rw [if_neg e]; trivial
end Go.Ev
