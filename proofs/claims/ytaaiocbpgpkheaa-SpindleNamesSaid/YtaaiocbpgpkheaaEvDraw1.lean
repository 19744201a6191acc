/- Regions whose order is open, 1: one operation; the run in the order of the text. -/
import Derived.Test.YtaaiocbpgpkheaaEvBefore
namespace Go.Ev
open Go

variable {P : Program}

def Tch (k : OpK) (fp : FP) (g : Nat) : Prop := match k with | .light => g ∈ fp.rd ∨ g ∈ fp.wrs | .heavy _ _ => True
def WrS (k : OpK) (fp : FP) (H' : EH) (g : Nat) : Prop := match k with | .light => g ∈ fp.wrs | .heavy _ _ => H'.low ≤ g

theorem op_draw {f : Task → Option Res} (hs : Sound P f) {o : Oper} {a : EA} {H H' : EH} {v : V} (h : evOp P f a H o.op = some (v, H')) :
    ∀ R w A n rr (S : Nat → Prop), Rel R S H w → WF H → Free R H H' → (∀ x, x ∈ o.op.operands → VR R (a.eval x) (A.eval x)) → (∀ g, Tch (opK o.op) (fpOf o.op a H H' (opK o.op)) g → S g) →
      ∀ (K : Act → World → Prop) (Q : Exit → Act → World → Prop),
      (∀ R' w' x W, VR R' v x → (∀ g, W g → WrS (opK o.op) (fpOf o.op a H H' (opK o.op)) H' g) → Sim R R' S H H' W w w' → K (A.put o.dst x) w') → o.wpIn (FF rr) n P A w K Q := by
  unfold evOp evOpK at h
  cases hk : opK o.op with
  | light =>
    rw [hk] at h
    have h : evLight o.op P a H = some (v, H') := h
    refine fun R w A n rr S hr hw hf ha hS K Q hK => ⟨fun f _ => FF_fn rr f, ?_⟩
    obtain ⟨W, nx, w', R', x, h1, h2, h3, h4, h5⟩ := light_sound hr hw hf o hk ha h hS
    rw [FF_round, Oper.semAt_eq rr A.eval o (fun c e => by rw [e] at h; cases h), h2]
    have := hK R' w' x W h4 h1 h5
    rcases h3 with rfl | ⟨rfl, rfl⟩
    · exact this
    · exact this
  | heavy g args =>
    rw [hk] at h
    obtain ⟨dst, op, type, pos, after, guard⟩ := o
    obtain ⟨ts, rfl⟩ := opK_heavy hk
    have h : callR (f (.callV (a.eval g) (mapO a args.toList) H)) = some (v, H') := h
    cases hf : f (.callV (a.eval g) (mapO a args.toList) H) with
    | none => rw [hf] at h; cases h
    | some r =>
      rw [hf] at h
      obtain ⟨v1, H1, rfl, hn, hc⟩ := hs _ _ hf
      cases h
      refine fun R w A n rr S hr hw hf ha hS K Q hK => ⟨fun f _ => FF_fn rr f, ?_⟩
      have hS : ∀ g, S g := fun g => hS g trivial
      obtain ⟨nx, w1, h1, h2⟩ := hc R w (A.eval g) (args.map A.eval) (n - 1) (hr.weak fun g _ => hS g) hw hf (ha g (by simp [Op.operands, Call.operands])) (AL.mapO fun x hx => ha x (by simp [Op.operands, Call.operands, hx]))
      rw [FF_round, Oper.semAt_eq rr A.eval _ (fun c e => by cases e), execHeavy, h1]
      have fin : ∀ R' w2 x, VR R' v x → SimA R R' H H' w w2 → K (A.put dst x) w2 := fun R' w2 x hx hsim => hK R' w2 x (LW H') hx (fun g hg => hg) ⟨hsim.es, hsim.rx, hsim.fr, (SimA.rel hsim).weak fun _ _ => trivial⟩
      cases nx <;> first | exact h2.elim | skip
      · exact ⟨(fun e => by rw [FF_depth] at e; cases e), (FF_calls (P := P) (rr := rr) h2).mono fun e w2 ⟨x, R', e1, e2, e3⟩ => by subst e1; exact fin R' w2 x e2 e3⟩
      · exact ⟨(fun e => by rw [FF_depth] at e; cases e), (FF_rounds (P := P) (rr := rr) h2).mono fun e w2 ⟨x, R', e1, e2, e3⟩ => by subst e1; exact fin R' w2 x e2 e3⟩

/-- what a walk promises, there is -/
theorem wpIn_ex {o : Oper} {n : Nat} {A : Act} {w : World} {K : Act → World → Prop} (h : o.wpIn Fence.wide n P A w K (fun _ _ _ => False)) : ∃ A' w', K A' w' := by
  have h := h.2
  generalize (o.semAt Fence.wide.round A.eval).run P w = r at h
  cases r with
  | ok x w1 =>
    cases x <;> simp only [Oper.uponIn] at h
    case value v => exact ⟨_, _, h⟩
    case skip => exact ⟨_, _, h⟩
    case defer d => exact ⟨_, _, h⟩
    case enter g args =>
      obtain ⟨e, w', fr, hR, _⟩ := h.2.2 [] (room_wide _)
      cases e with
      | returned v => exact ⟨_, _, hR⟩
      | panicked c => exact hR.elim
      | outgrown => obtain ⟨_, _, q⟩ := hR; exact q.elim
    case row row args =>
      obtain ⟨v, w', hR, _⟩ := h.2 default [] (room_wide _)
      exact ⟨_, _, hR⟩
    case round l g tmps as bd =>
      obtain ⟨e, w', hR, _⟩ := h.2.2 default [] (room_wide _)
      cases e with
      | returned v => exact ⟨_, _, hR⟩
      | panicked c => exact hR.elim
      | outgrown => obtain ⟨_, _, q⟩ := hR; exact q.elim
  | halt x w1 => cases x <;> simp only [Oper.uponIn] at h

theorem op_run {f : Task → Option Res} (hs : Sound P f) {o : Oper} {a : EA} {H H' : EH} {v : V} (h : evOp P f a H o.op = some (v, H')) {R : Ren} {w : World} {A : Act} (hr : Rel R All H w) (hw : WF H) (hf : Free R H H') (ha : AR R a A) :
    ∃ R' w' x W, VR R' v x ∧ (∀ g, W g → WrS (opK o.op) (fpOf o.op a H H' (opK o.op)) H' g) ∧ Sim R R' All H H' W w w' := by
  obtain ⟨A', w', R', x, W, e, h1, h2, h3⟩ := wpIn_ex (op_draw hs h R w A 0 none All hr hw hf (fun x _ => ha.eval x) (fun _ _ => trivial)
    (fun A' w' => ∃ R' x W, A' = A.put o.dst x ∧ VR R' v x ∧ (∀ g, W g → WrS (opK o.op) (fpOf o.op a H H' (opK o.op)) H' g) ∧ Sim R R' All H H' W w w') (fun _ _ _ => False)
    (fun R' w' x W h1 h2 h3 => ⟨R', x, W, rfl, h1, h2, h3⟩))
  exact ⟨R', w', x, W, h1, h2, h3⟩

/-! The evaluator's run in the order of the text, step by step -/
inductive StepAt (P : Program) (f : Task → Option Res) (ops : Array Oper) (o : Oper) : EA → EH → EA → EH → FP → Prop where
  | yes {a : EA} {H : EH} {v : V} {H1 : EH} (hw : wantedE ops a o.guard = .yes) (h : evOp P f a (lowTo H big) o.op = some (v, H1)) :
      StepAt P f ops o a H (a.put o.dst v) (lowTo H1 (minN H.low H1.low)) (fpOf o.op a H H1 (opK o.op))
  | no {a : EA} {H : EH} (hw : wantedE ops a o.guard = .no) : StepAt P f ops o a H (a.put o.dst .bad) H ⟨0, 0, [], [], 0⟩

theorem evOpsD_cons (f : Task → Option Res) (ops : Array Oper) (o : Oper) (l : List Oper) (a : EA) (H : EH) : evOpsD P f ops (o :: l) a H = (match wantedE ops a o.guard with
      | .yes => evOpsD1 (evOpsD P f ops l) o a H (evOp P f a (lowTo H big) o.op)
      | .no => evOpsD0 (evOpsD P f ops l (a.put o.dst .bad) H)
      | .unk => none) := rfl
def consF {α : Type} (x : α) (s : Nat → α) : Nat → α | 0 => x | k + 1 => s k
theorem evOpsD_seq {f : Task → Option Res} {ops : Array Oper} : ∀ (l : List Oper) (a : EA) (H : EH) (r : RR), evOpsD P f ops l a H = some r →
    ∃ (As : Nat → EA) (Hs : Nat → EH) (fp : Nat → FP), As 0 = a ∧ Hs 0 = H ∧ As l.length = r.a ∧ Hs l.length = r.H ∧ r.fps.length = l.length ∧ (∀ k, k < l.length → nthF r.fps k = fp k) ∧
      ∀ k (h : k < l.length), StepAt P f ops l[k] (As k) (Hs k) (As (k + 1)) (Hs (k + 1)) (fp k) := by
  intro l
  induction l with
  | nil =>
    intro a H r h
    have h : some (⟨a, H, []⟩ : RR) = some r := h
    cases h
    exact ⟨fun _ => a, fun _ => H, fun _ => ⟨0, 0, [], [], 0⟩, rfl, rfl, rfl, rfl, rfl, fun k hk => by simp at hk, fun k hk => by simp at hk⟩
  | cons o l ih =>
    intro a H r h
    rw [evOpsD_cons] at h
    have glue : ∀ a1 H1 fp0 r1, evOpsD P f ops l a1 H1 = some r1 → StepAt P f ops o a H a1 H1 fp0 → r = ⟨r1.a, r1.H, fp0 :: r1.fps⟩ →
        ∃ (As : Nat → EA) (Hs : Nat → EH) (fp : Nat → FP), As 0 = a ∧ Hs 0 = H ∧ As (o :: l).length = r.a ∧ Hs (o :: l).length = r.H ∧ r.fps.length = (o :: l).length ∧ (∀ k, k < (o :: l).length → nthF r.fps k = fp k) ∧
          ∀ k (h : k < (o :: l).length), StepAt P f ops (o :: l)[k] (As k) (Hs k) (As (k + 1)) (Hs (k + 1)) (fp k) := by
      intro a1 H1 fp0 r1 h1 hst hr
      obtain ⟨As, Hs, fp, e1, e2, e3, e4, e5, e6, e7⟩ := ih _ _ _ h1
      subst hr
      refine ⟨consF a As, consF H Hs, consF fp0 fp, rfl, rfl, e3, e4, by simp [e5], fun k hk => ?_, fun k hk => ?_⟩
      · cases k with
        | zero => rfl
        | succ k => exact e6 k (by simpa using hk)
      · cases k with
        | zero => show StepAt P f ops o a H (As 0) (Hs 0) fp0; rw [e1, e2]; exact hst
        | succ k => exact e7 k (by simpa using hk)
    cases hw : wantedE ops a o.guard with
    | yes =>
      rw [hw] at h
      simp only at h
      cases ho : evOp P f a (lowTo H big) o.op with
      | none => rw [ho] at h; cases h
      | some p =>
        obtain ⟨v, H1⟩ := p
        rw [ho] at h
        have h : (match evOpsD P f ops l (a.put o.dst v) (lowTo H1 (minN H.low H1.low)) with
          | some r => some ⟨r.a, r.H, fpOf o.op a H H1 (opK o.op) :: r.fps⟩
          | none => none) = some r := h
        split at h
        · rename_i r1 hr1
          cases h
          exact glue _ _ _ r1 hr1 (.yes hw ho) rfl
        · cases h
    | no =>
      rw [hw] at h
      simp only at h
      cases hr1 : evOpsD P f ops l (a.put o.dst .bad) H with
      | none => rw [hr1] at h; cases h
      | some r1 =>
        rw [hr1] at h
        cases h
        exact glue _ _ _ r1 hr1 (.no hw) rfl
    | unk => rw [hw] at h; cases h
end Go.Ev
