/- What the evaluator's answers say of the machine: the specification; operations; regions in the order of the text. -/
import Derived.Test.YtaaiocbpgpkheaaEvNext
import Derived.TacticsIn
import Derived.LoopNIn
import Derived.RangeFuncCalls
import Derived.RangeFuncRecord
namespace Go.Ev
open Go

variable {P : Program}

def All : Nat → Prop := fun _ => True
def LW (H : EH) : Nat → Prop := fun g => H.low ≤ g
abbrev SimA (R R' : Ren) (H H' : EH) (w w' : World) : Prop := Sim R R' All H H' (LW H') w w'

theorem Sim.toA {R R' : Ren} {H H' : EH} {W : Nat → Prop} {w w' : World} (h : Sim R R' All H H' W w w') : SimA R R' H H' w w' :=
  ⟨⟨h.es.next, h.es.low, h.es.old, fun b o hb hn => h.es.keep b o hb fun hW => hn (h.es.wr _ hW), h.es.back, h.es.wf, fun _ h => h, fun b o hb hn => (h.es.neu b o hb hn).imp id (h.es.wr _)⟩,
   h.rx, ⟨h.fr.os, h.fr.tape, h.fr.output, h.fr.size, fun r hr hn => h.fr.keep r hr fun b o d ho hb hW => hn b o d ho hb (h.es.wr _ hW)⟩, h.rel⟩
theorem SimA.refl {R : Ren} {H : EH} {w : World} (hw : WF H) (hr : Rel R All H w) : SimA R R H H w w := (Sim.refl hw hr).toA
theorem SimA.rel {R R' : Ren} {H H' : EH} {w w' : World} (h : SimA R R' H H' w w') : Rel R' All H' w' := Rel.weak (Sim.rel h) fun _ _ => .inl trivial
theorem SimA.trans {R R1 R2 : Ren} {A B C : EH} {w w1 w2 : World} (h : SimA R R1 A B w w1) (k : SimA R1 R2 B C w1 w2) : SimA R R2 A C w w2 :=
  (Sim.trans h ⟨k.es, k.rx, k.fr, Rel.weak (SimA.rel k) fun _ _ => trivial⟩).toA
theorem SimA.wf {R R' : Ren} {H H' : EH} {w w' : World} (h : SimA R R' H H' w w') : WF H' := h.es.wf
theorem SimA.le {R R' : Ren} {H H' : EH} {w w' : World} (h : SimA R R' H H' w w') (hr : Rel R All H w) (hf : Free R H H') : R.le R' := h.rx.le hf hr.img
theorem SimA.free {R R' : Ren} {H H' H2 : EH} {w w' : World} (h : SimA R R' H H' w w') (hf : Free R H H2) : Free R' H' H2 := fun b h1 h2 => by
  rw [h.rx.same b (by omega)]; exact hf b (Nat.le_trans h.es.next h1) h2
theorem Free.less {R : Ren} {H H1 H2 : EH} (hf : Free R H H2) (h : H1.next ≤ H2.next) : Free R H H1 := fun b h1 h2 => hf b h1 (by omega)
/-- a world that differs in what is no memory -/
theorem Rel.world {R : Ren} {S : Nat → Prop} {H : EH} {w w' : World} (h : Rel R S H w) (e : w'.heap = w.heap) : Rel R S H w' :=
  ⟨fun b r d hb => by rw [e]; exact h.img b r d hb, fun b o r d ho hb => (h.obj b o r d ho hb).mono (.refl R) hb (by rw [e]) id id, h.inj⟩

def FF : Option Nat → Fence
  | none => Fence.wide
  | some r => Fence.wide.inRound r
theorem FF_fn (rr : Option Nat) (f : FuncId) : (FF rr).fn f := by cases rr <;> trivial
theorem FF_depth (rr : Option Nat) : (FF rr).depth = none := by cases rr <;> rfl
theorem FF_round (rr : Option Nat) : (FF rr).round = rr := by cases rr <;> rfl
theorem FF_calls {rr : Option Nat} {n : Nat} {f : FuncId} {args : Array Value} {w : World} {Q : Ending → World → Prop} (h : CallsIn Fence.wide n P f args w Q) : CallsIn (FF rr) n P f args w Q := by
  cases rr with
  | none => exact h
  | some r => exact CallsIn.inRound r h
theorem FF_rounds {rr : Option Nat} {n : Nat} {l : Nat} {f : FuncId} {tmps : Array Value} {as bd : Code} {w : World} {Q : Ending → World → Prop} (h : RoundIn Fence.wide n P l f tmps as bd w Q) : RoundIn (FF rr) n P l f tmps as bd w Q := by
  cases rr with
  | none => exact h
  | some r => exact h

def Ro (R : Ren) : Option Nat → Option Nat → Prop
  | none, none => True
  | some l, some r => R.bm l = some (r, 0)
  | _, _ => False
theorem Ro.mono {R R' : Ren} (hle : R.le R') : ∀ {ro rr : Option Nat}, Ro R ro rr → Ro R' ro rr
  | none, none, _ => trivial
  | some _, some _, h => hle.bm _ _ h

def PostV (R : Ren) (H : EH) (v : V) (H' : EH) (w : World) : Ending → World → Prop := fun e w' => ∃ x R', e = .returned x ∧ VR R' v x ∧ SimA R R' H H' w w'
def Upon (P : Program) (n : Nat) (Q : Ending → World → Prop) : Next → World → Prop
  | .enter g as, w1 => CallsIn Fence.wide n P g as w1 Q
  | .round l f tmps as bd, w1 => RoundIn Fence.wide n P l f tmps as bd w1 Q
  | _, _ => False

def SpecCall (P : Program) (g : FuncId) (args : List V) (H : EH) (v : V) (H' : EH) : Prop :=
  H.next ≤ H'.next ∧ (∃ fn c, P.funcs[g]? = some fn ∧ fn.name ≠ "runtime.NumGoroutine" ∧ fn.body = some c) ∧
  ∀ R w args' n, Rel R All H w → WF H → Free R H H' → AL R args args' → CallsIn Fence.wide n P g args' w (PostV R H v H' w)
def SpecCallV (P : Program) (fv : V) (args : List V) (H : EH) (v : V) (H' : EH) : Prop :=
  H.next ≤ H'.next ∧
  ∀ R w fv' args' n, Rel R All H w → WF H → Free R H H' → VR R fv fv' → AL R args args' →
    ∃ nx w1, (do let d ← Deferred.ofValue fv' args'; invoke d.target d.args : Sem Next).run P w = .ok nx w1 ∧ Upon P n (PostV R H v H' w) nx w1

def Res.H : Res → EH
  | .v _ H => H
  | .normal _ H => H
  | .exit _ _ H => H
  | .ret _ H => H
def ExitR (R : Ren) : Res → Exit → Act → Prop
  | .normal a _, .normal, A => AR R a A
  | .exit id a _, .exit id', A => id' = id ∧ AR R a A
  | .ret a _, .ret, A => AR R a A
  | _, _, _ => False
def PostC (R : Ren) (H : EH) (r : Res) (w : World) : Exit → Act → World → Prop := fun e A w' => ∃ R', SimA R R' H r.H w w' ∧ ExitR R' r e A
/-- a loop is spoken of by the number of its rounds -/
def wpM (m : Nat) (F : Fence) (n : Nat) (P : Program) (c : Code) (Q : Exit → Act → World → Prop) (A : Act) (w : World) : Prop := match c with
  | .loop body => Code.roundsIn F n P body Q m A w
  | c => c.wpIn F n P Q A w
theorem wpM.wp {m : Nat} {F : Fence} {n : Nat} {c : Code} {Q : Exit → Act → World → Prop} {A : Act} {w : World} (h : wpM m F n P c Q A w) : c.wpIn F n P Q A w := by
  cases c <;> first | exact h | exact wpIn_loop_rounds m h
def SpecCode (P : Program) (ro : Option Nat) (c : Code) (a : EA) (H : EH) (r : Res) : Prop :=
  H.next ≤ r.H.next ∧ ∃ m, ∀ R w A n rr, Rel R All H w → WF H → Free R H r.H → AR R a A → Ro R ro rr → wpM m (FF rr) n P c (PostC R H r w) A w
def Spec (P : Program) : Task → Res → Prop
  | .call g args H, r => ∃ v H', r = .v v H' ∧ SpecCall P g args H v H'
  | .callV fv args H, r => ∃ v H', r = .v v H' ∧ SpecCallV P fv args H v H'
  | .code ro c a H, r => (∀ v H', r ≠ .v v H') ∧ SpecCode P ro c a H r
def Sound (P : Program) (f : Task → Option Res) : Prop := ∀ t r, f t = some r → Spec P t r

/-! Operations -/
theorem wantedE_yes' {ops : Array Oper} {R : Ren} {a : EA} {A : Act} {o : Oper} (hg' : ∀ g w o' d, o.guard = some (g, w) → ops[g]? = some o' → o'.dst = some d → VR R (getD' a.tm d) (A.tmps.getD d undef)) (h : wantedE ops a o.guard = .yes) : Region.wanted o (yielded ops A.tmps) = true := by
  unfold Region.wanted
  unfold wantedE at h
  cases hg : o.guard with
  | none => rfl
  | some p =>
    obtain ⟨j, want⟩ := p
    rw [hg] at h
    simp only at h ⊢
    cases ho : ops[j]? with
    | none => rw [ho] at h; cases h
    | some o' =>
      rw [ho] at h
      simp only at h
      cases hd : o'.dst with
      | none => rw [hd] at h; cases h
      | some d =>
        rw [hd] at h
        simp only at h
        have hv := hg' _ _ _ _ hg ho hd
        have e : a.get d = getD' a.tm d := rfl
        rw [e] at h
        clear hg'
        generalize getD' a.tm d = v at h hv
        unfold yielded
        rw [ho]
        simp only [Option.bind_some, hd]
        cases v with
        | bool b =>
          have hx : A.tmps.getD d undef = .bool b := by
            generalize A.tmps.getD d undef = z at hv ⊢
            cases hv; rfl
          have hb : b = want := by
            cases b <;> cases want <;> first | rfl | cases h
          have hx' : A.tmps[d]? = some (.bool b) := by
            rw [Array.getD_eq_getD_getElem?] at hx
            cases e' : A.tmps[d]? with
            | none => rw [e'] at hx; cases hx
            | some y => rw [e'] at hx; simp only [Option.getD_some] at hx; rw [hx]
          rw [hx']
          subst hb
          cases b <;> rfl
        | _ => cases h
theorem wantedE_no' {ops : Array Oper} {R : Ren} {a : EA} {A : Act} {o : Oper} (hg' : ∀ g w o' d, o.guard = some (g, w) → ops[g]? = some o' → o'.dst = some d → VR R (getD' a.tm d) (A.tmps.getD d undef)) (h : wantedE ops a o.guard = .no) : Region.wanted o (yielded ops A.tmps) = false := by
  unfold Region.wanted
  unfold wantedE at h
  cases hg : o.guard with
  | none => rw [hg] at h; cases h
  | some p =>
    obtain ⟨j, want⟩ := p
    rw [hg] at h
    simp only at h ⊢
    cases ho : ops[j]? with
    | none => rw [ho] at h; cases h
    | some o' =>
      rw [ho] at h
      simp only at h
      cases hd : o'.dst with
      | none => rw [hd] at h; cases h
      | some d =>
        rw [hd] at h
        simp only at h
        have hv := hg' _ _ _ _ hg ho hd
        have e : a.get d = getD' a.tm d := rfl
        rw [e] at h
        clear hg'
        generalize getD' a.tm d = v at h hv
        unfold yielded
        rw [ho]
        simp only [Option.bind_some, hd]
        rw [Array.getD_eq_getD_getElem?] at hv
        cases e' : A.tmps[d]? with
        | none => rfl
        | some y =>
          rw [e'] at hv
          simp only [Option.getD_some] at hv
          cases hv with
          | bad => cases h
          | bool b => cases b <;> cases want <;> first | rfl | cases h
          | _ => rfl

theorem wantedE_yes {ops : Array Oper} {R : Ren} {a : EA} {A : Act} (ha : AR R a A) {o : Oper} (h : wantedE ops a o.guard = .yes) : Region.wanted o (yielded ops A.tmps) = true := wantedE_yes' (fun _ _ _ d _ _ _ => ha.tm.val d) h
theorem wantedE_no {ops : Array Oper} {R : Ren} {a : EA} {A : Act} (ha : AR R a A) {o : Oper} (h : wantedE ops a o.guard = .no) : Region.wanted o (yielded ops A.tmps) = false := wantedE_no' (fun _ _ _ d _ _ _ => ha.tm.val d) h
theorem opK_heavy {op : Op} {g : Operand} {args : Array Operand} (h : opK op = .heavy g args) : ∃ ts, op = .call ⟨.value g, args, ts⟩ := by
  cases op <;> try (cases h; done)
  rename_i c
  obtain ⟨callee, as, ts⟩ := c
  cases callee with
  | value f => cases h; exact ⟨ts, rfl⟩
  | _ => cases h
theorem opK_light {op : Op} {k : OpK} (h : opK op = k) (hk : ∀ g args, k ≠ .heavy g args) : opK op = .light := by
  cases hh : opK op with
  | light => rfl
  | heavy g args => exact absurd (h ▸ hh) (by rw [← h, hh] at hk; exact absurd rfl (hk g args))

theorem execHeavy (ρ : Operand → Value) (dst : Option Tmp) (g : Operand) (args : Array Operand) (ts : Array TypeId) (type : TypeId) (pos : String) (after : Array Edge) (guard : Option (Nat × Bool)) :
    execOp ρ ⟨dst, .call ⟨.value g, args, ts⟩, type, pos, after, guard⟩ = (do let d ← Deferred.ofValue (ρ g) (args.map ρ); invoke d.target d.args) := rfl

theorem op_sound {f : Task → Option Res} (hs : Sound P f) {o : Oper} {a : EA} {H H' : EH} {v : V} (h : evOp P f a H o.op = some (v, H')) :
    H.next ≤ H'.next ∧ ∀ R w A n rr, Rel R All H w → WF H → Free R H H' → AR R a A → ∀ (K : Act → World → Prop) (Q : Exit → Act → World → Prop),
      (∀ R' w' x, VR R' v x → SimA R R' H H' w w' → K (A.put o.dst x) w') → o.wpIn (FF rr) n P A w K Q := by
  unfold evOp evOpK at h
  cases hk : opK o.op with
  | light =>
    rw [hk] at h
    have h : evLight o.op P a H = some (v, H') := h
    refine ⟨light_next h, fun R w A n rr hr hw hf ha K Q hK => ⟨fun f _ => FF_fn rr f, ?_⟩⟩
    obtain ⟨W, nx, w', R', x, _, h2, h3, h4, h5⟩ := light_sound hr hw hf o hk (fun x _ => ha.eval x) h (fun _ _ => trivial)
    rw [FF_round, Oper.semAt_eq rr A.eval o (fun c e => by rw [e] at h; cases h), h2]
    have := hK R' w' x h4 h5.toA
    rcases h3 with rfl | ⟨rfl, rfl⟩
    · exact this
    · exact this
  | heavy g args =>
    rw [hk] at h
    obtain ⟨dst, op, type, pos, after, guard⟩ := o
    obtain ⟨ts, rfl⟩ := opK_heavy hk
    have h : callR (f (.callV (a.eval g) (mapO a args.toList) H)) = some (v, H') := h
    cases hf : f (.callV (a.eval g) (mapO a args.toList) H) with
    | none => rw [hf] at h; cases h
    | some r =>
      rw [hf] at h
      obtain ⟨v1, H1, rfl, hn, hc⟩ := hs _ _ hf
      cases h
      refine ⟨hn, fun R w A n rr hr hw hf ha K Q hK => ⟨fun f _ => FF_fn rr f, ?_⟩⟩
      obtain ⟨nx, w1, h1, h2⟩ := hc R w (A.eval g) (args.map A.eval) (n - 1) hr hw hf (ha.eval g) (AL.mapO fun x _ => ha.eval x)
      rw [FF_round, Oper.semAt_eq rr A.eval _ (fun c e => by cases e), execHeavy, h1]
      cases nx <;> first | exact h2.elim | skip
      · exact ⟨(fun e => by rw [FF_depth] at e; cases e), (FF_calls (P := P) (rr := rr) h2).mono fun e w2 ⟨x, R', e1, e2, e3⟩ => by subst e1; exact hK R' w2 x e2 e3⟩
      · exact ⟨(fun e => by rw [FF_depth] at e; cases e), (FF_rounds (P := P) (rr := rr) h2).mono fun e w2 ⟨x, R', e1, e2, e3⟩ => by subst e1; exact hK R' w2 x e2 e3⟩

theorem ops_sound {f : Task → Option Res} (hs : Sound P f) (ops : Array Oper) : ∀ (l : List Oper) (a : EA) (H : EH) (r : Res), evOps P f ops l a H = some r →
    ∃ a' H', r = .normal a' H' ∧ H.next ≤ H'.next ∧ ∀ R w A n rr, Rel R All H w → WF H → Free R H H' → AR R a A → ∀ (Q : Exit → Act → World → Prop),
      (∀ R' w' A', AR R' a' A' → SimA R R' H H' w w' → Q .normal A' w') → wpListIn (FF rr) n P ops Q l A w := by
  intro l
  induction l with
  | nil =>
    intro a H r h
    cases h
    exact ⟨a, H, rfl, Nat.le_refl _, fun R w A n rr hr hw _ ha Q hQ => hQ R w A ha (.refl hw hr)⟩
  | cons o l ih =>
    intro a H r h
    have h : (match wantedE ops a o.guard with
      | .yes => evOps1 (evOps P f ops l) o.dst a (evOp P f a H o.op)
      | .no => evOps P f ops l (a.put o.dst .bad) H
      | .unk => none) = some r := h
    cases hwt : wantedE ops a o.guard with
    | yes =>
      rw [hwt] at h
      simp only at h
      cases ho : evOp P f a H o.op with
      | none => rw [ho] at h; cases h
      | some p =>
        obtain ⟨v, H1⟩ := p
        rw [ho] at h
        obtain ⟨n1, k1⟩ := op_sound hs ho
        obtain ⟨a', H', rfl, n2, k2⟩ := ih _ _ _ h
        refine ⟨a', H', rfl, Nat.le_trans n1 n2, fun R w A n rr hr hw hf ha Q hQ => ?_⟩
        show if _ then _ else _
        rw [if_pos (wantedE_yes ha hwt)]
        refine k1 R w A n rr hr hw (hf.less n2) ha _ _ fun R1 w1 x hx hsim => ?_
        refine k2 R1 w1 _ n rr hsim.rel hsim.wf (hsim.free hf) ((ha.mono (hsim.le hr (hf.less n2))).put _ hx) Q fun R' w' A' ha' hsim' => ?_
        exact hQ R' w' A' ha' (hsim.trans hsim')
    | no =>
      rw [hwt] at h
      simp only at h
      obtain ⟨a', H', rfl, n2, k2⟩ := ih _ _ _ h
      refine ⟨a', H', rfl, n2, fun R w A n rr hr hw hf ha Q hQ => ?_⟩
      show if _ then _ else _
      rw [if_neg (by rw [wantedE_no ha hwt]; simp)]
      exact ⟨fun f _ => FF_fn rr f, k2 R w _ n rr hr hw hf (ha.put _ (.bad _)) Q hQ⟩
    | unk => rw [hwt] at h; cases h
end Go.Ev
