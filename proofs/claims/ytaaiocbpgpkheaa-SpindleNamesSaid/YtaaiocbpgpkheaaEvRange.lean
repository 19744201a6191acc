/- Ranges over functions; code; the evaluator is sound. The regions whose order is open are XEvDraw's. -/
import Derived.Test.YtaaiocbpgpkheaaEvMap4
import Derived.Scope
namespace Go.Ev
open Go

variable {P : Program}

theorem run_enterLoop_inner {w : World} {lr : Nat} {L : Loop} (h : w.heap[lr]? = some (.loop L)) (fn : FuncId) (tmps : Array Value) (ps : Array Tmp) (as bd : Code) :
    (Instr.enterLoop fn tmps ps as bd (some lr)).run P w = .ok (w.heap.size, []) (w.alloc (.loop { state := .ready, pending := none, fn, tmps, params := ps, assign := as, body := bd, defers := L.defers })) := by
  unfold Instr.enterLoop
  simp only [Sem.run_bind, run_getLoop h, run_newObj_alloc, Result.andThen, Sem.run_pure]

theorem rangeF_sound {f : Task → Option Res} (hs : Sound P f) {ro : Option Nat} {g : Operand} {ps : Array Tmp} {as bd : Code} {a a1 : EA} {d : Nat} {H : EH} {r : Res} (h : evRangeF f ro (a.eval g) ps as bd a a1 d H = some r) :
    (∀ v H', r ≠ .v v H') ∧ H.next ≤ r.H.next ∧ ∀ R w A A1 n rr rd fn, Rel R All H w → WF H → Free R H r.H → AR R a A → AR R a1 A1 → Ro R ro rr → R.bm d = some (rd, 0) → ∀ Q : Exit → Act → World → Prop, (∀ e A w', PostC R H r w e A w' → Q e A w') →
      ∃ (dd : Deferred) (w1' : World) (ff : FuncId) (args : Array Value) (w2 : World),
        (resolve A.eval (rangeCall g w.heap.size) 0).run P (w.alloc (.loop { state := .ready, pending := none, fn, tmps := A.tmps, params := ps, assign := as, body := bd, defers := rd })) = .ok dd w1' ∧
        (invoke dd.target dd.args).run P w1' = .ok (.enter ff args) w2 ∧ CallsIn (FF rr) (n - 1) P ff args w2 (rangePost (FF rr) n P w.heap.size Q A1) := by
  unfold evRangeF at h
  rw [fN_eq] at h
  generalize hH1 : (⟨H.objs.set H.next (.loop .ready none a.tm a.n ps as bd d), Nat.succ H.next, H.grps, H.low⟩ : EH) = H1 at h
  have hn1 : H1.next = H.next + 1 := by rw [← hH1]
  cases hv : a.eval g with
  | func gi first captured =>
    rw [hv] at h
    have h : afterLoop f ro H.next a1 (f (.call gi (app3 first [.yld H.next] captured) H1)) = some r := h
    cases hc : f (.call gi (app3 first [.yld H.next] captured) H1) with
    | none => rw [hc] at h; cases h
    | some r0 =>
      rw [hc] at h
      obtain ⟨v, H2, rfl, hn2, ⟨fn', c', c1, c2, c3⟩, hcall⟩ := hs _ _ hc
      have h : (match H2.objs.get H.next with
        | some (.loop st pend tm n ps as bd df) => cond (notBusy st) (pendO f ro a1 (setLoop H2 H.next .exhausted pend tm n ps as bd df) pend) none
        | _ => none) = some r := h
      split at h
      · rename_i st pend tm n' ps' as' bd' df' hl2
        cases hnb : notBusy st with
        | false => rw [hnb] at h; cases h
        | true =>
          rw [hnb] at h
          have h : pendO f ro a1 (setLoop H2 H.next .exhausted pend tm n' ps' as' bd' df') pend = some r := h
          generalize hH3 : setLoop H2 H.next .exhausted pend tm n' ps' as' bd' df' = H3 at h
          have hn3 : H3.next = H2.next := by rw [← hH3]; rfl
          have hp : (∀ v H', r ≠ .v v H') ∧ H3.next ≤ r.H.next ∧ ∀ R w A1 n rr, Rel R All H3 w → WF H3 → Free R H3 r.H → AR R a1 A1 → Ro R ro rr → (match pend with | none => PostC R H3 r w .normal A1 w | some c => c.wpIn (FF rr) n P (PostC R H3 r w) A1 w) := by
            cases pend with
            | none =>
              have h : some (Res.normal a1 H3) = some r := h
              cases h
              exact ⟨(fun v H' e => by cases e), Nat.le_refl _, fun R w A1 n rr hr hw _ ha _ => ⟨R, SimA.refl hw hr, ha⟩⟩
            | some c =>
              have h : f (.code ro c a1 H3) = some r := h
              obtain ⟨k1, k2, m, k3⟩ := hs _ _ h
              exact ⟨k1, k2, fun R w A1 n rr hr hw hf ha hro => wpM.wp (k3 R w A1 n rr hr hw hf ha hro)⟩
          obtain ⟨p1, p2, p3⟩ := hp
          refine ⟨p1, by omega, fun R w A A1 n rr rd fn hr hw hf ha ha1 hro hd Q hQ => ?_⟩
          have hvA := ha.eval g
          rw [hv] at hvA
          obtain ⟨R1, simN, hm1, _⟩ := sim_new hr hw (hf _ (Nat.le_refl _) (by omega)) (.loop .ready none a.tm a.n ps as bd d) rfl
            (.loop { state := .ready, pending := none, fn, tmps := A.tmps, params := ps, assign := as, body := bd, defers := rd }) 0
            (fun R' hle hb _ => ⟨rfl, _, (WA.alloc w _).neu, fun _ => ⟨rfl, rfl, rfl, rfl, rfl, ha.tm.mono hle, hle.bm _ _ hd⟩⟩) (WA.alloc w _)
          have simN := simN.toA
          rw [hH1] at simN
          have hle1 := simN.le hr (hf.less (by omega))
          have hf1 : Free R1 H1 r.H := simN.free hf
          have hgv : ∃ l' m', A.eval g = .func (.func gi) l' m' ∧ AL R first l' ∧ AL R captured m' := by
            generalize A.eval g = z at hvA
            cases hvA with
            | func hl hv hm hv' => exact ⟨_, _, rfl, ⟨hl, hv⟩, ⟨hm, hv'⟩⟩
          obtain ⟨l', m', e1, e2, e3⟩ := hgv
          refine ⟨{ target := .fn (.func gi) m', args := l' ++ #[.func (.yield w.heap.size) #[] #[]] }, w.alloc (.loop { state := .ready, pending := none, fn, tmps := A.tmps, params := ps, assign := as, body := bd, defers := rd }), gi, l' ++ #[.func (.yield w.heap.size) #[] #[]] ++ m', w.alloc (.loop { state := .ready, pending := none, fn, tmps := A.tmps, params := ps, assign := as, body := bd, defers := rd }), ?_, ?_, ?_⟩
          · show (Deferred.ofValue (A.eval g) (#[Operand.const (.func (.yield w.heap.size) #[] #[])].map A.eval)).run P _ = _
            rw [e1, show (#[Operand.const (.func (.yield w.heap.size) #[] #[])].map A.eval) = #[.func (.yield w.heap.size) #[] #[]] by simp [Act.eval]]
            rfl
          · exact run_callFunc c1 c2 c3 _ _
          · refine FF_calls (CallsIn.mono (hcall R1 _ _ (n - 1) simN.rel simN.wf (hf1.less (by omega)) (AL.app3 (e2.mono hle1) (AL.one (.yld hm1)) (e3.mono hle1))) fun e w3 ⟨x, R2, ee, hx, sim2⟩ => ?_)
            subst ee
            have hle2 := sim2.le simN.rel (hf1.less (by omega))
            have hm2 := hle2.bm _ _ hm1
            obtain ⟨_, L2, q1, q2, q3, q4, q5, q6, q7, q8⟩ := loop_at sim2.rel hl2 hm2
            have simL := sim_setLoop sim2.rel sim2.wf hl2 hm2 q1 q4 q5 q6 q7 q8 .exhausted pend
            rw [hH3] at simL
            subst q3
            refine ⟨L2.pending, _, run_endLoop q1 (by rw [q2]; intro e; rw [e] at hnb; cases hnb), ?_⟩
            have hf3 : Free R2 H3 r.H := by
              have := sim2.free hf1
              exact fun b h1 h2 => this b (by omega) h2
            have := p3 R2 _ A1 n rr simL.rel simL.wf hf3 (ha1.mono (hle1.trans hle2)) (hro.mono (hle1.trans hle2))
            have up : ∀ e A w', PostC R2 H3 r (w3.putObj w.heap.size (.loop { L2 with state := .exhausted, pending := L2.pending })) e A w' → Q e A w' := fun e A w' ⟨R3, s3, x3⟩ => hQ _ _ _ ⟨R3, ((simN.trans sim2).trans simL).trans s3, x3⟩
            cases hpd : L2.pending with
            | none => rw [hpd] at this up; exact up _ _ _ this
            | some c => rw [hpd] at this up; exact wpIn_mono this up
      · cases h
  | _ => rw [hv] at h; cases h

theorem range_sound {f : Task → Option Res} (hs : Sound P f) {ro : Option Nat} {g : Operand} {ps : Array Tmp} {as bd : Code} {a : EA} {H : EH} {r : Res} (h : evRangeFunc f ro g ps as bd a H = some r) :
    Spec P (.code ro (.rangeFunc g ps as bd) a H) r := by
  unfold evRangeFunc at h
  cases ro with
  | some l0 =>
    simp only at h
    split at h
    · rename_i st pend tm n0 ps0 as0 bd0 df hl0
      obtain ⟨k1, k2, k3⟩ := rangeF_sound hs h
      refine ⟨k1, k2, 0, fun R w A n rr hr hw hf ha hro => ?_⟩
      show (Code.rangeFunc g ps as bd).wpIn _ _ _ _ _ _
      cases rr with
      | none => exact hro.elim
      | some lr =>
        have hro' : R.bm l0 = some (lr, 0) := hro
        obtain ⟨_, L, q1, q2, q3, q4, q5, q6, q7, q8⟩ := loop_at hr hl0 hro'
        refine wpIn_rangeFunc fun fn _ => ?_
        obtain ⟨dd, w1', ff, args, w2, e1, e2, e3⟩ := k3 R w A A n (some lr) L.defers fn hr hw hf ha ha hro q8 (PostC R H r w) (fun _ _ _ h => h)
        exact ⟨w.heap.size, [], _, dd, w1', ff, args, w2, run_enterLoop_inner q1 fn A.tmps ps as bd, e1, fun f' _ => FF_fn (some lr) f', e2, (fun e => by cases e), e3⟩
    · cases h
  | none =>
    simp only [fN_eq] at h
    generalize hHd : (⟨H.objs.set H.next (.dfr true), Nat.succ H.next, H.grps, H.low⟩ : EH) = Hd at h
    have hn : Hd.next = H.next + 1 := by rw [← hHd]
    obtain ⟨k1, k2, k3⟩ := rangeF_sound hs h
    refine ⟨k1, by omega, 0, fun R w A n rr hr hw hf ha hro => ?_⟩
    show (Code.rangeFunc g ps as bd).wpIn _ _ _ _ _ _
    cases rr with
    | some lr => exact hro.elim
    | none =>
      refine wpIn_rangeFunc fun fn _ => ?_
      obtain ⟨R1, simN, hm1, _⟩ := sim_new hr hw (hf _ (Nat.le_refl _) (by omega)) (.dfr true) rfl (.deferred (some [])) 0 (fun R' hle hb _ => ⟨rfl, _, (WA.alloc w _).neu, fun _ => rfl⟩) (WA.alloc w _)
      have simN := simN.toA
      rw [hHd] at simN
      have hle1 := simN.le hr (hf.less (by omega))
      have hf1 : Free R1 Hd r.H := simN.free hf
      have ha1 : AR R1 ⟨a.tm, a.n, H.next :: a.df⟩ { A with defers := [markOf w.heap.size] ++ A.defers } := ⟨ha.tm.mono hle1, ⟨_, hm1, rfl⟩, ha.df.mono hle1⟩
      obtain ⟨dd, w1', ff, args, w2, e1, e2, e3⟩ := k3 R1 (w.alloc (.deferred (some []))) A _ n none w.heap.size fn simN.rel simN.wf hf1 (ha.mono hle1) ha1 trivial hm1 (PostC R H r w) (fun e A w' ⟨R2, s2, x2⟩ => ⟨R2, simN.trans s2, x2⟩)
      have hsz : (w.alloc (.deferred (some []))).heap.size = w.heap.size + 1 := (WA.alloc w _).size
      rw [hsz] at e1 e3
      exact ⟨w.heap.size + 1, [markOf w.heap.size], _, dd, w1', ff, args, w2, run_enterLoop_outer fn A.tmps ps as bd, e1, fun f' _ => FF_fn none f', e2, (fun e => by cases e), e3⟩

theorem roundsIn_mono {F : Fence} {n : Nat} {c : Code} {Q Q' : Exit → Act → World → Prop} (hq : ∀ e a w, Q e a w → Q' e a w) : ∀ (m : Nat) (a : Act) (w : World), Code.roundsIn F n P c Q m a w → Code.roundsIn F n P c Q' m a w := by
  intro m
  induction m with
  | zero => intro a w h; exact h.elim
  | succ m ih =>
    intro a w h
    exact Go.wpIn_mono h fun e a w q => by cases e <;> first | exact ih _ _ q | exact hq _ _ _ q
theorem wpM.mono {m : Nat} {F : Fence} {n : Nat} {c : Code} {Q Q' : Exit → Act → World → Prop} {A : Act} {w : World} (h : wpM m F n P c Q A w) (hq : ∀ e a w, Q e a w → Q' e a w) : wpM m F n P c Q' A w := by
  cases c <;> first | exact Go.wpIn_mono h hq | exact roundsIn_mono hq m _ _ h

def DrawnSound (P : Program) : Prop := ∀ f, Sound P f → ∀ ops a H r, shapeOk ops = true → doneD ops (evOpsD P f ops ops.toList a H) = some r →
  (∀ v H', r ≠ .v v H') ∧ H.next ≤ r.H.next ∧ ∀ R w A n rr id, Rel R All H w → WF H → Free R H r.H → AR R a A → (Code.region id ops true).wpIn (FF rr) n P (PostC R H r w) A w

theorem PostC.trans {R R1 : Ren} {H H1 : EH} {r : Res} {w w1 : World} (s : SimA R R1 H H1 w w1) : ∀ e A w', PostC R1 H1 r w1 e A w' → PostC R H r w e A w' := fun _ _ _ ⟨R2, s2, x2⟩ => ⟨R2, s.trans s2, x2⟩

/-- what follows a piece of code that ends normally; where it ends otherwise, that is the answer -/
theorem seq_sound {f : Task → Option Res} (hs : Sound P f) {ro : Option Nat} {x y : Code} {a : EA} {H : EH} {r : Res} (h : evSeq f ro y (f (.code ro x a H)) = some r) :
    (∀ v H', r ≠ .v v H') ∧ H.next ≤ r.H.next ∧ ∃ m, ∀ R w A n rr, Rel R All H w → WF H → Free R H r.H → AR R a A → Ro R ro rr → x.wpIn (FF rr) n P (fun e A1 w1 => (∀ Q : Exit → Act → World → Prop, (∀ e A w', PostC R H r w e A w' → Q e A w') → Exit.then (wpM m (FF rr) n P y Q) Q e A1 w1)) A w := by
  cases h1 : f (.code ro x a H) with
  | none => rw [h1] at h; cases h
  | some r1 =>
    rw [h1] at h
    obtain ⟨j1, j2, m1, j3⟩ := hs _ _ h1
    cases r1 with
    | v v H' => exact absurd rfl (j1 v H')
    | normal a1 H1 =>
      have h : f (.code ro y a1 H1) = some r := h
      obtain ⟨k1, k2, m, k3⟩ := hs _ _ h
      have j2 : H.next ≤ H1.next := j2
      refine ⟨k1, by omega, m, fun R w A n rr hr hw hf ha hro => Go.wpIn_mono (wpM.wp (j3 R w A n rr hr hw (hf.less k2) ha hro)) fun e A1 w1 ⟨R1, s1, x1⟩ Q hQ => ?_⟩
      cases e <;> try exact x1.elim
      have hle := s1.le hr (hf.less k2)
      exact (k3 R1 w1 A1 n rr s1.rel s1.wf (s1.free hf) x1 (hro.mono hle)).mono fun e A w' p => hQ _ _ _ (PostC.trans s1 _ _ _ p)
    | exit id a1 H1 =>
      have h : some (Res.exit id a1 H1) = some r := h
      cases h
      refine ⟨j1, j2, 0, fun R w A n rr hr hw hf ha hro => Go.wpIn_mono (wpM.wp (j3 R w A n rr hr hw hf ha hro)) fun e A1 w1 p Q hQ => ?_⟩
      have q := hQ _ _ _ p
      obtain ⟨_, _, x1⟩ := p
      cases e <;> first | exact x1.elim | exact q
    | ret a1 H1 =>
      have h : some (Res.ret a1 H1) = some r := h
      cases h
      refine ⟨j1, j2, 0, fun R w A n rr hr hw hf ha hro => Go.wpIn_mono (wpM.wp (j3 R w A n rr hr hw hf ha hro)) fun e A1 w1 p Q hQ => ?_⟩
      have q := hQ _ _ _ p
      obtain ⟨_, _, x1⟩ := p
      cases e <;> first | exact x1.elim | exact q

section
variable {F : Fence} {n : Nat} {b : Frame} {a : Act} {k : List Item} {cs : List Frame} {w : World} {Q : Exit → Act → World → Prop}
theorem stepR_scope {c : Code} : Go.step P (lone (b.atR a (.code (.scope c) :: k)) cs w) = .next (lone (b.atR a (.code c :: .inScope c :: k)) cs w) := step_lone_go (by simp [stepG, stepG.exec, Frame.atR])
theorem stepR_inScope {c : Code} : Go.step P (lone (b.atR a (.inScope c :: k)) cs w) = .next (lone (b.atR a k) cs w) := step_lone_go (by simp [stepG, stepG.exec, Frame.atR])
theorem wpIn_scope {c : Code} (h : c.wpIn F n P (Exit.noGoto Q) a w) : (Code.scope c).wpIn F n P Q a w := by
  intro b k cs hro hb hr
  have h0 : (lone (b.atR a (.code (.scope c) :: k)) cs w).fenced P F := fenced_calm hb hr rfl
  obtain ⟨e, a₁, w₁, hq, harr⟩ := h b (.inScope c :: k) cs hro hb hr
  cases e with
  | normal => exact ⟨.normal, a₁, w₁, hq, .head h0 stepR_scope (StepsIn.trans harr (.one (fenced_calm hb hr rfl) stepR_inScope))⟩
  | exit id' =>
    have hx : exitTo id' (.inScope c :: k) = exitTo id' k := by simp [exitTo]
    exact ⟨.exit id', a₁, w₁, hq, fun k' hk => .head h0 stepR_scope (harr.1 k' (by rw [hx]; exact hk)),
        fun hr' hk => let ⟨k₁, h1, h2⟩ := harr.2 hr' (by rw [hx]; exact hk); ⟨k₁, h1, .head h0 stepR_scope h2⟩⟩
  | goto l => exact hq.elim
  | ret => exact ⟨_, a₁, w₁, hq, .of_steps (.one h0 stepR_scope) harr⟩
  | panic ch => exact ⟨_, a₁, w₁, hq, .of_steps (.one h0 stepR_scope) harr⟩
  | outgrown => exact ⟨_, a₁, w₁, hq, .of_steps (.one h0 stepR_scope) harr⟩
end

theorem code_sound (hD : DrawnSound P) {f : Task → Option Res} (hs : Sound P f) {ro : Option Nat} {c : Code} {a : EA} {H : EH} {r : Res} (h : evCode c P f ro a H = some r) : Spec P (.code ro c a H) r := by
  cases c
  case skip =>
    have h : some (Res.normal a H) = some r := h
    cases h
    exact ⟨(fun v H' e => by cases e), Nat.le_refl _, 0, fun R w A n rr hr hw hf ha hro => wpIn_skip ⟨R, .refl hw hr, ha⟩⟩
  case label l =>
    have h : some (Res.normal a H) = some r := h
    cases h
    exact ⟨(fun v H' e => by cases e), Nat.le_refl _, 0, fun R w A n rr hr hw hf ha hro => wpIn_label ⟨R, .refl hw hr, ha⟩⟩
  case region id ops d =>
    cases d with
    | false =>
      have h : evOps P f ops ops.toList a H = some r := h
      obtain ⟨a', H', rfl, k1, k2⟩ := ops_sound hs ops _ _ _ _ h
      exact ⟨(fun v H' e => by cases e), k1, 0, fun R w A n rr hr hw hf ha hro => wpIn_region_list (k2 R w A n rr hr hw hf ha _ fun R' w' A' ha' hs' => ⟨R', hs', ha'⟩)⟩
    | true =>
      have h : cond (shapeOk ops) (doneD ops (evOpsD P f ops ops.toList a H)) none = some r := h
      cases hsh : shapeOk ops with
      | false => rw [hsh] at h; cases h
      | true =>
        rw [hsh] at h
        obtain ⟨k1, k2, k3⟩ := hD f hs ops a H r hsh h
        exact ⟨k1, k2, 0, fun R w A n rr hr hw hf ha _ => k3 R w A n rr id hr hw hf ha⟩
  case seq x y =>
    obtain ⟨k1, k2, m, k3⟩ := seq_sound hs (x := x) (y := y) h
    exact ⟨k1, k2, 0, fun R w A n rr hr hw hf ha hro => wpIn_seq (Go.wpIn_mono (k3 R w A n rr hr hw hf ha hro) fun e A1 w1 p => by
      have := p (PostC R H r w) (fun _ _ _ h => h)
      cases e <;> first | exact wpM.wp this | exact this)⟩
  case loop body =>
    have h : cLoop body P f ro a H = some r := h
    cases hml : mapLoop body with
    | some ml =>
      have e : cLoop body P f ro a H = evMapLoop P f ro ml a H := by unfold cLoop; rw [hml]
      exact mapLoop_sound hs hml (by rw [e] at h; exact h)
    | none =>
    have e : cLoop body P f ro a H = cLoop0 body P f ro a H := by unfold cLoop; rw [hml]
    have h : evSeq f ro (.loop body) (f (.code ro body a H)) = some r := by rw [e] at h; exact h
    obtain ⟨k1, k2, m, k3⟩ := seq_sound hs (x := body) (y := .loop body) h
    exact ⟨k1, k2, m + 1, fun R w A n rr hr hw hf ha hro => Go.wpIn_mono (k3 R w A n rr hr hw hf ha hro) fun e A1 w1 p => p (PostC R H r w) (fun _ _ _ h => h)⟩
  case cond c x y =>
    have h : evCond f ro x y a H (a.eval c) = some r := h
    unfold evCond at h
    split at h
    · rename_i hv
      obtain ⟨k1, k2, m, k3⟩ := hs _ _ h
      refine ⟨k1, k2, 0, fun R w A n rr hr hw hf ha hro => wpIn_cond_true ?_ (wpM.wp (k3 R w A n rr hr hw hf ha hro))⟩
      have := ha.eval c
      rw [hv] at this
      generalize A.eval c = z at this ⊢
      cases this; rfl
    · rename_i hv
      obtain ⟨k1, k2, m, k3⟩ := hs _ _ h
      refine ⟨k1, k2, 0, fun R w A n rr hr hw hf ha hro => wpIn_cond_false ?_ (wpM.wp (k3 R w A n rr hr hw hf ha hro))⟩
      have := ha.eval c
      rw [hv] at this
      generalize A.eval c = z at this ⊢
      cases this; rfl
    · cases h
  case block id c =>
    have h : evBlock id (f (.code ro c a H)) = some r := h
    cases h1 : f (.code ro c a H) with
    | none => rw [h1] at h; cases h
    | some r1 =>
      rw [h1] at h
      obtain ⟨k1, k2, m, k3⟩ := hs _ _ h1
      have fin : (∀ v H', r ≠ .v v H') → r1.H = r.H → (∀ R' e A, ExitR R' r1 e A → ∀ Q : Exit → Act → World → Prop, ∀ w', (∀ e', ExitR R' r e' A → Q e' A w') → Exit.inBlock id Q e A w') → Spec P (.code ro (.block id c) a H) r := by
        intro g1 g2 g3
        refine ⟨g1, by show H.next ≤ r.H.next; rw [← g2]; exact k2, 0, fun R w A n rr hr hw hf ha hro => wpIn_block (Go.wpIn_mono (wpM.wp (k3 R w A n rr hr hw (by rw [g2]; exact hf) ha hro)) fun e A1 w1 ⟨R1, s1, x1⟩ => ?_)⟩
        exact g3 R1 e A1 x1 _ w1 fun e' x' => ⟨R1, by rw [← g2]; exact s1, x'⟩
      cases r1 with
      | v v H' => exact absurd rfl (k1 v H')
      | normal a1 H1 =>
        have h : some (Res.normal a1 H1) = some r := h
        cases h
        exact fin k1 rfl fun R' e A x Q w' hq => by cases e <;> first | exact x.elim | exact hq .normal x
      | ret a1 H1 =>
        have h : some (Res.ret a1 H1) = some r := h
        cases h
        exact fin k1 rfl fun R' e A x Q w' hq => by cases e <;> first | exact x.elim | exact hq .ret x
      | exit id' a1 H1 =>
        have h : cond (Nat.beq id' id) (some (Res.normal a1 H1)) (some (.exit id' a1 H1)) = some r := h
        rw [cond_beq] at h
        by_cases e : id' = id
        · rw [if_pos e] at h
          cases h
          refine fin (fun v H' e => by cases e) rfl fun R' e' A x Q w' hq => ?_
          cases e' <;> try exact x.elim
          obtain ⟨x1, x2⟩ := x
          show if _ then _ else _
          rw [if_pos (x1.trans e)]
          exact hq .normal x2
        · rw [if_neg e] at h
          cases h
          refine fin k1 rfl fun R' e' A x Q w' hq => ?_
          cases e' <;> try exact x.elim
          obtain ⟨x1, x2⟩ := x
          show if _ then _ else _
          rw [if_neg (by rw [x1]; exact e)]
          exact hq (.exit _) ⟨x1, x2⟩
  case exit id =>
    have h : some (Res.exit id a H) = some r := h
    cases h
    exact ⟨(fun v H' e => by cases e), Nat.le_refl _, 0, fun R w A n rr hr hw hf ha hro => wpIn_exit ⟨R, .refl hw hr, rfl, ha⟩⟩
  case ret =>
    have h : some (Res.ret a H) = some r := h
    cases h
    exact ⟨(fun v H' e => by cases e), Nat.le_refl _, 0, fun R w A n rr hr hw hf ha hro => wpIn_ret ⟨R, .refl hw hr, ha⟩⟩
  case rangeFunc g ps as bd => exact range_sound hs h
  case scope c =>
    obtain ⟨k1, k2, m, k3⟩ := hs _ _ h
    exact ⟨k1, k2, 0, fun R w A n rr hr hw hf ha hro => wpIn_scope (Go.wpIn_mono (wpM.wp (k3 R w A n rr hr hw hf ha hro)) fun e A1 w1 p => by
      cases e <;> first | exact p | (obtain ⟨_, _, x⟩ := p; cases r <;> exact x.elim))⟩
  all_goals (cases h)

def ExtOK (P : Program) (X : Ext) : Prop := ∀ g x args H v, X g = some x → x args H = some v → SpecCall P g args H v H
theorem noExt_ok : ExtOK P noExt := fun _ _ _ _ _ h => by cases h

theorem step_sound (hD : DrawnSound P) {X : Ext} (hX : ExtOK P X) {f : Task → Option Res} (hs : Sound P f) : Sound P (step P X f) := by
  intro t r h
  cases t with
  | call g args H =>
    have h : stepCall P f g args H (X g) = some r := h
    unfold stepCall at h
    split at h
    · exact call_sound hs h
    · rename_i x hx
      unfold extR at h
      split at h
      · rename_i v hv
        cases h
        exact ⟨v, H, rfl, hX _ _ _ _ _ hx hv⟩
      · exact call_sound hs h
  | callV fv args H => exact callV_sound hs h
  | code ro c a H => exact code_sound hD hs h
theorem ev_sound (hD : DrawnSound P) {X : Ext} (hX : ExtOK P X) : ∀ n, Sound P (ev P X n)
  | 0 => fun t r h => by cases h
  | n + 1 => step_sound hD hX (ev_sound hD hX n)

/-! a call from nothing -/
def noRen : Ren := ⟨fun _ => none, fun _ => 0⟩
theorem wf_empty : WF emptyH := ⟨(fun b o h => by cases h), (fun b o h => by cases h), (fun g _ b b' o o' h => by cases h), (fun g x h => by cases h)⟩
theorem rel_empty (w : World) : Rel noRen All emptyH w := ⟨fun b r d h => (by cases h), fun b o r d h => (by cases h), fun b b' o o' r d d' h => (by cases h)⟩
theorem run_sound (hD : DrawnSound P) {X : Ext} (hX : ExtOK P X) {n : Nat} {g : FuncId} {args : List V} {v : V} (h : runV P X n g args = some v) {args' : Array Value} (ha : AL noRen args args') (w : World) :
    Calls P g args' w (fun e w' => ∃ x R, e = .returned x ∧ VR R v x ∧ RowKit.Below w.heap.size w w') := by
  unfold runV at h
  split at h
  · rename_i v' H' hv
    cases h
    obtain ⟨v1, H1, e, _, _, k⟩ := ev_sound hD hX n _ _ hv
    cases e
    refine (callsIn_wide (n := 0)).1 (CallsIn.mono (k noRen w args' 0 (rel_empty w) wf_empty (fun b _ _ => rfl) ha) fun e w' ⟨x, R, e1, e2, e3⟩ => ⟨x, R, e1, e2, ?_⟩)
    exact ⟨e3.fr.os, e3.fr.tape, e3.fr.output, e3.fr.size, fun r hr => e3.fr.keep r hr fun b o d h => by cases h⟩
  · cases h
end Go.Ev
