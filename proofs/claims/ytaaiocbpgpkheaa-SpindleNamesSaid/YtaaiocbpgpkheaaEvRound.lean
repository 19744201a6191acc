/- Calls of function values; rounds of a range over a function. -/
import Derived.Test.YtaaiocbpgpkheaaEvCall
namespace Go.Ev
open Go

variable {P : Program}

theorem run_callFunc {g : FuncId} {fn : Func} {c : Code} (h1 : P.funcs[g]? = some fn) (h2 : fn.name ≠ "runtime.NumGoroutine") (h3 : fn.body = some c) (args : Array Value) (w : World) : (callFunc g args).run P w = .ok (.enter g args) w := by
  unfold callFunc
  rw [run_bind_ok (show (program).run P w = .ok P w from rfl)]
  simp only [h1]
  rw [if_neg (by simpa using h2), if_neg (by simp [h3])]
  rfl
theorem AL.app3 {R : Ren} {a b c : List V} {a' b' c' : Array Value} (h1 : AL R a a') (h2 : AL R b b') (h3 : AL R c c') : AL R (app3 a b c) (a' ++ b' ++ c') := by
  rw [Array.append_assoc]
  exact h1.append (h2.append h3)

theorem putArgs_cons (n : Nat) (p : Tmp) (ps : List Tmp) (v : V) (vs : List V) (tm : T V) : putArgs n (p :: ps) (v :: vs) tm = cond (Nat.blt p n) (putArgs n ps vs (tm.set p v)) none := rfl
theorem putArgs_list {R : Ren} {n : Nat} : ∀ (ps : List Tmp) (vs : List V) (xs : List Value) (tm tm' : T V) (tmps : Array Value), TR R tm n tmps → vs.length = xs.length → (∀ i (h1 : i < vs.length) (h2 : i < xs.length), VR R vs[i] xs[i]) → putArgs n ps vs tm = some tm' →
    ps.length = xs.length ∧ TR R tm' n ((ps.zip xs).foldl (fun tmps p => tmps.setIfInBounds p.1 p.2) tmps) := by
  intro ps
  induction ps with
  | nil =>
    intro vs xs tm tm' tmps ht hl _ h
    cases vs with
    | nil =>
      have h : some tm = some tm' := h
      cases h
      cases xs with
      | nil => exact ⟨rfl, ht⟩
      | cons x xs => simp at hl
    | cons v vs => cases h
  | cons p ps ih =>
    intro vs xs tm tm' tmps ht hl hv h
    cases vs with
    | nil => cases h
    | cons v vs =>
      cases xs with
      | nil => simp at hl
      | cons x xs =>
        rw [putArgs_cons, cond_blt] at h
        split at h
        · rename_i hp
          obtain ⟨e1, e2⟩ := ih vs xs _ _ _ (ht.set hp (hv 0 (by simp) (by simp))) (by simpa using hl) (fun i h1 h2 => hv (i + 1) (by simpa using h1) (by simpa using h2)) h
          exact ⟨by simp [e1], e2⟩
        · cases h
theorem putArgs_sound {R : Ren} {n : Nat} {ps : Array Tmp} {vs : List V} {xs : Array Value} {tm tm' : T V} {tmps : Array Value} (ht : TR R tm n tmps) (hv : AL R vs xs) (h : putArgs n ps.toList vs tm = some tm') :
    xs.size = ps.size ∧ TR R tm' n ((ps.zip xs).foldl (fun tmps (t, a) => tmps.setIfInBounds t a) tmps) := by
  obtain ⟨e1, e2⟩ := putArgs_list ps.toList vs xs.toList tm tm' tmps ht (by simpa using hv.1) (fun i h1 h2 => by simpa using hv.2 i h1 (by simpa using h2)) h
  refine ⟨by simpa using e1.symm, ?_⟩
  rw [← Array.foldl_toList, Array.toList_zip]
  exact e2

theorem endR_sound {l : Nat} {jump : Option Code} {H : EH} {r : Res} (h : endR l jump jump.isNone H = some r) : ∃ v H', r = .v v H' ∧ H'.next = H.next ∧
    ∀ R w lr, Rel R All H w → WF H → R.bm l = some (lr, 0) → ∃ x w', (Instr.endRound lr jump).run P w = .ok x w' ∧ VR R v x ∧ SimA R R H H' w w' := by
  unfold endR at h
  split at h
  · rename_i st pend tm n ps as bd df hl
    cases h
    refine ⟨_, _, rfl, rfl, fun R w lr hr hw hm => ?_⟩
    obtain ⟨_, L, h1, _, _, h4, h5, h6, h7, h8⟩ := loop_at hr hl hm
    refine ⟨_, _, run_endRound jump h1, .bool _, ?_⟩
    have := sim_setLoop hr hw hl hm h1 h4 h5 h6 h7 h8 (cond jump.isNone .ready .done) jump
    rw [cond_eq_ite] at this ⊢
    exact this
  · cases h

theorem round_sound {f : Task → Option Res} (hs : Sound P f) {l : Nat} {args : List V} {H : EH} {r : Res} (h : evRound f l args H = some r) : Spec P (.callV (.yld l) args H) r := by
  unfold evRound at h
  split at h
  · rename_i st0 pend0 tm n0 ps as bd df0 hl0
    split at h
    · rename_i tm' hput
      cases h1 : f (.code (some l) as ⟨tm', n0, []⟩ H) with
      | none => rw [h1] at h; cases h
      | some r1 =>
        rw [h1] at h
        obtain ⟨_, hn1, m1, hm1⟩ := hs _ _ h1
        unfold roundB at h
        split at h
        · rename_i _ a1 H1 heq
          cases heq
          split at h
          · rename_i pend tm1 n1 ps1 as1 bd1 df1 hl1
            cases h2 : f (.code (some l) bd a1 (setLoop H1 l .busy pend tm1 n1 ps1 as1 bd1 df1)) with
            | none => rw [h2] at h; cases h
            | some r2 =>
              rw [h2] at h
              obtain ⟨_, hn2, m2, hm2⟩ := hs _ _ h2
              have hn2 : H1.next ≤ r2.H.next := hn2
              have key : ∀ jump, endR l jump jump.isNone r2.H = some r →
                  (∀ R e A w lr Q, ExitR R r2 e A → (∃ x w', (Instr.endRound lr jump).run P w = .ok x w' ∧ Q (Ending.returned x) w') → roundPost P lr Q e A w) → Spec P (.callV (.yld l) args H) r := by
                intro jump hend hpost
                obtain ⟨v, H', rfl, en, hE⟩ := endR_sound (P := P) hend
                refine ⟨v, H', rfl, by have hn1' : H.next ≤ H1.next := hn1; omega, fun R w fv' args' n hr hw hf hv ha => ?_⟩
                have hn1' : H.next ≤ H1.next := hn1
                cases hv with
                | yld hm =>
                  rename_i lr
                  obtain ⟨_, L, g1, _, _, g4, g5, g6, g7, g8⟩ := loop_at hr hl0 hm
                  subst g4; subst g5; subst g6
                  obtain ⟨hsz, htr⟩ := putArgs_sound g7 ha hput
                  have hrun : (do let d ← Deferred.ofValue (.func (.yield lr) #[] #[]) args'; invoke d.target d.args : Sem Next).run P w = (Instr.yield lr (#[] ++ args')).run P w := rfl
                  refine ⟨_, _, by rw [hrun, Array.empty_append]; exact run_yield g1 hsz, ?_⟩
                  refine roundIn_of_wpIn trivial ?_
                  refine wpIn_mono (wpM.wp (hm1 R w { tmps := _, defers := [] } n (some lr) hr hw (hf.less (by show H1.next ≤ _; omega)) ⟨htr, trivial⟩ hm)) fun e A1 w1 ⟨R1, sim1, hex⟩ => ?_
                  cases e <;> try exact hex.elim
                  have hle1 := sim1.le hr (hf.less (by show H1.next ≤ _; omega))
                  have hm' : R1.bm l = some (lr, 0) := hle1.bm _ _ hm
                  obtain ⟨_, L1, q1, q2, q3, q4, q5, q6, q7, q8⟩ := loop_at sim1.rel hl1 hm'
                  refine ⟨_, run_beginRound q1 q2, ?_⟩
                  have simB := sim_setLoop sim1.rel sim1.wf hl1 hm' q1 q4 q5 q6 q7 q8 .busy pend
                  subst q3
                  have hfB : Free R1 (setLoop H1 l .busy L1.pending tm1 n1 ps1 as1 bd1 df1) H' := sim1.free hf
                  refine wpIn_mono (wpM.wp (hm2 R1 _ A1 n (some lr) simB.rel simB.wf (hfB.less (by omega)) hex hm')) fun e A2 w2 ⟨R2, sim2, hex2⟩ => ?_
                  have hle2 := sim2.le simB.rel (hfB.less (by omega))
                  refine hpost R2 e A2 w2 lr _ hex2 ?_
                  obtain ⟨x, w', k1, k2, k3⟩ := hE R2 w2 lr sim2.rel sim2.wf (hle2.bm _ _ hm')
                  exact ⟨x, w', k1, x, R2, rfl, k2, ((sim1.trans simB).trans sim2).trans k3⟩
              unfold afterRound at h
              split at h
              · rename_i a2 H2 heq
                cases heq
                exact key none h fun R e A w lr Q hex hq => by cases e <;> first | exact hex.elim | exact hq
              · rename_i a2 H2 heq
                cases heq
                exact key (some .ret) h fun R e A w lr Q hex hq => by cases e <;> first | exact hex.elim | exact hq
              · rename_i id a2 H2 heq
                cases heq
                exact key (some (.exit id)) h fun R e A w lr Q hex hq => by cases e <;> first | exact hex.elim | (obtain ⟨rfl, _⟩ := hex; exact hq)
              · cases h
          · cases h
        · cases h
    · cases h
  · cases h

theorem callV_sound {f : Task → Option Res} (hs : Sound P f) {fv : V} {args : List V} {H : EH} {r : Res} (h : evCallV f fv args H = some r) : Spec P (.callV fv args H) r := by
  unfold evCallV at h
  split at h
  · rename_i g first captured
    obtain ⟨v, H', rfl, hn, ⟨fn, c, c1, c2, c3⟩, hc⟩ := hs _ _ h
    refine ⟨v, H', rfl, hn, fun R w fv' args' n hr hw hf hv ha => ?_⟩
    cases hv with
    | func hl hv hm hv' =>
      rename_i l' m'
      refine ⟨_, _, run_callFunc c1 c2 c3 (l' ++ args' ++ m') w, ?_⟩
      exact hc R w _ n hr hw hf (AL.app3 ⟨hl, hv⟩ ha ⟨hm, hv'⟩)
  · exact round_sound hs h
  · cases h
end Go.Ev
