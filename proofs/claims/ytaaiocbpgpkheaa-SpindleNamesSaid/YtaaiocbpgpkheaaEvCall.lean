/- Calls: a function's body, its way out; rounds of a range over a function. -/
import Derived.Test.YtaaiocbpgpkheaaEvSpec
namespace Go.Ev
open Go

variable {P : Program}

theorem WU.put {w : World} {r : Nat} {o0 : Obj} (h : w.heap[r]? = some o0) (o : Obj) : WU w r o (w.putObj r o) := by
  have hlt : r < w.heap.size := by
    rcases Nat.lt_or_ge r w.heap.size with h' | h'
    · exact h'
    · rw [Array.getElem?_eq_none h'] at h; cases h
  exact ⟨by simp, World.putObj_heap_same hlt, fun r' e => World.putObj_heap_other e, rfl, rfl, rfl⟩
theorem WA.alloc (w : World) (o : Obj) : WA w o (w.alloc o) := WA.push w o

theorem dfr_at {R : Ren} {H : EH} {w : World} (hr : Rel R All H w) {b r d : Nat} {o : Bool} (h : H.objs.get b = some (.dfr o)) (hm : R.bm b = some (r, d)) : d = 0 ∧ w.heap[r]? = some (.deferred (if o then some [] else none)) := by
  obtain ⟨e, x, h1, h2⟩ := hr.obj b _ r d h hm
  exact ⟨e, by rw [h1, h2 trivial]⟩
theorem loop_at {R : Ren} {H : EH} {w : World} (hr : Rel R All H w) {l r d : Nat} {st : LoopState} {pend : Option Code} {tm : T V} {n : Nat} {ps : Array Tmp} {as bd : Code} {df : Nat}
    (h : H.objs.get l = some (.loop st pend tm n ps as bd df)) (hm : R.bm l = some (r, d)) :
    d = 0 ∧ ∃ L, w.heap[r]? = some (.loop L) ∧ L.state = st ∧ L.pending = pend ∧ L.params = ps ∧ L.assign = as ∧ L.body = bd ∧ TR R tm n L.tmps ∧ R.bm df = some (L.defers, 0) := by
  obtain ⟨e, L, h1, h2⟩ := hr.obj l _ r d h hm
  exact ⟨e, L, h1, h2 trivial⟩
theorem sim_setLoop {R : Ren} {H : EH} {w : World} (hr : Rel R All H w) (hw : WF H) {l r : Nat} {st : LoopState} {pend : Option Code} {tm : T V} {n : Nat} {ps : Array Tmp} {as bd : Code} {df : Nat}
    (h : H.objs.get l = some (.loop st pend tm n ps as bd df)) (hm : R.bm l = some (r, 0)) {L : Loop} (hL : w.heap[r]? = some (.loop L)) (h1 : L.params = ps) (h2 : L.assign = as) (h3 : L.body = bd) (h4 : TR R tm n L.tmps) (h5 : R.bm df = some (L.defers, 0))
    (st' : LoopState) (pend' : Option Code) :
    SimA R R H (setLoop H l st' pend' tm n ps as bd df) w (w.putObj r (.loop { L with state := st', pending := pend' })) := by
  have hu := WU.put hL (.loop { L with state := st', pending := pend' })
  exact (sim_obj hr hw h hm (by show (2 : Nat) ≠ 0; omega) (o' := .loop st' pend' tm n ps as bd df) rfl _ ⟨rfl, _, hu.neu, fun _ => ⟨rfl, rfl, h1, h2, h3, h4, h5⟩⟩ hu).toA

theorem closeD_cons (r : Nat) (l : List Nat) (H : EH) : closeD (r :: l) H = (match H.objs.get r with
      | some (.dfr true) => closeD l ⟨H.objs.set r (.dfr false), H.next, H.grps, minN H.low r⟩
      | _ => none) := rfl
theorem close_sound {fn : Func} {tmps : Array Value} {Rq : Ending → World → Prop} {n : Nat} : ∀ (l : List Nat) (H H' : EH), closeD l H = some H' → H'.next = H.next ∧
    ∀ R w ds, Rel R All H w → WF H → DR R l ds → (∀ w', SimA R R H H' w w' → LeavesInM Fence.wide n P fn tmps Rq [] .returning w') → LeavesInM Fence.wide n P fn tmps Rq ds .returning w := by
  intro l
  induction l with
  | nil =>
    intro H H' h
    have h : some H = some H' := h
    cases h
    refine ⟨rfl, fun R w ds hr hw hd k => ?_⟩
    cases ds with
    | nil => exact k w (.refl hw hr)
    | cons d ds => exact hd.elim
  | cons b l ih =>
    intro H H' h
    rw [closeD_cons] at h
    split at h
    · rename_i hb
      obtain ⟨e, k⟩ := ih _ _ h
      refine ⟨e, fun R w ds hr hw hd hk => ?_⟩
      cases ds with
      | nil => exact hd.elim
      | cons d ds =>
        obtain ⟨⟨r, hm, rfl⟩, hd⟩ := hd
        obtain ⟨_, h1⟩ := dfr_at hr hb hm
        have hu := WU.put h1 (.deferred none)
        have hs := (sim_obj hr hw hb hm (by show (3 : Nat) ≠ 0; omega) (o' := .dfr false) rfl _ ⟨rfl, _, hu.neu, fun _ => rfl⟩ hu).toA
        exact ⟨by simp, .inl ⟨r, _, rfl, run_takeDeferred h1, k R _ ds hs.rel hs.wf hd fun w' hs' => hk w' (hs.trans hs')⟩⟩
    · cases h

def resG (tmps : Array Value) : ResultVar → Sem Value
  | .tmp t => pure (tmps.getD t undef)
  | .cell a t => do loadVar t (← asAddr (tmps.getD a undef))
theorem results_eq (fn : Func) (tmps : Array Value) : results fn tmps = (do let vs ← fn.results.mapM (resG tmps); pure (if h : vs.size = 1 then vs[0] else .tuple vs)) := rfl
theorem evResults_cons (a : EA) (H : EH) (r : ResultVar) (l : List ResultVar) : evResults P a H (r :: l) = (match evRes1 P a H r with
      | some v => match evResults P a H l with | some l => some (v :: l) | none => none
      | none => none) := rfl
theorem res_one {R : Ren} {H : EH} {w : World} (hr : Rel R All H w) {a : EA} {tmps : Array Value} (ht : TR R a.tm a.n tmps) {r : ResultVar} {v : V} (h : evRes1 P a H r = some v) : ∃ x, (resG tmps r).run P w = .ok x w ∧ VR R v x := by
  cases r with
  | tmp t => cases h; exact ⟨_, rfl, ht.val t⟩
  | cell d t =>
    have h : (match a.get d with | .ptr b off => H.loadVar P t b off | _ => none) = some v := h
    have hv := ht.val d
    have e : a.get d = getD' a.tm d := rfl
    rw [e] at h
    split at h
    · rename_i b off e2
      rw [e2] at hv
      show ∃ x, (do loadVar t (← asAddr (tmps.getD d undef)) : Sem Value).run P w = .ok x w ∧ VR R v x
      generalize tmps.getD d undef = y at hv ⊢
      cases hv with
      | ptr hm ho =>
        obtain ⟨x, h1, h2⟩ := run_loadVar (P := P) hr h hm ho (fun _ _ => trivial)
        exact ⟨x, h1, h2⟩
    · cases h
theorem res_list {R : Ren} {H : EH} {w : World} (hr : Rel R All H w) {a : EA} {tmps : Array Value} (ht : TR R a.tm a.n tmps) : ∀ (l : List ResultVar) (vs : List V), evResults P a H l = some vs →
    ∃ xs : List Value, (l.mapM (resG tmps)).run P w = .ok xs w ∧ vs.length = xs.length ∧ ∀ i (h1 : i < vs.length) (h2 : i < xs.length), VR R vs[i] xs[i] := by
  intro l
  induction l with
  | nil => intro vs h; cases h; exact ⟨[], rfl, rfl, fun i h1 => by simp at h1⟩
  | cons r l ih =>
    intro vs h
    rw [evResults_cons] at h
    split at h
    · rename_i v hv
      split at h
      · rename_i vs' hvs
        cases h
        obtain ⟨x, e1, e2⟩ := res_one hr ht hv
        obtain ⟨xs, e3, e4, e5⟩ := ih _ hvs
        refine ⟨x :: xs, ?_, by simp [e4], fun i h1 h2 => ?_⟩
        · rw [List.mapM_cons, run_bind_ok e1, run_bind_ok e3]; rfl
        · cases i with
          | zero => exact e2
          | succ i => exact e5 i (by simpa using h1) (by simpa using h2)
      · cases h
    · cases h
theorem res_sound {R : Ren} {H : EH} {w : World} (hr : Rel R All H w) {a : EA} {tmps : Array Value} (ht : TR R a.tm a.n tmps) {fn : Func} {vs : List V} (h : evResults P a H fn.results.toList = some vs) : ∃ x, (results fn tmps).run P w = .ok x w ∧ VR R (resV vs) x := by
  obtain ⟨xs, h1, h2, h3⟩ := res_list hr ht _ _ h
  rw [results_eq, Array.mapM_eq_mapM_toList, run_bind_ok (show (List.toArray <$> fn.results.toList.mapM (resG tmps)).run P w = .ok xs.toArray w by rw [Sem.run_map, h1]; rfl)]
  refine ⟨_, rfl, ?_⟩
  match vs, xs, h2, h3 with
  | [], [], _, _ => exact .tup rfl (fun i h1 _ => by simp at h1)
  | [v], [x], _, h3 => exact h3 0 (by simp) (by simp)
  | v :: v' :: vs, x :: x' :: xs, h2, h3 =>
    rw [dif_neg (by simp)]
    exact .tup (by simpa using h2) (fun i h1 h2 => by simpa using h3 i h1 (by simpa using h2))

theorem leave_sound {fn : Func} {a : EA} {H : EH} {r : Res} (h : leave P fn a H = some r) : ∃ v H', r = .v v H' ∧ H.next ≤ H'.next ∧
    ∀ R w A n, Rel R All H w → WF H → AR R a A → ∀ Rq : Ending → World → Prop, (∀ x w', VR R v x → SimA R R H H' w w' → Rq (.returned x) w') → LeavesInM Fence.wide n P fn A.tmps Rq A.defers .returning w := by
  unfold leave at h
  split at h
  · rename_i H' hc
    split at h
    · rename_i l hl
      cases h
      refine ⟨_, _, rfl, Nat.le_of_eq (close_sound (P := P) (fn := fn) (tmps := #[]) (Rq := fun _ _ => True) (n := 0) _ _ _ hc).1.symm, fun R w A n hr hw ha Rq k => ?_⟩
      refine (close_sound (P := P) (fn := fn) (tmps := A.tmps) (Rq := Rq) (n := n) _ _ _ hc).2 R w _ hr hw ha.df fun w' hs => ?_
      obtain ⟨x, h1, h2⟩ := res_sound hs.rel ha.tm hl
      exact ⟨x, h1, k x w' h2 hs⟩
    · cases h
  · cases h

theorem AR.enter {R : Ren} {args : List V} {args' : Array Value} (h : AL R args args') {n : Nat} (hn : args.length ≤ n) : AR R ⟨T.setL .lf 0 args, n, []⟩ { tmps := args' ++ Array.replicate (n - args'.size) undef, defers := [] } := by
  have hl := h.1
  refine ⟨⟨by simp; omega, fun i hi => ?_, fun i => ?_⟩, trivial⟩
  · show (T.setL .lf 0 args).get i = none
    have hi : n ≤ i := hi
    rw [T.get_setL, if_neg (by omega)]; rfl
  · show VR R (getD' (T.setL .lf 0 args) i) _
    unfold getD'
    rw [T.get_setL]
    by_cases hi : i < args.length
    · rw [if_pos (by omega)]
      have h2 : i < args'.size := by omega
      rw [Nat.sub_zero, List.getElem?_eq_getElem hi]
      have : (args' ++ Array.replicate (n - args'.size) undef).getD i undef = args'[i] := by
        rw [Array.getD_eq_getD_getElem?, Array.getElem?_append_left h2, Array.getElem?_eq_getElem h2]; rfl
      rw [this]
      exact h.2 i hi h2
    · rw [if_neg (by omega)]
      exact .bad _

theorem call_sound {f : Task → Option Res} (hs : Sound P f) {g : FuncId} {args : List V} {H : EH} {r : Res} (h : evCall P f g args H = some r) : Spec P (.call g args H) r := by
  unfold evCall at h
  split at h
  · rename_i fn hfn
    rw [cond_eq_ite] at h
    split at h
    · cases h
    · rename_i hname
      unfold evFn at h
      split at h
      · rename_i c hc
        rw [cond_ble] at h
        split at h
        · rename_i hlen
          rw [lenV_eq] at hlen
          cases hb : f (.code none c ⟨T.setL .lf 0 args, fn.ntmps, []⟩ H) with
          | none => rw [hb] at h; cases h
          | some rb =>
            rw [hb] at h
            obtain ⟨_, hn, m, hm⟩ := hs _ _ hb
            have hname' : fn.name ≠ "runtime.NumGoroutine" := by simpa using hname
            have key : ∀ a H1, (rb = .normal a H1 ∨ rb = .ret a H1) → leave P fn a H1 = some r → Spec P (.call g args H) r := by
              intro a H1 hrb hl
              obtain ⟨v, H', rfl, n2, k⟩ := leave_sound hl
              have hH : rb.H = H1 := by rcases hrb with rfl | rfl <;> rfl
              rw [hH] at hn
              refine ⟨v, H', rfl, Nat.le_trans hn n2, ⟨fn, c, hfn, hname', hc⟩, fun R w args' n hr hw hf ha => ?_⟩
              refine callsIn_of_wp_marks hfn hc trivial ?_
              refine wpIn_mono (wpM.wp (hm R w _ n none hr hw (by rw [hH]; exact hf.less n2) (AR.enter ha hlen) trivial)) fun e A w' ⟨R', hsim, hex⟩ => ?_
              rw [hH] at hsim
              have fin : AR R' a A → LeavesInM Fence.wide n P fn A.tmps (PostV R H v H' w) A.defers .returning w' := fun ha' =>
                k R' w' A n hsim.rel hsim.wf ha' _ fun x w'' hx hs' => ⟨x, R', rfl, hx, hsim.trans hs'⟩
              rcases hrb with rfl | rfl
              · cases e <;> first | exact hex.elim | exact fin hex
              · cases e <;> first | exact hex.elim | exact fin hex
            cases rb with
            | normal a H1 => exact key a H1 (.inl rfl) h
            | ret a H1 => exact key a H1 (.inr rfl) h
            | _ => cases h
        · cases h
      · cases h
  · cases h
end Go.Ev
