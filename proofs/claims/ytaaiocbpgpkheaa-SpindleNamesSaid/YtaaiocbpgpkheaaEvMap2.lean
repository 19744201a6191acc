/- Loops over a map: what the machine does at the loop's head, and what is kept of a round. -/
import Derived.Test.YtaaiocbpgpkheaaEvMap1
namespace Go.Ev
open Go

variable {P : Program}

theorem isTmp_eq {x : Operand} {t : Nat} (h : isTmp x t = true) : x = .tmp t := by
  cases x <;> first | (cases h; done) | (rw [nb h])
theorem isNoneG_eq {g : Option (Nat × Bool)} (h : isNoneG g = true) : g = none := by cases g <;> first | rfl | cases h
theorem nextOf_some {o : Oper} {it t : Tmp} (h : nextOf o = some (it, t)) : o.op = .next (.tmp it) false ∧ o.dst = some t ∧ o.guard = none := by
  unfold nextOf at h
  split at h
  · rename_i it' e
    cases hg : isNoneG o.guard with
    | false => rw [hg] at h; cases h
    | true =>
      rw [hg] at h
      have h : (match o.dst with | some t => some (it', t) | none => none) = some (it, t) := h
      split at h
      · rename_i d hd
        cases h
        exact ⟨e, hd, isNoneG_eq hg⟩
      · cases h
  · cases h
theorem extrOf_some {o : Oper} {t1 t : Tmp} (h : extrOf o t1 = some t) : o.op = .extract (.tmp t1) 0 ∧ o.dst = some t ∧ o.guard = none := by
  unfold extrOf at h
  split at h
  · rename_i x e
    cases hx : isTmp x t1 with
    | false => rw [hx] at h; cases h
    | true =>
      rw [hx] at h
      cases hg : isNoneG o.guard with
      | false => rw [hg] at h; cases h
      | true => rw [hg] at h; exact ⟨by rw [e, isTmp_eq hx], h, isNoneG_eq hg⟩
  · cases h
theorem entryOf_some {o : Oper} {it t : Tmp} (h : entryOf o it = some t) : o.op = .entry (.tmp it) ∧ o.dst = some t ∧ o.guard = none := by
  unfold entryOf at h
  split at h
  · rename_i x e
    cases hx : isTmp x it with
    | false => rw [hx] at h; cases h
    | true =>
      rw [hx] at h
      cases hg : isNoneG o.guard with
      | false => rw [hg] at h; cases h
      | true => rw [hg] at h; exact ⟨by rw [e, isTmp_eq hx], h, isNoneG_eq hg⟩
  · cases h
structure MLOk (ml : ML) (body : Code) (i1 i2 : Nat) (o1 o3 : Oper) : Prop where
  body : body = .seq (.region i1 ml.ops1 false) (.seq (.cond (.tmp ml.t2) .skip (.exit ml.id)) (.block ml.cid (.seq (.region i2 ml.ops false) ml.rest)))
  l1 : ml.ops1.toList = [o1, ml.o2]
  o1 : o1.op = .next (.tmp ml.it) false ∧ o1.dst = some ml.t1 ∧ o1.guard = none
  o2 : ml.o2.op = .extract (.tmp ml.t1) 0 ∧ ml.o2.dst = some ml.t2 ∧ ml.o2.guard = none
  l2 : ml.ops.toList = o3 :: ml.tl
  o3 : o3.op = .entry (.tmp ml.it) ∧ o3.dst = some ml.t3 ∧ o3.guard = none
theorem mapLoop_some {body : Code} {ml : ML} (h : mapLoop body = some ml) : ∃ i1 i2 o1 o3, MLOk ml body i1 i2 o1 o3 := by
  unfold mapLoop at h
  split at h
  · rename_i i1 ops1 c
    unfold mapLoop1 at h
    split at h
    · rename_i o1 o2 hl1
      split at h
      · rename_i it t1 h1
        split at h
        · rename_i t2 h2
          unfold mapLoop2 at h
          split at h
          · rename_i x id cid c'
            cases hx : isTmp x t2 with
            | false => rw [hx] at h; cases h
            | true =>
              rw [hx] at h
              have h : (match headR c' with | .mk ops rest => mapLoop3 it t1 t2 ops1 o2 id cid ops rest | .no => none) = some ml := h
              split at h
              · rename_i ops rest hh
                unfold mapLoop3 at h
                split at h
                · rename_i o3 tl hl2
                  split at h
                  · rename_i t3 h3
                    cases h
                    unfold headR at hh
                    split at hh
                    · rename_i i2 ops' rest'
                      cases hh
                      exact ⟨i1, i2, o1, o3, ⟨by rw [isTmp_eq hx], hl1, nextOf_some h1, extrOf_some h2, hl2, entryOf_some h3⟩⟩
                    · cases hh
                  · cases h
                · cases h
              · cases h
          · cases h
        · cases h
      · cases h
    · cases h
  · cases h

theorem wu_set {w w1 : World} {r : Nat} {ob ob' : Obj} (h : w.heap[r]? = some ob) (e : w1.heap = w.heap) (e1 : w1.os = w.os) (e2 : w1.tape = w.tape) (e3 : w1.output = w.output) : WU w r ob' { w1 with heap := w1.heap.setIfInBounds r ob' } := by
  have hr : r < w.heap.size := by
    rcases Nat.lt_or_ge r w.heap.size with h' | h'
    · exact h'
    · simp [Array.getElem?_eq_none h'] at h
  refine ⟨by simp [e], by simp [e, hr], fun r' hr' => ?_, e1, e2, e3⟩
  show (w1.heap.setIfInBounds r ob')[r']? = _
  rw [e, Array.getElem?_setIfInBounds_ne (Ne.symm hr')]
theorem run_next_any {w : World} {r rm clk : Nat} {seen : Array Nat} {es : Array MapEntry} (hi : w.heap[r]? = some (.mapIter (some rm) clk seen clk)) (hm : w.heap[rm]? = some (.map es clk)) (hold : ∀ x ∈ es.toList, x.born < clk) (ty : TypeId) :
    ((leftOf es seen).size = 0 ∧ (Instr.next (.pointer (some ⟨r, 0, none⟩)) false ty).run P w = .ok (.tuple #[.bool false]) w) ∨
    ∃ e ∈ (leftOf es seen).toList, ∃ w1 : World, WU w r (.mapIter (some rm) clk (seen.push e.born) clk) w1 ∧ (Instr.next (.pointer (some ⟨r, 0, none⟩)) false ty).run P w = .ok (.tuple #[.bool true, e.key, e.val]) w1 := by
  simp only [Instr.next, getObj, Sem.run_bind, Sem.run, hi, hm, Result.andThen, next_test_false seen es clk clk hold (Nat.le_refl _), Bool.false_eq_true, if_false]
  unfold leftOf
  have hmem : ∀ x ∈ (Array.filter (fun e => !seen.contains e.born) es).toList, x.born < clk := fun x hx => hold x (by simp at hx ⊢; exact hx.1)
  generalize Array.filter (fun e => !seen.contains e.born) es = L at hmem ⊢
  have e1 : L.filter (fun x => decide (x.born < clk)) = L := Array.filter_eq_self.2 (fun x hx => by simpa using hmem x (by simpa using hx))
  have e2 : L.filter (fun x => decide (x.born ≥ clk)) = #[] := by
    rw [Array.filter_eq_empty_iff]
    intro x hx
    have := hmem x (by simpa using hx)
    simp
    omega
  simp only [e1, e2, Array.append_empty]
  by_cases h0 : L.size = 0
  · left
    have : L = #[] := Array.eq_empty_of_size_eq_zero h0
    subst this
    refine ⟨rfl, ?_⟩
    simp [choose, Sem.run, Question.forced]
  · right
    have hne : L.isEmpty = false := by simp [Array.isEmpty, h0]
    simp only [hne, Bool.false_eq_true, if_false, Array.empty_append, Array.size_map]
    have hch : ∃ (j : Nat) (w1 : World), j < L.size ∧ (w1.heap = w.heap ∧ w1.os = w.os ∧ w1.tape = w.tape ∧ w1.output = w.output) ∧ (choose (Question.mapNext L.size)).run P w = .ok j w1 := by
      by_cases hf : L.size ≤ 1
      · exact ⟨0, w, by omega, ⟨rfl, rfl, rfl, rfl⟩, by simp [choose, Sem.run, Question.forced, hf]⟩
      · exact ⟨_, w.drew, Nat.mod_lt _ (by omega), ⟨rfl, rfl, rfl, rfl⟩, by
          simp only [choose, Sem.run, Question.forced, decide_eq_true_eq, hf, if_false, Question.cut]
          rfl⟩
    obtain ⟨j, w1, hj, ⟨a1, a2, a3, a4⟩, hrun⟩ := hch
    refine ⟨L[j], by simp, _, wu_set hi a1 a2 a3 a4, ?_⟩
    have hi1 : w1.heap[r]? = some (.mapIter (some rm) clk seen clk) := by rw [a1]; exact hi
    simp only [hrun, Array.getElem?_map, Array.getElem?_eq_getElem hj, Option.map_some, Sem.run_bind, setObj, Sem.run, hi1, Result.andThen]
    rfl
theorem run_entry_any {w : World} {r rm clk since : Nat} {seen : Array Nat} {es : Array MapEntry} {e : MapEntry} (hi : w.heap[r]? = some (.mapIter (some rm) since (seen.push e.born) clk)) (hm : w.heap[rm]? = some (.map es clk)) (he : e ∈ es.toList) (hn : (es.toList.map (·.born)).Nodup) :
    (Instr.entry (.pointer (some ⟨r, 0, none⟩))).run P w = .ok (.tuple #[e.key, e.val]) w := by
  have hf : es.find? (·.born == e.born) = some e := by rw [← Array.find?_toList]; exact find_born e es.toList hn he
  simp only [Instr.entry, getObj, Sem.run_bind, Sem.run, hi, hm, Result.andThen, Array.back?_push, bne_self_eq_false, Bool.false_eq_true, if_false, hf]
  rfl
theorem ER.born {R : Ren} : ∀ {l : List (V × V × Nat)} {l' : List MapEntry}, ER R l l' → l'.map (·.born) = l.map (·.2.2)
  | [], [], _ => rfl
  | e :: es, e' :: es', ⟨⟨_, _, h3⟩, k⟩ => by rw [List.map_cons, List.map_cons, h3, ER.born k]
theorem ER.to {R : Ren} : ∀ {es : List (V × V × Nat)} {es' : List MapEntry}, ER R es es' → ∀ (i : Nat) (e' : MapEntry), es'[i]? = some e' → ∃ e, es[i]? = some e ∧ VR R e.1 e'.key ∧ VR R e.2.1 e'.val ∧ e'.born = e.2.2
  | [], [], _, i, e', h => by simp at h
  | e :: es, e1 :: es', ⟨h1, k⟩, i, e', h => by
    cases i with
    | zero => simp at h; subst h; exact ⟨e, rfl, h1⟩
    | succ i => exact ER.to k i e' (by simpa using h)
theorem ER.len {R : Ren} : ∀ {es : List (V × V × Nat)} {es' : List MapEntry}, ER R es es' → es'.length = es.length
  | [], [], _ => rfl
  | _ :: _, _ :: _, ⟨_, k⟩ => by rw [List.length_cons, List.length_cons, ER.len k]

/-! what is kept of a round -/
theorem DR.down {n : Nat} {R R1 : Ren} (hd : Dn n R R1) : ∀ {l : List Nat} {ds : List Deferred}, (∀ b, b ∈ l → b < n) → DR R1 l ds → DR R l ds
  | [], [], _, _ => trivial
  | b :: bs, _ :: _, hl, ⟨⟨r, h, e⟩, k⟩ => ⟨⟨r, by rw [← hd.bm b (hl b (by simp))]; exact h, e⟩, DR.down hd (fun x hx => hl x (by simp [hx])) k⟩
/-- the heap of a state, beside the heap at the loop's head -/
structure HK (c : MC) (s : St) : Prop where
  dom : ∀ b, (c.heap s).objs.get b = none ↔ c.objs.get b = none
  root : ∀ b o0 o, c.objs.get b = some o0 → (c.heap s).objs.get b = some o → rootO b o = rootO b o0 ∧ kindO o = kindO o0
  keep : ∀ b o0, c.objs.get b = some o0 → rootO b o0 < c.lo → (c.heap s).objs.get b = some o0
structure MCOk (c : MC) : Prop where
  wf : WF ⟨c.objs, c.next, c.grps, big⟩
theorem HK.some {c : MC} {s : St} (h : HK c s) {b : Nat} {o : EO} (ho : (c.heap s).objs.get b = some o) : ∃ o0, c.objs.get b = some o0 ∧ rootO b o = rootO b o0 ∧ kindO o = kindO o0 := by
  cases h0 : c.objs.get b with
  | none => rw [(h.dom b).2 h0] at ho; cases ho
  | some o0 => exact ⟨o0, rfl, h.root b o0 o h0 ho⟩
theorem HK.wf {c : MC} (hc : MCOk c) {s : St} (h : HK c s) : WF (c.heap s) := by
  refine ⟨fun b o ho => ?_, fun b o ho => ?_, fun g hg b b' o o' h1 h2 e1 e2 => ?_, hc.wf.gdom⟩
  · obtain ⟨o0, a1, _⟩ := h.some ho; exact hc.wf.lt b o0 a1
  · obtain ⟨o0, a1, a2, _⟩ := h.some ho; rw [a2]; exact hc.wf.root b o0 a1
  · obtain ⟨p, a1, a2, _⟩ := h.some h1
    obtain ⟨q, b1, b2, _⟩ := h.some h2
    exact hc.wf.uniq g hg b b' p q a1 b1 (a2.symm.trans e1) (b2.symm.trans e2)

theorem mkSt_some {c : MC} {a : EA} {H : EH} {s : St} (h : mkSt c a H = some s) :
    a.n = c.n ∧ a.df = c.df ∧ c.lo ≤ H.low ∧ (∀ g, c.lo ≤ g → g < c.next → H.grps.get g = c.grps.get g) ∧ (c.lo ≤ c.m → H.objs.get c.m = some (.map c.es c.clk)) ∧
    H.next ≤ c.nx ∧ ptrIs (getD' s.tm c.it) c.itn = true ∧ s.tm = cleanT c.next c.base a.tm c.n ∧ s.dl.length = c.next - c.lo ∧ ∀ j, j < c.next - c.lo → s.dl[j]? = some (H.objs.get (c.lo + j)) ∧ ∀ o, H.objs.get (c.lo + j) = some o → oldO c.next o = true := by
  unfold mkSt at h
  cases h1 : Nat.beq a.n c.n with
  | false => rw [h1] at h; cases h
  | true =>
  rw [h1] at h
  simp only [cond_true] at h
  cases h2 : eqNL a.df c.df with
  | false => rw [h2] at h; cases h
  | true =>
  rw [h2] at h
  simp only [cond_true] at h
  cases h3 : Nat.ble c.lo H.low with
  | false => rw [h3] at h; cases h
  | true =>
  rw [h3] at h
  simp only [cond_true] at h
  cases h4 : eqGR c.grps H.grps (Nat.sub c.next c.lo) c.lo with
  | false => rw [h4] at h; cases h
  | true =>
  rw [h4] at h
  simp only [cond_true] at h
  cases h5 : mapSame c H with
  | false => rw [h5] at h; cases h
  | true =>
  rw [h5] at h
  simp only [cond_true] at h
  cases h8 : Nat.ble H.next c.nx with
  | false => rw [h8] at h; cases h
  | true =>
  rw [h8] at h
  simp only [cond_true] at h
  cases h6 : collR c.next H.objs (Nat.sub c.next c.lo) c.lo with
  | none => rw [h6] at h; cases h
  | some dl =>
    rw [h6] at h
    have h : cond (ptrIs (getD' (cleanT c.next c.base a.tm c.n) c.it) c.itn) (some (⟨cleanT c.next c.base a.tm c.n, dl⟩ : St)) none = some s := h
    cases h7 : ptrIs (getD' (cleanT c.next c.base a.tm c.n) c.it) c.itn with
    | false => rw [h7] at h; cases h
    | true =>
    rw [h7] at h
    cases h
    obtain ⟨k1, k2⟩ := collR_some h6
    refine ⟨nb h1, eqNL_eq h2, Nat.le_of_ble_eq_true h3, fun g g1 g2 => ?_, fun hm => ?_, Nat.le_of_ble_eq_true h8, h7, rfl, k1, k2⟩
    · have := eqGR_get h4 (g - c.lo) (by show g - c.lo < c.next - c.lo; omega)
      rw [show c.lo + (g - c.lo) = g by omega] at this
      exact this.symm
    · unfold mapSame at h5
      rw [cond_blt, if_neg (by omega)] at h5
      split at h5
      · rename_i o ho
        rw [ho, eqO_eq h5]
      · cases h5
theorem get_heap {c : MC} {a : EA} {H : EH} {s : St} (h : mkSt c a H = some s) {b : Nat} (hb : c.lo ≤ b) (hb' : b < c.next) (hd : H.objs.get b = none → c.objs.get b = none) : (c.heap s).objs.get b = H.objs.get b := by
  obtain ⟨_, _, _, _, _, _, _, _, k1, k2⟩ := mkSt_some h
  show (setR s.dl c.lo c.objs).get b = _
  rw [get_setR, if_pos (by omega), (k2 (b - c.lo) (by omega)).1, show c.lo + (b - c.lo) = b by omega]
  cases hx : H.objs.get b with
  | none => exact hd hx
  | some o => rfl
theorem get_heap_out {c : MC} {a : EA} {H : EH} {s : St} (h : mkSt c a H = some s) {b : Nat} (hb : ¬ (c.lo ≤ b ∧ b < c.next)) : (c.heap s).objs.get b = c.objs.get b := by
  obtain ⟨_, _, _, _, _, _, _, _, k1, k2⟩ := mkSt_some h
  show (setR s.dl c.lo c.objs).get b = _
  rw [get_setR, if_neg (by omega)]

/-- from a state, by a step that is kept in step, to the next state: the elder renaming serves -/
theorem trunc {c : MC} (hc : MCOk c) {s s' : St} (hk : HK c s) {R R1 : Ren} {w w1 : World} {a1 : EA} {H1 : EH} {A1 : Act} (hr : Rel R All (c.heap s) w) (hdf : ∀ b, b ∈ c.df → b < c.next) (hsim : SimA R R1 (c.heap s) H1 w w1) (ha : AR R1 a1 A1) (h : mkSt c a1 H1 = some s') :
    HK c s' ∧ Rel R All (c.heap s') w1 ∧ AR R (c.act s') A1 := by
  obtain ⟨m1, m2, m3, m4, _, _, _, m5, m6, m7⟩ := mkSt_some h
  have hwf := hk.wf hc
  have himg := hr.img
  have hd : Dn c.next R R1 := ⟨fun b hb => hsim.rx.same b (by show ¬ (c.next ≤ b ∧ _); omega), fun b r d hb e => hsim.rx.zs r (himg b r d e)⟩
  -- each elder object, behind the round
  have hdom : ∀ b, b < c.next → (H1.objs.get b = none ↔ c.objs.get b = none) := fun b hb => by
    constructor
    · intro e
      refine (hk.dom b).1 ?_
      cases h0 : (c.heap s).objs.get b with
      | none => rfl
      | some o => obtain ⟨o', p, _⟩ := hsim.es.old b o h0; rw [e] at p; cases p
    · intro e
      cases h0 : H1.objs.get b with
      | none => rfl
      | some o => obtain ⟨o', p⟩ := hsim.es.back b o h0 hb; rw [(hk.dom b).2 e] at p; cases p
  have hget : ∀ b, b < c.next → (c.heap s').objs.get b = H1.objs.get b := fun b hb => by
    by_cases hl : c.lo ≤ b
    · exact get_heap h hl hb (hdom b hb).1
    · rw [get_heap_out h (by omega)]
      cases h0 : c.objs.get b with
      | none => exact ((hdom b hb).2 h0).symm
      | some o0 =>
        have hr : rootO b o0 < c.lo := by have := hc.wf.root b o0 h0; omega
        have e := hk.keep b o0 h0 hr
        exact ((hsim.es.keep b o0 e (fun q => by have q : H1.low ≤ rootO b o0 := q; omega)).1).symm
  have hnone : ∀ b, c.next ≤ b → (c.heap s').objs.get b = none := fun b hb => by
    rw [get_heap_out h (by omega)]
    cases h0 : c.objs.get b with
    | none => rfl
    | some o => have := hc.wf.lt b o h0; exact absurd this (by show ¬ b < c.next; omega)
  have hlt : ∀ b o, (c.heap s').objs.get b = some o → b < c.next := fun b o e => by
    rcases Nat.lt_or_ge b c.next with q | q
    · exact q
    · rw [hnone b q] at e; cases e
  have hk' : HK c s' := by
    refine ⟨fun b => ?_, fun b o0 o e0 e => ?_, fun b o0 e0 hr => ?_⟩
    · rcases Nat.lt_or_ge b c.next with q | q
      · rw [hget b q]; exact hdom b q
      · rw [hnone b q]
        cases h0 : c.objs.get b with
        | none => simp
        | some o => have := hc.wf.lt b o h0; exact absurd this (by show ¬ b < c.next; omega)
    · have hb := hlt b o e
      rw [hget b hb] at e
      obtain ⟨o1, p⟩ := hsim.es.back b o e hb
      obtain ⟨o2, q1, q2, q3⟩ := hsim.es.old b o1 p
      rw [e] at q1; cases q1
      obtain ⟨r1, r2⟩ := hk.root b o0 o1 e0 p
      exact ⟨q2.trans r1, q3.trans r2⟩
    · have hb : b < c.next := hc.wf.lt b o0 e0
      have e := hk.keep b o0 e0 hr
      rw [hget b hb]
      exact (hsim.es.keep b o0 e (fun q => by have q : H1.low ≤ rootO b o0 := q; omega)).1
  refine ⟨hk', ⟨fun b r d e => Nat.lt_of_lt_of_le (himg b r d e) hsim.fr.size, fun b o r d e hm => ?_, fun b b' o o' r d d' e e' hm hm' => ?_⟩, ⟨⟨?_, fun i hi => ?_, fun i => ?_⟩, ?_⟩⟩
  · have hb := hlt b o e
    rw [hget b hb] at e
    have hor := hsim.rel.obj b o r d e (by rw [hd.bm b hb]; exact hm)
    have hold : oldO c.next o = true ∨ (c.heap s).objs.get b = some o := by
      by_cases hl : c.lo ≤ b
      · have := (m7 (b - c.lo) (by omega)).2
        rw [show c.lo + (b - c.lo) = b by omega] at this
        exact .inl (this o e)
      · obtain ⟨o1, p⟩ := hsim.es.back b o e hb
        obtain ⟨o0, p0, p1, _⟩ := hk.some p
        have hr : rootO b o0 < c.lo := by have := hc.wf.root b o0 p0; omega
        have := hk.keep b o0 p0 hr
        have q := (hsim.es.keep b o0 this (fun q => by have q : H1.low ≤ rootO b o0 := q; omega)).1
        rw [e] at q; cases q
        exact .inr this
    have hvd : (c.heap s').vd b o = true → H1.vd b o = true := by
      cases o with
      | cells cc lo sz g =>
        intro v
        have v : EH.valid (c.heap s') b sz g = true := v
        show EH.valid H1 b sz g = true
        have hg : H1.grps.get g = c.grps.get g := by
          obtain ⟨o1, p⟩ := hsim.es.back b _ e hb
          obtain ⟨o2, q1, q2, _⟩ := hsim.es.old b o1 p
          rw [e] at q1; cases q1
          have q2 : g = rootO b o1 := q2
          have hgb : g ≤ b := by rw [q2]; exact hwf.root b o1 p
          by_cases hl : c.lo ≤ g
          · exact m4 g hl (by omega)
          · have := (hsim.es.keep b o1 p (fun q => by have q : H1.low ≤ rootO b o1 := q; omega)).2
            rw [← q2] at this
            exact this
        unfold EH.valid at v ⊢
        rw [hg]
        exact v
      | _ => exact id
    rcases hold with ho | ho
    · exact (hor.down hd ho hb hm hvd)
    · have hroot : rootO b o < c.lo ∨ c.lo ≤ b := by
        by_cases hl : c.lo ≤ b
        · exact .inr hl
        · obtain ⟨o0, p0, p1, _⟩ := hk.some ho
          have := hc.wf.root b o0 p0
          exact .inl (by omega)
      rcases hroot with hroot | hl
      · refine (hr.obj b o r d ho hm).mono (.refl R) hm (hsim.fr.keep r (himg b r d hm) fun b' o' d' ho' hm' q => ?_) (fun h => h) (fun v => by cases o <;> exact v)
        have q : H1.low ≤ rootO b' o' := q
        rcases hr.inj b b' o o' r d d' ho ho' hm hm' with e1 | ⟨_, _, _, e1⟩
        · subst e1; rw [ho] at ho'; cases ho'; omega
        · omega
      · have := (m7 (b - c.lo) (by omega)).2
        rw [show c.lo + (b - c.lo) = b by omega] at this
        exact (hor.down hd (this o e) hb hm hvd)
  · have hb := hlt b o e
    have hb' := hlt b' o' e'
    rw [hget b hb] at e
    rw [hget b' hb'] at e'
    exact hsim.rel.inj b b' o o' r d d' e e' (by rw [hd.bm b hb]; exact hm) (by rw [hd.bm b' hb']; exact hm')
  · show A1.tmps.size = c.n
    rw [ha.tm.size, m1]
  · show s'.tm.get i = none
    rw [m5, get_cleanT, if_neg (by have hi : c.n ≤ i := hi; omega)]
  · show VR R (getD' s'.tm i) _
    unfold getD'
    rw [m5, get_cleanT]
    by_cases hi : i < c.n
    · rw [if_pos hi]
      show VR R (cleanV _ _ _) _
      have hv := ha.tm.val i
      unfold cleanV
      split
      · exact .bad _
      · cases ho : oldV c.next (getD' a1.tm i) with
        | true => exact hv.down hd ho
        | false => exact .bad _
    · rw [if_neg hi]; exact .bad _
  · show DR R c.df A1.defers
    have := ha.df
    rw [m2] at this
    exact DR.down hd hdf this
end Go.Ev
