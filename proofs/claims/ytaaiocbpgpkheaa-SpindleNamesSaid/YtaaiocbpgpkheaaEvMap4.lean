/- Loops over a map: the evaluator's answer is the machine's. -/
import Derived.Test.YtaaiocbpgpkheaaEvMap3
namespace Go.Ev
open Go

variable {P : Program}

theorem ltL_get {n : Nat} : ∀ {l : List Nat}, ltL n l = true → ∀ x, x ∈ l → x < n
  | [], _, x, h => by cases h
  | y :: l, h, x, hx => by
    have h : cond (Nat.blt y n) (ltL n l) false = true := h
    obtain ⟨h1, h2⟩ := cond_tt h
    cases hx with
    | head => exact blt_true h1
    | tail _ hx => exact ltL_get h2 x hx
theorem badT_get : ∀ (l : List Oper) (tm : T V) (i : Nat), (badT l tm).get i = tm.get i ∨ (badT l tm).get i = some .bad
  | [], tm, i => .inl rfl
  | o :: l, tm, i => by
    show (match o.dst with | some t => (badT l tm).set t .bad | none => badT l tm).get i = _ ∨ (match o.dst with | some t => (badT l tm).set t .bad | none => badT l tm).get i = _
    cases o.dst with
    | none => exact badT_get l tm i
    | some t =>
      simp only [T.get_set]
      by_cases e : i = t
      · rw [if_pos e]; exact .inr rfl
      · rw [if_neg e]; exact badT_get l tm i
theorem minN_lt (a b c : Nat) : minN a (minN b c) ≤ a ∧ minN a (minN b c) ≤ b ∧ minN a (minN b c) ≤ c := by simp only [minN_eq]; omega

theorem tmOk_get {n : Nat} {ml : ML} (h : tmOk n ml = true) : ml.t1 < n ∧ ml.t2 < n ∧ ml.t3 < n ∧ ml.t1 ≠ ml.t2 ∧ ml.it ≠ ml.t1 ∧ ml.it ≠ ml.t2 := by
  unfold tmOk at h
  obtain ⟨h1, h⟩ := cond_tt h
  obtain ⟨h2, h⟩ := cond_tt h
  obtain ⟨h3, h⟩ := cond_tt h
  refine ⟨blt_true h1, blt_true h2, blt_true h3, fun e => ?_, fun e => ?_, fun e => ?_⟩
  · have : Nat.beq ml.t1 ml.t2 = true := by rw [nbeq]; exact decide_eq_true e
    rw [this] at h; cases h
  · have : Nat.beq ml.it ml.t1 = true := by rw [nbeq]; exact decide_eq_true e
    rw [this] at h
    cases hh : Nat.beq ml.t1 ml.t2 <;> rw [hh] at h <;> cases h
  · have : Nat.beq ml.it ml.t2 = true := by rw [nbeq]; exact decide_eq_true e
    rw [this] at h
    cases hh : Nat.beq ml.t1 ml.t2 <;> rw [hh] at h <;> cases hh' : Nat.beq ml.it ml.t1 <;> rw [hh'] at h <;> cases h

theorem mapLoop_sound {f : Task → Option Res} (hs : Sound P f) {ro : Option Nat} {body : Code} {ml : ML} (hml : mapLoop body = some ml) {a : EA} {H : EH} {r : Res} (h : evMapLoop P f ro ml a H = some r) :
    Spec P (.code ro (.loop body) a H) r := by
  obtain ⟨i1, i2, o1, o3, hb⟩ := mapLoop_some hml
  unfold evMapLoop at h
  cases ht : tmOk a.n ml with
  | false => rw [ht] at h; cases h
  | true =>
  rw [ht] at h
  simp only [cond_true] at h
  have ht := tmOk_get ht
  split at h
  · rename_i itn hit
    split at h
    · rename_i m c0 hio
      split at h
      · rename_i es clk hmo
        cases k1 : Nat.beq c0 clk with
        | false => rw [k1] at h; cases h
        | true =>
        rw [k1] at h
        simp only [cond_true] at h
        have := nb k1
        subst this
        cases k2 : bornsOk c0 es 0 with
        | false => rw [k2] at h; cases h
        | true =>
        rw [k2] at h
        simp only [cond_true] at h
        obtain ⟨_, hborn, hnd⟩ := bornsOk_lt k2
        rw [cond_beq] at h
        by_cases hmi : m = itn
        · rw [if_pos hmi] at h; cases h
        rw [if_neg hmi] at h
        cases k3 : ltL H.next a.df with
        | false => rw [k3] at h; cases h
        | true =>
        rw [k3] at h
        simp only [cond_true] at h
        have hdf := ltL_get k3
        cases k4 : roOk H.next ro with
        | false => rw [k4] at h; cases h
        | true =>
        rw [k4] at h
        simp only [cond_true] at h
        unfold evMap1 at h
        rw [fN_eq] at h
        generalize lowM P f ro ml _ _ es = lo at h
        generalize hbase : badT ml.tl (((a.tm.set ml.t1 .bad).set ml.t2 .bad).set ml.t3 .bad) = base at h
        generalize hc : (⟨H.objs.del itn, H.next, H.grps, a.n, a.df, base, m, c0, es, ml.it, itn, Nat.add H.next 4096, lo⟩ : MC) = c at h
        unfold evMap2 at h
        split at h
        · rename_i s0 hs0
          unfold afterBfs at h
          split at h
          · rename_i st tab hbfs
            cases k5 : commOk tab (lenS' st) (lenE c.es) with
            | false => rw [k5] at h; cases h
            | true =>
            rw [k5] at h
            simp only [cond_true] at h
            unfold endM at h
            split at h
            · rename_i sF hsF
              cases h
              have hlenE : ∀ l : List (V × V × Nat), lenE l = l.length := fun l => by
                induction l with
                | nil => rfl
                | cons x l ih => show Nat.succ (lenE l) = _; rw [ih]; rfl
              rw [lenS'_eq, hlenE] at k5
              rw [hlenE, nth'_eq, endOf_eq] at hsF
              obtain ⟨b1, b2, b3⟩ := bfs_some hbfs (Nat.zero_le _)
              have hst0 : st[0]? = some s0 := pre_get b1 (by simp)
              refine ⟨(fun v H' e => by cases e), by show H.next ≤ c.nx; rw [← hc]; exact Nat.le_add_right _ _, c.es.length + 1, fun R w A n rr hr hw hf ha hro => ?_⟩
              have hcn : c.next = H.next := by rw [← hc]
              have hcx : c.nx = H.next + 4096 := by rw [← hc]
              have hco : ∀ b, c.objs.get b = if b = itn then none else H.objs.get b := fun b => by rw [← hc]; exact T.get_del _ _ _
              have hcg : c.grps = H.grps := by rw [← hc]
              have hce : c.es = es := by rw [← hc]
              have hcm : c.m = m := by rw [← hc]
              have hck : c.clk = c0 := by rw [← hc]
              have hci : c.it = ml.it := by rw [← hc]
              have hcit : c.itn = itn := by rw [← hc]
              have hcna : c.n = a.n := by rw [← hc]
              have hcd : c.df = a.df := by rw [← hc]
              have hcb : c.base = base := by rw [← hc]
              have hlt := hw.lt
              have hobj : ∀ b o, c.objs.get b = some o → b ≠ itn ∧ H.objs.get b = some o := fun b o e => by
                rw [hco] at e
                by_cases q : b = itn
                · rw [if_pos q] at e; cases e
                · rw [if_neg q] at e; exact ⟨q, e⟩
              have hobj' : ∀ b o, b ≠ itn → H.objs.get b = some o → c.objs.get b = some o := fun b o q e => by rw [hco, if_neg q]; exact e
              -- the iterator, the map
              have hvit : VR R (a.get ml.it) (A.eval (.tmp ml.it)) := ha.eval (.tmp ml.it)
              rw [hit] at hvit
              obtain ⟨rit, hrit⟩ : ∃ rit, R.bm itn = some (rit, 0) := by
                generalize A.eval (.tmp ml.it) = x at hvit
                cases hvit with
                | ptr hm ho => rename_i r d o; have hd : d = 0 := by omega
                               subst hd; exact ⟨_, hm⟩
              obtain ⟨_, ia, isn, ise, ila, ih1, ih2⟩ := hr.obj itn _ rit 0 hio hrit
              obtain ⟨rfl, rfl, rfl, rm, rfl, hrm⟩ := ih2 trivial
              have hitl := hlt itn _ hio
              have hml' := hlt m _ hmo
              have hnoit : ∀ b o d, c.objs.get b = some o → R.bm b = some (rit, d) → False := fun b o d ho hb' => by
                obtain ⟨q1, q2⟩ := hobj b o ho
                rcases hr.inj b itn o _ rit d 0 q2 hio hb' hrit with e | ⟨_, _, e, _⟩
                · exact q1 e
                · cases e
              have hwf : MCOk c := ⟨⟨fun b o e => by show b < c.next; rw [hcn]; exact hlt b o (hobj b o e).2, fun b o e => hw.root b o (hobj b o e).2,
                fun g hg b b' o o' h1 h2 e1 e2 => hw.uniq g (by rw [← hcg]; exact hg) b b' o o' (hobj b o h1).2 (hobj b' o' h2).2 e1 e2, fun g x e => by show g < c.next; rw [hcn]; exact hw.gdom g x (by rw [← hcg]; exact e)⟩⟩
              have hheap0 : ∀ b, (c.heap s0).objs.get b = c.objs.get b := fun b => by
                by_cases q : c.lo ≤ b ∧ b < c.next
                · have := get_heap hs0 q.1 q.2 (by rw [← hc]; exact fun e => e)
                  rw [this, ← hc]
                · exact get_heap_out hs0 q
              have hk0 : HK c s0 := ⟨fun b => by rw [hheap0], fun b o0 o e0 e => by rw [hheap0, e0] at e; cases e; exact ⟨rfl, rfl⟩, fun b o0 e0 _ => by rw [hheap0]; exact e0⟩
              have hvd : ∀ b o, (c.heap s0).vd b o = true → H.vd b o = true := fun b o v => by
                cases o with
                | cells cc l1 sz g =>
                  have v : EH.valid (c.heap s0) b sz g = true := v
                  show EH.valid H b sz g = true
                  unfold EH.valid at v ⊢
                  rw [← hcg]; exact v
                | _ => exact v
              obtain ⟨q1, q2, q3, q4, q5, q10, q6, q7, q8, q9⟩ := mkSt_some hs0
              have hrel0 : Rel R All (c.heap s0) w := ⟨hr.img, fun b o r d e hm => by
                  rw [hheap0] at e
                  exact (hr.obj b o r d (hobj b o e).2 hm).mono (.refl _) hm rfl id (hvd b o),
                fun b b' o o' r d d' e e' hm hm' => by
                  rw [hheap0] at e e'
                  exact hr.inj b b' o o' r d d' (hobj b o e).2 (hobj b' o' e').2 hm hm'⟩
              have hbv : ∀ i, getD' base i = .bad ∨ getD' base i = getD' a.tm i := fun i => by
                unfold getD'
                rw [← hbase]
                rcases badT_get ml.tl (((a.tm.set ml.t1 .bad).set ml.t2 .bad).set ml.t3 .bad) i with e | e
                · rw [e]
                  simp only [T.get_set]
                  by_cases e1 : i = ml.t3
                  · rw [if_pos e1]; exact .inl rfl
                  · rw [if_neg e1]
                    by_cases e2 : i = ml.t2
                    · rw [if_pos e2]; exact .inl rfl
                    · rw [if_neg e2]
                      by_cases e3 : i = ml.t1
                      · rw [if_pos e3]; exact .inl rfl
                      · rw [if_neg e3]; exact .inr rfl
                · rw [e]; exact .inl rfl
              have hact0 : AR R (c.act s0) A := by
                refine ⟨⟨?_, fun i hi => ?_, fun i => ?_⟩, ?_⟩
                · show A.tmps.size = c.n
                  rw [hcna]; exact ha.tm.size
                · show s0.tm.get i = none
                  rw [q7, get_cleanT, if_neg (by have hi : c.n ≤ i := hi; omega)]
                · show VR R (getD' s0.tm i) _
                  have hd : getD' s0.tm i = .bad ∨ getD' s0.tm i = getD' a.tm i := by
                    have e1 : getD' s0.tm i = if i < c.n then cleanV c.next (getD' c.base i) (getD' base i) else .bad := by
                      unfold getD'
                      rw [q7, get_cleanT]
                      by_cases hi : i < c.n
                      · rw [if_pos hi, if_pos hi]; rfl
                      · rw [if_neg hi, if_neg hi]
                    rw [e1]
                    by_cases hi : i < c.n
                    · rw [if_pos hi]
                      unfold cleanV
                      split
                      · exact .inl rfl
                      · cases oldV c.next (getD' base i) with
                        | false => exact .inl rfl
                        | true => exact hbv i
                    · rw [if_neg hi]; exact .inl rfl
                  rcases hd with e | e
                  · rw [e]; exact .bad _
                  · rw [e]; exact ha.tm.val i
                · show DR R c.df A.defers
                  rw [hcd]; exact ha.df
              have hmp0 : (c.heap s0).objs.get c.m = some (.map c.es c.clk) := by
                rw [hheap0, hcm, hce, hck]; exact hobj' m _ hmi hmo
              have hl : LC P f ro rr ml c R rit rm := ⟨hwf, by rw [hcna]; exact ht, hci, by rw [hcit]; exact hrit, by rw [hcm]; exact hrm, hnoit,
                fun b h1 h2 => hf b (by omega) (by show b < c.nx; omega), fun b hb => by rw [hcn]; exact hdf b (by rw [← hcd]; exact hb), hro, by rw [hce, hck]; exact ⟨fun e he => (hborn e he).2, hnd⟩⟩
              have hI0 : IM c R w rit rm #[] s0 A w := ⟨hk0, hmp0, q6, hrel0, hact0, by rw [hck]; exact ih1, rfl, rfl, rfl, Nat.le_refl _, fun _ _ _ _ => rfl⟩
              refine rounds_sound hs hl hb (w0 := w) (fin := (List.range c.es.length).foldl (tabf tab) 0) (st := st) (tab := tab) (by omega) (fun i row e => by have := b3 i row e; rwa [Nat.zero_add] at this) k5 (fun s seen A' w' A2 hs' hI ha2 => ?_)
                c.es.length (List.range c.es.length) 0 s0 #[] A w (by simp) (List.nodup_range) (fun x hx => List.mem_range.1 hx) hst0 rfl (fun j e he => by
                  have := (List.getElem?_eq_some_iff.1 he).1
                  simp [this]) hI0
              rw [hsF] at hs'
              cases hs'
              have hminN := minN_lt H.low c.lo itn
              have hoF : ∀ b, ((setR sF.dl c.lo c.objs).set itn (.iter none)).get b = if b = itn then some (.iter none) else (c.heap sF).objs.get b := fun b => T.get_set _ _ _ _
              have hF : ∀ b o, ((setR sF.dl c.lo c.objs).set itn (.iter none)).get b = some o → ∃ oH, H.objs.get b = some oH ∧ rootO b o = rootO b oH ∧ kindO o = kindO oH := fun b o e => by
                rw [hoF] at e
                by_cases q : b = itn
                · rw [if_pos q] at e; cases e; subst q; exact ⟨_, hio, rfl, rfl⟩
                · rw [if_neg q] at e
                  obtain ⟨o0, p0, p1, p2⟩ := hI.hk.some e
                  exact ⟨o0, (hobj b o0 p0).2, p1, p2⟩
              refine ⟨R, ⟨⟨?_, ?_, fun b o ho => ?_, fun b o ho hn => ?_, fun b o ho hb' => ?_, ⟨fun b o ho => ?_, fun b o ho => ?_, fun g hg b b' o o' h1 h2 e1 e2 => ?_, fun g x e => ?_⟩, fun g hg => hg, fun b o ho hb' => ?_⟩, ⟨fun _ _ => rfl, fun _ _ => rfl, fun b r' d h1 h2 e => ?_⟩,
                ⟨hI.os, hI.tape, hI.output, hI.size, fun r' hr' hn => ?_⟩, ⟨fun b r' d e => hI.rel.img b r' d e, fun b o r' d ho hb' => ?_, fun b b' o o' r' d d' h1 h2 e1 e2 => ?_⟩⟩, ⟨rfl, ha2⟩⟩
              · show H.next ≤ c.nx; omega
              · exact hminN.1
              · show ∃ o', ((setR sF.dl c.lo c.objs).set itn (.iter none)).get b = some o' ∧ _
                rw [hoF]
                by_cases q : b = itn
                · subst q; rw [hio] at ho; cases ho; exact ⟨_, if_pos rfl, rfl, rfl⟩
                · rw [if_neg q]
                  have h0 := hobj' b o q ho
                  cases h1 : (c.heap sF).objs.get b with
                  | none => rw [(hI.hk.dom b).1 h1] at h0; cases h0
                  | some o' => exact ⟨o', rfl, hI.hk.root b o o' h0 h1⟩
              · have hn : ¬ minN H.low (minN c.lo itn) ≤ rootO b o := hn
                show ((setR sF.dl c.lo c.objs).set itn (.iter none)).get b = some o ∧ c.grps.get _ = _
                rw [hoF]
                by_cases q : b = itn
                · subst q; rw [hio] at ho; cases ho
                  exact absurd hminN.2.2 hn
                · rw [if_neg q]
                  exact ⟨hI.hk.keep b o (hobj' b o q ho) (by omega), by rw [hcg]⟩
              · obtain ⟨oH, p, _⟩ := hF b o ho; exact ⟨oH, p⟩
              · obtain ⟨oH, p, _⟩ := hF b o ho; have := hlt b oH p; show b < c.nx; omega
              · obtain ⟨oH, p, p1, _⟩ := hF b o ho; rw [p1]; exact hw.root b oH p
              · obtain ⟨x, p, p1, _⟩ := hF b o h1
                obtain ⟨y, q, q1', _⟩ := hF b' o' h2
                exact hw.uniq g (by rw [← hcg]; exact hg) b b' x y p q (p1.symm.trans e1) (q1'.symm.trans e2)
              · have := hw.gdom g x (by rw [← hcg]; exact e); show g < c.nx; omega
              · obtain ⟨oH, p, _⟩ := hF b o ho; have := hlt b oH p; omega
              · have := hf b h1 h2; rw [this] at e; cases e
              · have hn : ∀ b o d, H.objs.get b = some o → R.bm b = some (r', d) → ¬ minN H.low (minN c.lo itn) ≤ rootO b o := hn
                by_cases q : r' = rit
                · subst q; exact absurd hminN.2.2 (hn itn _ 0 hio hrit)
                · exact hI.keep r' hr' q fun b o d ho hb' => by
                    have := hn b o d (hobj b o ho).2 hb'
                    omega
              · have ho : ((setR sF.dl c.lo c.objs).set itn (.iter none)).get b = some o := ho
                rw [hoF] at ho
                by_cases q : b = itn
                · rw [if_pos q] at ho; cases ho; subst q
                  rw [hrit] at hb'; cases hb'
                  exact ⟨rfl, _, _, _, _, hI.it, fun _ => trivial⟩
                · rw [if_neg q] at ho
                  exact (hI.rel.obj b o r' d ho hb').mono (.refl _) hb' rfl (fun _ => trivial) (fun v => by cases o <;> exact v)
              · obtain ⟨x, p, p1, p2⟩ := hF b o h1
                obtain ⟨y, q, q1', q2'⟩ := hF b' o' h2
                rcases hr.inj b b' x y r' d d' p q e1 e2 with u | ⟨u1, u2, u3, u4⟩
                · exact .inl u
                · exact .inr ⟨u1, by rw [p2]; exact u2, by rw [q2']; exact u3, by rw [p1, q1']; exact u4⟩
            · cases h
          · cases h
        · cases h
      · cases h
    · cases h
  · cases h
end Go.Ev
