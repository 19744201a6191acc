/- Loops over a map: whichever entry comes next. -/
import Derived.Test.YtaaiocbpgpkheaaEvMap2
namespace Go.Ev
open Go

variable {P : Program}

theorem wp_value {o : Oper} {A : Act} {w w1 : World} {x : Value} {rr : Option Nat} {n : Nat} {K : Act → World → Prop} {Q : Exit → Act → World → Prop} (hd : ∀ c, o.op ≠ .defer c) (hx : (execOp A.eval o).run P w = .ok (.value x) w1) (h : K (A.put o.dst x) w1) :
    o.wpIn (FF rr) n P A w K Q := ⟨fun f _ => FF_fn rr f, by rw [FF_round, Oper.semAt_eq rr A.eval o hd, hx]; exact h⟩
theorem wp_cons {o : Oper} {ops : Array Oper} {l : List Oper} {A : Act} {w : World} {rr : Option Nat} {n : Nat} {Q : Exit → Act → World → Prop} (hg : o.guard = none) (h : o.wpIn (FF rr) n P A w (fun a w => wpListIn (FF rr) n P ops Q l a w) Q) :
    wpListIn (FF rr) n P ops Q (o :: l) A w := by
  show if _ then _ else _
  rw [if_pos (by unfold Region.wanted; rw [hg])]
  exact h
theorem exec_next {o : Oper} {x : Operand} {b : Bool} (h : o.op = .next x b) (ρ : Operand → Value) : execOp ρ o = (do pure (Next.value (← Instr.next (ρ x) b o.type))) := by
  obtain ⟨d, op, t, p, af, g⟩ := o
  have h : op = .next x b := h
  subst h; rfl
theorem exec_entry {o : Oper} {x : Operand} (h : o.op = .entry x) (ρ : Operand → Value) : execOp ρ o = (do pure (Next.value (← Instr.entry (ρ x)))) := by
  obtain ⟨d, op, t, p, af, g⟩ := o
  have h : op = .entry x := h
  subst h; rfl
theorem exec_extract {o : Oper} {x : Operand} {i : Nat} (h : o.op = .extract x i) (ρ : Operand → Value) : execOp ρ o = (do pure (Next.value (← Instr.extract (ρ x) i))) := by
  obtain ⟨d, op, t, p, af, g⟩ := o
  have h : op = .extract x i := h
  subst h; rfl
theorem wp_sem {o : Oper} {A : Act} {w w1 : World} {x : Value} {s : Sem Value} {rr : Option Nat} {n : Nat} {K : Act → World → Prop} {Q : Exit → Act → World → Prop} (hd : ∀ c, o.op ≠ .defer c) (he : execOp A.eval o = (do pure (Next.value (← s)))) (hx : s.run P w = .ok x w1) (h : K (A.put o.dst x) w1) :
    o.wpIn (FF rr) n P A w K Q := wp_value hd (by rw [he, run_bind_ok hx]; rfl) h

theorem ER.at2 {R : Ren} : ∀ {es : List (V × V × Nat)} {es' : List MapEntry}, ER R es es' → ∀ (i : Nat) (e : V × V × Nat), es[i]? = some e → ∃ e', es'[i]? = some e' ∧ e'.born = e.2.2
  | [], [], _, i, e', h => by simp at h
  | e :: es, e1 :: es', ⟨⟨_, _, h1⟩, k⟩, i, e', h => by
    cases i with
    | zero => simp at h; subst h; exact ⟨e1, rfl, h1⟩
    | succ i => exact ER.at2 k i e' (by simpa using h)
theorem List.nodup_inj {α : Type} : ∀ {l : List α}, l.Nodup → ∀ {i j : Nat} (hi : i < l.length) (hj : j < l.length), l[i] = l[j] → i = j
  | x :: l, hn, 0, 0, _, _, _ => rfl
  | x :: l, hn, 0, j + 1, _, hj, e => by
    have := (List.nodup_cons.1 hn).1
    simp only [List.getElem_cons_zero, List.getElem_cons_succ] at e
    exact absurd (e ▸ List.getElem_mem _) this
  | x :: l, hn, i + 1, 0, hi, _, e => by
    have := (List.nodup_cons.1 hn).1
    simp only [List.getElem_cons_zero, List.getElem_cons_succ] at e
    exact absurd (e ▸ List.getElem_mem _) this
  | x :: l, hn, i + 1, j + 1, hi, hj, e => by
    simp only [List.getElem_cons_succ] at e
    rw [List.nodup_inj (List.nodup_cons.1 hn).2 (by simpa using hi) (by simpa using hj) e]
theorem EA.put_at {a : EA} {t : Nat} (h : t < a.n) (v : V) : (a.put (some t) v).eval (.tmp t) = v := by
  show getD' (EA.put a (some t) v).tm t = v
  show getD' (cond (Nat.blt t a.n) _ a).tm t = v
  rw [cond_blt, if_pos h]
  unfold getD'
  rw [T.get_set_eq]
theorem EA.put_ne {a : EA} {t u : Nat} (h : u ≠ t) (v : V) : (a.put (some t) v).eval (.tmp u) = a.eval (.tmp u) := by
  show getD' (cond (Nat.blt t a.n) _ a).tm u = getD' a.tm u
  rw [cond_blt]
  by_cases ht : t < a.n
  · rw [if_pos ht]
    unfold getD'
    rw [T.get_set_ne _ _ h]
  · rw [if_neg ht]
theorem EA.put_n {a : EA} (d : Option Tmp) (v : V) : (a.put d v).n = a.n := by
  cases d with
  | none => rfl
  | some t => show (cond (Nat.blt t a.n) (⟨a.tm.set t v, a.n, a.df⟩ : EA) a).n = a.n; cases Nat.blt t a.n <;> rfl

theorem rel_wu {Q : Ren} {H : EH} {w w1 : World} {r : Nat} {ob : Obj} (hr : Rel Q All H w) (hu : WU w r ob w1) (hun : ∀ b o d, H.objs.get b = some o → Q.bm b = some (r, d) → False) : Rel Q All H w1 :=
  ⟨fun b r' d e => by rw [hu.size]; exact hr.img b r' d e,
   fun b o r' d ho hb => (hr.obj b o r' d ho hb).mono (.refl _) hb (hu.old r' fun e => by subst e; exact hun b o d ho hb) id (fun v => by cases o <;> exact v), hr.inj⟩

/-- the loop, at its head, in one of its states -/
structure IM (c : MC) (Q : Ren) (w0 : World) (rit rm : Nat) (seen : Array Nat) (s : St) (A : Act) (w : World) : Prop where
  hk : HK c s
  mp : (c.heap s).objs.get c.m = some (.map c.es c.clk)
  ptr : ptrIs (getD' s.tm c.it) c.itn = true
  rel : Rel Q All (c.heap s) w
  act : AR Q (c.act s) A
  it : w.heap[rit]? = some (.mapIter (some rm) c.clk seen c.clk)
  os : w.os = w0.os
  tape : w.tape = w0.tape
  output : w.output = w0.output
  size : w0.heap.size ≤ w.heap.size
  keep : ∀ r, r < w0.heap.size → r ≠ rit → (∀ b o d, c.objs.get b = some o → Q.bm b = some (r, d) → rootO b o < c.lo) → w.heap[r]? = w0.heap[r]?

/-- what holds throughout the loop -/
structure LC (P : Program) (f : Task → Option Res) (ro rr : Option Nat) (ml : ML) (c : MC) (Q : Ren) (rit rm : Nat) : Prop where
  wf : MCOk c
  tm : ml.t1 < c.n ∧ ml.t2 < c.n ∧ ml.t3 < c.n ∧ ml.t1 ≠ ml.t2 ∧ ml.it ≠ ml.t1 ∧ ml.it ≠ ml.t2
  it : c.it = ml.it
  qit : Q.bm c.itn = some (rit, 0)
  qm : Q.bm c.m = some (rm, 0)
  noit : ∀ b o d, c.objs.get b = some o → Q.bm b = some (rit, d) → False
  free : ∀ b, c.next ≤ b → b < c.nx → Q.bm b = none
  df : ∀ b, b ∈ c.df → b < c.next
  ro : Ro Q ro rr
  born : (∀ e ∈ c.es, e.2.2 < c.clk) ∧ (c.es.map (·.2.2)).Nodup

theorem noit_heap {f : Task → Option Res} {ro rr : Option Nat} {ml : ML} {c : MC} {Q : Ren} {rit rm : Nat} (hl : LC P f ro rr ml c Q rit rm) {s : St} (hk : HK c s) : ∀ b o d, (c.heap s).objs.get b = some o → Q.bm b = some (rit, d) → False := fun b o d ho hb => by
  obtain ⟨o0, h0, _⟩ := hk.some ho
  exact hl.noit b o0 d h0 hb
theorem ptrIs_eq {v : V} {b : Nat} (h : ptrIs v b = true) : v = .ptr b 0 := by
  unfold ptrIs at h
  split at h
  · rw [nb h]
  · cases h
theorem IM.itv {f : Task → Option Res} {ro rr : Option Nat} {ml : ML} {c : MC} {Q : Ren} {rit rm : Nat} (hl : LC P f ro rr ml c Q rit rm) {w0 : World} {seen : Array Nat} {s : St} {A : Act} {w : World} (h : IM c Q w0 rit rm seen s A w) : A.eval (.tmp ml.it) = .pointer (some ⟨rit, 0, none⟩) := by
  have hv : VR Q ((c.act s).eval (.tmp ml.it)) (A.eval (.tmp ml.it)) := h.act.eval (.tmp ml.it)
  have e : (c.act s).eval (.tmp ml.it) = .ptr c.itn 0 := by have := ptrIs_eq h.ptr; rw [hl.it] at this; exact this
  rw [e] at hv
  generalize A.eval (.tmp ml.it) = x at hv
  cases hv with
  | ptr hm ho =>
    rw [hl.qit] at hm
    cases hm
    have ho : _ = 0 := ho
    simp at ho
    subst ho; rfl
theorem IM.map {f : Task → Option Res} {ro rr : Option Nat} {ml : ML} {c : MC} {Q : Ren} {rit rm : Nat} (hl : LC P f ro rr ml c Q rit rm) {w0 : World} {seen : Array Nat} {s : St} {A : Act} {w : World} (h : IM c Q w0 rit rm seen s A w) :
    ∃ es', w.heap[rm]? = some (.map es' c.clk) ∧ ER Q c.es es'.toList := by
  obtain ⟨_, es', clk', h1, h2⟩ := h.rel.obj c.m _ rm 0 h.mp hl.qm
  obtain ⟨rfl, h3⟩ := h2 trivial
  exact ⟨es', h1, h3⟩

/-- behind 'next' and 'extract': the first region's end -/
theorem head_sound {f : Task → Option Res} {ro rr : Option Nat} {ml : ML} {c : MC} {Q : Ren} {rit rm : Nat} (hl : LC P f ro rr ml c Q rit rm) {body : Code} {i1 i2 : Nat} {o1 o3 : Oper} (hb : MLOk ml body i1 i2 o1 o3) {s : St} {A : Act} {w w1 : World} {n : Nat} {tl : List Value} {vl : List V} {b : Bool} (hv : AL Q vl tl.toArray)
    (hact : AR Q (c.act s) A) (hrun : (Instr.next (A.eval (.tmp ml.it)) false o1.type).run P w = .ok (.tuple (#[.bool b] ++ tl.toArray)) w1) {QP : Exit → Act → World → Prop}
    (h : ∀ A2, AR Q (((c.act s).put (some ml.t1) (.tup (.bool b :: vl))).put (some ml.t2) (.bool b)) A2 → A2.eval (.tmp ml.t2) = .bool b → A2.eval (.tmp ml.it) = A.eval (.tmp ml.it) → QP .normal A2 w1) :
    (Code.region i1 ml.ops1 false).wpIn (FF rr) n P QP A w := by
  obtain ⟨t1, t2, t3, t12, ti1, ti2⟩ := hl.tm
  refine wpIn_region_list ?_
  rw [hb.l1]
  refine wp_cons hb.o1.2.2 (wp_sem (fun c e => by rw [hb.o1.1] at e; cases e) (exec_next hb.o1.1 A.eval) hrun ?_)
  rw [hb.o1.2.1]
  have hvt : VR Q (.tup (.bool b :: vl)) (.tuple (#[.bool b] ++ tl.toArray)) := by
    have := AL.append (AL.one (VR.bool (R := Q) b)) hv
    exact .tup this.1 this.2
  have ha1 := hact.put (some ml.t1) hvt
  have hx : VR Q (.tup (.bool b :: vl)) ((A.put (some ml.t1) (.tuple (#[.bool b] ++ tl.toArray))).eval (.tmp ml.t1)) := by
    have := ha1.eval (.tmp ml.t1)
    rwa [EA.put_at (by show ml.t1 < c.n; exact t1)] at this
  obtain ⟨_, y, e1, e2⟩ := pure_extract (P := P) (w := w1) (H := emptyH) (H' := emptyH) (i := 0) (v := .bool b) hx rfl
  have hy : y = .bool b := by cases e2; rfl
  subst hy
  refine wp_cons hb.o2.2.2 (wp_sem (fun c e => by rw [hb.o2.1] at e; cases e) (exec_extract hb.o2.1 _) e1 ?_)
  rw [hb.o2.2.1]
  have ha2 := ha1.put (some ml.t2) (VR.bool (R := Q) b)
  refine h _ ha2 ?_ ?_
  · have := ha2.eval (.tmp ml.t2)
    rw [EA.put_at (by rw [EA.put_n]; exact t2)] at this
    generalize Act.eval _ _ = z at this ⊢
    cases this; rfl
  · have hput : ∀ (B : Act) (t u : Nat) (x : Value), u ≠ t → (B.put (some t) x).eval (.tmp u) = B.eval (.tmp u) := fun B t u x hne => by
      show (B.tmps.setIfInBounds t x).getD u undef = B.tmps.getD u undef
      simp only [Array.getD, Array.size_setIfInBounds]
      split
      · exact Array.getElem_setIfInBounds_ne _ (Ne.symm hne)
      · rfl
    rw [hput _ _ _ _ ti2, hput _ _ _ _ ti1]

theorem stepM_some {f : Task → Option Res} {ro : Option Nat} {ml : ML} {c : MC} {s s' : St} {k v : V} (h : stepM P f ro ml c s k v = some s') : ∃ a4 H4, roundM P f ro ml (c.act s) (c.heap s) k v = some (a4, H4) ∧ mkSt c a4 H4 = some s' := by
  unfold stepM mkStO at h
  split at h
  · rename_i a H e; exact ⟨a, H, e, h⟩
  · cases h
theorem normR_some {r : Option Res} {a : EA} {H : EH} (h : normR r = some (a, H)) : r = some (.normal a H) := by
  unfold normR at h
  split at h
  · cases h; rfl
  · cases h

theorem evBlock_H {id : Nat} {r : Res} {a : EA} {H : EH} (h : evBlock id (some r) = some (.normal a H)) : r.H = H := by
  cases r with
  | v v H' => cases h
  | normal a' H' => cases h; rfl
  | ret a' H' => cases h
  | exit id' a' H' =>
    have h : cond (Nat.beq id' id) (some (Res.normal a' H')) (some (.exit id' a' H')) = some (.normal a H) := h
    cases hh : Nat.beq id' id <;> rw [hh] at h <;> cases h
    rfl
/-- a round: the entry's key and value are laid, and the body is carried out -/
theorem roundM_sound {f : Task → Option Res} (hs : Sound P f) {ro rr : Option Nat} {ml : ML} {c : MC} {Q : Ren} {rit rm : Nat} (hl : LC P f ro rr ml c Q rit rm) {body : Code} {i1 i2 : Nat} {o1 o3 : Oper} (hb : MLOk ml body i1 i2 o1 o3) {s s' : St} {A2 : Act} {w0 w1 : World} {n : Nat} {k v : V} {seen : Array Nat} {es' : Array MapEntry} {e : MapEntry}
    (hk : HK c s) (hst : stepM P f ro ml c s k v = some s') (hrel : Rel Q All (c.heap s) w1) (ha2 : AR Q (((c.act s).put (some ml.t1) (.tup [.bool true, k, v])).put (some ml.t2) (.bool true)) A2) (hit : A2.eval (.tmp ml.it) = .pointer (some ⟨rit, 0, none⟩))
    (hi : w1.heap[rit]? = some (.mapIter (some rm) c.clk (seen.push e.born) c.clk)) (hm : w1.heap[rm]? = some (.map es' c.clk)) (he : e ∈ es'.toList) (hn : (es'.toList.map (·.born)).Nodup) (hkv : VR Q k e.key ∧ VR Q v e.val)
    (hmp : (c.heap s).objs.get c.m = some (.map c.es c.clk))
    (hos : w1.os = w0.os) (htape : w1.tape = w0.tape) (hout : w1.output = w0.output) (hsize : w0.heap.size ≤ w1.heap.size)
    (hkeep : ∀ r, r < w0.heap.size → r ≠ rit → (∀ b o d, c.objs.get b = some o → Q.bm b = some (r, d) → rootO b o < c.lo) → w1.heap[r]? = w0.heap[r]?) {QP : Exit → Act → World → Prop}
    (h : ∀ A w, IM c Q w0 rit rm (seen.push e.born) s' A w → QP .normal A w) :
    (Code.block ml.cid (.seq (.region i2 ml.ops false) ml.rest)).wpIn (FF rr) n P QP A2 w1 := by
  obtain ⟨t1, t2, t3, t12, ti1, ti2⟩ := hl.tm
  obtain ⟨a4, H4, hr, hmk⟩ := stepM_some hst
  unfold roundM at hr
  split at hr
  · rename_i a3 H3 hev
    have hev := normR_some hev
    have hr := normR_some hr
    refine wpIn_block (wpIn_seq (wpIn_region_list ?_))
    rw [hb.l2]
    refine wp_cons hb.o3.2.2 (wp_sem (fun c e => by rw [hb.o3.1] at e; cases e) (exec_entry hb.o3.1 _) (by rw [hit]; exact run_entry_any hi hm he hn) ?_)
    rw [hb.o3.2.1]
    have hvt : VR Q (.tup [k, v]) (.tuple #[e.key, e.val]) := by
      have := AL.append (AL.one hkv.1) (AL.one hkv.2)
      exact .tup this.1 this.2
    have ha3 := ha2.put (some ml.t3) hvt
    obtain ⟨a3', H3', e3, n3, k3⟩ := ops_sound hs ml.ops ml.tl _ _ _ hev
    cases e3
    cases hf4 : f (.code ro ml.rest a3 H3) with
    | none => rw [hf4] at hr; cases hr
    | some r4 =>
      rw [hf4] at hr
      obtain ⟨p1, p2, m, p3⟩ := hs _ _ hf4
      have hwf := hk.wf hl.wf
      obtain ⟨q1, q2, q3, q4, q5, q10, q6, q7, q8, q9⟩ := mkSt_some hmk
      have hr4 : r4.H = H4 := evBlock_H hr
      have hfree4 : Free Q (c.heap s) r4.H := fun b hb hb' => hl.free b hb (by rw [hr4] at hb'; omega)
      have hfree : Free Q (c.heap s) H3 := hfree4.less p2
      refine k3 Q w1 _ n rr hrel hwf hfree ha3 _ fun R' w' A' ha' hsim' => ?_
      have hle := hsim'.le hrel hfree
      have hw4 := wpM.wp (p3 R' w' A' n rr hsim'.rel hsim'.wf (hsim'.free hfree4) ha' (hl.ro.mono hle))
      refine Go.wpIn_mono hw4 fun ex A4 w4 ⟨R4, s4, x4⟩ => ?_
      have fin : r4.H = H4 → AR R4 a4 A4 → QP .normal A4 w4 := fun e4 x4 => by
        have hsim := hsim'.trans s4
        rw [e4] at hsim
        obtain ⟨k1, k2, k3⟩ := trunc hl.wf hk hrel hl.df hsim x4 hmk
        have hrit : rit < w1.heap.size := by
          rcases Nat.lt_or_ge rit w1.heap.size with q | q
          · exact q
          · simp [Array.getElem?_eq_none q] at hi
        refine h A4 w4 ⟨k1, ?_, q6, k2, k3, ?_, hsim.fr.os.trans hos, hsim.fr.tape.trans htape, hsim.fr.output.trans hout, Nat.le_trans hsize hsim.fr.size, fun r hr hne hun => ?_⟩
        · by_cases hlo : c.lo ≤ c.m
          · have hmn : c.m < c.next := hwf.lt c.m _ hmp
            rw [get_heap hmk hlo hmn (fun e => by rw [q5 hlo] at e; cases e)]
            exact q5 hlo
          · obtain ⟨o0, p0, p1, p2⟩ := hk.some hmp
            have hm0 : (c.heap s).objs.get c.m = some o0 := hk.keep c.m o0 p0 (by rw [← p1]; show c.m < c.lo; omega)
            have := k1.keep c.m o0 p0 (by rw [← p1]; show c.m < c.lo; omega)
            rw [this, ← hm0]; exact hmp
        · rw [hsim.fr.keep rit hrit fun b o d ho hb => (noit_heap hl hk b o d ho hb).elim]
          exact hi
        · rw [hsim.fr.keep r (by omega) fun b o d ho hb q => ?_]
          · exact hkeep r hr hne hun
          · obtain ⟨o0, p0, p1, _⟩ := hk.some ho
            have := hun b o0 d p0 hb
            have q : H4.low ≤ rootO b o := q
            omega
      cases r4 with
      | v v H' => exact absurd rfl (p1 v H')
      | normal a H =>
        have hr : some (Res.normal a H) = some (.normal a4 H4) := hr
        cases hr
        cases ex <;> try exact x4.elim
        exact fin rfl x4
      | ret a H => have hr : some (Res.ret a H) = some (.normal a4 H4) := hr; cases hr
      | exit id a H =>
        have hr : cond (Nat.beq id ml.cid) (some (Res.normal a H)) (some (.exit id a H)) = some (.normal a4 H4) := hr
        rw [cond_beq] at hr
        by_cases e : id = ml.cid
        · rw [if_pos e] at hr
          cases hr
          cases ex <;> try exact x4.elim
          obtain ⟨y1, y2⟩ := x4
          show if _ then _ else _
          rw [if_pos (y1.trans e)]
          exact fin rfl y2
        · rw [if_neg e] at hr; cases hr
  · cases hr

theorem rounds_sound {f : Task → Option Res} (hs : Sound P f) {ro rr : Option Nat} {ml : ML} {c : MC} {Q : Ren} {rit rm : Nat} (hl : LC P f ro rr ml c Q rit rm) {body : Code} {i1 i2 : Nat} {o1 o3 : Oper} (hb : MLOk ml body i1 i2 o1 o3) {w0 : World} {n fin : Nat} {st : List St} {tab : List (List Nat)}
    (htab : tab.length = st.length) (hrow : ∀ (i : Nat) (row : List Nat), tab[i]? = some row → ∃ s, st[i]? = some s ∧ RowOk (stepM P f ro ml c s) c.es st row) (hcomm : commOk tab st.length c.es.length = true) {QP : Exit → Act → World → Prop}
    (hend : ∀ s seen A w A2, st[fin]? = some s → IM c Q w0 rit rm seen s A w → AR Q (((c.act s).put (some ml.t1) (.tup [.bool false])).put (some ml.t2) (.bool false)) A2 → QP (.exit ml.id) A2 w) :
    ∀ (L : Nat) (rem : List Nat) (i : Nat) (s : St) (seen : Array Nat) (A : Act) (w : World), rem.length = L → rem.Nodup → (∀ x ∈ rem, x < c.es.length) → st[i]? = some s → rem.foldl (tabf tab) i = fin →
      (∀ (j : Nat) (e : V × V × Nat), c.es[j]? = some e → (j ∈ rem ↔ seen.contains e.2.2 = false)) → IM c Q w0 rit rm seen s A w → Code.roundsIn (FF rr) n P body QP (L + 1) A w := by
  have hnext : ∀ i j, i < st.length → j < c.es.length → ∃ s s' e, st[i]? = some s ∧ c.es[j]? = some e ∧ stepM P f ro ml c s e.1 e.2.1 = some s' ∧ st[tabf tab i j]? = some s' := fun i j hi hj => by
    have h1 : tab[i]? = some tab[i] := List.getElem?_eq_some_iff.2 ⟨by omega, rfl⟩
    have h2 : c.es[j]? = some c.es[j] := List.getElem?_eq_some_iff.2 ⟨hj, rfl⟩
    obtain ⟨s, e1, e2, e3⟩ := hrow i _ h1
    obtain ⟨s', x, f1, f2, f3⟩ := e3 j _ h2
    refine ⟨s, s', c.es[j], e1, h2, f1, ?_⟩
    rw [tabf_eq tab h1 f2]; exact f3
  have hcl : ∀ i j, i < st.length → j < c.es.length → tabf tab i j < st.length := fun i j hi hj => by
    obtain ⟨s, s', e, _, _, _, h4⟩ := hnext i j hi hj
    exact (List.getElem?_eq_some_iff.1 h4).1
  intro L
  induction L with
  | zero =>
    intro rem i s seen A w hL hnd hlt hs0 hfin hmem hI
    have : rem = [] := List.eq_nil_of_length_eq_zero hL
    subst this
    have hfin : i = fin := hfin
    subst hfin
    obtain ⟨es', hm, her⟩ := hI.map hl
    have hborn := her.born
    have hold : ∀ x ∈ es'.toList, x.born < c.clk := fun x hx => by
      have : x.born ∈ c.es.map (·.2.2) := by rw [← hborn]; exact List.mem_map.2 ⟨x, hx, rfl⟩
      obtain ⟨e, he, e1⟩ := List.mem_map.1 this
      rw [← e1]; exact hl.born.1 e he
    rw [roundsIn_succ]
    generalize hX : Exit.then (Code.roundsIn (FF rr) n P body QP _) QP = X
    rw [hb.body]
    subst hX
    rcases run_next_any (P := P) hI.it hm hold o1.type with ⟨_, hrun⟩ | ⟨e, he, _, _, _⟩
    · refine wpIn_seq (head_sound hl hb (tl := []) (vl := []) (b := false) (AL.nil _) hI.act (by rw [hI.itv hl]; exact hrun) fun A2 ha2 ht _ => ?_)
      exact wpIn_seq (wpIn_cond_false ht (wpIn_exit (hend s seen A w A2 hs0 hI ha2)))
    · have he : e ∈ (es'.filter fun e => !seen.contains e.born).toList := he
      simp only [Array.toList_filter, List.mem_filter] at he
      obtain ⟨he1, he2⟩ := he
      obtain ⟨j, hj⟩ := List.getElem?_of_mem he1
      obtain ⟨e0, g1, _, _, g4⟩ := ER.to her j e hj
      have := (hmem j e0 g1).2 (by rw [← g4]; simpa using he2)
      cases this
  | succ L ih =>
    intro rem i s seen A w hL hnd hlt hs0 hfin hmem hI
    obtain ⟨es', hm, her⟩ := hI.map hl
    have hborn := her.born
    have hold : ∀ x ∈ es'.toList, x.born < c.clk := fun x hx => by
      have : x.born ∈ c.es.map (·.2.2) := by rw [← hborn]; exact List.mem_map.2 ⟨x, hx, rfl⟩
      obtain ⟨e, he, e1⟩ := List.mem_map.1 this
      rw [← e1]; exact hl.born.1 e he
    have hnd' : (es'.toList.map (·.born)).Nodup := by rw [hborn]; exact hl.born.2
    rw [roundsIn_succ]
    generalize hX : Exit.then (Code.roundsIn (FF rr) n P body QP _) QP = X
    rw [hb.body]
    subst hX
    rcases run_next_any (P := P) hI.it hm hold o1.type with ⟨h0, _⟩ | ⟨e, he, w1, hu, hrun⟩
    · exfalso
      match rem, hL with
      | x :: rem', _ =>
        have hx := hlt x (by simp)
        have h2 : c.es[x]? = some c.es[x] := List.getElem?_eq_some_iff.2 ⟨hx, rfl⟩
        have h3 := (hmem x _ h2).1 (by simp)
        obtain ⟨e', g1, g4⟩ := ER.at2 her x _ h2
        have : e' ∈ (es'.filter fun e => !seen.contains e.born).toList := by
          simp only [Array.toList_filter, List.mem_filter]
          exact ⟨List.mem_of_getElem? g1, by rw [g4, h3]; rfl⟩
        have h0 : (es'.filter fun e => !seen.contains e.born).size = 0 := h0
        have : (es'.filter fun e => !seen.contains e.born).toList.length ≠ 0 := fun q => by rw [List.eq_nil_of_length_eq_zero q] at this; cases this
        simp only [Array.length_toList] at this
        exact this h0
    · have he : e ∈ (es'.filter fun e => !seen.contains e.born).toList := he
      simp only [Array.toList_filter, List.mem_filter] at he
      obtain ⟨he1, he2⟩ := he
      obtain ⟨j, hj⟩ := List.getElem?_of_mem he1
      obtain ⟨e0, g1, g2, g3, g4⟩ := ER.to her j e hj
      have hjr := (hmem j e0 g1).2 (by rw [← g4]; simpa using he2)
      have hi : i < st.length := (List.getElem?_eq_some_iff.1 hs0).1
      obtain ⟨s1, s', e1, p1, p2, p3, p4⟩ := hnext i j hi (hlt j hjr)
      rw [hs0] at p1; cases p1
      rw [g1] at p2; cases p2
      have hne : rm ≠ rit := fun q => by
        subst q
        rw [hI.it] at hm; cases hm
      have hrit : rit < w.heap.size := by
        rcases Nat.lt_or_ge rit w.heap.size with q | q
        · exact q
        · have := hI.it; simp [Array.getElem?_eq_none q] at this
      refine wpIn_seq (head_sound hl hb (tl := [e.key, e.val]) (vl := [e0.1, e0.2.1]) (b := true) (AL.append (AL.one g2) (AL.one g3)) hI.act (by rw [hI.itv hl]; exact hrun) fun A2 ha2 ht hit => ?_)
      refine wpIn_seq (wpIn_cond_true ht (wpIn_skip ?_))
      refine roundM_sound hs hl hb (w0 := w0) (seen := seen) (es' := es') (e := e) hI.hk p3 (rel_wu hI.rel hu (noit_heap hl hI.hk)) ha2 (by rw [hit]; exact hI.itv hl) hu.neu (by rw [hu.old rm hne]; exact hm) he1 hnd' ⟨g2, g3⟩ hI.mp
        (hu.os.trans hI.os) (hu.tape.trans hI.tape) (hu.output.trans hI.output) (by rw [hu.size]; exact hI.size) (fun r hr hne hun => by rw [hu.old r hne]; exact hI.keep r hr hne hun) fun A' w' hI' => ?_
      refine ih (rem.erase j) (tabf tab i j) s' (seen.push e.born) A' w' (by rw [List.length_erase_of_mem hjr]; omega) (hnd.erase _) (fun x hx => hlt x (List.mem_of_mem_erase hx)) p4
        (by rw [fold_erase hcomm hcl rem i j hi hlt hjr]; exact hfin) (fun j' e' he' => ?_) hI'
      rw [hnd.mem_erase_iff, hmem j' e' he']
      have hsc : (seen.push e.born).contains e'.2.2 = (seen.contains e'.2.2 || decide (e'.2.2 = e.born)) := by simp
      rw [hsc]
      by_cases ej : j' = j
      · subst ej
        rw [g1] at he'; cases he'
        simp [g4]
      · have hdist : e'.2.2 ≠ e.born := fun q => by
          apply ej
          have hj1 : (c.es.map (·.2.2))[j']? = some e'.2.2 := by rw [List.getElem?_map, he']; rfl
          have hj2 : (c.es.map (·.2.2))[j]? = some e0.2.2 := by rw [List.getElem?_map, g1]; rfl
          rw [q, g4] at hj1
          obtain ⟨a1, a2⟩ := List.getElem?_eq_some_iff.1 hj1
          obtain ⟨b1, b2⟩ := List.getElem?_eq_some_iff.1 hj2
          exact List.nodup_inj hl.born.2 a1 b1 (a2.trans b2.symm)
        simp [ej, hdist]
end Go.Ev
