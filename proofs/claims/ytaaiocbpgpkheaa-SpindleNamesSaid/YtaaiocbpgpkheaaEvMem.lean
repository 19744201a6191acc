/- The machine's memory operations over related heaps: load, store, a new row. -/
import Derived.Test.YtaaiocbpgpkheaaEvRow
import Derived.Laws.Sem
import Derived.Laws.Cells
namespace Go.Ev
open Go

variable {P : Program}

theorem run_bind_ok {α β : Type} {s : Sem α} {f : α → Sem β} {w w1 : World} {a : α} (h : s.run P w = .ok a w1) : (s >>= f).run P w = (f a).run P w1 := by
  rw [Sem.run_bind, h]; rfl

/-- cells, place by place -/
def CR (R : Ren) (n : Nat) (c : T V) (cs : Array Value) : Prop := cs.size = n ∧ ∀ i, i < n → ∃ x y, c.get i = some x ∧ scal x = true ∧ cs[i]? = some y ∧ VR R x y
theorem CR.mono {R R' : Ren} (hle : R.le R') {n : Nat} {c : T V} {cs : Array Value} (h : CR R n c cs) : CR R' n c cs := ⟨h.1, fun i hi => let ⟨x, y, a, b, c, d⟩ := h.2 i hi; ⟨x, y, a, b, c, d.mono hle⟩⟩
theorem CR.agg {R : Ren} {n : Nat} {c : T V} {cs : Array Value} (h : CR R n c cs) : VR R (.agg n c) (.agg cs) := by
  refine .agg (fun i => getD' c i) h.1 (fun i hi => ?_) (fun i hi => ?_) (fun i hi => ?_)
  · obtain ⟨x, y, a, _⟩ := h.2 i hi; rw [a]; unfold getD'; rw [a]
  · obtain ⟨x, y, a, b, _⟩ := h.2 i hi; unfold getD'; rw [a]; exact b
  · obtain ⟨x, y, a, b, d, e⟩ := h.2 i (by rw [← h.1]; exact hi)
    have : cs[i]? = some cs[i] := Array.getElem?_eq_some_iff.2 ⟨hi, rfl⟩
    rw [this] at d; cases d
    show VR R (getD' c i) _
    unfold getD'; rw [a]; exact e
theorem CR.of_agg {R : Ren} {n : Nat} {c : T V} {x : Value} (h : VR R (.agg n c) x) : ∃ cs, x = .agg cs ∧ CR R n c cs := by
  cases h with
  | agg g hn hg hs h =>
    rename_i cs
    exact ⟨cs, rfl, hn, fun i hi => ⟨g i, cs[i]'(by omega), hg i hi, hs i hi, Array.getElem?_eq_some_iff.2 ⟨by omega, rfl⟩, h i (by omega)⟩⟩
theorem VR.oneCell {R : Ren} {x : V} {y : Value} (h : VR R x y) (hs : scal x = true) : y.oneCell' = true := by
  cases h <;> first | rfl | (cases hs)
theorem VR.cells1 {R : Ren} {x : V} {y : Value} (h : VR R x y) (hs : scal x = true) : y.cells = #[y] := by
  cases h <;> first | rfl | (cases hs)
theorem cellsV_agg (n : Nat) (c : T V) : cellsV (.agg n c) = some (n, c) := rfl
theorem CR.of_cells {R : Ren} {v : V} {x : Value} (h : VR R v x) {n : Nat} {c : T V} (hc : cellsV v = some (n, c)) : CR R n c x.cells := by
  by_cases hs : scal v = true
  · have e : cellsV v = some (1, T.nd (some v) .lf .lf) := by
      unfold cellsV
      split
      · cases hs
      · rw [hs]; rfl
    rw [e] at hc; cases hc
    rw [h.cells1 hs]
    refine ⟨rfl, fun i hi => ?_⟩
    obtain rfl : i = 0 := by omega
    exact ⟨v, x, rfl, hs, rfl, h⟩
  · unfold cellsV at hc
    split at hc
    · cases hc
      obtain ⟨cs, rfl, k⟩ := CR.of_agg h
      exact k
    · have : scal v = false := by simpa using hs
      rw [this] at hc; cases hc

theorem add_none (r o n : Nat) : (⟨r, o, none⟩ : Addr).add n = ⟨r, o + n, none⟩ := by unfold Addr.add; split <;> simp_all
theorem cell_at {w : World} {r o : Nat} {cs : Array Value} {t : TypeId} {fz : Nat × Nat} (h : w.heap[r]? = some (.cells cs t fz)) : w.cell? ⟨r, o, none⟩ = cs[o]? := by
  unfold World.cell?; rw [h]; rfl
theorem frozen_at {w : World} {r o : Nat} {cs : Array Value} {t : TypeId} {fz : Nat × Nat} (h : w.heap[r]? = some (.cells cs t fz)) (hfz : ∀ i, ¬ (fz.1 ≤ i ∧ i < fz.2)) : w.frozen? ⟨r, o, none⟩ = false := by
  obtain ⟨lo, hi⟩ := fz
  unfold World.frozen?; rw [h]
  have := hfz o
  simp only at this
  show (decide (lo ≤ o) && decide (o < hi)) = false
  cases e : (decide (lo ≤ o) && decide (o < hi)) with
  | false => rfl
  | true => simp at e; exact absurd e this
theorem WU.setCell {w : World} {r o : Nat} {cs : Array Value} {t : TypeId} {fz : Nat × Nat} (h : w.heap[r]? = some (.cells cs t fz)) (v : Value) :
    WU w r (.cells (cs.setIfInBounds o v) t fz) (w.setCell ⟨r, o, none⟩ v) := by
  obtain ⟨hlt, he⟩ := Array.getElem?_eq_some_iff.1 h
  refine ⟨by simp [World.setCell], ?_, fun r' e => ?_, rfl, rfl, rfl⟩
  · simp only [World.setCell]
    rw [Array.getElem?_modify, if_pos rfl, h]; rfl
  · simp only [World.setCell]
    rw [Array.getElem?_modify, if_neg (fun q => e q.symm)]

theorem run_stores (g : Nat) (t : TypeId) (fz : Nat × Nat) (hfz : ∀ i, ¬ (fz.1 ≤ i ∧ i < fz.2)) : ∀ (vs : List Value) (o i : Nat) (cur : Array Value) (w : World), w.heap[g]? = some (.cells cur t fz) → o + i + vs.length ≤ cur.size → (∀ v ∈ vs, v.oneCell' = true) →
    ∃ w' cs', (storeCells ⟨g, o, none⟩ vs i).run P w = .ok () w' ∧ WU w g (.cells cs' t fz) w' ∧ cs'.size = cur.size ∧ ∀ k, cs'[k]? = if o + i ≤ k ∧ k < o + i + vs.length then vs[k - (o + i)]? else cur[k]? := by
  intro vs
  induction vs with
  | nil => intro o i cur w h _ _; exact ⟨w, cur, rfl, ⟨rfl, h, fun _ _ => rfl, rfl, rfl, rfl⟩, rfl, fun k => by rw [if_neg (by simp)]⟩
  | cons v rest ih =>
    intro o i cur w h hl h1
    simp only [List.length_cons] at hl
    have hst : (store ((⟨g, o, none⟩ : Addr).add i) v).run P w = .ok () (w.setCell ⟨g, o + i, none⟩ v) := by
      rw [add_none, run_store P w _ v _ (h1 v (by simp)), cell_at h, Array.getElem?_eq_getElem (by omega)]
      simp only [frozen_at h hfz]; rfl
    have hu := WU.setCell h (o := o + i) v
    have hsz : (cur.setIfInBounds (o + i) v).size = cur.size := by simp
    obtain ⟨w', cs', e1, e2, e3, e4⟩ := ih o (i + 1) (cur.setIfInBounds (o + i) v) (w.setCell ⟨g, o + i, none⟩ v) hu.neu (by rw [hsz]; omega) (fun x hx => h1 x (by simp [hx]))
    refine ⟨w', cs', ?_, hu.trans e2, by rw [e3]; simp, fun k => ?_⟩
    · show ((store ((⟨g, o, none⟩ : Addr).add i) v) >>= fun _ => storeCells ⟨g, o, none⟩ rest (i + 1)).run P w = _
      rw [run_bind_ok hst]; exact e1
    · rw [e4]
      simp only [List.length_cons]
      by_cases hk : o + (i + 1) ≤ k ∧ k < o + (i + 1) + rest.length
      · rw [if_pos hk, if_pos (by omega)]
        obtain ⟨d, rfl⟩ : ∃ d, k = o + (i + 1) + d := ⟨k - (o + (i + 1)), by omega⟩
        rw [show o + (i + 1) + d - (o + (i + 1)) = d by omega, show o + (i + 1) + d - (o + i) = d + 1 by omega]; rfl
      · rw [if_neg hk]
        by_cases e : k = o + i
        · have hlt : k < cur.size := by omega
          rw [if_pos (by omega), ← e, Array.getElem?_setIfInBounds_self_of_lt hlt, Nat.sub_self]; rfl
        · rw [if_neg (by omega), Array.getElem?_setIfInBounds_ne (fun q => e q.symm)]

theorem run_loads {r o n : Nat} {w : World} {cs : Array Value} {t : TypeId} {fz : Nat × Nat} (h : w.heap[r]? = some (.cells cs t fz)) (hn : o + n ≤ cs.size) : (loadCells ⟨r, o, none⟩ n).run P w = .ok (cs.extract o (o + n)) w := by
  have := run_loadCells (P := P) w ⟨r, o, none⟩ n (fun j => cs.getD (o + j) undef) (fun j hj => by rw [add_none, cell_at h]; simp [Array.getD, show o + j < cs.size by omega])
  rw [this]
  congr 1
  apply Array.ext
  · simp; omega
  · intro i h1 h2
    simp at h1 h2
    simp [Array.getD, show o + i < cs.size by omega]

theorem run_info {t : TypeId} {i : TypeInfo} (h : P.info? t = some i) (w : World) : (typeInfo t).run P w = .ok i w := by
  unfold typeInfo
  rw [run_bind_ok (run_program P w)]; rw [h]; rfl
theorem run_sizeOf' {t : TypeId} {i : TypeInfo} (h : P.info? t = some i) (w : World) : (sizeOf t).run P w = .ok i.size w := by
  unfold sizeOf
  rw [run_bind_ok (run_info h w)]; rfl
theorem run_under {t : TypeId} {d : TypeDesc} (h : P.underlying t = some d) (w : World) : (underlying t).run P w = .ok d w := by
  unfold underlying
  rw [run_bind_ok (run_program P w)]; rw [h]; rfl
theorem sizeT_some {t : TypeId} {n : Nat} (h : sizeT P t = some n) : ∃ i, P.info? t = some i ∧ i.size = n := by
  unfold sizeT at h
  cases e : P.info? t with
  | none => rw [e] at h; cases h
  | some i => rw [e] at h; cases h; exact ⟨i, rfl, rfl⟩
theorem run_size {t : TypeId} {n : Nat} (h : sizeT P t = some n) (w : World) : (sizeOf t).run P w = .ok n w := by
  obtain ⟨i, h1, h2⟩ := sizeT_some h
  rw [run_sizeOf' h1, h2]
theorem run_zero {t : TypeId} {z : V} (h : zeroT P t = some z) (w : World) : ∃ z', (zeroValue t).run P w = .ok z' w ∧ ∀ R, VR R z z' := by
  unfold zeroT at h
  cases e : P.info? t with
  | none => rw [e] at h; cases h
  | some i =>
    rw [e] at h
    simp only at h
    cases ez : i.zero with
    | none => rw [ez] at h; cases h
    | some z0 =>
      rw [ez] at h; cases h
      refine ⟨z0, ?_, fun R => VR.ofC R z0⟩
      unfold zeroValue
      rw [run_bind_ok (run_info e w), ez]; rfl
theorem run_isAgg {t : TypeId} {d : TypeDesc} (h : P.underlying t = some d) (w : World) : (isAgg t).run P w = .ok (match d with | .struct _ | .array _ _ => true | _ => false) w := by
  unfold isAgg
  rw [run_bind_ok (run_under h w)]
  cases d <;> rfl

theorem kindT_agg {t : TypeId} {n : Nat} (h : kindT P t = .agg n) : (∀ w, (isAgg t).run P w = .ok true w) ∧ ∀ w, (sizeOf t).run P w = .ok n w := by
  unfold kindT at h
  split at h
  · rename_i h1 h2; cases h; exact ⟨fun w => run_isAgg h1 w, fun w => run_sizeOf' h2 w⟩
  · rename_i h1 h2; cases h; exact ⟨fun w => run_isAgg h1 w, fun w => run_sizeOf' h2 w⟩
  · rename_i h1 h2 h3; rw [cond_beq] at h; split at h <;> cases h
  · cases h
theorem kindT_one {t : TypeId} (h : kindT P t = .one) : (∀ w, (isAgg t).run P w = .ok false w) ∧ ∀ w, (sizeOf t).run P w = .ok 1 w := by
  unfold kindT at h
  split at h
  · cases h
  · cases h
  · rename_i d i h1 h2 h3 h4
    rw [cond_beq] at h
    split at h
    · rename_i e
      refine ⟨fun w => ?_, fun w => by rw [run_sizeOf' h4, e]⟩
      rw [run_isAgg h3]
      cases d <;> first | rfl | (exact (h1 _ rfl).elim) | (exact (h2 _ _ rfl).elim)
    · cases h
  · cases h

/-- a valid row: what lies behind it -/
theorem block_some {H : EH} {b : Nat} {c : T V} {lo sz g : Nat} (h : H.block b = .mk c lo sz g) : H.objs.get b = some (.cells c lo sz g) ∧ H.valid b sz g = true := by
  unfold EH.block at h
  split at h
  · rename_i c' lo' sz' g' e
    cases hv : H.valid b sz' g' with
    | false => rw [hv] at h; cases h
    | true => rw [hv] at h; cases h; exact ⟨e, hv⟩
  · cases h
theorem Rel.row {R : Ren} {S : Nat → Prop} {H : EH} {w : World} (hr : Rel R S H w) {b r d : Nat} {c : T V} {lo sz g : Nat} (h : H.block b = .mk c lo sz g) (hm : R.bm b = some (r, d)) (hs : S g) :
    ∃ cs t fz, w.heap[r]? = some (.cells cs t fz) ∧ cs.size = R.zs r ∧ (∀ i, ¬ (fz.1 ≤ i ∧ i < fz.2)) ∧ ∀ i, lo ≤ i → i < sz → d ≤ i ∧ ∃ x y, c.get i = some x ∧ scal x = true ∧ cs[i - d]? = some y ∧ VR R x y := by
  obtain ⟨h1, h2⟩ := block_some h
  obtain ⟨cs, t, fz, a1, a2, a3, a4⟩ := hr.obj b _ r d h1 hm
  exact ⟨cs, t, fz, a1, a2, a3, a4 hs h2⟩

theorem subT_get {c c' : T V} {off n : Nat} (h : subT c off n = some c') : ∀ i, i < n → ∀ x, c.get (off + i) = some x → c'.get i = some x := by
  intro i hi x hx
  unfold subT at h
  rw [cond_beq] at h
  by_cases e : off = 0
  · rw [if_pos e] at h; cases h; subst e; rw [Nat.zero_add] at hx; exact hx
  · rw [if_neg e] at h
    obtain ⟨v, e1, e2⟩ := (get_copyT c n off 0 _ _ h).1 i hi
    rw [hx] at e1; cases e1
    rw [Nat.zero_add] at e2; exact e2

/-- cells of a row from real place o on, out of those that are related -/
theorem CR.of_row {R : Ren} {c c' : T V} {cs : Array Value} {lo sz d off o n : Nat} (hrow : ∀ i, lo ≤ i → i < sz → d ≤ i ∧ ∃ x y, c.get i = some x ∧ scal x = true ∧ cs[i - d]? = some y ∧ VR R x y)
    (h1 : lo ≤ off) (h2 : off + n ≤ sz) (ho : n ≠ 0 → o + d = off) (hc : ∀ i, i < n → ∀ x, c.get (off + i) = some x → c'.get i = some x) : (n ≠ 0 → o + n ≤ cs.size) ∧ (o + n ≤ cs.size → CR R n c' (cs.extract o (o + n))) := by
  have key : ∀ i, i < n → ∃ x y, c.get (off + i) = some x ∧ scal x = true ∧ cs[o + i]? = some y ∧ VR R x y := fun i hi => by
    obtain ⟨p, x, y, e1, e2, e3, e4⟩ := hrow (off + i) (by omega) (by omega)
    have := ho (by omega)
    rw [show off + i - d = o + i by omega] at e3
    exact ⟨x, y, e1, e2, e3, e4⟩
  refine ⟨fun hn => ?_, fun hle => ⟨by simp; omega, fun i hi => ?_⟩⟩
  · obtain ⟨x, y, _, _, e3, _⟩ := key (n - 1) (by omega)
    have := (Array.getElem?_eq_some_iff.1 e3).1
    omega
  · obtain ⟨x, y, e1, e2, e3, e4⟩ := key i hi
    refine ⟨x, y, hc i hi x e1, e2, ?_, e4⟩
    rw [Array.getElem?_extract, if_pos (by omega)]; exact e3

theorem run_loadVar {R : Ren} {S : Nat → Prop} {H : EH} {w : World} (hr : Rel R S H w) {t : TypeId} {b off : Nat} {v : V} (h : H.loadVar P t b off = some v) {r o d : Nat} (hm : R.bm b = some (r, d)) (ho : o + d = off)
    (hs : ∀ x, x ∈ grpB H b → S x) : ∃ x, (loadVar t ⟨r, o, none⟩).run P w = .ok x w ∧ VR R v x := by
  have hS : ∀ c lo sz g, H.block b = .mk c lo sz g → S g := fun c lo sz g e => hs g (by unfold grpB; rw [(block_some e).1]; simp)
  unfold EH.loadVar EH.loadK at h
  split at h
  · rename_i n hk
    obtain ⟨k1, k2⟩ := kindT_agg hk
    unfold EH.loadN at h
    cases hb : H.block b with
    | no => rw [hb] at h; cases h
    | mk c lo sz g =>
      rw [hb] at h
      simp only [cond_ble] at h
      split at h
      · rename_i q1
        split at h
        · rename_i q2
          cases hsb : subT c off n with
          | none => rw [hsb] at h; cases h
          | some c' =>
            rw [hsb] at h; cases h
            obtain ⟨cs, t', fz, a1, a2, a3, a4⟩ := hr.row hb hm (hS _ _ _ _ hb)
            obtain ⟨p1, p2⟩ := CR.of_row a4 q1 q2 (fun _ => ho) (subT_get hsb)
            have hrun : (loadVar t ⟨r, o, none⟩).run P w = (loadCells ⟨r, o, none⟩ n >>= fun x => pure (Value.agg x)).run P w := by
              unfold loadVar
              rw [run_bind_ok (k1 w)]
              show (sizeOf t >>= fun n => loadCells ⟨r, o, none⟩ n >>= fun x => pure (Value.agg x)).run P w = _
              rw [run_bind_ok (k2 w)]
            by_cases hn : n = 0
            · subst hn
              refine ⟨.agg #[], by rw [hrun]; rfl, (CR.agg (cs := #[]) ⟨rfl, fun i hi => by omega⟩)⟩
            · exact ⟨.agg (cs.extract o (o + n)), by rw [hrun, run_bind_ok (run_loads a1 (p1 hn))]; rfl, (p2 (p1 hn)).agg⟩
        · cases h
      · cases h
  · rename_i hk
    obtain ⟨k1, _⟩ := kindT_one hk
    unfold EH.load1 at h
    cases hb : H.block b with
    | no => rw [hb] at h; cases h
    | mk c lo sz g =>
      rw [hb] at h
      simp only [cond_ble, cond_blt] at h
      split at h
      · rename_i q1
        split at h
        · rename_i q2
          obtain ⟨cs, t', fz, a1, a2, a3, a4⟩ := hr.row hb hm (hS _ _ _ _ hb)
          obtain ⟨p, x, y, e1, e2, e3, e4⟩ := a4 off q1 q2
          rw [h] at e1; cases e1
          rw [show off - d = o by omega] at e3
          refine ⟨y, ?_, e4⟩
          unfold loadVar
          rw [run_bind_ok (k1 w)]
          show (load ⟨r, o, none⟩).run P w = _
          rw [run_load, cell_at a1, e3]
        · cases h
      · cases h
  · cases h
end Go.Ev
