/- Operations that change the heap: a new variable or row, a store, an append. -/
import Derived.Test.YtaaiocbpgpkheaaEvMem
namespace Go.Ev
open Go

variable {P : Program}

def Good (P : Program) (R : Ren) (S : Nat → Prop) (H : EH) (w : World) (s : Sem Value) (v : V) (H' : EH) (W : Nat → Prop) : Prop :=
  ∃ x w' R', s.run P w = .ok x w' ∧ VR R' v x ∧ Sim R R' S H H' W w w'
theorem Good.pure {R : Ren} {S : Nat → Prop} {H : EH} {w : World} (hw : WF H) (hr : Rel R S H w) {s : Sem Value} {v : V} {x : Value} (h : s.run P w = .ok x w) (hv : VR R v x) : Good P R S H w s v H (fun _ => False) :=
  ⟨x, w, R, h, hv, .refl hw hr⟩

theorem new_eq (H : EH) (n : Nat) (c : T V) (k : Nat → EH → VO) : H.new n c k = k H.next ⟨H.objs.set H.next (.cells c 0 n H.next), H.next + 1, H.grps, H.low⟩ := by
  unfold EH.new; rw [fN_eq]

theorem sim_row {R : Ren} {S : Nat → Prop} {H : EH} {w : World} (hr : Rel R S H w) (hw : WF H) (hf : R.bm H.next = none) {n : Nat} {c : T V} {cs : Array Value} (hc : ∀ i, i < n → ∃ x y, c.get i = some x ∧ scal x = true ∧ cs[i]? = some y ∧ VR R x y) (elem : TypeId) :
    ∃ w' R', (newRow elem cs).run P w = .ok ⟨w.heap.size, 0, none⟩ w' ∧ Sim R R' S H ⟨H.objs.set H.next (.cells c 0 n H.next), H.next + 1, H.grps, H.low⟩ (fun _ => False) w w' ∧ R'.bm H.next = some (w.heap.size, 0) ∧ R'.zs w.heap.size = cs.size := by
  obtain ⟨R', h1, h2, h3⟩ := sim_new (w' := { w with heap := w.heap.push (.cells cs elem) }) hr hw hf (.cells c 0 n H.next) rfl (.cells cs elem) cs.size (fun R' hle hb hz => by
    refine ⟨cs, elem, (0, 0), by simp, hz.symm, fun i hi => by simp at hi, fun _ _ i _ hi => ⟨Nat.zero_le _, ?_⟩⟩
    obtain ⟨x, y, a, b, c, d⟩ := hc i hi
    exact ⟨x, y, a, b, c, d.mono hle⟩) (WA.push w _)
  exact ⟨_, R', rfl, h1, h2, h3⟩

theorem good_newVar {R : Ren} {S : Nat → Prop} {H H' : EH} {w : World} (hr : Rel R S H w) (hw : WF H) (hf : Free R H H') {v v' : V} {x : Value} (hv : VR R v x) (h : H.newVar v = some (v', H')) (t : TypeId) :
    Good P R S H w (do pure (.pointer (some (← newVar t x)))) v' H' (fun _ => False) := by
  unfold EH.newVar at h
  cases hc : cellsV v with
  | none => rw [hc] at h; cases h
  | some p =>
    obtain ⟨n, c⟩ := p
    rw [hc] at h
    simp only [new_eq] at h
    cases h
    obtain ⟨w', R', e1, e2, e3, e4⟩ := sim_row (P := P) hr hw (hf _ (Nat.le_refl _) (Nat.lt_succ_self _)) (CR.of_cells hv hc).2 t
    refine ⟨_, w', R', ?_, .ptr e3 rfl, e2⟩
    show (newRow t x.cells >>= fun a => pure (Value.pointer (some a))).run P w = _
    rw [run_bind_ok e1]; rfl

theorem storeIn_some {H H' : EH} {b lo sz g : Nat} {c : Option (T V)} (h : H.storeIn b lo sz g c = some H') : ∃ c', c = some c' ∧ H' = ⟨H.objs.set b (.cells c' lo sz g), H.next, killO H.grps g sz, minN H.low g⟩ := by
  unfold EH.storeIn at h
  cases c with
  | none => cases h
  | some c' => cases h; exact ⟨c', rfl, rfl⟩
theorem putT_get {c c' src : T V} {off sz n : Nat} (h : putT c off sz n src = some c') (hle : off + n ≤ sz) : (∀ k, k < n → ∀ x, src.get k = some x → c'.get (off + k) = some x) ∧ (∀ k, k < sz → (k < off ∨ off + n ≤ k) → c'.get k = c.get k) := by
  have key : copyT src n 0 off c = some c' → (∀ k, k < n → ∀ x, src.get k = some x → c'.get (off + k) = some x) ∧ (∀ k, k < sz → (k < off ∨ off + n ≤ k) → c'.get k = c.get k) := fun h => by
    obtain ⟨h1, h2⟩ := get_copyT src n 0 off c c' h
    refine ⟨fun k hk x hx => ?_, fun k _ hk => h2 k hk⟩
    obtain ⟨v, e1, e2⟩ := h1 k hk
    rw [Nat.zero_add, hx] at e1; cases e1; exact e2
  unfold putT at h
  rw [cond_beq, cond_beq] at h
  by_cases e : off = 0
  · rw [if_pos e] at h
    by_cases e2 : n = sz
    · rw [if_pos e2] at h; cases h; subst e
      exact ⟨fun k _ x hx => by rw [Nat.zero_add]; exact hx, fun k hk hk' => by omega⟩
    · rw [if_neg e2] at h; exact key h
  · rw [if_neg e] at h; exact key h

theorem good_store {R : Ren} {S : Nat → Prop} {H H' : EH} {w : World} (hr : Rel R S H w) (hw : WF H) {t : TypeId} {x y : V} {x' y' : Value} (hx : VR R x x') (hy : VR R y y') {v : V} (h : evStore P t x y H = some (v, H')) (hs : ∀ g, g ∈ grpV H x → S g) :
    ∃ w', (Instr.storeAt t x' y').run P w = .ok () w' ∧ v = .bad ∧ Sim R R S H H' (fun g => g ∈ grpV H x) w w' := by
  unfold evStore at h
  split at h
  · rename_i b off
    cases hx with
    | ptr hm ho =>
      rename_i r d o
      split at h
      · rename_i n m c hn hc
        rw [cond_beq] at h
        split at h
        · rename_i enm
          subst enm
          unfold stO at h
          cases hst : H.storeN b off n c with
          | none => rw [hst] at h; cases h
          | some H1 =>
            rw [hst] at h; cases h
            unfold EH.storeN at hst
            cases hb : H.block b with
            | no => rw [hb] at hst; cases hst
            | mk c0 lo sz g =>
              rw [hb] at hst
              simp only [cond_ble] at hst
              split at hst
              · rename_i q1
                split at hst
                · rename_i q2
                  have q2' : off + n ≤ sz := q2
                  obtain ⟨c', hp, rfl⟩ := storeIn_some hst
                  obtain ⟨p1, p2⟩ := putT_get hp q2'
                  have hgm : grpV H (.ptr b off) = [g] := by show grpB H b = _; unfold grpB; rw [(block_some hb).1]
                  rw [hgm] at hs ⊢
                  obtain ⟨cs, t', fz, a1, a2, a3, a4⟩ := hr.row hb hm (hs g (by simp))
                  obtain ⟨z1, z2⟩ := CR.of_cells hy hc
                  have hrun : (Instr.storeAt t (.pointer (some ⟨r, o, none⟩)) y').run P w = (storeCells ⟨r, o, none⟩ y'.cells.toList).run P w := by
                    show (storeVar t ⟨r, o, none⟩ y').run P w = _
                    unfold storeVar
                    rw [run_bind_ok (run_size hn w), if_neg (by simpa using z1)]
                  by_cases hn0 : n = 0
                  · subst hn0
                    have e0 : y'.cells.toList = [] := by
                      apply List.eq_nil_of_length_eq_zero; simpa using z1
                    refine ⟨w, by rw [hrun, e0]; rfl, rfl, ?_⟩
                    have := sim_store (w' := w) hr hw (block_some hb).1 (block_some hb).2 hm (c' := c') (cs' := cs) (t := t') (fz := fz) a2 a3 (fun i hi hj => by
                      obtain ⟨k0, xx, yy, k1, k2, k3, k4⟩ := a4 i hi hj
                      exact ⟨k0, xx, yy, (p2 i hj (by omega)).trans k1, k2, k3, k4⟩) ⟨rfl, a1, fun _ _ => rfl, rfl, rfl, rfl⟩
                    simpa using this
                  · have hin : o + n ≤ cs.size := by
                      obtain ⟨k0, xx, yy, k1, k2, k3, k4⟩ := a4 (off + (n - 1)) (by omega) (by omega)
                      have := (Array.getElem?_eq_some_iff.1 k3).1
                      omega
                    have hlen : y'.cells.toList.length = n := by simpa using z1
                    obtain ⟨w', cs', e1, e2, e3, e4⟩ := run_stores (P := P) r t' fz a3 y'.cells.toList o 0 cs w a1 (by omega) (fun v hv => by
                      obtain ⟨i, hi, rfl⟩ := List.getElem_of_mem hv
                      obtain ⟨x1, y1, g1, g2, g3, g4⟩ := z2 i (by omega)
                      have g5 : y'.cells[i]? = some (y'.cells.toList[i]) := by simp [show i < y'.cells.size by simpa using hi]
                      rw [g5] at g3; cases g3; exact g4.oneCell g2)
                    refine ⟨w', by rw [hrun]; exact e1, rfl, ?_⟩
                    have := sim_store hr hw (block_some hb).1 (block_some hb).2 hm (c' := c') (cs' := cs') (t := t') (fz := fz) (by rw [e3]; exact a2) a3 (fun i hi hj => by
                      obtain ⟨k0, xx, yy, k1, k2, k3, k4⟩ := a4 i hi hj
                      refine ⟨k0, ?_⟩
                      rw [e4]
                      by_cases hin2 : off ≤ i ∧ i < off + n
                      · rw [if_pos (by omega)]
                        obtain ⟨x1, y1, g1, g2, g3, g4⟩ := z2 (i - off) (by omega)
                        have g5 := p1 (i - off) (by omega) x1 g1
                        rw [show off + (i - off) = i by omega] at g5
                        refine ⟨x1, y1, g5, g2, ?_, g4⟩
                        rw [show i - d - (o + 0) = i - off by omega]
                        simpa using g3
                      · rw [if_neg (by omega)]
                        exact ⟨xx, yy, (p2 i hj (by omega)).trans k1, k2, k3, k4⟩) e2
                    simpa using this
                · cases hst
              · cases hst
        · cases h
      · cases h
  · cases h

theorem run_choose_cap {w : World} {need old : Nat} {elem : TypeId} : ∃ n, (choose (.appendCap need old elem)).run P w = .ok n { w with drawn := w.drawn + 1 } ∧ need ≤ n := by
  refine ⟨need + w.tape w.drawn (.appendCap need old elem) % (2 ^ 63 - need), ?_, Nat.le_add_right _ _⟩
  unfold choose
  simp only [Sem.run, Question.forced, Question.cut]
  rfl
theorem run_askRoom (n : Nat) (w : World) : (askRoom n).run P w = .ok () w := by
  unfold askRoom; split <;> rfl
theorem growBy_le (newLen : Nat) : ∀ (rounds c : Nat), c ≤ 2 * newLen + 200 → Builtin.growBy newLen rounds c ≤ 2 * newLen + 200 := by
  intro rounds
  induction rounds with
  | zero => intro c h; exact h
  | succ n ih =>
    intro c h
    unfold Builtin.growBy
    split
    · exact h
    · exact ih _ (by omega)
theorem nextcap_le {need old : Nat} (h : old < need) : Builtin.nextslicecap need old ≤ 2 * need + 200 := by
  unfold Builtin.nextslicecap
  split
  · omega
  · split
    · omega
    · exact growBy_le need 4 old (by omega)
theorem zeroCells_size (zero : Array Value) (n : Nat) : (Builtin.zeroCells zero n).size = n * zero.size := by simp [Builtin.zeroCells]

structure AppOk (P : Program) (elem : TypeId) (e need : Nat) : Prop where
  pos : 0 < e
  le : need ≤ 281474976710656
  info : ∃ i z, P.info? elem = some i ∧ (2 * need + 200) * i.bytes ≤ 281474976710656 ∧ i.zero = some z ∧ z.cells.size = e
theorem appOk_some {elem : TypeId} {e need : Nat} (h : appOk P elem e need = true) : AppOk P elem e need := by
  unfold appOk at h
  cases hi : P.info? elem with
  | none => rw [hi] at h; cases h
  | some i =>
    rw [hi] at h
    simp only [cond_blt, cond_ble] at h
    split at h
    · rename_i h1
      split at h
      · rename_i h2
        split at h
        · rename_i h3
          cases hz : i.zero with
          | none => rw [hz] at h; cases h
          | some z =>
            rw [hz] at h
            simp only at h
            cases hc : cellsV (ofC z) with
            | none => rw [hc] at h; cases h
            | some p =>
              rw [hc] at h
              obtain ⟨n, c⟩ := p
              have e1 : n = e := by simpa [nbeq] using h
              have := (CR.of_cells (VR.ofC ⟨fun _ => none, fun _ => 0⟩ z) hc).1
              exact ⟨h1, h3, i, z, hi, h2, hz, by rw [this, e1]⟩
        · cases h
      · cases h
    · cases h

/-- the source of an append: its cells as the machine loads them -/
theorem run_first {R : Ren} {S : Nat → Prop} {H : EH} {w : World} (hr : Rel R S H w) {e : Nat} {x : V} {x' : Value} (hx : VR R x x') {xs : Cs} (h : sliceCells H e x = some xs) (hs : ∀ g, g ∈ grpV H x → S g) :
    (Builtin.lenOf x').run P w = .ok xs.m w ∧ xs.n = xs.m * e ∧ ∃ cs, (Builtin.firstCells e xs.m x').run P w = .ok cs w ∧ cs.size = xs.n ∧ ∀ i, i < xs.n → ∃ a b, xs.c.get (xs.off + i) = some a ∧ scal a = true ∧ cs[i]? = some b ∧ VR R a b := by
  unfold sliceCells at h
  split at h
  · cases h; cases hx
    exact ⟨rfl, by simp, #[], rfl, rfl, fun i hi => absurd hi (Nat.not_lt_zero _)⟩
  · rename_i b off len e'
    cases hx with
    | slice hm ho hl hz =>
      rename_i r d o cap
      rw [cond_beq] at h
      split at h
      · rename_i ee
        subst ee
        cases hb : H.block b with
        | no => rw [hb] at h; cases h
        | mk c lo sz g =>
          rw [hb] at h
          simp only [cond_ble] at h
          split at h
          · rename_i q1
            split at h
            · rename_i q2
              cases h
              have q2' : off + len * e ≤ sz := q2
              obtain ⟨cs, t, fz, a1, a2, a3, a4⟩ := hr.row hb hm (hs g (by show g ∈ grpB H b; unfold grpB; rw [(block_some hb).1]; simp))
              refine ⟨rfl, rfl, ?_⟩
              show ∃ cs, (loadCells ⟨r, o, none⟩ (len * e)).run P w = .ok cs w ∧ _
              by_cases h0 : len * e = 0
              · refine ⟨#[], by rw [h0]; rfl, by show 0 = len * e; omega, fun i hi => absurd hi (by show ¬ i < len * e; omega)⟩
              · have hcap : cap ≠ 0 := fun h => by subst h; have : len = 0 := by omega
                                                   subst this; simp at h0
                have ho' := ho hcap
                have hin : o + len * e ≤ cs.size := by
                  obtain ⟨k0, xx, yy, k1, k2, k3, k4⟩ := a4 (off + (len * e - 1)) (by omega) (by omega)
                  have := (Array.getElem?_eq_some_iff.1 k3).1
                  omega
                refine ⟨cs.extract o (o + len * e), run_loads a1 hin, by simp; omega, fun i hi => ?_⟩
                have hi' : i < len * e := hi
                obtain ⟨k0, xx, yy, k1, k2, k3, k4⟩ := a4 (off + i) (by omega) (by omega)
                refine ⟨xx, yy, k1, k2, ?_, k4⟩
                rw [Array.getElem?_extract, if_pos (by omega), ← k3]
                congr 1; omega
            · cases h
          · cases h
      · cases h
  · cases h

theorem copyT_new {c c' : T V} {xs : Cs} {n : Nat} (h : copyT xs.c xs.n xs.off n c = some c') : (∀ i, i < xs.n → ∀ a, xs.c.get (xs.off + i) = some a → c'.get (n + i) = some a) ∧ ∀ k, k < n → c'.get k = c.get k := by
  obtain ⟨h1, h2⟩ := get_copyT xs.c xs.n xs.off n c c' h
  refine ⟨fun i hi a ha => ?_, fun k hk => h2 k (.inl hk)⟩
  obtain ⟨v, e1, e2⟩ := h1 i hi
  rw [ha] at e1; cases e1; exact e2

/-- the part of an append that makes a new row -/
theorem run_grow {w : World} {elem : TypeId} {e need cap : Nat} (hok : AppOk P elem e need) (hcap : cap < need) {sLen m : Nat} {s x : Value} {old new : Array Value} (hold : (Builtin.firstCells e sLen s).run P { w with drawn := w.drawn + 1 } = .ok old { w with drawn := w.drawn + 1 })
    (hnew : (Builtin.firstCells e m x).run P { w with drawn := w.drawn + 1 } = .ok new { w with drawn := w.drawn + 1 }) (base : Option Addr) :
    ∃ (newCap : Nat) (rest : Array Value), need ≤ newCap ∧ rest.size = (newCap - need) * e ∧
      (do
        if (need : Int) > IntKind.i64.max ∧ (false = true ∨ (← typeInfo elem).bytes = 0) then runtimePanic (.error "growslice: len out of range")
        if Builtin.nextslicecap need cap * (← typeInfo elem).bytes > 2 ^ 48 then (if false = true then runtimePanic (.error "growslice: len out of range") else do
          if !(← Builtin.mayShare e sLen m base x) then mark .noRoom
          unsupported (.resourceLimit "append: a slice or a string whose bytes no memory bears"))
        let newCap ← choose (.appendCap need cap elem)
        askRoom (newCap * (← typeInfo elem).bytes)
        let old ← Builtin.firstCells e sLen s
        let new ← Builtin.firstCells e m x
        let rest := Builtin.zeroCells (← zeroValue elem).cells (newCap - need)
        pure (Value.slice (some (← newRow elem (old ++ new ++ rest))) need newCap) : Sem Value).run P w =
      (do pure (Value.slice (some (← newRow elem (old ++ new ++ rest))) need newCap) : Sem Value).run P { w with drawn := w.drawn + 1 } := by
  obtain ⟨i, z, hi, hb, hz, hze⟩ := hok.info
  obtain ⟨nc, c1, c2⟩ := run_choose_cap (P := P) (w := w) (need := need) (old := cap) (elem := elem)
  have hzv : ∀ w, (zeroValue elem).run P w = .ok z w := fun w => by
    unfold zeroValue; rw [run_bind_ok (run_info hi w), hz]; rfl
  refine ⟨nc, Builtin.zeroCells z.cells (nc - need), c2, by rw [zeroCells_size, hze], ?_⟩
  have hle := hok.le
  have hn1 : ¬ ((need : Int) > IntKind.i64.max ∧ (false = true ∨ i.bytes = 0)) := by
    have e1 : IntKind.i64.max = 9223372036854775807 := by decide
    rw [e1]; omega
  have hn2 : ¬ (Builtin.nextslicecap need cap * i.bytes > 2 ^ 48) := by
    have h1 := nextcap_le hcap
    have h2 : Builtin.nextslicecap need cap * i.bytes ≤ (2 * need + 200) * i.bytes := Nat.mul_le_mul_right _ h1
    omega
  rw [run_bind_ok (run_info hi w), if_neg hn1]
  try dsimp only
  rw [run_bind_ok (run_info hi w), if_neg hn2]
  try dsimp only
  rw [run_bind_ok c1, run_bind_ok (run_info hi _), run_bind_ok (run_askRoom _ _), run_bind_ok hold, run_bind_ok hnew, run_bind_ok (hzv _)]
end Go.Ev
