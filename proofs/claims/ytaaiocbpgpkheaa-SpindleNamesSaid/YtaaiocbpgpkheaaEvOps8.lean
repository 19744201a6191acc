/- Looking into a map, and writing one. -/
import Derived.Test.YtaaiocbpgpkheaaEvOps7
namespace Go.Ev
open Go

variable {P : Program}

theorem run_check1 {em : Bool} {w : World} {t : TypeId} {d : Nat} {y : Value} (h : fk P t ≠ .no) : (Instr.checkKey em (d + 1) t y).run P w = .ok () w := by
  cases hf : fk P t with
  | int => obtain ⟨q, hq⟩ := fk_int hf; unfold Instr.checkKey; rw [run_bind_ok (run_under hq w)]; rfl
  | bool => have hq := fk_bool hf; unfold Instr.checkKey; rw [run_bind_ok (run_under hq w)]; rfl
  | no => exact absurd hf h
theorem flat1_fk {t : TypeId} (h : flat1 P t = true) : fk P t ≠ .no := by
  unfold flat1 at h
  intro e; rw [e] at h; cases h
theorem run_checkFs {em : Bool} {R : Ren} {w : World} {n : Nat} {c : T V} {cs : Array Value} (hc : CR R n c cs) (d : Nat) : ∀ (l : List Field) (i : Nat), flatFs P l i = true → i + l.length ≤ n →
    (forIn l PUnit.unit fun (f : Field) (_ : PUnit) => (if f.name ≠ "_" then (do Instr.checkKey em (d + 1) f.type (← part f.type cs f.offset); pure (ForInStep.yield PUnit.unit)) else pure (ForInStep.yield PUnit.unit) : Sem (ForInStep PUnit))).run P w = .ok PUnit.unit w := by
  intro l
  induction l with
  | nil => intro i _ _; rfl
  | cons f l ih =>
    intro i hf hn
    obtain ⟨f1, f2, f3, f4⟩ := flatFs_cons hf
    simp only [List.length_cons] at hn
    obtain ⟨x, y, a1, a2, a3, a4⟩ := hc.2 i (by omega)
    rw [List.forIn_cons]
    rw [if_pos f2, f3]
    rw [run_bind_ok (show (do Instr.checkKey em (d + 1) f.type (← part f.type cs i); pure (ForInStep.yield PUnit.unit) : Sem (ForInStep PUnit)).run P w = .ok (ForInStep.yield PUnit.unit) w by
      rw [run_bind_ok (run_part1 f1 a3 w), run_bind_ok (run_check1 (flat1_fk f1))]; rfl)]
    exact ih (i + 1) f4 (by omega)
theorem run_checkKey' {em : Bool} {R : Ren} {w : World} {t : TypeId} {k : V} {k' : Value} (hk : VR R k k') (h : keyT P t k = true) : (Instr.checkKey em 10000 t k').run P w = .ok () w := by
  unfold keyT at h
  split at h
  · rename_i hf; exact run_check1 (d := 9999) (by rw [hf]; simp)
  · rename_i hf; exact run_check1 (d := 9999) (by rw [hf]; simp)
  · rename_i n c fkk hf
    unfold keyS at h
    split at h
    · rename_i fs hu
      obtain ⟨h1, h2, h3⟩ := flatS_some h
      obtain ⟨cs, rfl, hc⟩ := CR.of_agg hk
      show (Instr.checkKey em (9998 + 1 + 1) t (.agg cs)).run P w = _
      unfold Instr.checkKey
      rw [run_bind_ok (run_under hu w)]
      have := run_checkFs (em := em) (w := w) hc 9998 fs.toList 0 h2 (by simpa using Nat.le_of_eq h1)
      simp only
      rw [← Array.forIn_toList]
      first
        | exact this
        | (rw [run_bind_ok this]; rfl)
        | (simp only [bind_pure_comp] at this ⊢; exact this)
    · cases h
  · cases h

theorem run_getMap {r : Nat} {es : Array MapEntry} {clk : Nat} {w : World} (h : w.heap[r]? = some (.map es clk)) : (getObj r).run P w = .ok (.map es clk) w := by simp [getObj, Sem.run, h]
theorem okV_rel {R : Ren} {v : V} {x : Value} (h : VR R v x) (ok b : Bool) : VR R (okV ok v b) (if ok = true then .tuple #[x, .bool b] else x) := by
  cases ok with
  | false => exact h
  | true =>
    refine .tup rfl (fun i h1 h2 => ?_)
    have : i < 2 := by simpa using h1
    rcases i with _ | _ | i
    · exact h
    · exact .bool b
    · omega
theorem pure_lookup {R : Ren} {S : Nat → Prop} {w : World} {t : TypeId} {x i v : V} {x' i' : Value} {ok : Bool} {H H' : EH} (hr : Rel R S H w) (hx : VR R x x') (hi : VR R i i') (h : evLookup P t x i ok H = some (v, H')) (hS : ∀ g, g ∈ grpV H x → S g) :
    H' = H ∧ PR P R w (Instr.lookup t x' i' ok) v := by
  unfold evLookup at h
  split at h
  · rename_i key elem b hu
    split at h
    · rename_i es clk z ho hz
      cases hk : keyT P key i with
      | false => rw [hk] at h; cases h
      | true =>
        rw [hk] at h
        have h : foundV z ok H (findK P key i es 0) = some (v, H') := h
        cases hx with
        | map hm =>
          rename_i r
          obtain ⟨_, es', clk', h1, h2⟩ := hr.obj b _ r 0 ho hm
          obtain ⟨_, h3⟩ := h2 (hS _ (by show b ∈ grpV H (.map b); simp [grpV]))
          have hrun : ∀ (q : Option (Nat × Value)), (Instr.findKey key i' es'.toList).run P w = .ok q w → (Instr.lookup t (.map (some r)) i' ok).run P w = ((match q with | some (_, v) => pure (v, true) | none => do pure (← zeroValue elem, false) : Sem (Value × Bool)) >>= fun p => pure (if ok then .tuple #[p.1, .bool p.2] else p.1)).run P w := by
            intro q hq
            unfold Instr.lookup
            rw [run_bind_ok (run_under hu w)]
            simp only
            rw [run_bind_ok (run_getMap h1)]
            simp only
            rw [run_bind_ok (show (pure es' : Sem (Array MapEntry)).run P w = .ok es' w from rfl)]
            rw [run_bind_ok (run_checkKey' hi hk), run_bind_ok hq]
            cases q with
            | none => simp only [bind_assoc]
            | some p => rfl
          cases hf : findK P key i es 0 with
          | none => rw [hf] at h; cases h
          | some fr =>
            rw [hf] at h
            obtain ⟨r', a1, a2⟩ := run_findKey (w := w) hi h3 hk hf
            cases fr with
            | none =>
              cases h
              cases r' with
              | some _ => exact a2.elim
              | none =>
                obtain ⟨z', e1, e2⟩ := run_zero hz w
                refine ⟨rfl, _, ?_, okV_rel (e2 R) ok false⟩
                rw [hrun _ a1]
                simp only
                rw [run_bind_ok (show (do pure (← zeroValue elem, false) : Sem (Value × Bool)).run P w = .ok (z', false) w by rw [run_bind_ok e1]; rfl)]
                rfl
            | some p =>
              obtain ⟨j, pv⟩ := p
              cases h
              cases r' with
              | none => exact a2.elim
              | some p' =>
                obtain ⟨j', pv'⟩ := p'
                refine ⟨rfl, _, ?_, okV_rel a2.2 ok true⟩
                rw [hrun _ a1]
                rfl
    · cases h
  · cases h

/-! keys that are equal are the same -/
theorem sameBits_eqK {R : Ren} {k : FK} {x y : V} {x' y' : Value} (hx : VR R x x') (hy : VR R y y') (h : eqK k (some x) (some y) = some true) (n : Nat) : Instr.sameBits n x' y' = true := by
  rcases eqK_some h with ⟨e, q, a, b, rfl, rfl, e2⟩ | ⟨e, a, b, rfl, rfl, e2⟩
  · cases hx; cases hy
    have : a = b := of_decide_eq_true e2.symm
    subst this
    cases n <;> simp [Instr.sameBits]
  · cases hx; cases hy
    have : a = b := by simpa using e2.symm
    subst this
    cases n <;> simp [Instr.sameBits]
theorem eqFs_all {c d : T V} : ∀ (l : List Field) (i : Nat), eqFs P l c d i = some true → ∀ j, j < l.length → ∃ k, eqK k (c.get (i + j)) (d.get (i + j)) = some true := by
  intro l
  induction l with
  | nil => intro i _ j hj; simp at hj
  | cons f l ih =>
    intro i h j hj
    have h' : (match eqK (fk P f.type) (c.get i) (d.get i) with | some true => eqFs P l c d (i + 1) | r => r) = some true := h
    cases hk : eqK (fk P f.type) (c.get i) (d.get i) with
    | none => rw [hk] at h'; cases h'
    | some b =>
      rw [hk] at h'
      cases b with
      | false => cases h'
      | true =>
        cases j with
        | zero => exact ⟨_, hk⟩
        | succ j =>
          obtain ⟨k, e⟩ := ih (i + 1) h' j (by simpa using hj)
          exact ⟨k, by rw [show i + (j + 1) = i + 1 + j by omega]; exact e⟩
theorem sameBits_key {R : Ren} {t : TypeId} {k k1 : V} {k' k1' : Value} (hk : VR R k k') (hk1 : VR R k1 k1') (hkt : keyT P t k = true) (h : keyEq P t k k1 = some true) : Instr.sameBits 10000 k1' k' = true := by
  unfold keyEq at h
  split at h
  · rename_i n c n' d
    rw [cond_beq] at h
    split at h
    · rename_i e
      subst e
      obtain ⟨cs, rfl, hc⟩ := CR.of_agg hk
      obtain ⟨ds, rfl, hd⟩ := CR.of_agg hk1
      have hkt' : keyS P t n = true := hkt
      unfold keyS at hkt'
      split at hkt'
      · rename_i fs hu
        obtain ⟨h1, h2, h3⟩ := flatS_some hkt'
        unfold eqAgg at h
        rw [hu] at h
        simp only [hkt'] at h
        have h : eqFs P fs.toList c d 0 = some true := h
        have hall := eqFs_all fs.toList 0 h
        show Instr.sameBits (9999 + 1) (.agg ds) (.agg cs) = true
        unfold Instr.sameBits
        simp only [Bool.and_eq_true, beq_iff_eq, List.all_eq_true]
        refine ⟨by rw [hc.1, hd.1], fun p hp => ?_⟩
        obtain ⟨j, hj, rfl⟩ := List.getElem_of_mem hp
        simp only [List.length_zip, Array.length_toList, hc.1, hd.1, Nat.min_self] at hj
        obtain ⟨kk, e⟩ := hall j (by simpa [h1] using hj)
        obtain ⟨x, y, a1, a2, a3, a4⟩ := hc.2 j hj
        obtain ⟨x2, y2, b1, b2, b3, b4⟩ := hd.2 j hj
        rw [Nat.zero_add, a1, b1] at e
        have e' : eqK kk (some x2) (some x) = some true := by
          rcases eqK_some e with ⟨rfl, q, a, b, rfl, rfl, e2⟩ | ⟨rfl, a, b, rfl, rfl, e2⟩
          · have : a = b := of_decide_eq_true e2.symm
            subst this; exact e
          · have : a = b := by simpa using e2.symm
            subst this; exact e
        have q1 : cs.toList[j]? = some y := by simpa using a3
        have q2 : ds.toList[j]? = some y2 := by simpa using b3
        have hcs : j < cs.size := by rw [hc.1]; exact hj
        have hds : j < ds.size := by rw [hd.1]; exact hj
        have r1 : cs.toList[j]'(by simpa using hcs) = y := by
          have := List.getElem?_eq_getElem (l := cs.toList) (i := j) (by simpa using hcs)
          rw [this] at q1; exact Option.some.inj q1
        have r2 : ds.toList[j]'(by simpa using hds) = y2 := by
          have := List.getElem?_eq_getElem (l := ds.toList) (i := j) (by simpa using hds)
          rw [this] at q2; exact Option.some.inj q2
        rw [List.getElem_zip, r1, r2]
        exact sameBits_eqK b4 a4 e' 9999
      · cases hkt'
    · cases h
  · have h2 : eqK (fk P t) (some k1) (some k) = some true := by
      rcases eqK_some h with ⟨e0, q, a, b, e1, e3, e2⟩ | ⟨e0, a, b, e1, e3, e2⟩
      · have : a = b := of_decide_eq_true e2.symm
        subst this; rw [e1, e3] at h; rw [e1, e3]; exact h
      · have : a = b := by simpa using e2.symm
        subst this; rw [e1, e3] at h; rw [e1, e3]; exact h
    exact sameBits_eqK hk1 hk h2 10000
end Go.Ev
