/- Writing a map. -/
import Derived.Test.YtaaiocbpgpkheaaEvOps8
import Derived.Laws.IdiomRangeMap
namespace Go.Ev
open Go

variable {P : Program}

theorem findK_at (t : TypeId) (k : V) : ∀ (es : List (V × V × Nat)) (i j : Nat) (v : V), findK P t k es i = some (some (j, v)) → i ≤ j ∧ ∃ e, es[j - i]? = some e ∧ keyEq P t k e.1 = some true := by
  intro es
  induction es with
  | nil => intro i j v h; cases h
  | cons e es ih =>
    intro i j v h
    rw [findK_cons] at h
    cases hq : keyEq P t k e.1 with
    | none => rw [hq] at h; cases h
    | some b =>
      rw [hq] at h
      cases b with
      | true => cases h; exact ⟨Nat.le_refl _, e, by simp, hq⟩
      | false =>
        obtain ⟨h1, e2, h2, h3⟩ := ih (i + 1) j v h
        refine ⟨by omega, e2, ?_, h3⟩
        rw [show j - i = (j - (i + 1)) + 1 by omega]; simpa using h2
theorem ER.at {R : Ren} : ∀ {es : List (V × V × Nat)} {es' : List MapEntry}, ER R es es' → ∀ (i : Nat) (e : V × V × Nat), es[i]? = some e → ∃ e', es'[i]? = some e' ∧ VR R e.1 e'.key
  | [], [], _, i, e, h => by simp at h
  | a :: es, a' :: es', ⟨⟨h1, h2, h3⟩, he⟩, i, e, h => by
    cases i with
    | zero => simp at h; subst h; exact ⟨a', by simp, h1⟩
    | succ i => obtain ⟨e', q1, q2⟩ := ER.at he i e (by simpa using h); exact ⟨e', by simpa using q1, q2⟩
theorem setE_nil (k v : V) (i : Nat) : setE k v [] i = [] := rfl
theorem setE_zero (k v : V) (e : V × V × Nat) (es : List (V × V × Nat)) : setE k v (e :: es) 0 = (k, v, e.2.2) :: es := rfl
theorem setE_succ (k v : V) (e : V × V × Nat) (es : List (V × V × Nat)) (i : Nat) : setE k v (e :: es) (i + 1) = e :: setE k v es i := rfl
theorem snocE_nil (x : V × V × Nat) : snocE [] x = [x] := rfl
theorem snocE_cons (e x : V × V × Nat) (es : List (V × V × Nat)) : snocE (e :: es) x = e :: snocE es x := rfl
theorem ER.set {R : Ren} {k v : V} {k' v' : Value} (hk : VR R k k') (hv : VR R v v') : ∀ {es : List (V × V × Nat)} {es' : List MapEntry} (i : Nat), ER R es es' → ER R (setE k v es i) (es'.modify i fun e => { e with key := k', val := v' })
  | [], [], i, _ => by rw [setE_nil]; cases i <;> trivial
  | a :: es, a' :: es', i, ⟨⟨h1, h2, h3⟩, he⟩ => by
    cases i with
    | zero => rw [setE_zero]; exact ⟨⟨hk, hv, h3⟩, he⟩
    | succ i => rw [setE_succ]; exact ⟨⟨h1, h2, h3⟩, ER.set hk hv i he⟩
theorem ER.snoc {R : Ren} {k v : V} {k' v' : Value} (hk : VR R k k') (hv : VR R v v') (b : Nat) : ∀ {es : List (V × V × Nat)} {es' : List MapEntry}, ER R es es' → ER R (snocE es (k, v, b)) (es' ++ [{ key := k', val := v', born := b }])
  | [], [], _ => ⟨⟨hk, hv, rfl⟩, trivial⟩
  | _ :: _, _ :: _, ⟨⟨h1, h2, h3⟩, he⟩ => ⟨⟨h1, h2, h3⟩, ER.snoc hk hv b he⟩

theorem run_setMap {r : Nat} {es : Array MapEntry} {clk : Nat} {w : World} (h : w.heap[r]? = some (.map es clk)) (o : Obj) : ∃ w', (setObj r o).run P w = .ok () w' ∧ WU w r o w' := by
  refine ⟨{ w with heap := w.heap.setIfInBounds r o }, by simp [setObj, Sem.run, h], ⟨by simp, ?_, fun r' e => ?_, rfl, rfl, rfl⟩⟩
  · have := (Array.getElem?_eq_some_iff.1 h).1
    simp [this]
  · simp only; rw [Array.getElem?_setIfInBounds_ne (fun q => e q.symm)]

theorem good_mapUpdate {R : Ren} {S : Nat → Prop} {H H' : EH} {w : World} (hr : Rel R S H w) (hw : WF H) {t : TypeId} {m k x v : V} {m' k' x' : Value} (hm : VR R m m') (hk : VR R k k') (hx : VR R x x') (h : evMapUpdate P t m k x H = some (v, H'))
    (hS : ∀ g, g ∈ grpV H m → S g) : ∃ w', (Instr.mapUpdate t m' k' x').run P w = .ok () w' ∧ v = .bad ∧ Sim R R S H H' (fun g => g ∈ grpV H m) w w' := by
  unfold evMapUpdate at h
  split at h
  · rename_i key elem b hu
    split at h
    · rename_i es clk ho
      cases hkt : keyT P key k with
      | false => rw [hkt] at h; cases h
      | true =>
        rw [hkt] at h
        have h : updV b k x es clk H (findK P key k es 0) = some (v, H') := h
        cases hm with
        | map hb =>
          rename_i r
          obtain ⟨_, es', clk', h1, h2⟩ := hr.obj b _ r 0 ho hb
          obtain ⟨hclk, h3⟩ := h2 (hS _ (by show b ∈ grpV H (.map b); simp [grpV]))
          subst hclk
          have hW : (fun g => g ∈ grpV H (.map b)) = (fun g => g = b) := by funext g; simp [grpV]
          rw [hW]
          cases hf : findK P key k es 0 with
          | none => rw [hf] at h; cases h
          | some fr =>
            rw [hf] at h
            obtain ⟨r', a1, a2⟩ := run_findKey (w := w) hk h3 hkt hf
            cases fr with
            | none =>
              cases h
              cases r' with
              | some _ => exact a2.elim
              | none =>
                obtain ⟨w', s1, s2⟩ := run_setMap (P := P) h1 (.map (es'.push { key := k', val := x', born := clk' }) (clk' + 1))
                refine ⟨w', ?_, rfl, sim_obj hr hw ho hb (by simp [kindO]) rfl _ ⟨rfl, _, _, s2.neu, fun _ => ⟨rfl, ?_⟩⟩ s2⟩
                · unfold Instr.mapUpdate
                  rw [run_bind_ok (run_under hu w)]
                  simp only
                  rw [run_bind_ok (run_getMap h1)]
                  simp only
                  rw [run_bind_ok (run_checkKey' hk hkt), run_bind_ok a1]
                  exact s1
                · rw [Array.toList_push]; exact ER.snoc hk hx clk' h3
            | some p =>
              obtain ⟨j, pv⟩ := p
              cases h
              cases r' with
              | none => exact a2.elim
              | some p' =>
                obtain ⟨j', pv'⟩ := p'
                obtain ⟨rfl, _⟩ := a2
                obtain ⟨w', s1, s2⟩ := run_setMap (P := P) h1 (.map (es'.modify j fun e => { e with key := k', val := x' }) clk')
                refine ⟨w', ?_, rfl, sim_obj hr hw ho hb (by simp [kindO]) rfl _ ⟨rfl, _, _, s2.neu, fun _ => ⟨rfl, ?_⟩⟩ s2⟩
                · obtain ⟨_, e, g1, g2⟩ := findK_at key k es 0 j pv hf
                  obtain ⟨e', g3, g4⟩ := ER.at h3 j e (by simpa using g1)
                  have hold : ((es'[j]?).map (·.key)).getD k' = e'.key := by
                    have : es'[j]? = some e' := by simpa using g3
                    rw [this]; rfl
                  have hst : (Instr.keyThatStays (((es'[j]?).map (·.key)).getD k') k').run P w = .ok k' w := by
                    rw [hold]
                    unfold Instr.keyThatStays
                    rw [if_pos (sameBits_key hk g4 hkt g2)]; rfl
                  unfold Instr.mapUpdate
                  rw [run_bind_ok (run_under hu w)]
                  simp only
                  rw [run_bind_ok (run_getMap h1)]
                  simp only
                  rw [run_bind_ok (run_checkKey' hk hkt), run_bind_ok a1]
                  simp only
                  rw [run_bind_ok hst]
                  exact s1
                · rw [Array.toList_modify]; exact ER.set hk hx j h3
    · cases h
  · cases h

theorem good_range {R : Ren} {S : Nat → Prop} {H H' : EH} {w : World} (hr : Rel R S H w) (hw : WF H) (hf : Free R H H') {t : TypeId} {x v : V} {x' : Value} (hx : VR R x x') (h : evRange P t x H = some (v, H')) (hS : ∀ g, g ∈ grpV H x → S g) :
    Good P R S H w (Instr.range t x') v H' (fun _ => False) := by
  unfold evRange at h
  split at h
  · rename_i key elem m hu
    split at h
    · rename_i es clk ho
      rw [fN_eq] at h
      cases h
      cases hx with
      | map hm =>
        rename_i r
        obtain ⟨_, es', clk', h1, h2⟩ := hr.obj m _ r 0 ho hm
        obtain ⟨rfl, _⟩ := h2 (hS _ (by show m ∈ grpV H (.map m); simp [grpV]))
        obtain ⟨R', g1, g2, g3⟩ := sim_new (w' := w.alloc (.mapIter (some r) clk' #[] clk')) hr hw (hf _ (Nat.le_refl _) (Nat.lt_succ_self _)) (.iter (some (m, clk'))) rfl (.mapIter (some r) clk' #[] clk') 0
          (fun R' hle hb hz => ⟨rfl, some r, clk', #[], clk', (WA.push w _).neu, fun _ => ⟨rfl, rfl, rfl, r, rfl, hle.bm _ _ hm⟩⟩) (WA.push w _)
        exact ⟨_, _, R', run_range_map w t key elem r es' clk' hu h1, .ptr g2 rfl, g1⟩
    · cases h
  · cases h
end Go.Ev
