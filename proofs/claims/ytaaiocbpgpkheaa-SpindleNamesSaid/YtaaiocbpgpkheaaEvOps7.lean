/- make, new variables; maps. -/
import Derived.Test.YtaaiocbpgpkheaaEvOps6
namespace Go.Ev
open Go

variable {P : Program}

theorem good_alloc {R : Ren} {S : Nat → Prop} {H H' : EH} {w : World} (hr : Rel R S H w) (hw : WF H) (hf : Free R H H') {t : TypeId} {v : V} (h : evAlloc P t H = some (v, H')) : Good P R S H w (Instr.alloc t true (.tuple #[])) v H' (fun _ => False) := by
  unfold evAlloc at h
  cases hz : zeroT P t with
  | none => rw [hz] at h; cases h
  | some z =>
    rw [hz] at h
    obtain ⟨z', e1, e2⟩ := run_zero hz w
    obtain ⟨x, w', R', g1, g2, g3⟩ := good_newVar (P := P) hr hw hf (e2 R) h t
    refine ⟨x, w', R', ?_, g2, g3⟩
    unfold Instr.alloc
    rw [run_bind_ok e1]
    exact g1

theorem good_makeMap {R : Ren} {S : Nat → Prop} {H H' : EH} {w : World} (hr : Rel R S H w) (hw : WF H) (hf : Free R H H') {t : TypeId} {v : V} (h : evMakeMap H = some (v, H')) : Good P R S H w (Instr.makeMap t none) v H' (fun _ => False) := by
  unfold evMakeMap at h
  rw [fN_eq] at h
  cases h
  obtain ⟨R', h1, h2, h3⟩ := sim_new (w' := { w with heap := w.heap.push (.map #[] 0) }) hr hw (hf _ (Nat.le_refl _) (Nat.lt_succ_self _)) (.map [] 0) rfl (.map #[] 0) 0 (fun R' hle hb hz => ⟨rfl, #[], 0, by simp, fun _ => ⟨rfl, trivial⟩⟩) (WA.push w _)
  exact ⟨_, _, R', rfl, .map h2, h1⟩

theorem bytesOk_some {t : TypeId} {m : Nat} (h : bytesOk P t m = true) : ∃ i, P.info? t = some i ∧ i.bytes * m ≤ 281474976710656 := by
  unfold bytesOk at h
  cases hi : P.info? t with
  | none => rw [hi] at h; cases h
  | some i => rw [hi] at h; exact ⟨i, rfl, Nat.le_of_ble_eq_true h⟩
theorem good_makeSlice {R : Ren} {S : Nat → Prop} {H H' : EH} {w : World} (hr : Rel R S H w) (hw : WF H) (hf : Free R H H') {t : TypeId} {l c v : V} {l' c' : Value} (hl : VR R l l') (hc : VR R c c') (h : evMakeSlice P t l c H = some (v, H')) :
    Good P R S H w (Instr.makeSlice t l' c') v H' (fun _ => False) := by
  unfold evMakeSlice at h
  split at h
  · rename_i elem k n k' m hu
    split at h
    · rename_i size z hs hz
      simp only [cond_ble] at h
      split at h
      · rename_i hnm
        split at h
        · rename_i hm
          cases hb : bytesOk P elem m with
          | false => rw [hb] at h; cases h
          | true =>
            rw [hb] at h
            obtain ⟨i, hi, hb⟩ := bytesOk_some hb
            obtain ⟨q, c0, c1, q1, q2, q3⟩ := rowZ_some h
            rw [cond_beq] at q3
            split at q3
            · rename_i eq
              subst eq
              cases hl; cases hc
              obtain ⟨z', e1, e2⟩ := run_zero hz w
              have hzr := zero_row (e2 R) q1 q2
              obtain ⟨x, w', R', g1, g2, g3⟩ := good_newRow (P := P) hr hw hf (cap := m) hzr hnm rfl q3 elem
              refine ⟨x, w', R', ?_, g2, g3⟩
              rw [← g1]
              have w1 : IntKind.i64.wrap (Int.ofNat n) = (n : Int) := wrap_small (n := (n : Int)) (by omega) (by omega)
              have w2 : IntKind.i64.wrap (Int.ofNat m) = (m : Int) := wrap_small (n := (m : Int)) (by omega) (by omega)
              have hbi : ((i.bytes : Int) * (m : Int)) ≤ 281474976710656 := by rw [← Int.natCast_mul]; omega
              unfold Instr.makeSlice
              rw [run_bind_ok (run_under hu w)]
              simp only
              rw [run_bind_ok (show (asInt (.int k (Int.ofNat n))).run P w = .ok (Int.ofNat n) w from rfl), run_bind_ok (show (asInt (.int k' (Int.ofNat m))).run P w = .ok (Int.ofNat m) w from rfl), run_bind_ok (run_info hi w)]
              simp only [w1, w2]
              rw [if_neg (by intro hh; simp only [Bool.or_eq_true, decide_eq_true_eq] at hh; omega)]
              simp only [Int.toNat_natCast]
              rw [run_bind_ok (run_askRoom _ w), run_bind_ok (run_size hs w)]
              by_cases h0 : m * q = 0
              · rw [if_pos h0, run_bind_ok (show (pure #[] : Sem (Array Value)).run P w = .ok #[] w from rfl)]
                have hz2 : (Array.range (m * q)).map ((#[] : Array Value)[· % (#[] : Array Value).size]!) = (Array.range (m * q)).map (z'.cells[· % z'.cells.size]!) := by rw [h0]; simp
                rw [hz2]
              · rw [if_neg h0, run_bind_ok e1, run_bind_ok (show (pure z'.cells : Sem (Array Value)).run P w = .ok z'.cells w from rfl)]
            · cases q3
        · cases h
      · cases h
    · cases h
  · cases h

/-! maps -/
theorem run_keyEq {R : Ren} {w : World} {t : TypeId} {x y : V} {x' y' : Value} (hx : VR R x x') (hy : VR R y y') {b : Bool} (h : keyEq P t x y = some b) : (Op.equal t x' y').run P w = .ok b w := by
  unfold keyEq at h
  split at h
  · rename_i n c n' d
    rw [cond_beq] at h
    split at h
    · rename_i e
      subst e
      obtain ⟨cs, rfl, hc⟩ := CR.of_agg hx
      obtain ⟨ds, rfl, hd⟩ := CR.of_agg hy
      exact run_eqAgg hc hd h 9998
    · cases h
  · exact run_eqK hx hy h
/-- what was found -/
def FR (R : Ren) : Option (Nat × V) → Option (Nat × Value) → Prop
  | none, none => True
  | some (i, v), some (j, x) => i = j ∧ VR R v x
  | _, _ => False
theorem findK_cons (t : TypeId) (k : V) (e : V × V × Nat) (es : List (V × V × Nat)) (i : Nat) : findK P t k (e :: es) i = (match keyEq P t k e.1 with | some true => some (some (i, e.2.1)) | some false => findK P t k es (i + 1) | none => none) := rfl
theorem run_findAsking {R : Ren} {w : World} {t : TypeId} {k : V} {k' : Value} (hk : VR R k k') : ∀ (es : List (V × V × Nat)) (es' : List MapEntry) (i : Nat) (r : Option (Nat × V)), ER R es es' → findK P t k es i = some r → ∃ r', (Instr.findAsking t k' es' i).run P w = .ok r' w ∧ FR R r r'
  | [], [], i, r, _, h => by cases h; exact ⟨none, rfl, trivial⟩
  | e :: es, e' :: es', i, r, ⟨⟨h1, h2, h3⟩, he⟩, h => by
    rw [findK_cons] at h
    cases hq : keyEq P t k e.1 with
    | none => rw [hq] at h; cases h
    | some b =>
      rw [hq] at h
      have hrun := run_keyEq (w := w) hk h1 hq
      cases b with
      | true =>
        cases h
        refine ⟨some (i, e'.val), ?_, rfl, h2⟩
        unfold Instr.findAsking
        rw [run_bind_ok hrun]; rfl
      | false =>
        obtain ⟨r', a1, a2⟩ := run_findAsking hk es es' (i + 1) r he h
        refine ⟨r', ?_, a2⟩
        unfold Instr.findAsking
        rw [run_bind_ok hrun]
        exact a1
theorem findNow_scalar {R : Ren} {t : TypeId} {k : V} {k' : Value} (hk : VR R k k') (hs : ∀ n c, k ≠ .agg n c) {d : TypeDesc} (hd : P.underlying t = some d) : ∀ (es : List (V × V × Nat)) (es' : List MapEntry) (i : Nat) (r : Option (Nat × V)), ER R es es' → findK P t k es i = some r → ∃ r', Instr.findNow d k' es' i = some r' ∧ FR R r r'
  | [], [], i, r, _, h => by cases h; exact ⟨none, rfl, trivial⟩
  | e :: es, e' :: es', i, r, ⟨⟨h1, h2, h3⟩, he⟩, h => by
    rw [findK_cons] at h
    cases hq : keyEq P t k e.1 with
    | none => rw [hq] at h; cases h
    | some b =>
      rw [hq] at h
      have hsame : Instr.sameNow d k' e'.key = some b := by
        unfold keyEq at hq
        split at hq
        · exact absurd rfl (hs _ _)
        · rcases eqK_some hq with ⟨e0, q, m, n, rfl, e2, rfl⟩ | ⟨e0, m, n, rfl, e2, rfl⟩
          · obtain ⟨q2, hq2⟩ := fk_int e0
            rw [hd] at hq2; cases hq2
            rw [e2] at h1
            cases hk
            generalize e'.key = z at h1
            cases h1
            show (if q = q then some (m == n) else none) = _
            rw [if_pos rfl]
            by_cases e : m = n <;> simp [e]
          · have hq2 := fk_bool e0
            rw [hd] at hq2; cases hq2
            rw [e2] at h1
            cases hk
            generalize e'.key = z at h1
            cases h1
            rfl
      unfold Instr.findNow
      rw [hsame]
      cases b with
      | true => cases h; exact ⟨_, rfl, rfl, h2⟩
      | false => exact findNow_scalar hk hs hd es es' (i + 1) r he h
theorem run_findKey {R : Ren} {w : World} {t : TypeId} {k : V} {k' : Value} (hk : VR R k k') {es : List (V × V × Nat)} {es' : List MapEntry} {r : Option (Nat × V)} (he : ER R es es') (hkt : keyT P t k = true) (h : findK P t k es 0 = some r) : ∃ r', (Instr.findKey t k' es').run P w = .ok r' w ∧ FR R r r' := by
  by_cases hs : ∀ n c, k ≠ .agg n c
  · have hd : ∃ d, P.underlying t = some d := by
      unfold keyT at hkt
      split at hkt
      · rename_i hf; obtain ⟨q, hq⟩ := fk_int hf; exact ⟨_, hq⟩
      · rename_i hf; exact ⟨_, fk_bool hf⟩
      · exact absurd rfl (hs _ _)
      · cases hkt
    obtain ⟨d, hd⟩ := hd
    obtain ⟨r', a1, a2⟩ := findNow_scalar hk hs hd es es' 0 r he h
    refine ⟨r', ?_, a2⟩
    unfold Instr.findKey
    rw [run_bind_ok (run_under hd w), a1]; rfl
  · have hs2 : ∃ n c, k = .agg n c := by
      cases k <;> first | exact ⟨_, _, rfl⟩ | (exact absurd (fun n c => by simp) hs)
    obtain ⟨n, c, rfl⟩ := hs2
    have hd : ∃ fs, P.underlying t = some (.struct fs) := by
      have hkt' : keyS P t n = true := hkt
      unfold keyS at hkt'
      split at hkt'
      · rename_i fs hu; exact ⟨fs, hu⟩
      · cases hkt'
    obtain ⟨fs, hd⟩ := hd
    obtain ⟨cs, rfl, hc⟩ := CR.of_agg hk
    unfold Instr.findKey
    rw [run_bind_ok (run_under hd w)]
    cases es' with
    | nil =>
      cases es with
      | nil => cases h; exact ⟨none, rfl, trivial⟩
      | cons _ _ => exact he.elim
    | cons e' es' =>
      have hnow : Instr.findNow (.struct fs) (.agg cs) (e' :: es') 0 = none := by
        unfold Instr.findNow; rfl
      rw [hnow]
      exact run_findAsking hk es (e' :: es') 0 r he h
end Go.Ev
