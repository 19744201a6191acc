/- '==' and '!='. -/
import Derived.Test.YtaaiocbpgpkheaaEvPure
import Derived.Laws.StructEq
import Derived.ChangeKeysEq
namespace Go.Ev
open Go

variable {P : Program}

theorem fk_int {t : TypeId} (h : fk P t = .int) : ∃ k, P.underlying t = some (.int k) := by
  unfold fk at h
  split at h
  · rename_i k e; exact ⟨k, e⟩
  · cases h
  · cases h
theorem fk_bool {t : TypeId} (h : fk P t = .bool) : P.underlying t = some .bool := by
  unfold fk at h
  split at h
  · cases h
  · rename_i e; exact e
  · cases h
theorem eqK_some {k : FK} {x y : V} {b : Bool} (h : eqK k (some x) (some y) = some b) :
    (k = .int ∧ ∃ q m n, x = .int q m ∧ y = .int q n ∧ b = decide (m = n)) ∨ (k = .bool ∧ ∃ m n, x = .bool m ∧ y = .bool n ∧ b = (m == n)) := by
  unfold eqK at h
  split at h
  · rename_i q m q' n e1 e2
    cases hk : sameK q q' with
    | false => rw [hk] at h; cases h
    | true =>
      rw [hk] at h
      have := sameK_eq hk
      subst this
      injection e1 with e1; injection e2 with e2
      subst e1; subst e2
      refine .inl ⟨rfl, q, m, n, rfl, rfl, ?_⟩
      have h2 : some (iEq m n) = some b := h
      injection h2 with h2
      rw [← h2, iEq_eq]
  · rename_i m n e1 e2
    injection e1 with e1; injection e2 with e2
    subst e1; subst e2
    refine .inr ⟨rfl, m, n, rfl, rfl, ?_⟩
    injection h with h
    rw [← h, boolEq_eq]
  · cases h
theorem run_eqK {R : Ren} {w : World} {t : TypeId} {d : Nat} {x y : V} {x' y' : Value} (hx : VR R x x') (hy : VR R y y') {b : Bool} (h : eqK (fk P t) (some x) (some y) = some b) : (Op.equalIn (d + 1) t x' y').run P w = .ok b w := by
  rcases eqK_some h with ⟨e, q, m, n, rfl, rfl, rfl⟩ | ⟨e, m, n, rfl, rfl, rfl⟩
  · obtain ⟨k, hk⟩ := fk_int e
    cases hx; cases hy
    rw [run_equalIn_int w d t q k m n hk]
    rfl
  · have hk := fk_bool e
    cases hx; cases hy
    exact run_equalIn_bool' w d t m n hk
theorem flat1_some {t : TypeId} (h : flat1 P t = true) : (∀ w, (isAgg t).run P w = .ok false w) ∧ P.cellsOf t = 1 ∧ ∃ d, P.underlying t = some d := by
  unfold flat1 at h
  split at h
  · cases h
  · rename_i k hk
    have h1 : P.cellsOf t = 1 := by rw [nbeq] at h; simpa using h
    cases e : fk P t with
    | int => obtain ⟨k, hk⟩ := fk_int e; exact ⟨fun w => run_isAgg hk w, h1, _, hk⟩
    | bool => have hk := fk_bool e; exact ⟨fun w => run_isAgg hk w, h1, _, hk⟩
    | no => exact absurd e hk
theorem run_part1 {t : TypeId} (h : flat1 P t = true) {cs : Array Value} {i : Nat} {y : Value} (hy : cs[i]? = some y) (w : World) : (part t cs i).run P w = .ok y w := by
  unfold part
  rw [run_bind_ok ((flat1_some h).1 w)]
  simp only [Bool.false_eq_true, if_false]
  rw [hy]; rfl
theorem eqK_get {k : FK} {x y : Option V} {b : Bool} (h : eqK k x y = some b) : ∃ x' y', x = some x' ∧ y = some y' := by
  unfold eqK at h
  split at h
  · exact ⟨_, _, rfl, rfl⟩
  · exact ⟨_, _, rfl, rfl⟩
  · cases h
theorem flatFs_cons {f : Field} {l : List Field} {i : Nat} (h : flatFs P (f :: l) i = true) : flat1 P f.type = true ∧ f.name ≠ "_" ∧ f.offset = i ∧ flatFs P l (i + 1) = true := by
  have h' : cond (flat1 P f.type) (cond (decide (f.name ≠ "_")) (cond (Nat.beq f.offset i) (flatFs P l (i + 1)) false) false) false = true := h
  cases h1 : flat1 P f.type with
  | false => rw [h1] at h'; cases h'
  | true =>
    rw [h1] at h'
    cases h2 : decide (f.name ≠ "_") with
    | false => rw [h2] at h'; cases h'
    | true =>
      rw [h2] at h'
      simp only [cond_true, cond_beq] at h'
      split at h'
      · rename_i e; exact ⟨rfl, of_decide_eq_true h2, e, h'⟩
      · cases h'
theorem run_eqFs {R : Ren} {w : World} {n : Nat} {c d : T V} {xs ys : Array Value} (hc : CR R n c xs) (hd : CR R n d ys) (dd : Nat) : ∀ (l : List Field) (i : Nat), flatFs P l i = true → i + l.length ≤ n → ∀ r, eqFs P l c d i = some r → (Op.eqFields (dd + 1) xs ys l).run P w = .ok r w := by
  intro l
  induction l with
  | nil => intro i _ _ r h; cases h; rfl
  | cons f l ih =>
    intro i hf hn r h
    obtain ⟨f1, f2, f3, f4⟩ := flatFs_cons hf
    simp only [List.length_cons] at hn
    have h' : (match eqK (fk P f.type) (c.get i) (d.get i) with | some true => eqFs P l c d (i + 1) | r => r) = some r := h
    cases hk : eqK (fk P f.type) (c.get i) (d.get i) with
    | none => rw [hk] at h'; cases h'
    | some b =>
      rw [hk] at h'
      obtain ⟨x, y, a1, a2, a3, a4⟩ := hc.2 i (by omega)
      obtain ⟨x2, y2, b1, b2, b3, b4⟩ := hd.2 i (by omega)
      rw [a1, b1] at hk
      have e3 := run_eqK (P := P) (w := w) (d := dd) a4 b4 hk
      unfold Op.eqFields
      rw [if_pos f2, f3, run_bind_ok (run_part1 f1 a3 w), run_bind_ok (run_part1 f1 b3 w), run_bind_ok e3]
      cases b with
      | false => cases h'; rfl
      | true => exact ih (i + 1) f4 (by omega) r h'
theorem run_eqAr {R : Ren} {w : World} {n : Nat} {c d : T V} {xs ys : Array Value} (hc : CR R n c xs) (hd : CR R n d ys) (dd : Nat) {e : TypeId} (he : flat1 P e = true) : ∀ (m i : Nat), i + m ≤ n → ∀ r, eqAr (fk P e) c d m i = some r → (Op.eqItems (dd + 1) e (P.cellsOf e) xs ys (List.range' i m)).run P w = .ok r w := by
  intro m
  induction m with
  | zero => intro i _ r h; cases h; rfl
  | succ m ih =>
    intro i hn r h
    have h' : (match eqK (fk P e) (c.get i) (d.get i) with | some true => eqAr (fk P e) c d m (i + 1) | r => r) = some r := h
    cases hk : eqK (fk P e) (c.get i) (d.get i) with
    | none => rw [hk] at h'; cases h'
    | some b =>
      rw [hk] at h'
      obtain ⟨x, y, a1, a2, a3, a4⟩ := hc.2 i (by omega)
      obtain ⟨x2, y2, b1, b2, b3, b4⟩ := hd.2 i (by omega)
      rw [a1, b1] at hk
      have e3 := run_eqK (P := P) (w := w) (d := dd) a4 b4 hk
      rw [List.range'_succ]
      unfold Op.eqItems
      rw [(flat1_some he).2.1, Nat.mul_one, run_bind_ok (run_part1 he a3 w), run_bind_ok (run_part1 he b3 w), run_bind_ok e3]
      cases b with
      | false => cases h'; rfl
      | true =>
        have := ih (i + 1) (by omega) r h'
        rw [(flat1_some he).2.1] at this
        exact this
theorem flatS_some {t : TypeId} {fs : Array Field} {n : Nat} (h : flatS P t fs n = true) : fs.size = n ∧ flatFs P fs.toList 0 = true ∧ P.stoodInHeld t = false := by
  unfold flatS at h
  rw [cond_beq] at h
  split at h
  · rename_i e
    cases h1 : flatFs P fs.toList 0 with
    | false => rw [h1] at h; cases h
    | true => rw [h1] at h; refine ⟨e, rfl, ?_⟩; have h2 : (!P.stoodInHeld t) = true := h; simpa using h2
  · cases h
theorem flatA_some {e : TypeId} {len n : Nat} (h : flatA P e len n = true) : len = n ∧ flat1 P e = true := by
  unfold flatA at h
  rw [cond_beq] at h
  split at h
  · rename_i q; exact ⟨q, h⟩
  · cases h
theorem fieldsOf_eq {t : TypeId} {fs : Array Field} (h : P.underlying t = some (.struct fs)) : P.fieldsOf t = fs := by unfold Program.fieldsOf; rw [h]
theorem run_eqAgg {R : Ren} {w : World} {n : Nat} {c d : T V} {xs ys : Array Value} (hc : CR R n c xs) (hd : CR R n d ys) {t : TypeId} {r : Bool} (h : eqAgg P t n c d = some r) (dd : Nat) : (Op.equalIn (dd + 2) t (.agg xs) (.agg ys)).run P w = .ok r w := by
  unfold eqAgg at h
  split at h
  · rename_i fs hu
    cases hf : flatS P t fs n with
    | false => rw [hf] at h; cases h
    | true =>
      rw [hf] at h
      obtain ⟨h1, h2, h3⟩ := flatS_some hf
      have hfo := fieldsOf_eq hu
      rw [run_equalIn_struct w (dd + 1) t xs ys (by rw [hfo]; exact hu) h3, hfo]
      exact run_eqFs hc hd dd fs.toList 0 h2 (by simpa using Nat.le_of_eq h1) r h
  · rename_i len e hu
    cases hf : flatA P e len n with
    | false => rw [hf] at h; cases h
    | true =>
      rw [hf] at h
      obtain ⟨h1, h2⟩ := flatA_some hf
      subst h1
      have hi : ∃ i, P.info? e = some i := by
        obtain ⟨d, hd⟩ := (flat1_some h2).2.2
        unfold Program.underlying at hd
        cases q : P.info? e with
        | none => rw [q] at hd; cases hd
        | some i => exact ⟨i, rfl⟩
      obtain ⟨i, hi⟩ := hi
      rw [run_equalIn_array w (dd + 1) xs ys hu hi, List.range_eq_range']
      exact run_eqAr hc hd dd h2 len 0 (by omega) r h
  · cases h

theorem eqV_some {op : BinOp} {r : Option Bool} {v : V} (h : eqV op r = some v) : ∃ b, r = some b ∧ ((op = .eql ∧ v = .bool b) ∨ (op = .neq ∧ v = .bool (!b))) := by
  unfold eqV at h
  cases r with
  | none => cases h
  | some b =>
    cases op <;> first | (cases h; done) | skip
    · cases h; exact ⟨b, rfl, .inl ⟨rfl, rfl⟩⟩
    · cases h; exact ⟨b, rfl, .inr ⟨rfl, rfl⟩⟩
theorem run_eqOp {w : World} {op : BinOp} {t : TypeId} {x y : Value} {b : Bool} {v : V} (hv : (op = .eql ∧ v = .bool b) ∨ (op = .neq ∧ v = .bool (!b))) (h : (Op.equal t x y).run P w = .ok b w)
    (h1 : binOp .eql t x y = (do pure (.bool (← Op.equal t x y)))) (h2 : binOp .neq t x y = (do pure (.bool (!(← Op.equal t x y))))) : ∃ z, (binOp op t x y).run P w = .ok z w ∧ ∀ R, VR R v z := by
  rcases hv with ⟨rfl, rfl⟩ | ⟨rfl, rfl⟩
  · refine ⟨.bool b, ?_, fun _ => .bool _⟩
    rw [h1, run_bind_ok h]; rfl
  · refine ⟨.bool (!b), ?_, fun _ => .bool _⟩
    rw [h2, run_bind_ok h]; rfl
theorem guard_pure {w : World} {op : BinOp} {t : TypeId} {x y : Operand} {a b : Value} (h1 : ∀ c d, a ≠ .agg c ∨ b ≠ .agg d) (h2 : a ≠ .nilIface ∨ b ≠ .nilIface) : (eqGuard op t x y a b).run P w = .ok () w := by
  unfold eqGuard
  cases op <;> first | rfl | skip
  all_goals
    simp only [Bool.not_true, Bool.false_eq_true, if_false]
    split
    · rcases h2 with h | h <;> exact absurd rfl h
    · rename_i c d; rcases h1 c d with h | h <;> exact absurd rfl h
    · rfl
theorem guard_notEq {w : World} {op : BinOp} {t : TypeId} {x y : Operand} {a b : Value} (h : op ≠ .eql ∧ op ≠ .neq) : (eqGuard op t x y a b).run P w = .ok () w := by
  unfold eqGuard
  cases op <;> first | rfl | (exact absurd rfl h.1) | (exact absurd rfl h.2)
theorem nilK_some {t : TypeId} : (nilK P t = .sl → ∃ e, P.underlying t = some (.slice e)) ∧ (nilK P t = .mp → ∃ k e, P.underlying t = some (.map k e)) ∧ (nilK P t = .pt → ∃ e, P.underlying t = some (.pointer e)) ∧ (nilK P t = .fn → ∃ a b c, P.underlying t = some (.func a b c)) := by
  unfold nilK
  refine ⟨fun h => ?_, fun h => ?_, fun h => ?_, fun h => ?_⟩ <;> split at h <;> first | (cases h; done) | skip
  · rename_i e q; exact ⟨e, q⟩
  · rename_i k e q; exact ⟨k, e, q⟩
  · rename_i e q; exact ⟨e, q⟩
  · rename_i a b c q; exact ⟨a, b, c, q⟩
theorem eqIn_nilS {w : World} {t e : TypeId} (hu : P.underlying t = some (.slice e)) (d : Nat) (p q : Option Addr) (a b c f : Nat) (h : p = none ∨ q = none) : (Op.equalIn (d + 1) t (.slice p a b) (.slice q c f)).run P w = .ok (p.isNone && q.isNone) w := by
  rcases h with rfl | rfl
  · simp [Op.equalIn, run_under hu]
  · cases p <;> simp [Op.equalIn, run_under hu]
theorem eqIn_nilM {w : World} {t k e : TypeId} (hu : P.underlying t = some (.map k e)) (d : Nat) (p q : Option Nat) (h : p = none ∨ q = none) : (Op.equalIn (d + 1) t (.map p) (.map q)).run P w = .ok (p.isNone && q.isNone) w := by
  rcases h with rfl | rfl
  · simp [Op.equalIn, run_under hu]
  · cases p <;> simp [Op.equalIn, run_under hu]
theorem eqIn_nilP {w : World} {t e : TypeId} (hu : P.underlying t = some (.pointer e)) (d : Nat) (p q : Option Addr) (h : p = none ∨ q = none) : (Op.equalIn (d + 1) t (.pointer p) (.pointer q)).run P w = .ok (p.isNone && q.isNone) w := by
  rcases h with rfl | rfl
  · simp [Op.equalIn, run_under hu]
  · cases p <;> simp [Op.equalIn, run_under hu]
theorem eqIn_nilF1 {w : World} {t : TypeId} {x y : Array TypeId} {z : Bool} (hu : P.underlying t = some (.func x y z)) (d : Nat) : (Op.equalIn (d + 1) t .nilFunc .nilFunc).run P w = .ok true w := by simp [Op.equalIn, run_under hu]
theorem eqIn_nilF2 {w : World} {t : TypeId} {x y : Array TypeId} {z : Bool} (hu : P.underlying t = some (.func x y z)) (d : Nat) (f : Fn) (l m : Array Value) : (Op.equalIn (d + 1) t .nilFunc (.func f l m)).run P w = .ok false w := by simp [Op.equalIn, run_under hu]
theorem eqIn_nilF3 {w : World} {t : TypeId} {x y : Array TypeId} {z : Bool} (hu : P.underlying t = some (.func x y z)) (d : Nat) (f : Fn) (l m : Array Value) : (Op.equalIn (d + 1) t (.func f l m) .nilFunc).run P w = .ok false w := by simp [Op.equalIn, run_under hu]
theorem run_eqNil {R : Ren} {w : World} {t : TypeId} {x y : V} {x' y' : Value} (hx : VR R x x') (hy : VR R y y') {b : Bool} (h : eqNil (nilK P t) x y = some b) :
    (Op.equal t x' y').run P w = .ok b w ∧ binOp .eql t x' y' = (do pure (.bool (← Op.equal t x' y'))) ∧ binOp .neq t x' y' = (do pure (.bool (!(← Op.equal t x' y')))) ∧ (∀ c, x' ≠ .agg c) ∧ x' ≠ .nilIface := by
  obtain ⟨n1, n2, n3, n4⟩ := nilK_some (P := P) (t := t)
  unfold eqNil at h
  split at h <;> first | (cases h; done) | skip
  all_goals (cases h; rename_i hk; cases hx; cases hy)
  all_goals first
    | (obtain ⟨e, hu⟩ := n1 hk; exact ⟨eqIn_nilS hu 9999 _ _ _ _ _ _ (by simp), rfl, rfl, fun c => by simp, by simp⟩)
    | (obtain ⟨k, e, hu⟩ := n2 hk; exact ⟨eqIn_nilM hu 9999 _ _ (by simp), rfl, rfl, fun c => by simp, by simp⟩)
    | (obtain ⟨e, hu⟩ := n3 hk; exact ⟨eqIn_nilP hu 9999 _ _ (by simp), rfl, rfl, fun c => by simp, by simp⟩)
    | (obtain ⟨a, b, c, hu⟩ := n4 hk; exact ⟨eqIn_nilF1 hu 9999, rfl, rfl, fun c => by simp, by simp⟩)
    | (obtain ⟨a, b, c, hu⟩ := n4 hk; exact ⟨eqIn_nilF2 hu 9999 _ _ _, rfl, rfl, fun c => by simp, by simp⟩)
    | (obtain ⟨a, b, c, hu⟩ := n4 hk; exact ⟨eqIn_nilF3 hu 9999 _ _ _, rfl, rfl, fun c => by simp, by simp⟩)

theorem pure_bin {R : Ren} {w : World} {op : BinOp} {t : TypeId} {x y v : V} {x' y' : Value} (hx : VR R x x') (hy : VR R y y') (h : binV P op t x y = some v) (X Y : Operand) :
    ∃ z, (do eqGuard op t X Y x' y'; binOp op t x' y' : Sem Value).run P w = .ok z w ∧ VR R v z := by
  unfold binV at h
  split at h
  · rename_i k a k' b
    cases hx; cases hy
    obtain ⟨z, e1, e2⟩ := run_binI (P := P) (w := w) (t := t) h
    exact ⟨z, by rw [run_bind_ok (guard_pure (fun _ _ => .inl (by simp)) (.inl (by simp)))]; exact e1, e2 R⟩
  · rename_i a b
    cases hx; cases hy
    cases hb : isB P t with
    | false => rw [hb] at h; cases h
    | true =>
      rw [hb] at h
      have h2 : eqV op (some (boolEq a b)) = some v := h
      obtain ⟨r, e1, e2⟩ := eqV_some h2
      have hu : P.underlying t = some .bool := by
        unfold isB at hb; split at hb
        · rename_i q; exact q
        · cases hb
      injection e1 with e1
      have hrun : (Op.equal t (.bool a) (.bool b)).run P w = .ok r w := by
        rw [← e1, boolEq_eq]; exact run_equalIn_bool' w 9999 t a b hu
      obtain ⟨z, q1, q2⟩ := run_eqOp e2 hrun rfl rfl
      exact ⟨z, by rw [run_bind_ok (guard_pure (fun _ _ => .inl (by simp)) (.inl (by simp)))]; exact q1, q2 R⟩
  · rename_i n c n' d
    rw [cond_beq] at h
    split at h
    · rename_i e
      subst e
      cases hg : P.eqGuardType P.depth t with
      | true => rw [hg] at h; cases h
      | false =>
        rw [hg] at h
        have h2 : eqV op (eqAgg P t n c d) = some v := h
        obtain ⟨r, e1, e2⟩ := eqV_some h2
        obtain ⟨cs, rfl, hc⟩ := CR.of_agg hx
        obtain ⟨ds, rfl, hd⟩ := CR.of_agg hy
        have hrun : (Op.equal t (.agg cs) (.agg ds)).run P w = .ok r w := run_eqAgg hc hd e1 9998
        obtain ⟨z, q1, q2⟩ := run_eqOp e2 hrun rfl rfl
        exact ⟨z, by rw [run_bind_ok (run_eqGuard_agg w op t X Y cs ds hg)]; exact q1, q2 R⟩
    · cases h
  · obtain ⟨r, e1, e2⟩ := eqV_some h
    obtain ⟨p1, p2, p3, p4, p5⟩ := run_eqNil (w := w) hx hy e1
    obtain ⟨z, q1, q2⟩ := run_eqOp e2 p1 p2 p3
    exact ⟨z, by rw [run_bind_ok (guard_pure (fun c _ => .inl (p4 c)) (.inl p5))]; exact q1, q2 R⟩
end Go.Ev
