/- Operations that leave the heap alone. -/
import Derived.Test.YtaaiocbpgpkheaaEvOps2
import Derived.IntWalk
namespace Go.Ev
open Go

variable {P : Program}

theorem fI_eq {β : Type} (n : Int) (k : Int → β) : fI n k = k n := by
  cases n with
  | ofNat a => exact fN_eq a fun a => k (.ofNat a)
  | negSucc a => exact fN_eq a fun a => k (.negSucc a)
theorem iLe_eq (a b : Int) : iLe a b = decide (a ≤ b) := by
  cases a with
  | ofNat m => cases b with
    | ofNat n =>
      show Nat.ble m n = _
      by_cases h : m ≤ n
      · rw [Nat.ble_eq_true_of_le h, decide_eq_true (by simpa using h)]
      · have : Nat.ble m n = false := by cases e : Nat.ble m n with | false => rfl | true => exact absurd (Nat.le_of_ble_eq_true e) h
        rw [this, decide_eq_false (by simpa using h)]
    | negSucc n => show false = _; rw [decide_eq_false (by rw [Int.ofNat_eq_natCast]; omega)]
  | negSucc m => cases b with
    | ofNat n => show true = _; rw [decide_eq_true (by rw [Int.ofNat_eq_natCast]; omega)]
    | negSucc n =>
      show Nat.ble n m = _
      by_cases h : n ≤ m
      · rw [Nat.ble_eq_true_of_le h, decide_eq_true (by omega)]
      · have : Nat.ble n m = false := by cases e : Nat.ble n m with | false => rfl | true => exact absurd (Nat.le_of_ble_eq_true e) h
        rw [this, decide_eq_false (by omega)]
theorem iEq_eq (a b : Int) : iEq a b = decide (a = b) := by
  cases a with
  | ofNat m => cases b with
    | ofNat n =>
      show Nat.beq m n = _; rw [nbeq]
      by_cases h : m = n
      · simp [h]
      · rw [decide_eq_false h, decide_eq_false (by intro e; exact h (Int.ofNat.inj e))]
    | negSucc n => show false = _; rw [decide_eq_false (by rw [Int.ofNat_eq_natCast]; omega)]
  | negSucc m => cases b with
    | ofNat n => show false = _; rw [decide_eq_false (by rw [Int.ofNat_eq_natCast]; omega)]
    | negSucc n =>
      show Nat.beq m n = _; rw [nbeq]
      by_cases h : m = n
      · simp [h]
      · rw [decide_eq_false h, decide_eq_false (by omega)]
theorem wrap_small {n : Int} (h1 : -9223372036854775808 ≤ n) (h2 : n ≤ 9223372036854775807) : IntKind.wrap .i64 n = n := IntWalk.i64_in n ⟨h1, h2⟩
theorem wr_eq (k : IntKind) (n : Int) : wr k n = k.wrap n := by
  cases k <;> first | rfl | skip
  show cond (small n) n _ = _
  cases hs : small n with
  | false => rfl
  | true =>
    cases n with
    | ofNat a =>
      have : a ≤ 9223372036854775807 := Nat.le_of_ble_eq_true hs
      show Int.ofNat a = _
      rw [Int.ofNat_eq_natCast]
      exact (wrap_small (by omega) (by omega)).symm
    | negSucc a =>
      have : a ≤ 9223372036854775807 := Nat.le_of_ble_eq_true hs
      show Int.negSucc a = _
      exact (wrap_small (by omega) (by omega)).symm
theorem vI_eq (k : IntKind) (n : Int) : vI k n = some (.int k (k.wrap n)) := by unfold vI; rw [fI_eq, wr_eq]
theorem sameK_eq {a b : IntKind} (h : sameK a b = true) : a = b := by cases a <;> cases b <;> first | rfl | cases h
theorem boolEq_eq (a b : Bool) : boolEq a b = (a == b) := by cases a <;> cases b <;> rfl

/-- 'what is answered is related to what the machine computes, the world unchanged' -/
def PR (P : Program) (R : Ren) (w : World) (s : Sem Value) (v : V) : Prop := ∃ x, s.run P w = .ok x w ∧ VR R v x

theorem pure_pick {R : Ren} {w : World} {c x y v : V} {c' x' y' : Value} {H H' : EH} (hc : VR R c c') (hx : VR R x x') (hy : VR R y y') (h : evPick c x y H = some (v, H')) :
    H' = H ∧ ∃ z, (do pure (.value (if ← asBool c' then x' else y')) : Sem Next).run P w = .ok (.value z) w ∧ VR R v z := by
  unfold evPick at h
  split at h
  · cases h; cases hc; exact ⟨rfl, x', rfl, hx⟩
  · cases h; cases hc; exact ⟨rfl, y', rfl, hy⟩
  · cases h

theorem run_intBin {w : World} {op : BinOp} {k : IntKind} {a b : Int} {v : V} (h : intBin op k a b = some v) : ∃ x, (match op with | .add | .sub | .mul => Op.intArith op k a b | .quo | .rem => Op.intDiv op k a b | .and | .or | .xor | .andNot => Op.intBits op k a b | _ => Op.intCmp op a b).run P w = .ok x w ∧ ∀ R, VR R v x := by
  cases op <;> simp only [intBin, bO, vI_eq, fI_eq, iEq_eq, iLe_eq] at h <;> try (cases h; done)
  case add => cases h; exact ⟨_, rfl, fun _ => .int _ _⟩
  case sub => cases h; exact ⟨_, rfl, fun _ => .int _ _⟩
  case mul => cases h; exact ⟨_, rfl, fun _ => .int _ _⟩
  case quo =>
    by_cases e : b = 0
    · simp [e] at h
    · simp [e] at h; cases h
      refine ⟨.int k (k.wrap (a.tdiv b)), ?_, fun _ => .int _ _⟩
      show (Op.intDiv .quo k a b).run P w = _
      unfold Op.intDiv; rw [if_neg e]; rfl
  case rem =>
    by_cases e : b = 0
    · simp [e] at h
    · simp [e] at h; cases h
      refine ⟨.int k (a.tmod b), ?_, fun _ => .int _ _⟩
      show (Op.intDiv .rem k a b).run P w = _
      unfold Op.intDiv; rw [if_neg e]; rfl
  case eql =>
    cases h
    refine ⟨.bool (a == b), rfl, fun _ => ?_⟩
    have : (a == b) = decide (a = b) := by by_cases e : a = b <;> simp [e]
    rw [this]; exact .bool _
  case neq =>
    cases h
    refine ⟨.bool (a != b), rfl, fun _ => ?_⟩
    have : (a != b) = !decide (a = b) := by by_cases e : a = b <;> simp [e]
    rw [this]; exact .bool _
  case lss =>
    cases h
    refine ⟨.bool (decide (a < b)), rfl, fun _ => ?_⟩
    have : decide (a < b) = !decide (b ≤ a) := by by_cases e : a < b <;> simp [e] <;> omega
    rw [this]; exact .bool _
  case leq => cases h; exact ⟨.bool (decide (a ≤ b)), rfl, fun _ => .bool _⟩
  case gtr =>
    cases h
    refine ⟨.bool (decide (a > b)), rfl, fun _ => ?_⟩
    have : decide (a > b) = !decide (a ≤ b) := by by_cases e : a > b <;> simp [e] <;> omega
    rw [this]; exact .bool _
  case geq => cases h; exact ⟨.bool (decide (a ≥ b)), rfl, fun _ => .bool _⟩
theorem run_shBin {w : World} {op : BinOp} {k k' : IntKind} {a b : Int} {v : V} (h : shBin op k a b = some v) : ∃ x, (Op.shift op k a k' b).run P w = .ok x w ∧ ∀ R, VR R v x := by
  cases op <;> simp only [shBin, fI_eq, iLe_eq] at h <;> try (cases h; done)
  case shl =>
    by_cases e : 0 ≤ b
    · simp [e] at h; cases h
      refine ⟨.int k (k.wrap (a * 2 ^ (min b.toNat k.bits))), ?_, fun _ => .int _ _⟩
      unfold Op.shift; rw [if_neg (by omega)]; rfl
    · simp [e] at h
  case shr =>
    by_cases e : 0 ≤ b
    · simp [e] at h; cases h
      refine ⟨.int k (a.fdiv (2 ^ (min b.toNat k.bits))), ?_, fun _ => .int _ _⟩
      unfold Op.shift; rw [if_neg (by omega)]; rfl
    · simp [e] at h
theorem run_binI0 {w : World} {op : BinOp} {t : TypeId} {k k' : IntKind} {a b : Int} {v : V} (h : cond (sameK k k') (intBin op k a b) none = some v) (n1 : op ≠ .shl) (n2 : op ≠ .shr) : ∃ x, (binOp op t (.int k a) (.int k' b)).run P w = .ok x w ∧ ∀ R, VR R v x := by
  cases hk : sameK k k' with
  | false => rw [hk] at h; cases h
  | true =>
    rw [hk] at h
    have h2 : intBin op k a b = some v := h
    clear h
    have hkk := sameK_eq hk
    subst hkk
    obtain ⟨x, e1, e2⟩ := run_intBin (P := P) (w := w) h2
    refine ⟨x, ?_, e2⟩
    rw [← e1]
    cases op <;> first | (exact absurd rfl n1) | (exact absurd rfl n2) | (simp [binOp])
theorem run_binI {w : World} {op : BinOp} {t : TypeId} {k k' : IntKind} {a b : Int} {v : V} (h : binI op k a k' b = some v) : ∃ x, (binOp op t (.int k a) (.int k' b)).run P w = .ok x w ∧ ∀ R, VR R v x := by
  cases op
  case shl => exact run_shBin (k' := k') (show shBin .shl k a b = some v from h)
  case shr => exact run_shBin (k' := k') (show shBin .shr k a b = some v from h)
  all_goals exact run_binI0 h (by simp) (by simp)
end Go.Ev
