/- Which operations of a region come before which. -/
import Derived.Test.YtaaiocbpgpkheaaEvRange
import Derived.OrdersIn
namespace Go.Ev
open Go

theorem fold_push {α : Type} (F : Array Nat → α → Nat) : ∀ (l : List α) (A : Array Nat),
    (l.foldl (fun acc o => acc.push (F acc o)) A).size = A.size + l.length ∧ (∀ i, i < A.size → (l.foldl (fun acc o => acc.push (F acc o)) A).getD i 0 = A.getD i 0) ∧
    ∀ k (h : k < l.length), ∃ C : Array Nat, (∀ i, i < A.size + k → C.getD i 0 = (l.foldl (fun acc o => acc.push (F acc o)) A).getD i 0) ∧ (l.foldl (fun acc o => acc.push (F acc o)) A).getD (A.size + k) 0 = F C l[k] := by
  intro l
  induction l with
  | nil => intro A; exact ⟨rfl, fun _ _ => rfl, fun k h => by simp at h⟩
  | cons o l ih =>
    intro A
    obtain ⟨h1, h2, h3⟩ := ih (A.push (F A o))
    have pre : ∀ i, i < A.size → (A.push (F A o)).getD i 0 = A.getD i 0 := fun i hi => by
      rw [Array.getD_eq_getD_getElem?, Array.getD_eq_getD_getElem?, Array.getElem?_push, if_neg (by omega)]
    refine ⟨by rw [List.foldl_cons, h1]; simp; omega, fun i hi => by rw [List.foldl_cons, h2 i (by simp; omega), pre i hi], fun k hk => ?_⟩
    rw [List.foldl_cons]
    cases k with
    | zero =>
      refine ⟨A, fun i hi => ?_, ?_⟩
      · rw [h2 i (by simp; omega), pre i hi]
      · rw [Nat.add_zero, h2 A.size (by simp)]
        simp [Array.getD]
    | succ k =>
      obtain ⟨C, c1, c2⟩ := h3 k (by simpa using hk)
      have e : (A.push (F A o)).size + k = A.size + (k + 1) := by simp; omega
      rw [e] at c1 c2
      exact ⟨C, c1, by simpa using c2⟩

def Bf (ops : Array Oper) (i j : Nat) : Prop := ((Region.before ops).getD j 0).testBit i = true

theorem bit_fold (C : Array Nat) (i : Nat) : ∀ (l : List Edge) (s : Nat), (l.foldl (fun s e => if Region.binds .any e then s ||| 2 ^ e.on ||| C.getD e.on 0 else s) s).testBit i = true →
    s.testBit i = true ∨ ∃ e, e ∈ l ∧ Region.binds .any e = true ∧ (e.on = i ∨ (C.getD e.on 0).testBit i = true) := by
  intro l
  induction l with
  | nil => intro s h; exact .inl h
  | cons e l ih =>
    intro s h
    rw [List.foldl_cons] at h
    rcases ih _ h with q | ⟨e', q1, q2, q3⟩
    · by_cases hb : Region.binds .any e = true
      · rw [if_pos hb] at q
        rw [Nat.testBit_or, Nat.testBit_or, Nat.testBit_two_pow] at q
        simp only [Bool.or_eq_true, decide_eq_true_eq] at q
        rcases q with (q | q) | q
        · exact .inl q
        · exact .inr ⟨e, by simp, hb, .inl q⟩
        · exact .inr ⟨e, by simp, hb, .inr q⟩
      · rw [if_neg hb] at q; exact .inl q
    · exact .inr ⟨e', by simp [q1], q2, q3⟩

/-- edges lead back -/
def Back (ops : Array Oper) : Prop := ∀ (j : Nat) (o : Oper), ops[j]? = some o → ∀ e ∈ o.after, Region.binds .any e = true → e.on < j

theorem bf_step {ops : Array Oper} (hb : Back ops) {i j : Nat} (h : Bf ops i j) : ∃ o e, ops[j]? = some o ∧ e ∈ o.after ∧ Region.binds .any e = true ∧ e.on < j ∧ (e.on = i ∨ Bf ops i e.on) := by
  unfold Bf Region.before at h
  rw [← Array.foldl_toList] at h
  obtain ⟨h1, h2, h3⟩ := fold_push (fun (acc : Array Nat) (o : Oper) => o.after.foldl (fun s e => if Region.binds .any e then s ||| 2 ^ e.on ||| acc.getD e.on 0 else s) 0) ops.toList #[]
  by_cases hj : j < ops.toList.length
  · obtain ⟨C, c1, c2⟩ := h3 j hj
    simp only [List.size_toArray, List.length_nil, Nat.zero_add] at c1 c2
    rw [c2, ← Array.foldl_toList] at h
    have ho : ops[j]? = some ops.toList[j] := by rw [← Array.getElem?_toList, List.getElem?_eq_getElem hj]
    rcases bit_fold C i _ _ h with q | ⟨e, q1, q2, q3⟩
    · simp at q
    · have q1 : e ∈ ops.toList[j].after := Array.mem_toList_iff.1 q1
      have hlt := hb j _ ho e q1 q2
      refine ⟨_, e, ho, q1, q2, hlt, q3.imp id fun q => ?_⟩
      rw [c1 _ hlt] at q
      unfold Bf Region.before
      rw [← Array.foldl_toList]
      exact q
  · rw [Array.getD_eq_getD_getElem?, Array.getElem?_eq_none (by rw [h1]; simp at hj ⊢; exact hj)] at h
    simp at h

theorem bf_lt {ops : Array Oper} (hb : Back ops) {i : Nat} : ∀ j, Bf ops i j → i < j := by
  intro j
  induction j using Nat.strongRecOn with
  | ind j ih =>
    intro h
    obtain ⟨o, e, _, _, _, h4, h5⟩ := bf_step hb h
    rcases h5 with rfl | h5
    · exact h4
    · exact Nat.lt_trans (ih _ h4 h5) h4

/-- what has been carried out with each operation: all that it waits for -/
def Closed (ops : Array Oper) (L : Nat → Prop) : Prop := ∀ (j : Nat) (o : Oper), L j → ops[j]? = some o → ∀ e ∈ o.after, Region.binds .any e = true → L e.on
theorem Closed.bf {ops : Array Oper} (hb : Back ops) {L : Nat → Prop} (hc : Closed ops L) {i : Nat} : ∀ j, L j → Bf ops i j → L i := by
  intro j
  induction j using Nat.strongRecOn with
  | ind j ih =>
    intro hj h
    obtain ⟨o, e, h1, h2, h3, h4, h5⟩ := bf_step hb h
    have := hc j o hj h1 e h2 h3
    rcases h5 with rfl | h5
    · exact this
    · exact ih _ h4 this h5

/-- the shape, in words -/
structure Shape (ops : Array Oper) : Prop where
  back : Back ops
  guard : ∀ (j : Nat) (o : Oper), ops[j]? = some o → ∀ g w, o.guard = some (g, w) → g < ops.size
  tmp : ∀ (i j : Nat) (o o' : Oper) (d : Tmp), ops[i]? = some o' → ops[j]? = some o → o'.dst = some d → i ≠ j → (d ∈ tmpsOf ops o ∨ o.dst = some d) → Bf ops i j ∨ Bf ops j i
theorem shape_of {ops : Array Oper} (h : shapeOk ops = true) : Shape ops := by
  unfold shapeOk at h
  simp only [List.all_eq_true, List.mem_range] at h
  have hlt : ∀ {j : Nat} {o : Oper}, ops[j]? = some o → j < ops.size := fun h => (Array.getElem?_eq_some_iff.1 h).1
  refine ⟨fun j o ho e he hbd => ?_, fun j o ho g w hg => ?_, fun i j o o' d hi hj hd hne hu => ?_⟩
  · have := h j (hlt ho)
    simp only [ho, Bool.and_eq_true] at this
    have := Array.all_eq_true_iff_forall_mem.1 this.1.1 e he
    simpa [hbd] using this
  · have := h j (hlt ho)
    simp only [ho, Bool.and_eq_true, hg] at this
    simpa using this.1.2
  · have := h j (hlt hj)
    simp only [hj, Bool.and_eq_true, List.all_eq_true, List.mem_range] at this
    have := this.2 i (hlt hi)
    simp only [hi, hd] at this
    rw [if_neg hne] at this
    rw [if_pos (by
      simp only [Bool.or_eq_true, List.contains_iff_mem, beq_iff_eq]
      exact hu)] at this
    split at this
    · exact .inl this
    · exact .inr this
end Go.Ev
