/- More operations: those that leave the heap alone. -/
import Derived.Test.YtaaiocbpgpkheaaEvEq
namespace Go.Ev
open Go

variable {P : Program}

theorem withH_some {H H' : EH} {o : Option V} {v : V} (h : withH H o = some (v, H')) : o = some v ∧ H' = H := by
  unfold withH at h; cases o with
  | none => cases h
  | some x => cases h; exact ⟨rfl, rfl⟩

theorem pure_un {R : Ren} {w : World} {op : UnOp} {x v : V} {x' : Value} {H H' : EH} (hx : VR R x x') (h : evUn op x H = some (v, H')) : H' = H ∧ PR P R w (Op.unary op x') v := by
  unfold evUn at h
  split at h
  · cases h; cases hx; exact ⟨rfl, _, rfl, .bool _⟩
  · obtain ⟨h1, h2⟩ := withH_some h
    rw [vI_eq] at h1; cases h1; cases hx
    exact ⟨h2, _, rfl, .int _ _⟩
  · cases h
theorem pure_conv {R : Ren} {w : World} {src dst : TypeId} {x v : V} {x' : Value} {H H' : EH} (hx : VR R x x') (h : evConv P src dst x H = some (v, H')) : H' = H ∧ PR P R w (convert src dst x') v := by
  unfold evConv at h
  split at h
  · rename_i ds k k' n h1 h2
    obtain ⟨e1, e2⟩ := withH_some h
    rw [fI_eq] at e1; cases e1; cases hx
    refine ⟨e2, .int k (k.wrap n), ?_, .int _ _⟩
    unfold convert
    rw [run_bind_ok (run_under h1 w), run_bind_ok (run_under h2 w)]
    cases ds <;> rfl
  · cases h

theorem mapO_eq (a : EA) (l : List Operand) : mapO a l = l.map a.eval := by
  induction l with
  | nil => rfl
  | cons x l ih => show a.eval x :: mapO a l = _; rw [ih]; rfl
theorem AL.mapO {R : Ren} {a : EA} {ρ : Operand → Value} {l : Array Operand} (h : ∀ x, x ∈ l → VR R (a.eval x) (ρ x)) : AL R (mapO a l.toList) (l.map ρ) := by
  rw [mapO_eq]
  refine ⟨by simp, fun i h1 h2 => ?_⟩
  simp only [List.getElem_map, Array.getElem_map, Array.getElem_toList]
  exact h _ (Array.getElem_mem _)
theorem pure_makeFunc {R : Ren} {w : World} {fn : Fn} {l m : List V} {l' m' : Array Value} {v : V} {H H' : EH} (hl : AL R l l') (hm : AL R m m') (h : evMakeFunc fn l m H = some (v, H')) : H' = H ∧ PR P R w (Instr.makeFunc fn l' m') v := by
  unfold evMakeFunc at h
  split at h
  · cases h; exact ⟨rfl, _, rfl, .func hl.1 hl.2 hm.1 hm.2⟩
  · cases h

theorem sliceB_some {w : World} {R : Ren} {x : Option V} {x' : Option Value} {dflt y y2 n : Nat} (hx : match x, x' with | none, none => True | some v, some v' => VR R v v' | _, _ => False) (h : sliceB x dflt y = some n) (hy : y ≤ y2) (code : BoundsCode) :
    (match x' with | some v => Instr.sliceBound v y2 code | none => pure dflt).run P w = .ok n w ∧ (x = none → n = dflt) ∧ (x ≠ none → n ≤ y) := by
  unfold sliceB at h
  split at h
  · cases h
    cases x' with
    | none => exact ⟨rfl, fun _ => rfl, fun h => absurd rfl h⟩
    | some v => exact hx.elim
  · rename_i k i
    rw [cond_ble] at h
    split at h
    · rename_i hle
      injection h with h
      subst h
      cases x' with
      | none => exact hx.elim
      | some v =>
        have hx : VR R (.int k (.ofNat i)) v := hx
        cases hx
        refine ⟨?_, fun h => (by cases h), fun _ => hle⟩
        show (Instr.sliceBound (.int k (Int.ofNat i)) y2 code).run P w = _
        unfold Instr.sliceBound
        rw [run_bind_ok (show (asIntOf (.int k (Int.ofNat i))).run P w = .ok (k, Int.ofNat i) w from rfl)]
        simp only [Int.ofNat_eq_natCast]
        rw [if_pos (by omega)]
        simp
    · cases h
  · cases h

theorem run_bounds {w : World} {len cap hn ln : Nat} {lo' hi' : Option Value} (r1 : (match hi' with | some v => Instr.sliceBound v cap .sliceAcap | none => pure len).run P w = .ok hn w)
    (r2 : (match lo' with | some v => Instr.sliceBound v hn .sliceB | none => pure 0).run P w = .ok ln w) : (Instr.sliceBounds true len cap lo' hi' none).run P w = .ok (ln, hn, cap) w := by
  unfold Instr.sliceBounds
  rw [run_bind_ok (show (pure cap : Sem Nat).run P w = .ok cap w from rfl)]
  cases hi' <;> cases lo' <;> (dsimp only at r1 r2 ⊢; first | exact (run_bind_ok r1).trans ((run_bind_ok r2).trans rfl) | (rw [run_bind_ok r1]; try dsimp only; rw [run_bind_ok r2]; rfl))

theorem optO_rel {R : Ren} {a : EA} {ρ : Operand → Value} {x : Option Operand} (h : ∀ y, x = some y → VR R (a.eval y) (ρ y)) : match optO a x, x.map ρ with | none, none => True | some v, some v' => VR R v v' | _, _ => False := by
  cases x with
  | none => trivial
  | some y => exact h y rfl

theorem pure_slice {R : Ren} {w : World} {t : TypeId} {x v : V} {x' : Value} {lo hi : Option V} {lo' hi' : Option Value} {H H' : EH} (hx : VR R x x') (hlo : match lo, lo' with | none, none => True | some v, some v' => VR R v v' | _, _ => False)
    (hhi : match hi, hi' with | none, none => True | some v, some v' => VR R v v' | _, _ => False) (h : evSlice P t x lo hi H = some (v, H')) : H' = H ∧ PR P R w (Instr.sliceAt t x' lo' hi' none) v := by
  unfold evSlice at h
  split at h
  · rename_i elem hu
    have hrun : (Instr.sliceAt t x' lo' hi' none).run P w = (Instr.slice t x' lo' hi' none).run P w := by
      unfold Instr.sliceAt; rw [run_bind_ok (run_under hu w)]
    split at h
    · rename_i e b off len e' he
      rw [cond_beq] at h
      split at h
      · rename_i ee
        subst ee
        cases hx with
        | slice hm ho hl hz =>
          rename_i r d o cap
          cases hh : sliceB hi len len with
          | none => rw [hh] at h; cases h
          | some hn =>
            rw [hh] at h
            simp only at h
            cases hll : sliceB lo 0 hn with
            | none => rw [hll] at h; cases h
            | some ln =>
              rw [hll] at h; cases h
              obtain ⟨r1, q1, q2⟩ := sliceB_some (P := P) (w := w) hhi hh hl .sliceAcap
              have hhn : hn ≤ cap := by
                by_cases q : hi = none
                · rw [q1 q]; exact hl
                · exact Nat.le_trans (q2 q) hl
              obtain ⟨r2, q3, q4⟩ := sliceB_some (P := P) (w := w) hlo hll (Nat.le_refl _) .sliceB
              have hln : ln ≤ hn := by
                by_cases q : lo = none
                · rw [q3 q]; exact Nat.zero_le _
                · exact q4 q
              refine ⟨rfl, .slice (if cap = ln then some ⟨r, o, none⟩ else some ⟨r, o + ln * e, none⟩) (hn - ln) (cap - ln), ?_, ?_⟩
              · rw [hrun]
                unfold Instr.slice
                rw [run_bind_ok (run_under hu w)]
                simp only
                have hb := run_bounds r1 r2
                rw [run_bind_ok hb, run_bind_ok (run_size he w)]
                simp only [Option.map_some, add_none]
                rfl
              · by_cases hc : cap = ln
                · rw [if_pos hc]
                  refine .slice hm (fun h => by omega) (by show hn - ln ≤ cap - ln; omega) ?_
                  have : cap - ln = 0 := by omega
                  rw [this]; have := Nat.zero_le (cap * e); omega
                · rw [if_neg hc]
                  have hcap : cap ≠ 0 := by omega
                  refine .slice hm (fun _ => by have := ho hcap; show o + ln * e + d = off + ln * e; omega) (by show hn - ln ≤ cap - ln; omega) ?_
                  have : cap * e = ln * e + (cap - ln) * e := by rw [← Nat.add_mul]; congr 1; omega
                  omega
      · cases h
    · rename_i e he
      cases hx
      cases hh : sliceB hi 0 0 with
      | none => rw [hh] at h; cases h
      | some hn =>
        rw [hh] at h
        simp only at h
        cases hll : sliceB lo 0 hn with
        | none => rw [hll] at h; cases h
        | some ln =>
          rw [hll] at h; cases h
          obtain ⟨r1, q1, q2⟩ := sliceB_some (P := P) (w := w) hhi hh (Nat.le_refl _) .sliceAcap
          have hhn : hn = 0 := by
            by_cases q : hi = none
            · exact q1 q
            · have := q2 q; omega
          obtain ⟨r2, q3, q4⟩ := sliceB_some (P := P) (w := w) hlo hll (Nat.le_refl _) .sliceB
          have hln : ln = 0 := by
            by_cases q : lo = none
            · exact q3 q
            · have := q4 q; omega
          subst hhn; subst hln
          refine ⟨rfl, .slice none 0 0, ?_, .nilSlice⟩
          rw [hrun]
          unfold Instr.slice
          rw [run_bind_ok (run_under hu w)]
          simp only
          have hb := run_bounds r1 r2
          rw [run_bind_ok hb, run_bind_ok (run_size he w)]
          rfl
    · cases h
  · cases h
end Go.Ev
