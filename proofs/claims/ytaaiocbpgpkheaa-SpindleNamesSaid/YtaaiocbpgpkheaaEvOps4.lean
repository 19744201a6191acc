/- Fields, indexes, parts, lengths. -/
import Derived.Test.YtaaiocbpgpkheaaEvOps3
namespace Go.Ev
open Go

variable {P : Program}

theorem pure_part {R : Ren} {w : World} {t : TypeId} {n off : Nat} {c : T V} {cs : Array Value} {v : V} (hc : CR R n c cs) (h : partK n c off (kindT P t) = some v) : PR P R w (part t cs off) v := by
  unfold partK at h
  split at h
  · rename_i m hk
    obtain ⟨k1, k2⟩ := kindT_agg hk
    rw [cond_ble] at h
    split at h
    · rename_i hle
      have hle' : off + m ≤ n := hle
      cases hs : subT c off m with
      | none => rw [hs] at h; cases h
      | some c' =>
        rw [hs] at h; cases h
        refine ⟨.agg (cs.extract off (off + m)), ?_, (show CR R m c' _ from ⟨by simp [hc.1]; omega, fun i hi => ?_⟩).agg⟩
        · unfold part
          rw [run_bind_ok (k1 w)]
          simp only [if_true]
          rw [run_bind_ok (k2 w)]; rfl
        · obtain ⟨x, y, a1, a2, a3, a4⟩ := hc.2 (off + i) (by omega)
          refine ⟨x, y, subT_get hs i hi x a1, a2, ?_, a4⟩
          rw [Array.getElem?_extract, if_pos (by rw [hc.1]; omega)]; exact a3
    · cases h
  · rename_i hk
    obtain ⟨k1, _⟩ := kindT_one hk
    rw [cond_blt] at h
    split at h
    · rename_i hlt
      obtain ⟨x, y, a1, a2, a3, a4⟩ := hc.2 off hlt
      rw [h] at a1; cases a1
      refine ⟨y, ?_, a4⟩
      unfold part
      rw [run_bind_ok (k1 w)]
      simp only [Bool.false_eq_true, if_false]
      rw [a3]; rfl
    · cases h
  · cases h

theorem ptrO_some {H H' : EH} {b off n : Nat} {v : V} (h : ptrO b off n H = some (v, H')) : v = .ptr b (off + n) ∧ H' = H := by
  unfold ptrO at h; rw [fN_eq] at h; cases h; exact ⟨rfl, rfl⟩
theorem pure_fieldAddr {R : Ren} {w : World} {s : TypeId} {x v : V} {x' : Value} {f : Nat} {H H' : EH} (hx : VR R x x') (h : evFieldAddr P s x f H = some (v, H')) : H' = H ∧ PR P R w (Instr.fieldAt s x' f) v := by
  unfold evFieldAddr at h
  split at h
  · rename_i fields b off hu
    cases hf : fields[f]? with
    | none => rw [hf] at h; cases h
    | some fd =>
      rw [hf] at h
      simp only at h
      unfold fldO at h
      split at h
      · rename_i m hs
        obtain ⟨rfl, rfl⟩ := ptrO_some h
        cases hx with
        | ptr hm ho =>
          rename_i r d o
          refine ⟨rfl, .pointer (some ⟨r, o + fd.offset, none⟩), ?_, .ptr hm (by omega)⟩
          unfold Instr.fieldAt
          rw [run_bind_ok (run_under hu w)]
          simp only [hf]
          rw [run_bind_ok (show (Instr.sureAddr (.pointer (some ⟨r, o, none⟩))).run P w = .ok ⟨r, o, none⟩ w from rfl)]
          unfold fieldPlace
          rw [run_bind_ok (show (do if (← sizeOf fd.type) = 0 then partAt ⟨r, o, none⟩ fd.offset fd.byteOffset else pure ((⟨r, o, none⟩ : Addr).add fd.offset) : Sem Addr).run P w = .ok ⟨r, o + fd.offset, none⟩ w by
            rw [run_bind_ok (run_size hs w), if_neg (by simp), add_none]; rfl)]
          rfl
      · cases h
  · cases h
theorem pure_field {R : Ren} {w : World} {s : TypeId} {x v : V} {x' : Value} {f : Nat} {H H' : EH} (hx : VR R x x') (h : evField P s x f H = some (v, H')) : H' = H ∧ PR P R w (Instr.field s x' f) v := by
  unfold evField at h
  split at h
  · rename_i fields n c hu
    cases hf : fields[f]? with
    | none => rw [hf] at h; cases h
    | some fd =>
      rw [hf] at h
      obtain ⟨h1, h2⟩ := withH_some h
      obtain ⟨cs, rfl, hc⟩ := CR.of_agg hx
      obtain ⟨z, e1, e2⟩ := pure_part (w := w) hc h1
      refine ⟨h2, z, ?_, e2⟩
      unfold Instr.field
      rw [run_bind_ok (run_under hu w)]
      simp only [hf]
      rw [run_bind_ok (show (asAgg (.agg cs)).run P w = .ok cs w from rfl)]
      exact e1
  · cases h
theorem inN_some {k : Int} {len n : Nat} (h : inN k len = some n) : k = n ∧ n < len := by
  unfold inN at h
  cases k with
  | ofNat a =>
    simp only [cond_blt] at h
    split at h
    · rename_i hl; cases h; exact ⟨rfl, hl⟩
    · cases h
  | negSucc a => cases h
theorem ixO_some {H H' : EH} {b off : Nat} {e i : Option Nat} {v : V} (h : ixO b off e i H = some (v, H')) : ∃ e' n, e = some e' ∧ i = some n ∧ v = .ptr b (off + n * e') ∧ H' = H := by
  unfold ixO at h
  split at h
  · rename_i e' n; obtain ⟨h1, h2⟩ := ptrO_some h; exact ⟨e', n, rfl, rfl, h1, h2⟩
  · cases h
theorem pure_indexAddr {R : Ren} {w : World} {t : TypeId} {x i v : V} {x' i' : Value} {H H' : EH} (hx : VR R x x') (hi : VR R i i') (h : evIndexAddr P t x i H = some (v, H')) : H' = H ∧ PR P R w (Instr.indexAt t x' i') v := by
  unfold evIndexAddr at h
  split at h
  · rename_i elem b off len e0 q k hu
    obtain ⟨e, n, he, hn, rfl, rfl⟩ := ixO_some h
    obtain ⟨rfl, hlt⟩ := inN_some hn
    cases hi
    cases hx with
    | slice hm ho hl hz =>
      rename_i r d o cap
      refine ⟨rfl, .pointer (some ⟨r, o + n * e, none⟩), ?_, .ptr hm (by have := ho (by omega); omega)⟩
      unfold Instr.indexAt
      rw [run_bind_ok (show (asIntOf (.int q (n : Int))).run P w = .ok (q, (n : Int)) w from rfl)]
      simp only
      rw [run_bind_ok (run_under hu w)]
      simp only
      rw [run_bind_ok (show (pure (some ⟨r, o, none⟩, len, elem) : Sem (Option Addr × Nat × TypeId)).run P w = .ok (some ⟨r, o, none⟩, len, elem) w from rfl)]
      simp only
      rw [run_bind_ok (run_under hu w)]
      rw [if_pos (by omega), run_bind_ok (run_size he w), add_none]
      rfl
  · rename_i len elem b off q k hu
    obtain ⟨e, n, he, hn, rfl, rfl⟩ := ixO_some h
    obtain ⟨rfl, hlt⟩ := inN_some hn
    cases hi
    cases hx with
    | ptr hm ho =>
      rename_i r d o
      refine ⟨rfl, .pointer (some ⟨r, o + n * e, none⟩), ?_, .ptr hm (by omega)⟩
      unfold Instr.indexAt
      rw [run_bind_ok (show (asIntOf (.int q (n : Int))).run P w = .ok (q, (n : Int)) w from rfl)]
      simp only
      rw [run_bind_ok (run_under hu w)]
      simp only
      rw [run_bind_ok (show (Instr.sureAddr (.pointer (some ⟨r, o, none⟩))).run P w = .ok ⟨r, o, none⟩ w from rfl)]
      rw [run_bind_ok (show (pure (some ⟨r, o, none⟩, len, elem) : Sem (Option Addr × Nat × TypeId)).run P w = .ok (some ⟨r, o, none⟩, len, elem) w from rfl)]
      simp only
      rw [run_bind_ok (run_under hu w)]
      rw [if_pos (by omega), run_bind_ok (run_size he w), add_none]
      rfl
  · cases h
theorem pure_index {R : Ren} {w : World} {t : TypeId} {x i v : V} {x' i' : Value} {H H' : EH} (hx : VR R x x') (hi : VR R i i') (h : evIndex P t x i H = some (v, H')) : H' = H ∧ PR P R w (Instr.index t x' i') v := by
  unfold evIndex at h
  split at h
  · rename_i len elem n c q k hu
    split at h
    · rename_i e j he hj
      obtain ⟨rfl, hlt⟩ := inN_some hj
      obtain ⟨h1, h2⟩ := withH_some h
      obtain ⟨cs, rfl, hc⟩ := CR.of_agg hx
      obtain ⟨z, e1, e2⟩ := pure_part (w := w) hc h1
      cases hi
      refine ⟨h2, z, ?_, e2⟩
      unfold Instr.index
      rw [run_bind_ok (show (asIntOf (.int q (j : Int))).run P w = .ok (q, (j : Int)) w from rfl)]
      simp only
      rw [run_bind_ok (run_under hu w)]
      simp only
      rw [if_pos (by omega), run_bind_ok (run_size he w)]
      exact e1
    · cases h
  · cases h
theorem nthV_eq (l : List V) : ∀ i, nthV l i = l[i]? := by
  induction l with
  | nil => intro i; rfl
  | cons x l ih => intro i; cases i with
    | zero => rfl
    | succ i => exact ih i
theorem pure_extract {R : Ren} {w : World} {x v : V} {x' : Value} {i : Nat} {H H' : EH} (hx : VR R x x') (h : evExtract x i H = some (v, H')) : H' = H ∧ PR P R w (Instr.extract x' i) v := by
  unfold evExtract at h
  split at h
  · rename_i l
    obtain ⟨h1, h2⟩ := withH_some h
    rw [nthV_eq] at h1
    cases hx with
    | tup hl hv =>
      rename_i vs
      obtain ⟨y, e1, e2⟩ := AL.get? (vs := vs) ⟨hl, hv⟩ h1
      refine ⟨h2, y, ?_, e2⟩
      unfold Instr.extract
      simp only [e1]; rfl
  · cases h
theorem pure_nilCheck {R : Ren} {x v : V} {x' : Value} {H H' : EH} (hx : VR R x x') (h : evNilCheck x H = some (v, H')) :
    H' = H ∧ v = x ∧ x' ≠ .pointer none ∧ x' ≠ .nilIface ∧ x' ≠ .nilFunc ∧ ∀ n f c, x' ≠ .func (.method n) f c := by
  unfold evNilCheck at h
  split at h <;> first | (cases h; done) | skip
  all_goals (cases h; cases hx; refine ⟨rfl, rfl, ?_, ?_, ?_, ?_⟩ <;> simp)
theorem lenE_eq (l : List (V × V × Nat)) : lenE l = l.length := by
  induction l with
  | nil => rfl
  | cons x l ih => show Nat.succ (lenE l) = _; rw [ih]; rfl
theorem ER.length {R : Ren} : ∀ {l : List (V × V × Nat)} {l' : List MapEntry}, ER R l l' → l.length = l'.length
  | [], [], _ => rfl
  | _ :: _, _ :: _, ⟨_, k⟩ => by simp [ER.length k]
theorem pure_len {R : Ren} {S : Nat → Prop} {w : World} {t : TypeId} {x v : V} {x' : Value} {H H' : EH} (hr : Rel R S H w) (hx : VR R x x') (h : evLen (lenK P t) x H = some (v, H')) (hS : ∀ g, g ∈ grpV H x → S g) {ts : Array TypeId} {ty : TypeId} {args : Array Value} (ht : ts[0]? = some t) (ha : args[0]? = some x') :
    H' = H ∧ PR P R w (Builtin.len_ ts ty args) v := by
  obtain ⟨n1, n2, n3, n4⟩ := nilK_some (P := P) (t := t)
  unfold evLen lenK at h
  split at h
  · rename_i hk
    obtain ⟨e, hu⟩ := n1 hk
    cases h; cases hx
    refine ⟨rfl, _, ?_, .int _ _⟩
    unfold Builtin.len_
    simp only [ht, ha]
    rw [run_bind_ok (run_under hu w)]
    rfl
  · rename_i hk
    obtain ⟨e, hu⟩ := n1 hk
    cases h; cases hx
    refine ⟨rfl, _, ?_, .int _ _⟩
    unfold Builtin.len_
    simp only [ht, ha]
    rw [run_bind_ok (run_under hu w)]
    rfl
  · rename_i hk
    obtain ⟨k, e, hu⟩ := n2 hk
    cases h; cases hx
    refine ⟨rfl, _, ?_, .int _ _⟩
    unfold Builtin.len_
    simp only [ht, ha]
    rw [run_bind_ok (run_under hu w)]
    rfl
  · rename_i b hk
    obtain ⟨k, e, hu⟩ := n2 hk
    split at h
    · rename_i es clk ho
      cases h
      cases hx with
      | map hm =>
        rename_i r
        obtain ⟨_, es', clk', h1, h2⟩ := hr.obj b _ r 0 ho hm
        obtain ⟨_, h3⟩ := h2 (hS _ (by show b ∈ grpV H (.map b); simp [grpV]))
        have hl := ER.length h3
        refine ⟨rfl, .int .i64 es'.size, ?_, ?_⟩
        · unfold Builtin.len_
          simp only [ht, ha]
          rw [run_bind_ok (run_under hu w)]
          simp only
          rw [run_bind_ok (show (getObj r).run P w = .ok (.map es' clk') w by simp [getObj, Sem.run, h1])]
          rfl
        · rw [lenE_eq, hl]
          exact .int _ _
    · cases h
  · cases h
theorem pure_min {R : Ren} {w : World} {x y v : V} {x' y' : Value} {H H' : EH} (hx : VR R x x') (hy : VR R y y') (h : evMin x y H = some (v, H')) (ts : Array TypeId) (ty : TypeId) : H' = H ∧ PR P R w (Builtin.min_ ts ty #[x', y']) v := by
  unfold evMin at h
  split at h
  · rename_i k a k' b
    cases h; cases hx; cases hy
    refine ⟨rfl, .int k (if b < a then b else a), rfl, ?_⟩
    rw [iLe_eq]
    by_cases e : a ≤ b
    · rw [decide_eq_true e, if_neg (by omega)]; exact .int _ _
    · rw [decide_eq_false e, if_pos (by omega)]; exact .int _ _
  · cases h
theorem pure_max {R : Ren} {w : World} {x y v : V} {x' y' : Value} {H H' : EH} (hx : VR R x x') (hy : VR R y y') (h : evMax x y H = some (v, H')) (ts : Array TypeId) (ty : TypeId) : H' = H ∧ PR P R w (Builtin.max_ ts ty #[x', y']) v := by
  unfold evMax at h
  split at h
  · rename_i k a k' b
    cases h; cases hx; cases hy
    refine ⟨rfl, .int k (if b > a then b else a), rfl, ?_⟩
    rw [iLe_eq]
    by_cases e : b ≤ a
    · rw [decide_eq_true e, if_neg (by omega)]; exact .int _ _
    · rw [decide_eq_false e, if_pos (by omega)]; exact .int _ _
  · cases h
end Go.Ev
