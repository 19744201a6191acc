/- Values out of parts; new variables, rows and maps; reading and writing maps. -/
import Derived.Test.YtaaiocbpgpkheaaEvOps4
namespace Go.Ev
open Go

variable {P : Program}

theorem fold_list (off : Nat) : ∀ (l : List Value) (j : Nat) (cells : Array Value), off + j + l.length ≤ cells.size →
    ∃ cs', (l.zipIdx j).foldl (fun cs (p : Value × Nat) => cs.setIfInBounds (off + p.2) p.1) cells = cs' ∧ cs'.size = cells.size ∧ ∀ k, cs'[k]? = if off + j ≤ k ∧ k < off + j + l.length then l[k - (off + j)]? else cells[k]? := by
  intro l
  induction l with
  | nil => intro j cells _; exact ⟨cells, rfl, rfl, fun k => by rw [if_neg (by simp)]⟩
  | cons v l ih =>
    intro j cells h
    simp only [List.length_cons] at h
    have hsz : (cells.setIfInBounds (off + j) v).size = cells.size := by simp
    obtain ⟨cs', e1, e2, e3⟩ := ih (j + 1) (cells.setIfInBounds (off + j) v) (by rw [hsz]; omega)
    refine ⟨cs', by rw [List.zipIdx_cons, List.foldl_cons]; exact e1, e2.trans hsz, fun k => ?_⟩
    rw [e3]
    simp only [List.length_cons]
    by_cases hk : off + (j + 1) ≤ k ∧ k < off + (j + 1) + l.length
    · rw [if_pos hk, if_pos (by omega)]
      obtain ⟨d, rfl⟩ : ∃ d, k = off + (j + 1) + d := ⟨k - (off + (j + 1)), by omega⟩
      rw [show off + (j + 1) + d - (off + (j + 1)) = d by omega, show off + (j + 1) + d - (off + j) = d + 1 by omega]; rfl
    · rw [if_neg hk]
      by_cases e : k = off + j
      · have hlt : k < cells.size := by omega
        rw [if_pos (by omega), ← e, Array.getElem?_setIfInBounds_self_of_lt hlt, Nat.sub_self]; rfl
      · rw [if_neg (by omega), Array.getElem?_setIfInBounds_ne (fun q => e q.symm)]
theorem fold_arr (off : Nat) (v : Array Value) (cells : Array Value) (h : off + v.size ≤ cells.size) :
    ∃ cs', v.zipIdx.foldl (fun cs (c, j) => cs.setIfInBounds (off + j) c) cells = cs' ∧ cs'.size = cells.size ∧ ∀ k, cs'[k]? = if off ≤ k ∧ k < off + v.size then v[k - off]? else cells[k]? := by
  obtain ⟨cs', e1, e2, e3⟩ := fold_list off v.toList 0 cells (by simpa using h)
  refine ⟨cs', ?_, e2, fun k => by rw [e3]; simp⟩
  rw [← Array.foldl_toList, Array.toList_zipIdx]; exact e1

theorem fill1_some {c c' : T V} {off size : Nat} {v : V} (h : fill1 c off size v = some c') : ∃ src, cellsV v = some (size, src) ∧ copyT src size 0 off c = some c' := by
  unfold fill1 at h
  cases hc : cellsV v with
  | none => rw [hc] at h; cases h
  | some p =>
    obtain ⟨n, src⟩ := p
    rw [hc] at h
    simp only [cond_beq] at h
    split at h
    · rename_i e; subst e; exact ⟨src, rfl, h⟩
    · cases h
/-- one part laid -/
theorem fill_step {R : Ren} {tot off size : Nat} {c c' : T V} {cells : Array Value} {v : V} {x : Value} (hc : CR R tot c cells) (hv : VR R v x) (h : fill1 c off size v = some c') (hle : off + size ≤ tot) (place : Nat → Option (Nat × Nat)) (i : Nat) (hp : place i = some (off, size)) (rest : List (Nat × Value)) :
    ∃ cells', Instr.fill place cells ((i, x) :: rest) = Instr.fill place cells' rest ∧ CR R tot c' cells' := by
  obtain ⟨src, h1, h2⟩ := fill1_some h
  obtain ⟨z1, z2⟩ := CR.of_cells hv h1
  obtain ⟨cs', e1, e2, e3⟩ := fold_arr off x.cells cells (by rw [hc.1, z1]; exact hle)
  refine ⟨cs', ?_, e2.trans hc.1, fun k hk => ?_⟩
  · show (match place i with | none => none | some (off, size) => if x.cells.size ≠ size || off + x.cells.size > cells.size then none else Instr.fill place (x.cells.zipIdx.foldl (fun cs (c, j) => cs.setIfInBounds (off + j) c) cells) rest) = _
    rw [hp]
    simp only
    rw [if_neg (by simp [z1, hc.1]; omega), e1]
  · obtain ⟨g1, g2⟩ := get_copyT src size 0 off c c' h2
    rw [e3, z1]
    by_cases hin : off ≤ k ∧ k < off + size
    · rw [if_pos hin]
      obtain ⟨a, b, a1, a2, a3, a4⟩ := z2 (k - off) (by omega)
      obtain ⟨u, u1, u2⟩ := g1 (k - off) (by omega)
      rw [Nat.zero_add, a1] at u1; cases u1
      rw [show off + (k - off) = k by omega] at u2
      exact ⟨a, b, u2, a2, a3, a4⟩
    · rw [if_neg hin]
      obtain ⟨a, b, a1, a2, a3, a4⟩ := hc.2 k hk
      exact ⟨a, b, (g2 k (by omega)).trans a1, a2, a3, a4⟩
theorem fillE_some {R : Ren} {size tot : Nat} {a : EA} {ρ : Operand → Value} : ∀ (l : List (Nat × Operand)) (c c' : T V) (cells : Array Value), (∀ p, p ∈ l → VR R (a.eval p.2) (ρ p.2)) → CR R tot c cells → fillE size tot a l c = some c' →
    ∃ cells', Instr.fill (fun i => some (i * size, size)) cells (l.map fun (i, x) => (i, ρ x)) = some cells' ∧ CR R tot c' cells' := by
  intro l
  induction l with
  | nil => intro c c' cells _ hc h; cases h; exact ⟨cells, rfl, hc⟩
  | cons p l ih =>
    intro c c' cells hρ hc h
    have h' : cond (Nat.ble (p.1 * size + size) tot) (match fill1 c (p.1 * size) size (a.eval p.2) with | none => none | some c => fillE size tot a l c) none = some c' := h
    rw [cond_ble] at h'
    split at h'
    · rename_i hle
      cases hf : fill1 c (p.1 * size) size (a.eval p.2) with
      | none => rw [hf] at h'; cases h'
      | some c1 =>
        rw [hf] at h'
        obtain ⟨cells1, e1, e2⟩ := fill_step hc (hρ p (by simp)) hf hle (fun i => some (i * size, size)) p.1 rfl (l.map fun (i, x) => (i, ρ x))
        obtain ⟨cells', e3, e4⟩ := ih c1 c' cells1 (fun q hq => hρ q (by simp [hq])) e2 h'
        exact ⟨cells', by rw [List.map_cons]; exact e1.trans e3, e4⟩
    · cases h'
theorem fillF_some {R : Ren} {fields : Array Field} {places : Array (Nat × Nat)} (hpl : ∀ (i : Nat) (f : Field), fields[i]? = some f → ∀ s, sizeT P f.type = some s → places[i]? = some (f.offset, s)) {tot : Nat} {a : EA} {ρ : Operand → Value} : ∀ (l : List (Nat × Operand)) (c c' : T V) (cells : Array Value), (∀ p, p ∈ l → VR R (a.eval p.2) (ρ p.2)) → CR R tot c cells → fillF P fields tot a l c = some c' →
    ∃ cells', Instr.fill (places[·]?) cells (l.map fun (i, x) => (i, ρ x)) = some cells' ∧ CR R tot c' cells' := by
  intro l
  induction l with
  | nil => intro c c' cells _ hc h; cases h; exact ⟨cells, rfl, hc⟩
  | cons p l ih =>
    intro c c' cells hρ hc h
    have h' : (match fields[p.1]? with
      | none => none
      | some f => match sizeT P f.type with
        | none => none
        | some size => cond (Nat.ble (f.offset + size) tot) (match fill1 c f.offset size (a.eval p.2) with | none => none | some c => fillF P fields tot a l c) none) = some c' := h
    cases hfi : fields[p.1]? with
    | none => rw [hfi] at h'; cases h'
    | some f =>
      rw [hfi] at h'
      simp only at h'
      cases hs : sizeT P f.type with
      | none => rw [hs] at h'; cases h'
      | some size =>
        rw [hs] at h'
        simp only [cond_ble] at h'
        split at h'
        · rename_i hle
          cases hf : fill1 c f.offset size (a.eval p.2) with
          | none => rw [hf] at h'; cases h'
          | some c1 =>
            rw [hf] at h'
            obtain ⟨cells1, e1, e2⟩ := fill_step hc (hρ p (by simp)) hf hle (places[·]?) p.1 (hpl _ _ hfi _ hs) (l.map fun (i, x) => (i, ρ x))
            obtain ⟨cells', e3, e4⟩ := ih c1 c' cells1 (fun q hq => hρ q (by simp [hq])) e2 h'
            exact ⟨cells', by rw [List.map_cons]; exact e1.trans e3, e4⟩
        · cases h'
theorem hasInfo_some {t : TypeId} (h : hasInfo P t = true) : ∃ i, P.info? t = some i := by
  unfold hasInfo at h
  cases e : P.info? t with
  | none => rw [e] at h; cases h
  | some i => exact ⟨i, rfl⟩
theorem run_places {w : World} : ∀ (l : List Field), allInfo P l = true → ∃ ps : List (Nat × Nat), (l.mapM fun f => (do pure (f.offset, ← sizeOf f.type) : Sem (Nat × Nat))).run P w = .ok ps w ∧ ∀ (i : Nat) (f : Field), l[i]? = some f → ∀ s, sizeT P f.type = some s → ps[i]? = some (f.offset, s) := by
  intro l
  induction l with
  | nil => intro _; exact ⟨[], rfl, fun i f h => by simp at h⟩
  | cons f l ih =>
    intro h
    have h' : cond (hasInfo P f.type) (allInfo P l) false = true := h
    cases hi : hasInfo P f.type with
    | false => rw [hi] at h'; cases h'
    | true =>
      rw [hi] at h'
      obtain ⟨i, hi⟩ := hasInfo_some hi
      obtain ⟨ps, e1, e2⟩ := ih h'
      refine ⟨(f.offset, i.size) :: ps, ?_, fun k g hg s hs => ?_⟩
      · rw [List.mapM_cons]
        rw [run_bind_ok (show (do pure (f.offset, ← sizeOf f.type) : Sem (Nat × Nat)).run P w = .ok (f.offset, i.size) w by rw [run_bind_ok (run_sizeOf' hi w)]; rfl), run_bind_ok e1]
        rfl
      · cases k with
        | zero =>
          simp at hg; subst hg
          obtain ⟨i', q1, q2⟩ := sizeT_some hs
          rw [hi] at q1; cases q1; simp [q2]
        | succ k => simpa using e2 k g (by simpa using hg) s hs

theorem run_zero_agg {t : TypeId} {n : Nat} {z : T V} (h : zeroT P t = some (.agg n z)) (w : World) : ∃ cs, (zeroValue t).run P w = .ok (.agg cs) w ∧ ∀ R, CR R n z cs := by
  obtain ⟨z', e1, e2⟩ := run_zero h w
  obtain ⟨cs, rfl, _⟩ := CR.of_agg (e2 ⟨fun _ => none, fun _ => 0⟩)
  refine ⟨cs, e1, fun R => ?_⟩
  obtain ⟨cs', q, k⟩ := CR.of_agg (e2 R)
  cases q; exact k
theorem aggOf_some {n : Nat} {c : Option (T V)} {H H' : EH} {v : V} (h : aggOf n c H = some (v, H')) : ∃ c', c = some c' ∧ v = .agg n c' ∧ H' = H := by
  unfold aggOf at h
  cases c with
  | none => cases h
  | some c' => cases h; exact ⟨c', rfl, rfl, rfl⟩
theorem pure_build {R : Ren} {w : World} {t : TypeId} {parts : Array (Nat × Operand)} {a : EA} {ρ : Operand → Value} {v : V} {H H' : EH} (hρ : ∀ p, p ∈ parts → VR R (a.eval p.2) (ρ p.2)) (h : evBuild P t parts a H = some (v, H')) :
    H' = H ∧ PR P R w (Instr.build t (parts.map fun (i, x) => (i, ρ x))) v := by
  unfold evBuild at h
  split at h
  · rename_i fields n z hu hz
    cases hal : allInfo P fields.toList with
    | false => rw [hal] at h; cases h
    | true =>
      rw [hal] at h
      obtain ⟨c', h1, rfl, rfl⟩ := aggOf_some h
      obtain ⟨cs, e1, e2⟩ := run_zero_agg hz w
      obtain ⟨ps, p1, p2⟩ := run_places (P := P) (w := w) fields.toList hal
      obtain ⟨cells', f1, f2⟩ := fillF_some (P := P) (fields := fields) (places := ps.toArray) (fun i f hf s hs => by simpa using p2 i f (by simpa using hf) s hs) (ρ := ρ) parts.toList z c' cs (fun p hp => hρ p (by simpa using hp)) (e2 R) h1
      refine ⟨rfl, .agg cells', ?_, f2.agg⟩
      unfold Instr.build
      rw [run_bind_ok e1]
      simp only
      rw [run_bind_ok (run_under hu w)]
      simp only
      rw [Array.mapM_eq_mapM_toList]
      rw [run_bind_ok (show (List.toArray <$> fields.toList.mapM fun f => (do pure (f.offset, ← sizeOf f.type) : Sem (Nat × Nat))).run P w = .ok ps.toArray w by rw [Sem.run_map, p1]; rfl)]
      have : (Array.map (fun (i, x) => (i, ρ x)) parts).toList = parts.toList.map fun (i, x) => (i, ρ x) := by simp
      rw [this, show (Value.agg cs).cells = cs from rfl, f1]
      rfl
  · rename_i len elem n z hu hz
    cases hs : sizeT P elem with
    | none => rw [hs] at h; cases h
    | some size =>
      rw [hs] at h
      obtain ⟨c', h1, rfl, rfl⟩ := aggOf_some h
      obtain ⟨cs, e1, e2⟩ := run_zero_agg hz w
      obtain ⟨cells', f1, f2⟩ := fillE_some (ρ := ρ) parts.toList z c' cs (fun p hp => hρ p (by simpa using hp)) (e2 R) h1
      refine ⟨rfl, .agg cells', ?_, f2.agg⟩
      unfold Instr.build
      rw [run_bind_ok e1]
      simp only
      rw [run_bind_ok (run_under hu w)]
      simp only
      rw [run_bind_ok (run_size hs w)]
      have : (Array.map (fun (i, x) => (i, ρ x)) parts).toList = parts.toList.map fun (i, x) => (i, ρ x) := by simp
      rw [this, show (Value.agg cs).cells = cs from rfl, f1]
      rfl
  · cases h
end Go.Ev
