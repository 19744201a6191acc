/- New rows of zeros, new maps; reading and writing maps. -/
import Derived.Test.YtaaiocbpgpkheaaEvOps5
namespace Go.Ev
open Go

variable {P : Program}

theorem repT_zero (n : Nat) (z : T V) (i : Nat) (c : T V) : repT n z 0 i c = some c := rfl
theorem repT_succ (n : Nat) (z : T V) (m i : Nat) (c : T V) : repT n z (m + 1) i c = (match copyT z n 0 i c with | some c => repT n z m (i + n) c | none => none) := rfl
theorem get_repT (n : Nat) (z : T V) : ∀ (m i : Nat) (c c' : T V), repT n z m i c = some c' → (∀ k, k < m * n → ∃ v, z.get (k % n) = some v ∧ c'.get (i + k) = some v) ∧ ∀ k, k < i → c'.get k = c.get k := by
  intro m
  induction m with
  | zero => intro i c c' h; cases h; exact ⟨fun k hk => by simp at hk, fun _ _ => rfl⟩
  | succ m ih =>
    intro i c c' h
    rw [repT_succ] at h
    cases hc : copyT z n 0 i c with
    | none => rw [hc] at h; cases h
    | some c1 =>
      rw [hc] at h
      obtain ⟨g1, g2⟩ := get_copyT z n 0 i c c1 hc
      obtain ⟨e1, e2⟩ := ih (i + n) c1 c' h
      refine ⟨fun k hk => ?_, fun k hk => by rw [e2 k (by omega), g2 k (by omega)]⟩
      rw [Nat.add_mul] at hk
      by_cases hkn : k < n
      · obtain ⟨v, a1, a2⟩ := g1 k hkn
        exact ⟨v, by rw [Nat.mod_eq_of_lt hkn]; rwa [Nat.zero_add] at a1, by rw [e2 _ (by omega)]; exact a2⟩
      · obtain ⟨v, a1, a2⟩ := e1 (k - n) (by omega)
        refine ⟨v, ?_, by rw [show i + k = i + n + (k - n) by omega]; exact a2⟩
        rw [← a1]; congr 1
        have : k = (k - n) + n := by omega
        conv => lhs; rw [this, Nat.add_mod_right]
theorem rowZ_some {z : V} {len : Nat} {k : Nat → T V → VO} {r : V × EH} (h : rowZ z len k = some r) : ∃ n c c', cellsV z = some (n, c) ∧ repT n c len 0 .lf = some c' ∧ k n c' = some r := by
  unfold rowZ at h
  cases hc : cellsV z with
  | none => rw [hc] at h; cases h
  | some p =>
    obtain ⟨n, c⟩ := p
    rw [hc] at h
    simp only at h
    cases hr : repT n c len 0 .lf with
    | none => rw [hr] at h; cases h
    | some c' => rw [hr] at h; exact ⟨n, c, c', rfl, hr, h⟩
/-- the cells of a row of zeros, as the machine lays them -/
theorem zero_row {R : Ren} {n len : Nat} {z : V} {z' : Value} (hz : VR R z z') {c c' : T V} (hc : cellsV z = some (n, c)) (h : repT n c len 0 .lf = some c') : CR R (len * n) c' ((Array.range (len * n)).map (z'.cells[· % z'.cells.size]!)) := by
  obtain ⟨z1, z2⟩ := CR.of_cells hz hc
  obtain ⟨g1, _⟩ := get_repT n c len 0 .lf c' h
  refine ⟨by simp, fun k hk => ?_⟩
  obtain ⟨v, a1, a2⟩ := g1 k hk
  have hn : 0 < n := by
    rcases Nat.eq_zero_or_pos n with e | e
    · subst e; simp at hk
    · exact e
  obtain ⟨x, y, b1, b2, b3, b4⟩ := z2 (k % n) (Nat.mod_lt _ hn)
  rw [a1] at b1; cases b1
  refine ⟨v, y, by rwa [Nat.zero_add] at a2, b2, ?_, b4⟩
  have hlt := (Array.getElem?_eq_some_iff.1 b3).1
  simp only [Array.getElem?_map, z1]
  rw [show (Array.range (len * n))[k]? = some k by simp [hk]]
  simp only [Option.map_some]
  congr 1
  rw [getElem!_pos z'.cells (k % n) hlt]
  exact (Array.getElem?_eq_some_iff.1 b3).2

theorem newRow_eq (H : EH) (n : Nat) (c : T V) (len e : Nat) : H.newRow n c len e = some (.slice H.next 0 len e, ⟨H.objs.set H.next (.cells c 0 n H.next), H.next + 1, H.grps, H.low⟩) := by unfold EH.newRow; rw [new_eq]
theorem good_newRow {R : Ren} {S : Nat → Prop} {H H' : EH} {w : World} (hr : Rel R S H w) (hw : WF H) (hf : Free R H H') {n len cap e : Nat} {c : T V} {cs : Array Value} {v : V} (hc : CR R n c cs) (hl : len ≤ cap) (hn : cap * e = n) (h : H.newRow n c len e = some (v, H')) (elem : TypeId) :
    Good P R S H w (do pure (.slice (some (← newRow elem cs)) len cap)) v H' (fun _ => False) := by
  rw [newRow_eq] at h
  cases h
  obtain ⟨w', R', e1, e2, e3, e4⟩ := sim_row (P := P) hr hw (hf _ (Nat.le_refl _) (Nat.lt_succ_self _)) hc.2 elem
  refine ⟨_, w', R', by rw [run_bind_ok e1]; rfl, .slice e3 (fun _ => rfl) hl ?_, e2⟩
  rw [e4, hc.1]; omega

theorem good_buildSlice {R : Ren} {S : Nat → Prop} {H H' : EH} {w : World} (hr : Rel R S H w) (hw : WF H) (hf : Free R H H') {t : TypeId} {len : Nat} {parts : Array (Nat × Operand)} {a : EA} {ρ : Operand → Value} {v : V} (hρ : ∀ p, p ∈ parts → VR R (a.eval p.2) (ρ p.2))
    (h : evBuildSlice P t len parts a H = some (v, H')) : Good P R S H w (Instr.buildSlice t len (parts.map fun (i, x) => (i, ρ x))) v H' (fun _ => False) := by
  unfold evBuildSlice at h
  split at h
  · rename_i elem hu
    split at h
    · rename_i size z hs hz
      obtain ⟨n, c, c', q1, q2, q3⟩ := rowZ_some h
      simp only [cond_beq, cond_ble] at q3
      split at q3
      · rename_i en
        subst en
        split at q3
        · rename_i hle
          have hle' : len * n ≤ 65536 := hle
          unfold rowOf at q3
          cases hfl : fillE n (Nat.mul len n) a parts.toList c' with
          | none => rw [hfl] at q3; cases q3
          | some c2 =>
            rw [hfl] at q3
            simp only at q3
            obtain ⟨z', e1, e2⟩ := run_zero hz w
            have hzr := zero_row (e2 R) q1 q2
            have hpt : (Array.map (fun (i, x) => (i, ρ x)) parts).toList = parts.toList.map fun (i, x) => (i, ρ x) := by simp
            obtain ⟨zz1, _⟩ := CR.of_cells (e2 R) q1
            obtain ⟨cells', f1, f2⟩ := fillE_some (ρ := ρ) parts.toList c' c2 _ (fun p hp => hρ p (by simpa using hp)) hzr hfl
            obtain ⟨x, w', R', g1, g2, g3⟩ := good_newRow (P := P) hr hw hf (cap := len) f2 (Nat.le_refl _) rfl q3 elem
            refine ⟨x, w', R', ?_, g2, g3⟩
            rw [← g1]
            unfold Instr.buildSlice
            rw [run_bind_ok (run_under hu w)]
            simp only
            rw [run_bind_ok (run_size hs w), if_neg (by omega)]
            by_cases h0 : len * n = 0
            · rw [if_pos h0, run_bind_ok (show (pure #[] : Sem (Array Value)).run P w = .ok #[] w from rfl)]
              have hz2 : (Array.range (len * n)).map ((#[] : Array Value)[· % (#[] : Array Value).size]!) = (Array.range (len * n)).map (z'.cells[· % z'.cells.size]!) := by rw [h0]; simp
              rw [hz2, hpt, f1]
            · rw [if_neg h0, run_bind_ok e1, run_bind_ok (show (pure z'.cells : Sem (Array Value)).run P w = .ok z'.cells w from rfl), hpt, f1]
        · cases q3
      · cases q3
    · cases h
  · cases h
end Go.Ev
