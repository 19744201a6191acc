/- Worts: the contracts of a step, and of a gravity. -/
import Derived.Test.YtmcdjginlikbcaaYWoF1
set_option linter.all false
set_option linter.unusedSimpArgs false
set_option linter.unusedVariables false
namespace Go.Proofs.Ytmcdjginlikbcaa
namespace WO
open Go Go.Ev
set_option maxRecDepth 1000000
noncomputable section
def okX (g x room : Int) : Bool := cond (iLe g room) (not (cond (iEq g 0) (not (iLe x 0)) false)) false
theorem okX_t {g x room : Int} : okX g x room = true ↔ g ≤ room ∧ ¬ (g = 0 ∧ 0 < x) := by
  unfold okX
  by_cases h1 : g ≤ room
  · rw [(iLe_t _ _).mpr h1]
    by_cases h2 : g = 0
    · rw [(iEq_t _ _).mpr h2]
      by_cases h3 : x ≤ 0
      · rw [(iLe_t _ _).mpr h3]; exact ⟨fun _ => ⟨h1, by omega⟩, fun _ => rfl⟩
      · rw [(iLe_f _ _).mpr (by omega)]; exact ⟨fun h => (by cases h), fun h => absurd ⟨h2, by omega⟩ h.2⟩
    · rw [(iEq_f _ _).mpr h2]; exact ⟨fun _ => ⟨h1, fun q => h2 q.1⟩, fun _ => rfl⟩
  · rw [(iLe_f _ _).mpr (by omega)]; exact ⟨fun h => (by cases h), fun h => absurd h.1 h1⟩
theorem okX_f {g x room : Int} (h : ¬ (g ≤ room ∧ ¬ (g = 0 ∧ 0 < x))) : okX g x room = false := by
  cases e : okX g x room with
  | false => rfl
  | true => exact absurd (okX_t.mp e) h
theorem afV_lk {k : Int} {f t : Nat} {n : Int} {h : Nat → Int} {room : Int} (e : lkB k f n h = true) : afV k f t n h room = .tup [ag8 h, .bool false] := by
  unfold afV ag8 afC afO; rw [e]; rfl
theorem afV_nl {k : Int} {f t : Nat} {n : Int} {h : Nat → Int} {room : Int} {b : Bool} (e : lkB k f n h = false) (hb : okX (newC k f t n h (Nat.mul 2 t)) (newC k f t n h (Nat.succ (Nat.mul 2 t))) room = b) : afV k f t n h room = .tup [ag8 (newC k f t n h), .bool b] := by
  subst hb
  unfold afV ag8 afC afO; rw [e]; rfl
theorem por_0 {f : Nat} {n : Int} {h : Nat → Int} (e : n = 0) : porX f n h = 0 := by unfold porX; rw [(iEq_t _ _).mpr e]; rfl
theorem por_n {f : Nat} {n : Int} {h : Nat → Int} (e : ¬ n = 0) : Int.tdiv (n * h (Nat.succ (Nat.mul 2 f))) (h (Nat.mul 2 f)) = porX f n h := by unfold porX; rw [(iEq_f _ _).mpr e]; rfl
theorem pr_bd {n x : Int} (h1 : 0 ≤ n ∧ n ≤ 1000) (h2 : 0 ≤ x ∧ x ≤ 1000000) : 0 ≤ n * x ∧ n * x ≤ 1000000000 := by
  have a : 0 ≤ n * x := Int.mul_nonneg h1.1 h2.1
  have b : n * x ≤ 1000 * x := Int.mul_le_mul_of_nonneg_right h1.2 h2.1
  omega
theorem por_bd {f : Nat} {n : Int} {h : Nat → Int} (h1 : 0 ≤ n ∧ n ≤ 1000) (h2 : 0 ≤ h (Nat.succ (Nat.mul 2 f)) ∧ h (Nat.succ (Nat.mul 2 f)) ≤ 1000000) (h3 : 0 ≤ h (Nat.mul 2 f)) : 0 ≤ porX f n h ∧ porX f n h ≤ 1000000000 := by
  by_cases e : n = 0
  · rw [por_0 e]; omega
  · rw [← por_n e]
    have p := pr_bd h1 h2
    rw [Int.tdiv_eq_ediv_of_nonneg p.1]
    refine ⟨Int.ediv_nonneg p.1 h3, ?_⟩
    have := Int.ediv_le_self (h (Nat.mul 2 f)) p.1
    omega
theorem cf001 (nv : Nat) (fv : Nat → Nat → Int) (ns : Nat) (fs : Nat → Nat → Int) (no : Nat) (fo : Nat → Nat → Int) (a0 a1 a2 a3 a4 a5 a6 a7 : Int) (lo hi n : Int) (ht : 1 < nv) (hf : nv ≤ 1000) (n0 : 0 ≤ n ∧ n ≤ 1000) (b0 : 0 ≤ a0 ∧ a0 ≤ 1000000) (b1 : 0 ≤ a1 ∧ a1 ≤ 1000000) (b2 : 0 ≤ a2 ∧ a2 ≤ 1000000) (b3 : 0 ≤ a3 ∧ a3 ≤ 1000000) (b4 : 0 ≤ a4 ∧ a4 ≤ 1000000) (b5 : 0 ≤ a5 ∧ a5 ≤ 1000000) (b6 : 0 ≤ a6 ∧ a6 ≤ 1000000) (b7 : 0 ≤ a7 ∧ a7 ≤ 1000000) : flatV (afV 0 0 1 n (nthI [a0, a1, a2, a3, a4, a5, a6, a7]) (fv 1 4)) = true ∧ ∃ v' H', SpecCall Try.prog 66 (enc [.st [.sl 5 nv fv, .sl 5 ns fs, .sl 2 no fo], .st [.i .i64 a0, .i .i64 a1, .i .i64 a2, .i .i64 a3, .i .i64 a4, .i .i64 a5, .i .i64 a6, .i .i64 a7], .st [.i .i64 0, .i .i64 0, .i .i64 1, .i .i64 lo, .i .i64 hi], .one (.i .i64 n)] 0) (heap0 4) v' H' ∧ valP v' (afV 0 0 1 n (nthI [a0, a1, a2, a3, a4, a5, a6, a7]) (fv 1 4)) := by
  have fin : ∀ {u : V} {h : HT}, VC (runD0 Try.prog noExt 400 66 (enc [.st [.sl 5 nv fv, .sl 5 ns fs, .sl 2 no fo], .st [.i .i64 a0, .i .i64 a1, .i .i64 a2, .i .i64 a3, .i .i64 a4, .i .i64 a5, .i .i64 a6, .i .i64 a7], .st [.i .i64 0, .i .i64 0, .i .i64 1, .i .i64 lo, .i .i64 hi], .one (.i .i64 n)] 0) 3 (fun v => valP v u)) h → flatV u = true → (afV 0 0 1 n (nthI [a0, a1, a2, a3, a4, a5, a6, a7]) (fv 1 4)) = u → flatV (afV 0 0 1 n (nthI [a0, a1, a2, a3, a4, a5, a6, a7]) (fv 1 4)) = true ∧ ∃ v' H', SpecCall Try.prog 66 (enc [.st [.sl 5 nv fv, .sl 5 ns fs, .sl 2 no fo], .st [.i .i64 a0, .i .i64 a1, .i .i64 a2, .i .i64 a3, .i .i64 a4, .i .i64 a5, .i .i64 a6, .i .i64 a7], .st [.i .i64 0, .i .i64 0, .i .i64 1, .i .i64 lo, .i .i64 hi], .one (.i .i64 n)] 0) (heap0 4) v' H' ∧ valP v' (afV 0 0 1 n (nthI [a0, a1, a2, a3, a4, a5, a6, a7]) (fv 1 4)) := fun hvc hfl e => by
    rw [e]; exact con_runV drawnC noExt_ok (das := [.st [.sl 5 nv fv, .sl 5 ns fs, .sl 2 no fo], .st [.i .i64 a0, .i .i64 a1, .i .i64 a2, .i .i64 a3, .i .i64 a4, .i .i64 a5, .i .i64 a6, .i .i64 a7], .st [.i .i64 0, .i .i64 0, .i .i64 1, .i .i64 lo, .i .i64 hi], .one (.i .i64 n)]) hfl hvc
  by_cases hc : n ≤ a0
  · have e : lkB 0 0 n (nthI [a0, a1, a2, a3, a4, a5, a6, a7]) = false := by show not (iLe n a0) = false; rw [(iLe_t _ _).mpr hc]; rfl
    by_cases ho : a2 + n ≤ fv 1 4 ∧ ¬ (a2 + n = 0 ∧ 0 < a3 + (porX 0 n (nthI [a0, a1, a2, a3, a4, a5, a6, a7])))
    · exact fin (ay001 nv fv ns fs no fo a0 a1 a2 a3 a4 a5 a6 a7 lo hi n (porX 0 n (nthI [a0, a1, a2, a3, a4, a5, a6, a7])) ht hf n0 b0 b1 b2 b3 b4 b5 b6 b7 hc (pr_bd n0 b1) (por_bd (f := 0) (h := nthI [a0, a1, a2, a3, a4, a5, a6, a7]) n0 b1 b0.1) (fun e => por_0 e) (fun e => por_n (f := 0) (h := nthI [a0, a1, a2, a3, a4, a5, a6, a7]) e) ho) rfl (afV_nl e (okX_t.mpr ho))
    · exact fin (an001 nv fv ns fs no fo a0 a1 a2 a3 a4 a5 a6 a7 lo hi n (porX 0 n (nthI [a0, a1, a2, a3, a4, a5, a6, a7])) ht hf n0 b0 b1 b2 b3 b4 b5 b6 b7 hc (pr_bd n0 b1) (por_bd (f := 0) (h := nthI [a0, a1, a2, a3, a4, a5, a6, a7]) n0 b1 b0.1) (fun e => por_0 e) (fun e => por_n (f := 0) (h := nthI [a0, a1, a2, a3, a4, a5, a6, a7]) e) ho) rfl (afV_nl e (okX_f ho))
  · exact fin (al001 nv fv ns fs no fo a0 a1 a2 a3 a4 a5 a6 a7 lo hi n ht hf n0 b0 b1 b2 b3 b4 b5 b6 b7 hc) rfl (afV_lk (by show not (iLe n a0) = true; rw [(iLe_f _ _).mpr (by omega)]; rfl))
theorem cf002 (nv : Nat) (fv : Nat → Nat → Int) (ns : Nat) (fs : Nat → Nat → Int) (no : Nat) (fo : Nat → Nat → Int) (a0 a1 a2 a3 a4 a5 a6 a7 : Int) (lo hi n : Int) (ht : 2 < nv) (hf : nv ≤ 1000) (n0 : 0 ≤ n ∧ n ≤ 1000) (b0 : 0 ≤ a0 ∧ a0 ≤ 1000000) (b1 : 0 ≤ a1 ∧ a1 ≤ 1000000) (b2 : 0 ≤ a2 ∧ a2 ≤ 1000000) (b3 : 0 ≤ a3 ∧ a3 ≤ 1000000) (b4 : 0 ≤ a4 ∧ a4 ≤ 1000000) (b5 : 0 ≤ a5 ∧ a5 ≤ 1000000) (b6 : 0 ≤ a6 ∧ a6 ≤ 1000000) (b7 : 0 ≤ a7 ∧ a7 ≤ 1000000) : flatV (afV 0 0 2 n (nthI [a0, a1, a2, a3, a4, a5, a6, a7]) (fv 2 4)) = true ∧ ∃ v' H', SpecCall Try.prog 66 (enc [.st [.sl 5 nv fv, .sl 5 ns fs, .sl 2 no fo], .st [.i .i64 a0, .i .i64 a1, .i .i64 a2, .i .i64 a3, .i .i64 a4, .i .i64 a5, .i .i64 a6, .i .i64 a7], .st [.i .i64 0, .i .i64 0, .i .i64 2, .i .i64 lo, .i .i64 hi], .one (.i .i64 n)] 0) (heap0 4) v' H' ∧ valP v' (afV 0 0 2 n (nthI [a0, a1, a2, a3, a4, a5, a6, a7]) (fv 2 4)) := by
  have fin : ∀ {u : V} {h : HT}, VC (runD0 Try.prog noExt 400 66 (enc [.st [.sl 5 nv fv, .sl 5 ns fs, .sl 2 no fo], .st [.i .i64 a0, .i .i64 a1, .i .i64 a2, .i .i64 a3, .i .i64 a4, .i .i64 a5, .i .i64 a6, .i .i64 a7], .st [.i .i64 0, .i .i64 0, .i .i64 2, .i .i64 lo, .i .i64 hi], .one (.i .i64 n)] 0) 3 (fun v => valP v u)) h → flatV u = true → (afV 0 0 2 n (nthI [a0, a1, a2, a3, a4, a5, a6, a7]) (fv 2 4)) = u → flatV (afV 0 0 2 n (nthI [a0, a1, a2, a3, a4, a5, a6, a7]) (fv 2 4)) = true ∧ ∃ v' H', SpecCall Try.prog 66 (enc [.st [.sl 5 nv fv, .sl 5 ns fs, .sl 2 no fo], .st [.i .i64 a0, .i .i64 a1, .i .i64 a2, .i .i64 a3, .i .i64 a4, .i .i64 a5, .i .i64 a6, .i .i64 a7], .st [.i .i64 0, .i .i64 0, .i .i64 2, .i .i64 lo, .i .i64 hi], .one (.i .i64 n)] 0) (heap0 4) v' H' ∧ valP v' (afV 0 0 2 n (nthI [a0, a1, a2, a3, a4, a5, a6, a7]) (fv 2 4)) := fun hvc hfl e => by
    rw [e]; exact con_runV drawnC noExt_ok (das := [.st [.sl 5 nv fv, .sl 5 ns fs, .sl 2 no fo], .st [.i .i64 a0, .i .i64 a1, .i .i64 a2, .i .i64 a3, .i .i64 a4, .i .i64 a5, .i .i64 a6, .i .i64 a7], .st [.i .i64 0, .i .i64 0, .i .i64 2, .i .i64 lo, .i .i64 hi], .one (.i .i64 n)]) hfl hvc
  by_cases hc : n ≤ a0
  · have e : lkB 0 0 n (nthI [a0, a1, a2, a3, a4, a5, a6, a7]) = false := by show not (iLe n a0) = false; rw [(iLe_t _ _).mpr hc]; rfl
    by_cases ho : a4 + n ≤ fv 2 4 ∧ ¬ (a4 + n = 0 ∧ 0 < a5 + (porX 0 n (nthI [a0, a1, a2, a3, a4, a5, a6, a7])))
    · exact fin (ay002 nv fv ns fs no fo a0 a1 a2 a3 a4 a5 a6 a7 lo hi n (porX 0 n (nthI [a0, a1, a2, a3, a4, a5, a6, a7])) ht hf n0 b0 b1 b2 b3 b4 b5 b6 b7 hc (pr_bd n0 b1) (por_bd (f := 0) (h := nthI [a0, a1, a2, a3, a4, a5, a6, a7]) n0 b1 b0.1) (fun e => por_0 e) (fun e => por_n (f := 0) (h := nthI [a0, a1, a2, a3, a4, a5, a6, a7]) e) ho) rfl (afV_nl e (okX_t.mpr ho))
    · exact fin (an002 nv fv ns fs no fo a0 a1 a2 a3 a4 a5 a6 a7 lo hi n (porX 0 n (nthI [a0, a1, a2, a3, a4, a5, a6, a7])) ht hf n0 b0 b1 b2 b3 b4 b5 b6 b7 hc (pr_bd n0 b1) (por_bd (f := 0) (h := nthI [a0, a1, a2, a3, a4, a5, a6, a7]) n0 b1 b0.1) (fun e => por_0 e) (fun e => por_n (f := 0) (h := nthI [a0, a1, a2, a3, a4, a5, a6, a7]) e) ho) rfl (afV_nl e (okX_f ho))
  · exact fin (al002 nv fv ns fs no fo a0 a1 a2 a3 a4 a5 a6 a7 lo hi n ht hf n0 b0 b1 b2 b3 b4 b5 b6 b7 hc) rfl (afV_lk (by show not (iLe n a0) = true; rw [(iLe_f _ _).mpr (by omega)]; rfl))
theorem cf003 (nv : Nat) (fv : Nat → Nat → Int) (ns : Nat) (fs : Nat → Nat → Int) (no : Nat) (fo : Nat → Nat → Int) (a0 a1 a2 a3 a4 a5 a6 a7 : Int) (lo hi n : Int) (ht : 3 < nv) (hf : nv ≤ 1000) (n0 : 0 ≤ n ∧ n ≤ 1000) (b0 : 0 ≤ a0 ∧ a0 ≤ 1000000) (b1 : 0 ≤ a1 ∧ a1 ≤ 1000000) (b2 : 0 ≤ a2 ∧ a2 ≤ 1000000) (b3 : 0 ≤ a3 ∧ a3 ≤ 1000000) (b4 : 0 ≤ a4 ∧ a4 ≤ 1000000) (b5 : 0 ≤ a5 ∧ a5 ≤ 1000000) (b6 : 0 ≤ a6 ∧ a6 ≤ 1000000) (b7 : 0 ≤ a7 ∧ a7 ≤ 1000000) : flatV (afV 0 0 3 n (nthI [a0, a1, a2, a3, a4, a5, a6, a7]) (fv 3 4)) = true ∧ ∃ v' H', SpecCall Try.prog 66 (enc [.st [.sl 5 nv fv, .sl 5 ns fs, .sl 2 no fo], .st [.i .i64 a0, .i .i64 a1, .i .i64 a2, .i .i64 a3, .i .i64 a4, .i .i64 a5, .i .i64 a6, .i .i64 a7], .st [.i .i64 0, .i .i64 0, .i .i64 3, .i .i64 lo, .i .i64 hi], .one (.i .i64 n)] 0) (heap0 4) v' H' ∧ valP v' (afV 0 0 3 n (nthI [a0, a1, a2, a3, a4, a5, a6, a7]) (fv 3 4)) := by
  have fin : ∀ {u : V} {h : HT}, VC (runD0 Try.prog noExt 400 66 (enc [.st [.sl 5 nv fv, .sl 5 ns fs, .sl 2 no fo], .st [.i .i64 a0, .i .i64 a1, .i .i64 a2, .i .i64 a3, .i .i64 a4, .i .i64 a5, .i .i64 a6, .i .i64 a7], .st [.i .i64 0, .i .i64 0, .i .i64 3, .i .i64 lo, .i .i64 hi], .one (.i .i64 n)] 0) 3 (fun v => valP v u)) h → flatV u = true → (afV 0 0 3 n (nthI [a0, a1, a2, a3, a4, a5, a6, a7]) (fv 3 4)) = u → flatV (afV 0 0 3 n (nthI [a0, a1, a2, a3, a4, a5, a6, a7]) (fv 3 4)) = true ∧ ∃ v' H', SpecCall Try.prog 66 (enc [.st [.sl 5 nv fv, .sl 5 ns fs, .sl 2 no fo], .st [.i .i64 a0, .i .i64 a1, .i .i64 a2, .i .i64 a3, .i .i64 a4, .i .i64 a5, .i .i64 a6, .i .i64 a7], .st [.i .i64 0, .i .i64 0, .i .i64 3, .i .i64 lo, .i .i64 hi], .one (.i .i64 n)] 0) (heap0 4) v' H' ∧ valP v' (afV 0 0 3 n (nthI [a0, a1, a2, a3, a4, a5, a6, a7]) (fv 3 4)) := fun hvc hfl e => by
    rw [e]; exact con_runV drawnC noExt_ok (das := [.st [.sl 5 nv fv, .sl 5 ns fs, .sl 2 no fo], .st [.i .i64 a0, .i .i64 a1, .i .i64 a2, .i .i64 a3, .i .i64 a4, .i .i64 a5, .i .i64 a6, .i .i64 a7], .st [.i .i64 0, .i .i64 0, .i .i64 3, .i .i64 lo, .i .i64 hi], .one (.i .i64 n)]) hfl hvc
  by_cases hc : n ≤ a0
  · have e : lkB 0 0 n (nthI [a0, a1, a2, a3, a4, a5, a6, a7]) = false := by show not (iLe n a0) = false; rw [(iLe_t _ _).mpr hc]; rfl
    by_cases ho : a6 + n ≤ fv 3 4 ∧ ¬ (a6 + n = 0 ∧ 0 < a7 + (porX 0 n (nthI [a0, a1, a2, a3, a4, a5, a6, a7])))
    · exact fin (ay003 nv fv ns fs no fo a0 a1 a2 a3 a4 a5 a6 a7 lo hi n (porX 0 n (nthI [a0, a1, a2, a3, a4, a5, a6, a7])) ht hf n0 b0 b1 b2 b3 b4 b5 b6 b7 hc (pr_bd n0 b1) (por_bd (f := 0) (h := nthI [a0, a1, a2, a3, a4, a5, a6, a7]) n0 b1 b0.1) (fun e => por_0 e) (fun e => por_n (f := 0) (h := nthI [a0, a1, a2, a3, a4, a5, a6, a7]) e) ho) rfl (afV_nl e (okX_t.mpr ho))
    · exact fin (an003 nv fv ns fs no fo a0 a1 a2 a3 a4 a5 a6 a7 lo hi n (porX 0 n (nthI [a0, a1, a2, a3, a4, a5, a6, a7])) ht hf n0 b0 b1 b2 b3 b4 b5 b6 b7 hc (pr_bd n0 b1) (por_bd (f := 0) (h := nthI [a0, a1, a2, a3, a4, a5, a6, a7]) n0 b1 b0.1) (fun e => por_0 e) (fun e => por_n (f := 0) (h := nthI [a0, a1, a2, a3, a4, a5, a6, a7]) e) ho) rfl (afV_nl e (okX_f ho))
  · exact fin (al003 nv fv ns fs no fo a0 a1 a2 a3 a4 a5 a6 a7 lo hi n ht hf n0 b0 b1 b2 b3 b4 b5 b6 b7 hc) rfl (afV_lk (by show not (iLe n a0) = true; rw [(iLe_f _ _).mpr (by omega)]; rfl))
theorem cf010 (nv : Nat) (fv : Nat → Nat → Int) (ns : Nat) (fs : Nat → Nat → Int) (no : Nat) (fo : Nat → Nat → Int) (a0 a1 a2 a3 a4 a5 a6 a7 : Int) (lo hi n : Int) (ht : 0 < nv) (hf : nv ≤ 1000) (n0 : 0 ≤ n ∧ n ≤ 1000) (b0 : 0 ≤ a0 ∧ a0 ≤ 1000000) (b1 : 0 ≤ a1 ∧ a1 ≤ 1000000) (b2 : 0 ≤ a2 ∧ a2 ≤ 1000000) (b3 : 0 ≤ a3 ∧ a3 ≤ 1000000) (b4 : 0 ≤ a4 ∧ a4 ≤ 1000000) (b5 : 0 ≤ a5 ∧ a5 ≤ 1000000) (b6 : 0 ≤ a6 ∧ a6 ≤ 1000000) (b7 : 0 ≤ a7 ∧ a7 ≤ 1000000) : flatV (afV 0 1 0 n (nthI [a0, a1, a2, a3, a4, a5, a6, a7]) (fv 0 4)) = true ∧ ∃ v' H', SpecCall Try.prog 66 (enc [.st [.sl 5 nv fv, .sl 5 ns fs, .sl 2 no fo], .st [.i .i64 a0, .i .i64 a1, .i .i64 a2, .i .i64 a3, .i .i64 a4, .i .i64 a5, .i .i64 a6, .i .i64 a7], .st [.i .i64 0, .i .i64 1, .i .i64 0, .i .i64 lo, .i .i64 hi], .one (.i .i64 n)] 0) (heap0 4) v' H' ∧ valP v' (afV 0 1 0 n (nthI [a0, a1, a2, a3, a4, a5, a6, a7]) (fv 0 4)) := by
  have fin : ∀ {u : V} {h : HT}, VC (runD0 Try.prog noExt 400 66 (enc [.st [.sl 5 nv fv, .sl 5 ns fs, .sl 2 no fo], .st [.i .i64 a0, .i .i64 a1, .i .i64 a2, .i .i64 a3, .i .i64 a4, .i .i64 a5, .i .i64 a6, .i .i64 a7], .st [.i .i64 0, .i .i64 1, .i .i64 0, .i .i64 lo, .i .i64 hi], .one (.i .i64 n)] 0) 3 (fun v => valP v u)) h → flatV u = true → (afV 0 1 0 n (nthI [a0, a1, a2, a3, a4, a5, a6, a7]) (fv 0 4)) = u → flatV (afV 0 1 0 n (nthI [a0, a1, a2, a3, a4, a5, a6, a7]) (fv 0 4)) = true ∧ ∃ v' H', SpecCall Try.prog 66 (enc [.st [.sl 5 nv fv, .sl 5 ns fs, .sl 2 no fo], .st [.i .i64 a0, .i .i64 a1, .i .i64 a2, .i .i64 a3, .i .i64 a4, .i .i64 a5, .i .i64 a6, .i .i64 a7], .st [.i .i64 0, .i .i64 1, .i .i64 0, .i .i64 lo, .i .i64 hi], .one (.i .i64 n)] 0) (heap0 4) v' H' ∧ valP v' (afV 0 1 0 n (nthI [a0, a1, a2, a3, a4, a5, a6, a7]) (fv 0 4)) := fun hvc hfl e => by
    rw [e]; exact con_runV drawnC noExt_ok (das := [.st [.sl 5 nv fv, .sl 5 ns fs, .sl 2 no fo], .st [.i .i64 a0, .i .i64 a1, .i .i64 a2, .i .i64 a3, .i .i64 a4, .i .i64 a5, .i .i64 a6, .i .i64 a7], .st [.i .i64 0, .i .i64 1, .i .i64 0, .i .i64 lo, .i .i64 hi], .one (.i .i64 n)]) hfl hvc
  by_cases hc : n ≤ a2
  · have e : lkB 0 1 n (nthI [a0, a1, a2, a3, a4, a5, a6, a7]) = false := by show not (iLe n a2) = false; rw [(iLe_t _ _).mpr hc]; rfl
    by_cases ho : a0 + n ≤ fv 0 4 ∧ ¬ (a0 + n = 0 ∧ 0 < a1 + (porX 1 n (nthI [a0, a1, a2, a3, a4, a5, a6, a7])))
    · exact fin (ay010 nv fv ns fs no fo a0 a1 a2 a3 a4 a5 a6 a7 lo hi n (porX 1 n (nthI [a0, a1, a2, a3, a4, a5, a6, a7])) ht hf n0 b0 b1 b2 b3 b4 b5 b6 b7 hc (pr_bd n0 b3) (por_bd (f := 1) (h := nthI [a0, a1, a2, a3, a4, a5, a6, a7]) n0 b3 b2.1) (fun e => por_0 e) (fun e => por_n (f := 1) (h := nthI [a0, a1, a2, a3, a4, a5, a6, a7]) e) ho) rfl (afV_nl e (okX_t.mpr ho))
    · exact fin (an010 nv fv ns fs no fo a0 a1 a2 a3 a4 a5 a6 a7 lo hi n (porX 1 n (nthI [a0, a1, a2, a3, a4, a5, a6, a7])) ht hf n0 b0 b1 b2 b3 b4 b5 b6 b7 hc (pr_bd n0 b3) (por_bd (f := 1) (h := nthI [a0, a1, a2, a3, a4, a5, a6, a7]) n0 b3 b2.1) (fun e => por_0 e) (fun e => por_n (f := 1) (h := nthI [a0, a1, a2, a3, a4, a5, a6, a7]) e) ho) rfl (afV_nl e (okX_f ho))
  · exact fin (al010 nv fv ns fs no fo a0 a1 a2 a3 a4 a5 a6 a7 lo hi n ht hf n0 b0 b1 b2 b3 b4 b5 b6 b7 hc) rfl (afV_lk (by show not (iLe n a2) = true; rw [(iLe_f _ _).mpr (by omega)]; rfl))
theorem cf012 (nv : Nat) (fv : Nat → Nat → Int) (ns : Nat) (fs : Nat → Nat → Int) (no : Nat) (fo : Nat → Nat → Int) (a0 a1 a2 a3 a4 a5 a6 a7 : Int) (lo hi n : Int) (ht : 2 < nv) (hf : nv ≤ 1000) (n0 : 0 ≤ n ∧ n ≤ 1000) (b0 : 0 ≤ a0 ∧ a0 ≤ 1000000) (b1 : 0 ≤ a1 ∧ a1 ≤ 1000000) (b2 : 0 ≤ a2 ∧ a2 ≤ 1000000) (b3 : 0 ≤ a3 ∧ a3 ≤ 1000000) (b4 : 0 ≤ a4 ∧ a4 ≤ 1000000) (b5 : 0 ≤ a5 ∧ a5 ≤ 1000000) (b6 : 0 ≤ a6 ∧ a6 ≤ 1000000) (b7 : 0 ≤ a7 ∧ a7 ≤ 1000000) : flatV (afV 0 1 2 n (nthI [a0, a1, a2, a3, a4, a5, a6, a7]) (fv 2 4)) = true ∧ ∃ v' H', SpecCall Try.prog 66 (enc [.st [.sl 5 nv fv, .sl 5 ns fs, .sl 2 no fo], .st [.i .i64 a0, .i .i64 a1, .i .i64 a2, .i .i64 a3, .i .i64 a4, .i .i64 a5, .i .i64 a6, .i .i64 a7], .st [.i .i64 0, .i .i64 1, .i .i64 2, .i .i64 lo, .i .i64 hi], .one (.i .i64 n)] 0) (heap0 4) v' H' ∧ valP v' (afV 0 1 2 n (nthI [a0, a1, a2, a3, a4, a5, a6, a7]) (fv 2 4)) := by
  have fin : ∀ {u : V} {h : HT}, VC (runD0 Try.prog noExt 400 66 (enc [.st [.sl 5 nv fv, .sl 5 ns fs, .sl 2 no fo], .st [.i .i64 a0, .i .i64 a1, .i .i64 a2, .i .i64 a3, .i .i64 a4, .i .i64 a5, .i .i64 a6, .i .i64 a7], .st [.i .i64 0, .i .i64 1, .i .i64 2, .i .i64 lo, .i .i64 hi], .one (.i .i64 n)] 0) 3 (fun v => valP v u)) h → flatV u = true → (afV 0 1 2 n (nthI [a0, a1, a2, a3, a4, a5, a6, a7]) (fv 2 4)) = u → flatV (afV 0 1 2 n (nthI [a0, a1, a2, a3, a4, a5, a6, a7]) (fv 2 4)) = true ∧ ∃ v' H', SpecCall Try.prog 66 (enc [.st [.sl 5 nv fv, .sl 5 ns fs, .sl 2 no fo], .st [.i .i64 a0, .i .i64 a1, .i .i64 a2, .i .i64 a3, .i .i64 a4, .i .i64 a5, .i .i64 a6, .i .i64 a7], .st [.i .i64 0, .i .i64 1, .i .i64 2, .i .i64 lo, .i .i64 hi], .one (.i .i64 n)] 0) (heap0 4) v' H' ∧ valP v' (afV 0 1 2 n (nthI [a0, a1, a2, a3, a4, a5, a6, a7]) (fv 2 4)) := fun hvc hfl e => by
    rw [e]; exact con_runV drawnC noExt_ok (das := [.st [.sl 5 nv fv, .sl 5 ns fs, .sl 2 no fo], .st [.i .i64 a0, .i .i64 a1, .i .i64 a2, .i .i64 a3, .i .i64 a4, .i .i64 a5, .i .i64 a6, .i .i64 a7], .st [.i .i64 0, .i .i64 1, .i .i64 2, .i .i64 lo, .i .i64 hi], .one (.i .i64 n)]) hfl hvc
  by_cases hc : n ≤ a2
  · have e : lkB 0 1 n (nthI [a0, a1, a2, a3, a4, a5, a6, a7]) = false := by show not (iLe n a2) = false; rw [(iLe_t _ _).mpr hc]; rfl
    by_cases ho : a4 + n ≤ fv 2 4 ∧ ¬ (a4 + n = 0 ∧ 0 < a5 + (porX 1 n (nthI [a0, a1, a2, a3, a4, a5, a6, a7])))
    · exact fin (ay012 nv fv ns fs no fo a0 a1 a2 a3 a4 a5 a6 a7 lo hi n (porX 1 n (nthI [a0, a1, a2, a3, a4, a5, a6, a7])) ht hf n0 b0 b1 b2 b3 b4 b5 b6 b7 hc (pr_bd n0 b3) (por_bd (f := 1) (h := nthI [a0, a1, a2, a3, a4, a5, a6, a7]) n0 b3 b2.1) (fun e => por_0 e) (fun e => por_n (f := 1) (h := nthI [a0, a1, a2, a3, a4, a5, a6, a7]) e) ho) rfl (afV_nl e (okX_t.mpr ho))
    · exact fin (an012 nv fv ns fs no fo a0 a1 a2 a3 a4 a5 a6 a7 lo hi n (porX 1 n (nthI [a0, a1, a2, a3, a4, a5, a6, a7])) ht hf n0 b0 b1 b2 b3 b4 b5 b6 b7 hc (pr_bd n0 b3) (por_bd (f := 1) (h := nthI [a0, a1, a2, a3, a4, a5, a6, a7]) n0 b3 b2.1) (fun e => por_0 e) (fun e => por_n (f := 1) (h := nthI [a0, a1, a2, a3, a4, a5, a6, a7]) e) ho) rfl (afV_nl e (okX_f ho))
  · exact fin (al012 nv fv ns fs no fo a0 a1 a2 a3 a4 a5 a6 a7 lo hi n ht hf n0 b0 b1 b2 b3 b4 b5 b6 b7 hc) rfl (afV_lk (by show not (iLe n a2) = true; rw [(iLe_f _ _).mpr (by omega)]; rfl))
theorem cf013 (nv : Nat) (fv : Nat → Nat → Int) (ns : Nat) (fs : Nat → Nat → Int) (no : Nat) (fo : Nat → Nat → Int) (a0 a1 a2 a3 a4 a5 a6 a7 : Int) (lo hi n : Int) (ht : 3 < nv) (hf : nv ≤ 1000) (n0 : 0 ≤ n ∧ n ≤ 1000) (b0 : 0 ≤ a0 ∧ a0 ≤ 1000000) (b1 : 0 ≤ a1 ∧ a1 ≤ 1000000) (b2 : 0 ≤ a2 ∧ a2 ≤ 1000000) (b3 : 0 ≤ a3 ∧ a3 ≤ 1000000) (b4 : 0 ≤ a4 ∧ a4 ≤ 1000000) (b5 : 0 ≤ a5 ∧ a5 ≤ 1000000) (b6 : 0 ≤ a6 ∧ a6 ≤ 1000000) (b7 : 0 ≤ a7 ∧ a7 ≤ 1000000) : flatV (afV 0 1 3 n (nthI [a0, a1, a2, a3, a4, a5, a6, a7]) (fv 3 4)) = true ∧ ∃ v' H', SpecCall Try.prog 66 (enc [.st [.sl 5 nv fv, .sl 5 ns fs, .sl 2 no fo], .st [.i .i64 a0, .i .i64 a1, .i .i64 a2, .i .i64 a3, .i .i64 a4, .i .i64 a5, .i .i64 a6, .i .i64 a7], .st [.i .i64 0, .i .i64 1, .i .i64 3, .i .i64 lo, .i .i64 hi], .one (.i .i64 n)] 0) (heap0 4) v' H' ∧ valP v' (afV 0 1 3 n (nthI [a0, a1, a2, a3, a4, a5, a6, a7]) (fv 3 4)) := by
  have fin : ∀ {u : V} {h : HT}, VC (runD0 Try.prog noExt 400 66 (enc [.st [.sl 5 nv fv, .sl 5 ns fs, .sl 2 no fo], .st [.i .i64 a0, .i .i64 a1, .i .i64 a2, .i .i64 a3, .i .i64 a4, .i .i64 a5, .i .i64 a6, .i .i64 a7], .st [.i .i64 0, .i .i64 1, .i .i64 3, .i .i64 lo, .i .i64 hi], .one (.i .i64 n)] 0) 3 (fun v => valP v u)) h → flatV u = true → (afV 0 1 3 n (nthI [a0, a1, a2, a3, a4, a5, a6, a7]) (fv 3 4)) = u → flatV (afV 0 1 3 n (nthI [a0, a1, a2, a3, a4, a5, a6, a7]) (fv 3 4)) = true ∧ ∃ v' H', SpecCall Try.prog 66 (enc [.st [.sl 5 nv fv, .sl 5 ns fs, .sl 2 no fo], .st [.i .i64 a0, .i .i64 a1, .i .i64 a2, .i .i64 a3, .i .i64 a4, .i .i64 a5, .i .i64 a6, .i .i64 a7], .st [.i .i64 0, .i .i64 1, .i .i64 3, .i .i64 lo, .i .i64 hi], .one (.i .i64 n)] 0) (heap0 4) v' H' ∧ valP v' (afV 0 1 3 n (nthI [a0, a1, a2, a3, a4, a5, a6, a7]) (fv 3 4)) := fun hvc hfl e => by
    rw [e]; exact con_runV drawnC noExt_ok (das := [.st [.sl 5 nv fv, .sl 5 ns fs, .sl 2 no fo], .st [.i .i64 a0, .i .i64 a1, .i .i64 a2, .i .i64 a3, .i .i64 a4, .i .i64 a5, .i .i64 a6, .i .i64 a7], .st [.i .i64 0, .i .i64 1, .i .i64 3, .i .i64 lo, .i .i64 hi], .one (.i .i64 n)]) hfl hvc
  by_cases hc : n ≤ a2
  · have e : lkB 0 1 n (nthI [a0, a1, a2, a3, a4, a5, a6, a7]) = false := by show not (iLe n a2) = false; rw [(iLe_t _ _).mpr hc]; rfl
    by_cases ho : a6 + n ≤ fv 3 4 ∧ ¬ (a6 + n = 0 ∧ 0 < a7 + (porX 1 n (nthI [a0, a1, a2, a3, a4, a5, a6, a7])))
    · exact fin (ay013 nv fv ns fs no fo a0 a1 a2 a3 a4 a5 a6 a7 lo hi n (porX 1 n (nthI [a0, a1, a2, a3, a4, a5, a6, a7])) ht hf n0 b0 b1 b2 b3 b4 b5 b6 b7 hc (pr_bd n0 b3) (por_bd (f := 1) (h := nthI [a0, a1, a2, a3, a4, a5, a6, a7]) n0 b3 b2.1) (fun e => por_0 e) (fun e => por_n (f := 1) (h := nthI [a0, a1, a2, a3, a4, a5, a6, a7]) e) ho) rfl (afV_nl e (okX_t.mpr ho))
    · exact fin (an013 nv fv ns fs no fo a0 a1 a2 a3 a4 a5 a6 a7 lo hi n (porX 1 n (nthI [a0, a1, a2, a3, a4, a5, a6, a7])) ht hf n0 b0 b1 b2 b3 b4 b5 b6 b7 hc (pr_bd n0 b3) (por_bd (f := 1) (h := nthI [a0, a1, a2, a3, a4, a5, a6, a7]) n0 b3 b2.1) (fun e => por_0 e) (fun e => por_n (f := 1) (h := nthI [a0, a1, a2, a3, a4, a5, a6, a7]) e) ho) rfl (afV_nl e (okX_f ho))
  · exact fin (al013 nv fv ns fs no fo a0 a1 a2 a3 a4 a5 a6 a7 lo hi n ht hf n0 b0 b1 b2 b3 b4 b5 b6 b7 hc) rfl (afV_lk (by show not (iLe n a2) = true; rw [(iLe_f _ _).mpr (by omega)]; rfl))
theorem cf020 (nv : Nat) (fv : Nat → Nat → Int) (ns : Nat) (fs : Nat → Nat → Int) (no : Nat) (fo : Nat → Nat → Int) (a0 a1 a2 a3 a4 a5 a6 a7 : Int) (lo hi n : Int) (ht : 0 < nv) (hf : nv ≤ 1000) (n0 : 0 ≤ n ∧ n ≤ 1000) (b0 : 0 ≤ a0 ∧ a0 ≤ 1000000) (b1 : 0 ≤ a1 ∧ a1 ≤ 1000000) (b2 : 0 ≤ a2 ∧ a2 ≤ 1000000) (b3 : 0 ≤ a3 ∧ a3 ≤ 1000000) (b4 : 0 ≤ a4 ∧ a4 ≤ 1000000) (b5 : 0 ≤ a5 ∧ a5 ≤ 1000000) (b6 : 0 ≤ a6 ∧ a6 ≤ 1000000) (b7 : 0 ≤ a7 ∧ a7 ≤ 1000000) : flatV (afV 0 2 0 n (nthI [a0, a1, a2, a3, a4, a5, a6, a7]) (fv 0 4)) = true ∧ ∃ v' H', SpecCall Try.prog 66 (enc [.st [.sl 5 nv fv, .sl 5 ns fs, .sl 2 no fo], .st [.i .i64 a0, .i .i64 a1, .i .i64 a2, .i .i64 a3, .i .i64 a4, .i .i64 a5, .i .i64 a6, .i .i64 a7], .st [.i .i64 0, .i .i64 2, .i .i64 0, .i .i64 lo, .i .i64 hi], .one (.i .i64 n)] 0) (heap0 4) v' H' ∧ valP v' (afV 0 2 0 n (nthI [a0, a1, a2, a3, a4, a5, a6, a7]) (fv 0 4)) := by
  have fin : ∀ {u : V} {h : HT}, VC (runD0 Try.prog noExt 400 66 (enc [.st [.sl 5 nv fv, .sl 5 ns fs, .sl 2 no fo], .st [.i .i64 a0, .i .i64 a1, .i .i64 a2, .i .i64 a3, .i .i64 a4, .i .i64 a5, .i .i64 a6, .i .i64 a7], .st [.i .i64 0, .i .i64 2, .i .i64 0, .i .i64 lo, .i .i64 hi], .one (.i .i64 n)] 0) 3 (fun v => valP v u)) h → flatV u = true → (afV 0 2 0 n (nthI [a0, a1, a2, a3, a4, a5, a6, a7]) (fv 0 4)) = u → flatV (afV 0 2 0 n (nthI [a0, a1, a2, a3, a4, a5, a6, a7]) (fv 0 4)) = true ∧ ∃ v' H', SpecCall Try.prog 66 (enc [.st [.sl 5 nv fv, .sl 5 ns fs, .sl 2 no fo], .st [.i .i64 a0, .i .i64 a1, .i .i64 a2, .i .i64 a3, .i .i64 a4, .i .i64 a5, .i .i64 a6, .i .i64 a7], .st [.i .i64 0, .i .i64 2, .i .i64 0, .i .i64 lo, .i .i64 hi], .one (.i .i64 n)] 0) (heap0 4) v' H' ∧ valP v' (afV 0 2 0 n (nthI [a0, a1, a2, a3, a4, a5, a6, a7]) (fv 0 4)) := fun hvc hfl e => by
    rw [e]; exact con_runV drawnC noExt_ok (das := [.st [.sl 5 nv fv, .sl 5 ns fs, .sl 2 no fo], .st [.i .i64 a0, .i .i64 a1, .i .i64 a2, .i .i64 a3, .i .i64 a4, .i .i64 a5, .i .i64 a6, .i .i64 a7], .st [.i .i64 0, .i .i64 2, .i .i64 0, .i .i64 lo, .i .i64 hi], .one (.i .i64 n)]) hfl hvc
  by_cases hc : n ≤ a4
  · have e : lkB 0 2 n (nthI [a0, a1, a2, a3, a4, a5, a6, a7]) = false := by show not (iLe n a4) = false; rw [(iLe_t _ _).mpr hc]; rfl
    by_cases ho : a0 + n ≤ fv 0 4 ∧ ¬ (a0 + n = 0 ∧ 0 < a1 + (porX 2 n (nthI [a0, a1, a2, a3, a4, a5, a6, a7])))
    · exact fin (ay020 nv fv ns fs no fo a0 a1 a2 a3 a4 a5 a6 a7 lo hi n (porX 2 n (nthI [a0, a1, a2, a3, a4, a5, a6, a7])) ht hf n0 b0 b1 b2 b3 b4 b5 b6 b7 hc (pr_bd n0 b5) (por_bd (f := 2) (h := nthI [a0, a1, a2, a3, a4, a5, a6, a7]) n0 b5 b4.1) (fun e => por_0 e) (fun e => por_n (f := 2) (h := nthI [a0, a1, a2, a3, a4, a5, a6, a7]) e) ho) rfl (afV_nl e (okX_t.mpr ho))
    · exact fin (an020 nv fv ns fs no fo a0 a1 a2 a3 a4 a5 a6 a7 lo hi n (porX 2 n (nthI [a0, a1, a2, a3, a4, a5, a6, a7])) ht hf n0 b0 b1 b2 b3 b4 b5 b6 b7 hc (pr_bd n0 b5) (por_bd (f := 2) (h := nthI [a0, a1, a2, a3, a4, a5, a6, a7]) n0 b5 b4.1) (fun e => por_0 e) (fun e => por_n (f := 2) (h := nthI [a0, a1, a2, a3, a4, a5, a6, a7]) e) ho) rfl (afV_nl e (okX_f ho))
  · exact fin (al020 nv fv ns fs no fo a0 a1 a2 a3 a4 a5 a6 a7 lo hi n ht hf n0 b0 b1 b2 b3 b4 b5 b6 b7 hc) rfl (afV_lk (by show not (iLe n a4) = true; rw [(iLe_f _ _).mpr (by omega)]; rfl))
theorem cf021 (nv : Nat) (fv : Nat → Nat → Int) (ns : Nat) (fs : Nat → Nat → Int) (no : Nat) (fo : Nat → Nat → Int) (a0 a1 a2 a3 a4 a5 a6 a7 : Int) (lo hi n : Int) (ht : 1 < nv) (hf : nv ≤ 1000) (n0 : 0 ≤ n ∧ n ≤ 1000) (b0 : 0 ≤ a0 ∧ a0 ≤ 1000000) (b1 : 0 ≤ a1 ∧ a1 ≤ 1000000) (b2 : 0 ≤ a2 ∧ a2 ≤ 1000000) (b3 : 0 ≤ a3 ∧ a3 ≤ 1000000) (b4 : 0 ≤ a4 ∧ a4 ≤ 1000000) (b5 : 0 ≤ a5 ∧ a5 ≤ 1000000) (b6 : 0 ≤ a6 ∧ a6 ≤ 1000000) (b7 : 0 ≤ a7 ∧ a7 ≤ 1000000) : flatV (afV 0 2 1 n (nthI [a0, a1, a2, a3, a4, a5, a6, a7]) (fv 1 4)) = true ∧ ∃ v' H', SpecCall Try.prog 66 (enc [.st [.sl 5 nv fv, .sl 5 ns fs, .sl 2 no fo], .st [.i .i64 a0, .i .i64 a1, .i .i64 a2, .i .i64 a3, .i .i64 a4, .i .i64 a5, .i .i64 a6, .i .i64 a7], .st [.i .i64 0, .i .i64 2, .i .i64 1, .i .i64 lo, .i .i64 hi], .one (.i .i64 n)] 0) (heap0 4) v' H' ∧ valP v' (afV 0 2 1 n (nthI [a0, a1, a2, a3, a4, a5, a6, a7]) (fv 1 4)) := by
  have fin : ∀ {u : V} {h : HT}, VC (runD0 Try.prog noExt 400 66 (enc [.st [.sl 5 nv fv, .sl 5 ns fs, .sl 2 no fo], .st [.i .i64 a0, .i .i64 a1, .i .i64 a2, .i .i64 a3, .i .i64 a4, .i .i64 a5, .i .i64 a6, .i .i64 a7], .st [.i .i64 0, .i .i64 2, .i .i64 1, .i .i64 lo, .i .i64 hi], .one (.i .i64 n)] 0) 3 (fun v => valP v u)) h → flatV u = true → (afV 0 2 1 n (nthI [a0, a1, a2, a3, a4, a5, a6, a7]) (fv 1 4)) = u → flatV (afV 0 2 1 n (nthI [a0, a1, a2, a3, a4, a5, a6, a7]) (fv 1 4)) = true ∧ ∃ v' H', SpecCall Try.prog 66 (enc [.st [.sl 5 nv fv, .sl 5 ns fs, .sl 2 no fo], .st [.i .i64 a0, .i .i64 a1, .i .i64 a2, .i .i64 a3, .i .i64 a4, .i .i64 a5, .i .i64 a6, .i .i64 a7], .st [.i .i64 0, .i .i64 2, .i .i64 1, .i .i64 lo, .i .i64 hi], .one (.i .i64 n)] 0) (heap0 4) v' H' ∧ valP v' (afV 0 2 1 n (nthI [a0, a1, a2, a3, a4, a5, a6, a7]) (fv 1 4)) := fun hvc hfl e => by
    rw [e]; exact con_runV drawnC noExt_ok (das := [.st [.sl 5 nv fv, .sl 5 ns fs, .sl 2 no fo], .st [.i .i64 a0, .i .i64 a1, .i .i64 a2, .i .i64 a3, .i .i64 a4, .i .i64 a5, .i .i64 a6, .i .i64 a7], .st [.i .i64 0, .i .i64 2, .i .i64 1, .i .i64 lo, .i .i64 hi], .one (.i .i64 n)]) hfl hvc
  by_cases hc : n ≤ a4
  · have e : lkB 0 2 n (nthI [a0, a1, a2, a3, a4, a5, a6, a7]) = false := by show not (iLe n a4) = false; rw [(iLe_t _ _).mpr hc]; rfl
    by_cases ho : a2 + n ≤ fv 1 4 ∧ ¬ (a2 + n = 0 ∧ 0 < a3 + (porX 2 n (nthI [a0, a1, a2, a3, a4, a5, a6, a7])))
    · exact fin (ay021 nv fv ns fs no fo a0 a1 a2 a3 a4 a5 a6 a7 lo hi n (porX 2 n (nthI [a0, a1, a2, a3, a4, a5, a6, a7])) ht hf n0 b0 b1 b2 b3 b4 b5 b6 b7 hc (pr_bd n0 b5) (por_bd (f := 2) (h := nthI [a0, a1, a2, a3, a4, a5, a6, a7]) n0 b5 b4.1) (fun e => por_0 e) (fun e => por_n (f := 2) (h := nthI [a0, a1, a2, a3, a4, a5, a6, a7]) e) ho) rfl (afV_nl e (okX_t.mpr ho))
    · exact fin (an021 nv fv ns fs no fo a0 a1 a2 a3 a4 a5 a6 a7 lo hi n (porX 2 n (nthI [a0, a1, a2, a3, a4, a5, a6, a7])) ht hf n0 b0 b1 b2 b3 b4 b5 b6 b7 hc (pr_bd n0 b5) (por_bd (f := 2) (h := nthI [a0, a1, a2, a3, a4, a5, a6, a7]) n0 b5 b4.1) (fun e => por_0 e) (fun e => por_n (f := 2) (h := nthI [a0, a1, a2, a3, a4, a5, a6, a7]) e) ho) rfl (afV_nl e (okX_f ho))
  · exact fin (al021 nv fv ns fs no fo a0 a1 a2 a3 a4 a5 a6 a7 lo hi n ht hf n0 b0 b1 b2 b3 b4 b5 b6 b7 hc) rfl (afV_lk (by show not (iLe n a4) = true; rw [(iLe_f _ _).mpr (by omega)]; rfl))
theorem cf023 (nv : Nat) (fv : Nat → Nat → Int) (ns : Nat) (fs : Nat → Nat → Int) (no : Nat) (fo : Nat → Nat → Int) (a0 a1 a2 a3 a4 a5 a6 a7 : Int) (lo hi n : Int) (ht : 3 < nv) (hf : nv ≤ 1000) (n0 : 0 ≤ n ∧ n ≤ 1000) (b0 : 0 ≤ a0 ∧ a0 ≤ 1000000) (b1 : 0 ≤ a1 ∧ a1 ≤ 1000000) (b2 : 0 ≤ a2 ∧ a2 ≤ 1000000) (b3 : 0 ≤ a3 ∧ a3 ≤ 1000000) (b4 : 0 ≤ a4 ∧ a4 ≤ 1000000) (b5 : 0 ≤ a5 ∧ a5 ≤ 1000000) (b6 : 0 ≤ a6 ∧ a6 ≤ 1000000) (b7 : 0 ≤ a7 ∧ a7 ≤ 1000000) : flatV (afV 0 2 3 n (nthI [a0, a1, a2, a3, a4, a5, a6, a7]) (fv 3 4)) = true ∧ ∃ v' H', SpecCall Try.prog 66 (enc [.st [.sl 5 nv fv, .sl 5 ns fs, .sl 2 no fo], .st [.i .i64 a0, .i .i64 a1, .i .i64 a2, .i .i64 a3, .i .i64 a4, .i .i64 a5, .i .i64 a6, .i .i64 a7], .st [.i .i64 0, .i .i64 2, .i .i64 3, .i .i64 lo, .i .i64 hi], .one (.i .i64 n)] 0) (heap0 4) v' H' ∧ valP v' (afV 0 2 3 n (nthI [a0, a1, a2, a3, a4, a5, a6, a7]) (fv 3 4)) := by
  have fin : ∀ {u : V} {h : HT}, VC (runD0 Try.prog noExt 400 66 (enc [.st [.sl 5 nv fv, .sl 5 ns fs, .sl 2 no fo], .st [.i .i64 a0, .i .i64 a1, .i .i64 a2, .i .i64 a3, .i .i64 a4, .i .i64 a5, .i .i64 a6, .i .i64 a7], .st [.i .i64 0, .i .i64 2, .i .i64 3, .i .i64 lo, .i .i64 hi], .one (.i .i64 n)] 0) 3 (fun v => valP v u)) h → flatV u = true → (afV 0 2 3 n (nthI [a0, a1, a2, a3, a4, a5, a6, a7]) (fv 3 4)) = u → flatV (afV 0 2 3 n (nthI [a0, a1, a2, a3, a4, a5, a6, a7]) (fv 3 4)) = true ∧ ∃ v' H', SpecCall Try.prog 66 (enc [.st [.sl 5 nv fv, .sl 5 ns fs, .sl 2 no fo], .st [.i .i64 a0, .i .i64 a1, .i .i64 a2, .i .i64 a3, .i .i64 a4, .i .i64 a5, .i .i64 a6, .i .i64 a7], .st [.i .i64 0, .i .i64 2, .i .i64 3, .i .i64 lo, .i .i64 hi], .one (.i .i64 n)] 0) (heap0 4) v' H' ∧ valP v' (afV 0 2 3 n (nthI [a0, a1, a2, a3, a4, a5, a6, a7]) (fv 3 4)) := fun hvc hfl e => by
    rw [e]; exact con_runV drawnC noExt_ok (das := [.st [.sl 5 nv fv, .sl 5 ns fs, .sl 2 no fo], .st [.i .i64 a0, .i .i64 a1, .i .i64 a2, .i .i64 a3, .i .i64 a4, .i .i64 a5, .i .i64 a6, .i .i64 a7], .st [.i .i64 0, .i .i64 2, .i .i64 3, .i .i64 lo, .i .i64 hi], .one (.i .i64 n)]) hfl hvc
  by_cases hc : n ≤ a4
  · have e : lkB 0 2 n (nthI [a0, a1, a2, a3, a4, a5, a6, a7]) = false := by show not (iLe n a4) = false; rw [(iLe_t _ _).mpr hc]; rfl
    by_cases ho : a6 + n ≤ fv 3 4 ∧ ¬ (a6 + n = 0 ∧ 0 < a7 + (porX 2 n (nthI [a0, a1, a2, a3, a4, a5, a6, a7])))
    · exact fin (ay023 nv fv ns fs no fo a0 a1 a2 a3 a4 a5 a6 a7 lo hi n (porX 2 n (nthI [a0, a1, a2, a3, a4, a5, a6, a7])) ht hf n0 b0 b1 b2 b3 b4 b5 b6 b7 hc (pr_bd n0 b5) (por_bd (f := 2) (h := nthI [a0, a1, a2, a3, a4, a5, a6, a7]) n0 b5 b4.1) (fun e => por_0 e) (fun e => por_n (f := 2) (h := nthI [a0, a1, a2, a3, a4, a5, a6, a7]) e) ho) rfl (afV_nl e (okX_t.mpr ho))
    · exact fin (an023 nv fv ns fs no fo a0 a1 a2 a3 a4 a5 a6 a7 lo hi n (porX 2 n (nthI [a0, a1, a2, a3, a4, a5, a6, a7])) ht hf n0 b0 b1 b2 b3 b4 b5 b6 b7 hc (pr_bd n0 b5) (por_bd (f := 2) (h := nthI [a0, a1, a2, a3, a4, a5, a6, a7]) n0 b5 b4.1) (fun e => por_0 e) (fun e => por_n (f := 2) (h := nthI [a0, a1, a2, a3, a4, a5, a6, a7]) e) ho) rfl (afV_nl e (okX_f ho))
  · exact fin (al023 nv fv ns fs no fo a0 a1 a2 a3 a4 a5 a6 a7 lo hi n ht hf n0 b0 b1 b2 b3 b4 b5 b6 b7 hc) rfl (afV_lk (by show not (iLe n a4) = true; rw [(iLe_f _ _).mpr (by omega)]; rfl))
theorem cf030 (nv : Nat) (fv : Nat → Nat → Int) (ns : Nat) (fs : Nat → Nat → Int) (no : Nat) (fo : Nat → Nat → Int) (a0 a1 a2 a3 a4 a5 a6 a7 : Int) (lo hi n : Int) (ht : 0 < nv) (hf : nv ≤ 1000) (n0 : 0 ≤ n ∧ n ≤ 1000) (b0 : 0 ≤ a0 ∧ a0 ≤ 1000000) (b1 : 0 ≤ a1 ∧ a1 ≤ 1000000) (b2 : 0 ≤ a2 ∧ a2 ≤ 1000000) (b3 : 0 ≤ a3 ∧ a3 ≤ 1000000) (b4 : 0 ≤ a4 ∧ a4 ≤ 1000000) (b5 : 0 ≤ a5 ∧ a5 ≤ 1000000) (b6 : 0 ≤ a6 ∧ a6 ≤ 1000000) (b7 : 0 ≤ a7 ∧ a7 ≤ 1000000) : flatV (afV 0 3 0 n (nthI [a0, a1, a2, a3, a4, a5, a6, a7]) (fv 0 4)) = true ∧ ∃ v' H', SpecCall Try.prog 66 (enc [.st [.sl 5 nv fv, .sl 5 ns fs, .sl 2 no fo], .st [.i .i64 a0, .i .i64 a1, .i .i64 a2, .i .i64 a3, .i .i64 a4, .i .i64 a5, .i .i64 a6, .i .i64 a7], .st [.i .i64 0, .i .i64 3, .i .i64 0, .i .i64 lo, .i .i64 hi], .one (.i .i64 n)] 0) (heap0 4) v' H' ∧ valP v' (afV 0 3 0 n (nthI [a0, a1, a2, a3, a4, a5, a6, a7]) (fv 0 4)) := by
  have fin : ∀ {u : V} {h : HT}, VC (runD0 Try.prog noExt 400 66 (enc [.st [.sl 5 nv fv, .sl 5 ns fs, .sl 2 no fo], .st [.i .i64 a0, .i .i64 a1, .i .i64 a2, .i .i64 a3, .i .i64 a4, .i .i64 a5, .i .i64 a6, .i .i64 a7], .st [.i .i64 0, .i .i64 3, .i .i64 0, .i .i64 lo, .i .i64 hi], .one (.i .i64 n)] 0) 3 (fun v => valP v u)) h → flatV u = true → (afV 0 3 0 n (nthI [a0, a1, a2, a3, a4, a5, a6, a7]) (fv 0 4)) = u → flatV (afV 0 3 0 n (nthI [a0, a1, a2, a3, a4, a5, a6, a7]) (fv 0 4)) = true ∧ ∃ v' H', SpecCall Try.prog 66 (enc [.st [.sl 5 nv fv, .sl 5 ns fs, .sl 2 no fo], .st [.i .i64 a0, .i .i64 a1, .i .i64 a2, .i .i64 a3, .i .i64 a4, .i .i64 a5, .i .i64 a6, .i .i64 a7], .st [.i .i64 0, .i .i64 3, .i .i64 0, .i .i64 lo, .i .i64 hi], .one (.i .i64 n)] 0) (heap0 4) v' H' ∧ valP v' (afV 0 3 0 n (nthI [a0, a1, a2, a3, a4, a5, a6, a7]) (fv 0 4)) := fun hvc hfl e => by
    rw [e]; exact con_runV drawnC noExt_ok (das := [.st [.sl 5 nv fv, .sl 5 ns fs, .sl 2 no fo], .st [.i .i64 a0, .i .i64 a1, .i .i64 a2, .i .i64 a3, .i .i64 a4, .i .i64 a5, .i .i64 a6, .i .i64 a7], .st [.i .i64 0, .i .i64 3, .i .i64 0, .i .i64 lo, .i .i64 hi], .one (.i .i64 n)]) hfl hvc
  by_cases hc : n ≤ a6
  · have e : lkB 0 3 n (nthI [a0, a1, a2, a3, a4, a5, a6, a7]) = false := by show not (iLe n a6) = false; rw [(iLe_t _ _).mpr hc]; rfl
    by_cases ho : a0 + n ≤ fv 0 4 ∧ ¬ (a0 + n = 0 ∧ 0 < a1 + (porX 3 n (nthI [a0, a1, a2, a3, a4, a5, a6, a7])))
    · exact fin (ay030 nv fv ns fs no fo a0 a1 a2 a3 a4 a5 a6 a7 lo hi n (porX 3 n (nthI [a0, a1, a2, a3, a4, a5, a6, a7])) ht hf n0 b0 b1 b2 b3 b4 b5 b6 b7 hc (pr_bd n0 b7) (por_bd (f := 3) (h := nthI [a0, a1, a2, a3, a4, a5, a6, a7]) n0 b7 b6.1) (fun e => por_0 e) (fun e => por_n (f := 3) (h := nthI [a0, a1, a2, a3, a4, a5, a6, a7]) e) ho) rfl (afV_nl e (okX_t.mpr ho))
    · exact fin (an030 nv fv ns fs no fo a0 a1 a2 a3 a4 a5 a6 a7 lo hi n (porX 3 n (nthI [a0, a1, a2, a3, a4, a5, a6, a7])) ht hf n0 b0 b1 b2 b3 b4 b5 b6 b7 hc (pr_bd n0 b7) (por_bd (f := 3) (h := nthI [a0, a1, a2, a3, a4, a5, a6, a7]) n0 b7 b6.1) (fun e => por_0 e) (fun e => por_n (f := 3) (h := nthI [a0, a1, a2, a3, a4, a5, a6, a7]) e) ho) rfl (afV_nl e (okX_f ho))
  · exact fin (al030 nv fv ns fs no fo a0 a1 a2 a3 a4 a5 a6 a7 lo hi n ht hf n0 b0 b1 b2 b3 b4 b5 b6 b7 hc) rfl (afV_lk (by show not (iLe n a6) = true; rw [(iLe_f _ _).mpr (by omega)]; rfl))
theorem cf031 (nv : Nat) (fv : Nat → Nat → Int) (ns : Nat) (fs : Nat → Nat → Int) (no : Nat) (fo : Nat → Nat → Int) (a0 a1 a2 a3 a4 a5 a6 a7 : Int) (lo hi n : Int) (ht : 1 < nv) (hf : nv ≤ 1000) (n0 : 0 ≤ n ∧ n ≤ 1000) (b0 : 0 ≤ a0 ∧ a0 ≤ 1000000) (b1 : 0 ≤ a1 ∧ a1 ≤ 1000000) (b2 : 0 ≤ a2 ∧ a2 ≤ 1000000) (b3 : 0 ≤ a3 ∧ a3 ≤ 1000000) (b4 : 0 ≤ a4 ∧ a4 ≤ 1000000) (b5 : 0 ≤ a5 ∧ a5 ≤ 1000000) (b6 : 0 ≤ a6 ∧ a6 ≤ 1000000) (b7 : 0 ≤ a7 ∧ a7 ≤ 1000000) : flatV (afV 0 3 1 n (nthI [a0, a1, a2, a3, a4, a5, a6, a7]) (fv 1 4)) = true ∧ ∃ v' H', SpecCall Try.prog 66 (enc [.st [.sl 5 nv fv, .sl 5 ns fs, .sl 2 no fo], .st [.i .i64 a0, .i .i64 a1, .i .i64 a2, .i .i64 a3, .i .i64 a4, .i .i64 a5, .i .i64 a6, .i .i64 a7], .st [.i .i64 0, .i .i64 3, .i .i64 1, .i .i64 lo, .i .i64 hi], .one (.i .i64 n)] 0) (heap0 4) v' H' ∧ valP v' (afV 0 3 1 n (nthI [a0, a1, a2, a3, a4, a5, a6, a7]) (fv 1 4)) := by
  have fin : ∀ {u : V} {h : HT}, VC (runD0 Try.prog noExt 400 66 (enc [.st [.sl 5 nv fv, .sl 5 ns fs, .sl 2 no fo], .st [.i .i64 a0, .i .i64 a1, .i .i64 a2, .i .i64 a3, .i .i64 a4, .i .i64 a5, .i .i64 a6, .i .i64 a7], .st [.i .i64 0, .i .i64 3, .i .i64 1, .i .i64 lo, .i .i64 hi], .one (.i .i64 n)] 0) 3 (fun v => valP v u)) h → flatV u = true → (afV 0 3 1 n (nthI [a0, a1, a2, a3, a4, a5, a6, a7]) (fv 1 4)) = u → flatV (afV 0 3 1 n (nthI [a0, a1, a2, a3, a4, a5, a6, a7]) (fv 1 4)) = true ∧ ∃ v' H', SpecCall Try.prog 66 (enc [.st [.sl 5 nv fv, .sl 5 ns fs, .sl 2 no fo], .st [.i .i64 a0, .i .i64 a1, .i .i64 a2, .i .i64 a3, .i .i64 a4, .i .i64 a5, .i .i64 a6, .i .i64 a7], .st [.i .i64 0, .i .i64 3, .i .i64 1, .i .i64 lo, .i .i64 hi], .one (.i .i64 n)] 0) (heap0 4) v' H' ∧ valP v' (afV 0 3 1 n (nthI [a0, a1, a2, a3, a4, a5, a6, a7]) (fv 1 4)) := fun hvc hfl e => by
    rw [e]; exact con_runV drawnC noExt_ok (das := [.st [.sl 5 nv fv, .sl 5 ns fs, .sl 2 no fo], .st [.i .i64 a0, .i .i64 a1, .i .i64 a2, .i .i64 a3, .i .i64 a4, .i .i64 a5, .i .i64 a6, .i .i64 a7], .st [.i .i64 0, .i .i64 3, .i .i64 1, .i .i64 lo, .i .i64 hi], .one (.i .i64 n)]) hfl hvc
  by_cases hc : n ≤ a6
  · have e : lkB 0 3 n (nthI [a0, a1, a2, a3, a4, a5, a6, a7]) = false := by show not (iLe n a6) = false; rw [(iLe_t _ _).mpr hc]; rfl
    by_cases ho : a2 + n ≤ fv 1 4 ∧ ¬ (a2 + n = 0 ∧ 0 < a3 + (porX 3 n (nthI [a0, a1, a2, a3, a4, a5, a6, a7])))
    · exact fin (ay031 nv fv ns fs no fo a0 a1 a2 a3 a4 a5 a6 a7 lo hi n (porX 3 n (nthI [a0, a1, a2, a3, a4, a5, a6, a7])) ht hf n0 b0 b1 b2 b3 b4 b5 b6 b7 hc (pr_bd n0 b7) (por_bd (f := 3) (h := nthI [a0, a1, a2, a3, a4, a5, a6, a7]) n0 b7 b6.1) (fun e => por_0 e) (fun e => por_n (f := 3) (h := nthI [a0, a1, a2, a3, a4, a5, a6, a7]) e) ho) rfl (afV_nl e (okX_t.mpr ho))
    · exact fin (an031 nv fv ns fs no fo a0 a1 a2 a3 a4 a5 a6 a7 lo hi n (porX 3 n (nthI [a0, a1, a2, a3, a4, a5, a6, a7])) ht hf n0 b0 b1 b2 b3 b4 b5 b6 b7 hc (pr_bd n0 b7) (por_bd (f := 3) (h := nthI [a0, a1, a2, a3, a4, a5, a6, a7]) n0 b7 b6.1) (fun e => por_0 e) (fun e => por_n (f := 3) (h := nthI [a0, a1, a2, a3, a4, a5, a6, a7]) e) ho) rfl (afV_nl e (okX_f ho))
  · exact fin (al031 nv fv ns fs no fo a0 a1 a2 a3 a4 a5 a6 a7 lo hi n ht hf n0 b0 b1 b2 b3 b4 b5 b6 b7 hc) rfl (afV_lk (by show not (iLe n a6) = true; rw [(iLe_f _ _).mpr (by omega)]; rfl))
theorem cf032 (nv : Nat) (fv : Nat → Nat → Int) (ns : Nat) (fs : Nat → Nat → Int) (no : Nat) (fo : Nat → Nat → Int) (a0 a1 a2 a3 a4 a5 a6 a7 : Int) (lo hi n : Int) (ht : 2 < nv) (hf : nv ≤ 1000) (n0 : 0 ≤ n ∧ n ≤ 1000) (b0 : 0 ≤ a0 ∧ a0 ≤ 1000000) (b1 : 0 ≤ a1 ∧ a1 ≤ 1000000) (b2 : 0 ≤ a2 ∧ a2 ≤ 1000000) (b3 : 0 ≤ a3 ∧ a3 ≤ 1000000) (b4 : 0 ≤ a4 ∧ a4 ≤ 1000000) (b5 : 0 ≤ a5 ∧ a5 ≤ 1000000) (b6 : 0 ≤ a6 ∧ a6 ≤ 1000000) (b7 : 0 ≤ a7 ∧ a7 ≤ 1000000) : flatV (afV 0 3 2 n (nthI [a0, a1, a2, a3, a4, a5, a6, a7]) (fv 2 4)) = true ∧ ∃ v' H', SpecCall Try.prog 66 (enc [.st [.sl 5 nv fv, .sl 5 ns fs, .sl 2 no fo], .st [.i .i64 a0, .i .i64 a1, .i .i64 a2, .i .i64 a3, .i .i64 a4, .i .i64 a5, .i .i64 a6, .i .i64 a7], .st [.i .i64 0, .i .i64 3, .i .i64 2, .i .i64 lo, .i .i64 hi], .one (.i .i64 n)] 0) (heap0 4) v' H' ∧ valP v' (afV 0 3 2 n (nthI [a0, a1, a2, a3, a4, a5, a6, a7]) (fv 2 4)) := by
  have fin : ∀ {u : V} {h : HT}, VC (runD0 Try.prog noExt 400 66 (enc [.st [.sl 5 nv fv, .sl 5 ns fs, .sl 2 no fo], .st [.i .i64 a0, .i .i64 a1, .i .i64 a2, .i .i64 a3, .i .i64 a4, .i .i64 a5, .i .i64 a6, .i .i64 a7], .st [.i .i64 0, .i .i64 3, .i .i64 2, .i .i64 lo, .i .i64 hi], .one (.i .i64 n)] 0) 3 (fun v => valP v u)) h → flatV u = true → (afV 0 3 2 n (nthI [a0, a1, a2, a3, a4, a5, a6, a7]) (fv 2 4)) = u → flatV (afV 0 3 2 n (nthI [a0, a1, a2, a3, a4, a5, a6, a7]) (fv 2 4)) = true ∧ ∃ v' H', SpecCall Try.prog 66 (enc [.st [.sl 5 nv fv, .sl 5 ns fs, .sl 2 no fo], .st [.i .i64 a0, .i .i64 a1, .i .i64 a2, .i .i64 a3, .i .i64 a4, .i .i64 a5, .i .i64 a6, .i .i64 a7], .st [.i .i64 0, .i .i64 3, .i .i64 2, .i .i64 lo, .i .i64 hi], .one (.i .i64 n)] 0) (heap0 4) v' H' ∧ valP v' (afV 0 3 2 n (nthI [a0, a1, a2, a3, a4, a5, a6, a7]) (fv 2 4)) := fun hvc hfl e => by
    rw [e]; exact con_runV drawnC noExt_ok (das := [.st [.sl 5 nv fv, .sl 5 ns fs, .sl 2 no fo], .st [.i .i64 a0, .i .i64 a1, .i .i64 a2, .i .i64 a3, .i .i64 a4, .i .i64 a5, .i .i64 a6, .i .i64 a7], .st [.i .i64 0, .i .i64 3, .i .i64 2, .i .i64 lo, .i .i64 hi], .one (.i .i64 n)]) hfl hvc
  by_cases hc : n ≤ a6
  · have e : lkB 0 3 n (nthI [a0, a1, a2, a3, a4, a5, a6, a7]) = false := by show not (iLe n a6) = false; rw [(iLe_t _ _).mpr hc]; rfl
    by_cases ho : a4 + n ≤ fv 2 4 ∧ ¬ (a4 + n = 0 ∧ 0 < a5 + (porX 3 n (nthI [a0, a1, a2, a3, a4, a5, a6, a7])))
    · exact fin (ay032 nv fv ns fs no fo a0 a1 a2 a3 a4 a5 a6 a7 lo hi n (porX 3 n (nthI [a0, a1, a2, a3, a4, a5, a6, a7])) ht hf n0 b0 b1 b2 b3 b4 b5 b6 b7 hc (pr_bd n0 b7) (por_bd (f := 3) (h := nthI [a0, a1, a2, a3, a4, a5, a6, a7]) n0 b7 b6.1) (fun e => por_0 e) (fun e => por_n (f := 3) (h := nthI [a0, a1, a2, a3, a4, a5, a6, a7]) e) ho) rfl (afV_nl e (okX_t.mpr ho))
    · exact fin (an032 nv fv ns fs no fo a0 a1 a2 a3 a4 a5 a6 a7 lo hi n (porX 3 n (nthI [a0, a1, a2, a3, a4, a5, a6, a7])) ht hf n0 b0 b1 b2 b3 b4 b5 b6 b7 hc (pr_bd n0 b7) (por_bd (f := 3) (h := nthI [a0, a1, a2, a3, a4, a5, a6, a7]) n0 b7 b6.1) (fun e => por_0 e) (fun e => por_n (f := 3) (h := nthI [a0, a1, a2, a3, a4, a5, a6, a7]) e) ho) rfl (afV_nl e (okX_f ho))
  · exact fin (al032 nv fv ns fs no fo a0 a1 a2 a3 a4 a5 a6 a7 lo hi n ht hf n0 b0 b1 b2 b3 b4 b5 b6 b7 hc) rfl (afV_lk (by show not (iLe n a6) = true; rw [(iLe_f _ _).mpr (by omega)]; rfl))
theorem cf100 (nv : Nat) (fv : Nat → Nat → Int) (ns : Nat) (fs : Nat → Nat → Int) (no : Nat) (fo : Nat → Nat → Int) (a0 a1 a2 a3 a4 a5 a6 a7 : Int) (lo hi n : Int) (ht : 0 < nv) (hf : nv ≤ 1000) (n0 : 0 ≤ n ∧ n ≤ 1000) (b0 : 0 ≤ a0 ∧ a0 ≤ 1000000) (b1 : 0 ≤ a1 ∧ a1 ≤ 1000000) (b2 : 0 ≤ a2 ∧ a2 ≤ 1000000) (b3 : 0 ≤ a3 ∧ a3 ≤ 1000000) (b4 : 0 ≤ a4 ∧ a4 ≤ 1000000) (b5 : 0 ≤ a5 ∧ a5 ≤ 1000000) (b6 : 0 ≤ a6 ∧ a6 ≤ 1000000) (b7 : 0 ≤ a7 ∧ a7 ≤ 1000000) : flatV (afV 1 0 0 n (nthI [a0, a1, a2, a3, a4, a5, a6, a7]) (fv 0 4)) = true ∧ ∃ v' H', SpecCall Try.prog 66 (enc [.st [.sl 5 nv fv, .sl 5 ns fs, .sl 2 no fo], .st [.i .i64 a0, .i .i64 a1, .i .i64 a2, .i .i64 a3, .i .i64 a4, .i .i64 a5, .i .i64 a6, .i .i64 a7], .st [.i .i64 1, .i .i64 0, .i .i64 0, .i .i64 lo, .i .i64 hi], .one (.i .i64 n)] 0) (heap0 4) v' H' ∧ valP v' (afV 1 0 0 n (nthI [a0, a1, a2, a3, a4, a5, a6, a7]) (fv 0 4)) := by
  have fin : ∀ {u : V} {h : HT}, VC (runD0 Try.prog noExt 400 66 (enc [.st [.sl 5 nv fv, .sl 5 ns fs, .sl 2 no fo], .st [.i .i64 a0, .i .i64 a1, .i .i64 a2, .i .i64 a3, .i .i64 a4, .i .i64 a5, .i .i64 a6, .i .i64 a7], .st [.i .i64 1, .i .i64 0, .i .i64 0, .i .i64 lo, .i .i64 hi], .one (.i .i64 n)] 0) 3 (fun v => valP v u)) h → flatV u = true → (afV 1 0 0 n (nthI [a0, a1, a2, a3, a4, a5, a6, a7]) (fv 0 4)) = u → flatV (afV 1 0 0 n (nthI [a0, a1, a2, a3, a4, a5, a6, a7]) (fv 0 4)) = true ∧ ∃ v' H', SpecCall Try.prog 66 (enc [.st [.sl 5 nv fv, .sl 5 ns fs, .sl 2 no fo], .st [.i .i64 a0, .i .i64 a1, .i .i64 a2, .i .i64 a3, .i .i64 a4, .i .i64 a5, .i .i64 a6, .i .i64 a7], .st [.i .i64 1, .i .i64 0, .i .i64 0, .i .i64 lo, .i .i64 hi], .one (.i .i64 n)] 0) (heap0 4) v' H' ∧ valP v' (afV 1 0 0 n (nthI [a0, a1, a2, a3, a4, a5, a6, a7]) (fv 0 4)) := fun hvc hfl e => by
    rw [e]; exact con_runV drawnC noExt_ok (das := [.st [.sl 5 nv fv, .sl 5 ns fs, .sl 2 no fo], .st [.i .i64 a0, .i .i64 a1, .i .i64 a2, .i .i64 a3, .i .i64 a4, .i .i64 a5, .i .i64 a6, .i .i64 a7], .st [.i .i64 1, .i .i64 0, .i .i64 0, .i .i64 lo, .i .i64 hi], .one (.i .i64 n)]) hfl hvc
  have e : lkB 1 0 n (nthI [a0, a1, a2, a3, a4, a5, a6, a7]) = false := rfl
  by_cases ho : a0 + n ≤ fv 0 4 ∧ ¬ (a0 + n = 0 ∧ 0 < a1 + 0)
  · exact fin (ay100 nv fv ns fs no fo a0 a1 a2 a3 a4 a5 a6 a7 lo hi n ht hf n0 b0 b1 b2 b3 b4 b5 b6 b7 ho) rfl (afV_nl e (okX_t.mpr ho))
  · exact fin (an100 nv fv ns fs no fo a0 a1 a2 a3 a4 a5 a6 a7 lo hi n ht hf n0 b0 b1 b2 b3 b4 b5 b6 b7 ho) rfl (afV_nl e (okX_f ho))
theorem cf111 (nv : Nat) (fv : Nat → Nat → Int) (ns : Nat) (fs : Nat → Nat → Int) (no : Nat) (fo : Nat → Nat → Int) (a0 a1 a2 a3 a4 a5 a6 a7 : Int) (lo hi n : Int) (ht : 1 < nv) (hf : nv ≤ 1000) (n0 : 0 ≤ n ∧ n ≤ 1000) (b0 : 0 ≤ a0 ∧ a0 ≤ 1000000) (b1 : 0 ≤ a1 ∧ a1 ≤ 1000000) (b2 : 0 ≤ a2 ∧ a2 ≤ 1000000) (b3 : 0 ≤ a3 ∧ a3 ≤ 1000000) (b4 : 0 ≤ a4 ∧ a4 ≤ 1000000) (b5 : 0 ≤ a5 ∧ a5 ≤ 1000000) (b6 : 0 ≤ a6 ∧ a6 ≤ 1000000) (b7 : 0 ≤ a7 ∧ a7 ≤ 1000000) : flatV (afV 1 1 1 n (nthI [a0, a1, a2, a3, a4, a5, a6, a7]) (fv 1 4)) = true ∧ ∃ v' H', SpecCall Try.prog 66 (enc [.st [.sl 5 nv fv, .sl 5 ns fs, .sl 2 no fo], .st [.i .i64 a0, .i .i64 a1, .i .i64 a2, .i .i64 a3, .i .i64 a4, .i .i64 a5, .i .i64 a6, .i .i64 a7], .st [.i .i64 1, .i .i64 1, .i .i64 1, .i .i64 lo, .i .i64 hi], .one (.i .i64 n)] 0) (heap0 4) v' H' ∧ valP v' (afV 1 1 1 n (nthI [a0, a1, a2, a3, a4, a5, a6, a7]) (fv 1 4)) := by
  have fin : ∀ {u : V} {h : HT}, VC (runD0 Try.prog noExt 400 66 (enc [.st [.sl 5 nv fv, .sl 5 ns fs, .sl 2 no fo], .st [.i .i64 a0, .i .i64 a1, .i .i64 a2, .i .i64 a3, .i .i64 a4, .i .i64 a5, .i .i64 a6, .i .i64 a7], .st [.i .i64 1, .i .i64 1, .i .i64 1, .i .i64 lo, .i .i64 hi], .one (.i .i64 n)] 0) 3 (fun v => valP v u)) h → flatV u = true → (afV 1 1 1 n (nthI [a0, a1, a2, a3, a4, a5, a6, a7]) (fv 1 4)) = u → flatV (afV 1 1 1 n (nthI [a0, a1, a2, a3, a4, a5, a6, a7]) (fv 1 4)) = true ∧ ∃ v' H', SpecCall Try.prog 66 (enc [.st [.sl 5 nv fv, .sl 5 ns fs, .sl 2 no fo], .st [.i .i64 a0, .i .i64 a1, .i .i64 a2, .i .i64 a3, .i .i64 a4, .i .i64 a5, .i .i64 a6, .i .i64 a7], .st [.i .i64 1, .i .i64 1, .i .i64 1, .i .i64 lo, .i .i64 hi], .one (.i .i64 n)] 0) (heap0 4) v' H' ∧ valP v' (afV 1 1 1 n (nthI [a0, a1, a2, a3, a4, a5, a6, a7]) (fv 1 4)) := fun hvc hfl e => by
    rw [e]; exact con_runV drawnC noExt_ok (das := [.st [.sl 5 nv fv, .sl 5 ns fs, .sl 2 no fo], .st [.i .i64 a0, .i .i64 a1, .i .i64 a2, .i .i64 a3, .i .i64 a4, .i .i64 a5, .i .i64 a6, .i .i64 a7], .st [.i .i64 1, .i .i64 1, .i .i64 1, .i .i64 lo, .i .i64 hi], .one (.i .i64 n)]) hfl hvc
  have e : lkB 1 1 n (nthI [a0, a1, a2, a3, a4, a5, a6, a7]) = false := rfl
  by_cases ho : a2 + n ≤ fv 1 4 ∧ ¬ (a2 + n = 0 ∧ 0 < a3 + 0)
  · exact fin (ay111 nv fv ns fs no fo a0 a1 a2 a3 a4 a5 a6 a7 lo hi n ht hf n0 b0 b1 b2 b3 b4 b5 b6 b7 ho) rfl (afV_nl e (okX_t.mpr ho))
  · exact fin (an111 nv fv ns fs no fo a0 a1 a2 a3 a4 a5 a6 a7 lo hi n ht hf n0 b0 b1 b2 b3 b4 b5 b6 b7 ho) rfl (afV_nl e (okX_f ho))
theorem cf122 (nv : Nat) (fv : Nat → Nat → Int) (ns : Nat) (fs : Nat → Nat → Int) (no : Nat) (fo : Nat → Nat → Int) (a0 a1 a2 a3 a4 a5 a6 a7 : Int) (lo hi n : Int) (ht : 2 < nv) (hf : nv ≤ 1000) (n0 : 0 ≤ n ∧ n ≤ 1000) (b0 : 0 ≤ a0 ∧ a0 ≤ 1000000) (b1 : 0 ≤ a1 ∧ a1 ≤ 1000000) (b2 : 0 ≤ a2 ∧ a2 ≤ 1000000) (b3 : 0 ≤ a3 ∧ a3 ≤ 1000000) (b4 : 0 ≤ a4 ∧ a4 ≤ 1000000) (b5 : 0 ≤ a5 ∧ a5 ≤ 1000000) (b6 : 0 ≤ a6 ∧ a6 ≤ 1000000) (b7 : 0 ≤ a7 ∧ a7 ≤ 1000000) : flatV (afV 1 2 2 n (nthI [a0, a1, a2, a3, a4, a5, a6, a7]) (fv 2 4)) = true ∧ ∃ v' H', SpecCall Try.prog 66 (enc [.st [.sl 5 nv fv, .sl 5 ns fs, .sl 2 no fo], .st [.i .i64 a0, .i .i64 a1, .i .i64 a2, .i .i64 a3, .i .i64 a4, .i .i64 a5, .i .i64 a6, .i .i64 a7], .st [.i .i64 1, .i .i64 2, .i .i64 2, .i .i64 lo, .i .i64 hi], .one (.i .i64 n)] 0) (heap0 4) v' H' ∧ valP v' (afV 1 2 2 n (nthI [a0, a1, a2, a3, a4, a5, a6, a7]) (fv 2 4)) := by
  have fin : ∀ {u : V} {h : HT}, VC (runD0 Try.prog noExt 400 66 (enc [.st [.sl 5 nv fv, .sl 5 ns fs, .sl 2 no fo], .st [.i .i64 a0, .i .i64 a1, .i .i64 a2, .i .i64 a3, .i .i64 a4, .i .i64 a5, .i .i64 a6, .i .i64 a7], .st [.i .i64 1, .i .i64 2, .i .i64 2, .i .i64 lo, .i .i64 hi], .one (.i .i64 n)] 0) 3 (fun v => valP v u)) h → flatV u = true → (afV 1 2 2 n (nthI [a0, a1, a2, a3, a4, a5, a6, a7]) (fv 2 4)) = u → flatV (afV 1 2 2 n (nthI [a0, a1, a2, a3, a4, a5, a6, a7]) (fv 2 4)) = true ∧ ∃ v' H', SpecCall Try.prog 66 (enc [.st [.sl 5 nv fv, .sl 5 ns fs, .sl 2 no fo], .st [.i .i64 a0, .i .i64 a1, .i .i64 a2, .i .i64 a3, .i .i64 a4, .i .i64 a5, .i .i64 a6, .i .i64 a7], .st [.i .i64 1, .i .i64 2, .i .i64 2, .i .i64 lo, .i .i64 hi], .one (.i .i64 n)] 0) (heap0 4) v' H' ∧ valP v' (afV 1 2 2 n (nthI [a0, a1, a2, a3, a4, a5, a6, a7]) (fv 2 4)) := fun hvc hfl e => by
    rw [e]; exact con_runV drawnC noExt_ok (das := [.st [.sl 5 nv fv, .sl 5 ns fs, .sl 2 no fo], .st [.i .i64 a0, .i .i64 a1, .i .i64 a2, .i .i64 a3, .i .i64 a4, .i .i64 a5, .i .i64 a6, .i .i64 a7], .st [.i .i64 1, .i .i64 2, .i .i64 2, .i .i64 lo, .i .i64 hi], .one (.i .i64 n)]) hfl hvc
  have e : lkB 1 2 n (nthI [a0, a1, a2, a3, a4, a5, a6, a7]) = false := rfl
  by_cases ho : a4 + n ≤ fv 2 4 ∧ ¬ (a4 + n = 0 ∧ 0 < a5 + 0)
  · exact fin (ay122 nv fv ns fs no fo a0 a1 a2 a3 a4 a5 a6 a7 lo hi n ht hf n0 b0 b1 b2 b3 b4 b5 b6 b7 ho) rfl (afV_nl e (okX_t.mpr ho))
  · exact fin (an122 nv fv ns fs no fo a0 a1 a2 a3 a4 a5 a6 a7 lo hi n ht hf n0 b0 b1 b2 b3 b4 b5 b6 b7 ho) rfl (afV_nl e (okX_f ho))
theorem cf133 (nv : Nat) (fv : Nat → Nat → Int) (ns : Nat) (fs : Nat → Nat → Int) (no : Nat) (fo : Nat → Nat → Int) (a0 a1 a2 a3 a4 a5 a6 a7 : Int) (lo hi n : Int) (ht : 3 < nv) (hf : nv ≤ 1000) (n0 : 0 ≤ n ∧ n ≤ 1000) (b0 : 0 ≤ a0 ∧ a0 ≤ 1000000) (b1 : 0 ≤ a1 ∧ a1 ≤ 1000000) (b2 : 0 ≤ a2 ∧ a2 ≤ 1000000) (b3 : 0 ≤ a3 ∧ a3 ≤ 1000000) (b4 : 0 ≤ a4 ∧ a4 ≤ 1000000) (b5 : 0 ≤ a5 ∧ a5 ≤ 1000000) (b6 : 0 ≤ a6 ∧ a6 ≤ 1000000) (b7 : 0 ≤ a7 ∧ a7 ≤ 1000000) : flatV (afV 1 3 3 n (nthI [a0, a1, a2, a3, a4, a5, a6, a7]) (fv 3 4)) = true ∧ ∃ v' H', SpecCall Try.prog 66 (enc [.st [.sl 5 nv fv, .sl 5 ns fs, .sl 2 no fo], .st [.i .i64 a0, .i .i64 a1, .i .i64 a2, .i .i64 a3, .i .i64 a4, .i .i64 a5, .i .i64 a6, .i .i64 a7], .st [.i .i64 1, .i .i64 3, .i .i64 3, .i .i64 lo, .i .i64 hi], .one (.i .i64 n)] 0) (heap0 4) v' H' ∧ valP v' (afV 1 3 3 n (nthI [a0, a1, a2, a3, a4, a5, a6, a7]) (fv 3 4)) := by
  have fin : ∀ {u : V} {h : HT}, VC (runD0 Try.prog noExt 400 66 (enc [.st [.sl 5 nv fv, .sl 5 ns fs, .sl 2 no fo], .st [.i .i64 a0, .i .i64 a1, .i .i64 a2, .i .i64 a3, .i .i64 a4, .i .i64 a5, .i .i64 a6, .i .i64 a7], .st [.i .i64 1, .i .i64 3, .i .i64 3, .i .i64 lo, .i .i64 hi], .one (.i .i64 n)] 0) 3 (fun v => valP v u)) h → flatV u = true → (afV 1 3 3 n (nthI [a0, a1, a2, a3, a4, a5, a6, a7]) (fv 3 4)) = u → flatV (afV 1 3 3 n (nthI [a0, a1, a2, a3, a4, a5, a6, a7]) (fv 3 4)) = true ∧ ∃ v' H', SpecCall Try.prog 66 (enc [.st [.sl 5 nv fv, .sl 5 ns fs, .sl 2 no fo], .st [.i .i64 a0, .i .i64 a1, .i .i64 a2, .i .i64 a3, .i .i64 a4, .i .i64 a5, .i .i64 a6, .i .i64 a7], .st [.i .i64 1, .i .i64 3, .i .i64 3, .i .i64 lo, .i .i64 hi], .one (.i .i64 n)] 0) (heap0 4) v' H' ∧ valP v' (afV 1 3 3 n (nthI [a0, a1, a2, a3, a4, a5, a6, a7]) (fv 3 4)) := fun hvc hfl e => by
    rw [e]; exact con_runV drawnC noExt_ok (das := [.st [.sl 5 nv fv, .sl 5 ns fs, .sl 2 no fo], .st [.i .i64 a0, .i .i64 a1, .i .i64 a2, .i .i64 a3, .i .i64 a4, .i .i64 a5, .i .i64 a6, .i .i64 a7], .st [.i .i64 1, .i .i64 3, .i .i64 3, .i .i64 lo, .i .i64 hi], .one (.i .i64 n)]) hfl hvc
  have e : lkB 1 3 n (nthI [a0, a1, a2, a3, a4, a5, a6, a7]) = false := rfl
  by_cases ho : a6 + n ≤ fv 3 4 ∧ ¬ (a6 + n = 0 ∧ 0 < a7 + 0)
  · exact fin (ay133 nv fv ns fs no fo a0 a1 a2 a3 a4 a5 a6 a7 lo hi n ht hf n0 b0 b1 b2 b3 b4 b5 b6 b7 ho) rfl (afV_nl e (okX_t.mpr ho))
  · exact fin (an133 nv fv ns fs no fo a0 a1 a2 a3 a4 a5 a6 a7 lo hi n ht hf n0 b0 b1 b2 b3 b4 b5 b6 b7 ho) rfl (afV_nl e (okX_f ho))
theorem cf200 (nv : Nat) (fv : Nat → Nat → Int) (ns : Nat) (fs : Nat → Nat → Int) (no : Nat) (fo : Nat → Nat → Int) (a0 a1 a2 a3 a4 a5 a6 a7 : Int) (lo hi n : Int) (ht : 0 < nv) (hf : nv ≤ 1000) (n0 : 0 ≤ n ∧ n ≤ 1000) (b0 : 0 ≤ a0 ∧ a0 ≤ 1000000) (b1 : 0 ≤ a1 ∧ a1 ≤ 1000000) (b2 : 0 ≤ a2 ∧ a2 ≤ 1000000) (b3 : 0 ≤ a3 ∧ a3 ≤ 1000000) (b4 : 0 ≤ a4 ∧ a4 ≤ 1000000) (b5 : 0 ≤ a5 ∧ a5 ≤ 1000000) (b6 : 0 ≤ a6 ∧ a6 ≤ 1000000) (b7 : 0 ≤ a7 ∧ a7 ≤ 1000000) : flatV (afV 2 0 0 n (nthI [a0, a1, a2, a3, a4, a5, a6, a7]) (fv 0 4)) = true ∧ ∃ v' H', SpecCall Try.prog 66 (enc [.st [.sl 5 nv fv, .sl 5 ns fs, .sl 2 no fo], .st [.i .i64 a0, .i .i64 a1, .i .i64 a2, .i .i64 a3, .i .i64 a4, .i .i64 a5, .i .i64 a6, .i .i64 a7], .st [.i .i64 2, .i .i64 0, .i .i64 0, .i .i64 lo, .i .i64 hi], .one (.i .i64 n)] 0) (heap0 4) v' H' ∧ valP v' (afV 2 0 0 n (nthI [a0, a1, a2, a3, a4, a5, a6, a7]) (fv 0 4)) := by
  have fin : ∀ {u : V} {h : HT}, VC (runD0 Try.prog noExt 400 66 (enc [.st [.sl 5 nv fv, .sl 5 ns fs, .sl 2 no fo], .st [.i .i64 a0, .i .i64 a1, .i .i64 a2, .i .i64 a3, .i .i64 a4, .i .i64 a5, .i .i64 a6, .i .i64 a7], .st [.i .i64 2, .i .i64 0, .i .i64 0, .i .i64 lo, .i .i64 hi], .one (.i .i64 n)] 0) 3 (fun v => valP v u)) h → flatV u = true → (afV 2 0 0 n (nthI [a0, a1, a2, a3, a4, a5, a6, a7]) (fv 0 4)) = u → flatV (afV 2 0 0 n (nthI [a0, a1, a2, a3, a4, a5, a6, a7]) (fv 0 4)) = true ∧ ∃ v' H', SpecCall Try.prog 66 (enc [.st [.sl 5 nv fv, .sl 5 ns fs, .sl 2 no fo], .st [.i .i64 a0, .i .i64 a1, .i .i64 a2, .i .i64 a3, .i .i64 a4, .i .i64 a5, .i .i64 a6, .i .i64 a7], .st [.i .i64 2, .i .i64 0, .i .i64 0, .i .i64 lo, .i .i64 hi], .one (.i .i64 n)] 0) (heap0 4) v' H' ∧ valP v' (afV 2 0 0 n (nthI [a0, a1, a2, a3, a4, a5, a6, a7]) (fv 0 4)) := fun hvc hfl e => by
    rw [e]; exact con_runV drawnC noExt_ok (das := [.st [.sl 5 nv fv, .sl 5 ns fs, .sl 2 no fo], .st [.i .i64 a0, .i .i64 a1, .i .i64 a2, .i .i64 a3, .i .i64 a4, .i .i64 a5, .i .i64 a6, .i .i64 a7], .st [.i .i64 2, .i .i64 0, .i .i64 0, .i .i64 lo, .i .i64 hi], .one (.i .i64 n)]) hfl hvc
  by_cases hc : n ≤ a0
  · have e : lkB 2 0 n (nthI [a0, a1, a2, a3, a4, a5, a6, a7]) = false := by show not (iLe n a0) = false; rw [(iLe_t _ _).mpr hc]; rfl
    by_cases ho : a0 - n ≤ fv 0 4 ∧ ¬ (a0 - n = 0 ∧ 0 < a1 - 0)
    · exact fin (ay200 nv fv ns fs no fo a0 a1 a2 a3 a4 a5 a6 a7 lo hi n ht hf n0 b0 b1 b2 b3 b4 b5 b6 b7 hc ho) rfl (by rw [afV_nl e (okX_t.mpr (show a0 - n ≤ fv 0 4 ∧ ¬ (a0 - n = 0 ∧ 0 < a1) by omega)), Int.sub_zero]; rfl)
    · exact fin (an200 nv fv ns fs no fo a0 a1 a2 a3 a4 a5 a6 a7 lo hi n ht hf n0 b0 b1 b2 b3 b4 b5 b6 b7 hc ho) rfl (by rw [afV_nl e (okX_f (show ¬ (a0 - n ≤ fv 0 4 ∧ ¬ (a0 - n = 0 ∧ 0 < a1)) by omega)), Int.sub_zero]; rfl)
  · exact fin (al200 nv fv ns fs no fo a0 a1 a2 a3 a4 a5 a6 a7 lo hi n ht hf n0 b0 b1 b2 b3 b4 b5 b6 b7 hc) rfl (afV_lk (by show not (iLe n a0) = true; rw [(iLe_f _ _).mpr (by omega)]; rfl))
theorem cf211 (nv : Nat) (fv : Nat → Nat → Int) (ns : Nat) (fs : Nat → Nat → Int) (no : Nat) (fo : Nat → Nat → Int) (a0 a1 a2 a3 a4 a5 a6 a7 : Int) (lo hi n : Int) (ht : 1 < nv) (hf : nv ≤ 1000) (n0 : 0 ≤ n ∧ n ≤ 1000) (b0 : 0 ≤ a0 ∧ a0 ≤ 1000000) (b1 : 0 ≤ a1 ∧ a1 ≤ 1000000) (b2 : 0 ≤ a2 ∧ a2 ≤ 1000000) (b3 : 0 ≤ a3 ∧ a3 ≤ 1000000) (b4 : 0 ≤ a4 ∧ a4 ≤ 1000000) (b5 : 0 ≤ a5 ∧ a5 ≤ 1000000) (b6 : 0 ≤ a6 ∧ a6 ≤ 1000000) (b7 : 0 ≤ a7 ∧ a7 ≤ 1000000) : flatV (afV 2 1 1 n (nthI [a0, a1, a2, a3, a4, a5, a6, a7]) (fv 1 4)) = true ∧ ∃ v' H', SpecCall Try.prog 66 (enc [.st [.sl 5 nv fv, .sl 5 ns fs, .sl 2 no fo], .st [.i .i64 a0, .i .i64 a1, .i .i64 a2, .i .i64 a3, .i .i64 a4, .i .i64 a5, .i .i64 a6, .i .i64 a7], .st [.i .i64 2, .i .i64 1, .i .i64 1, .i .i64 lo, .i .i64 hi], .one (.i .i64 n)] 0) (heap0 4) v' H' ∧ valP v' (afV 2 1 1 n (nthI [a0, a1, a2, a3, a4, a5, a6, a7]) (fv 1 4)) := by
  have fin : ∀ {u : V} {h : HT}, VC (runD0 Try.prog noExt 400 66 (enc [.st [.sl 5 nv fv, .sl 5 ns fs, .sl 2 no fo], .st [.i .i64 a0, .i .i64 a1, .i .i64 a2, .i .i64 a3, .i .i64 a4, .i .i64 a5, .i .i64 a6, .i .i64 a7], .st [.i .i64 2, .i .i64 1, .i .i64 1, .i .i64 lo, .i .i64 hi], .one (.i .i64 n)] 0) 3 (fun v => valP v u)) h → flatV u = true → (afV 2 1 1 n (nthI [a0, a1, a2, a3, a4, a5, a6, a7]) (fv 1 4)) = u → flatV (afV 2 1 1 n (nthI [a0, a1, a2, a3, a4, a5, a6, a7]) (fv 1 4)) = true ∧ ∃ v' H', SpecCall Try.prog 66 (enc [.st [.sl 5 nv fv, .sl 5 ns fs, .sl 2 no fo], .st [.i .i64 a0, .i .i64 a1, .i .i64 a2, .i .i64 a3, .i .i64 a4, .i .i64 a5, .i .i64 a6, .i .i64 a7], .st [.i .i64 2, .i .i64 1, .i .i64 1, .i .i64 lo, .i .i64 hi], .one (.i .i64 n)] 0) (heap0 4) v' H' ∧ valP v' (afV 2 1 1 n (nthI [a0, a1, a2, a3, a4, a5, a6, a7]) (fv 1 4)) := fun hvc hfl e => by
    rw [e]; exact con_runV drawnC noExt_ok (das := [.st [.sl 5 nv fv, .sl 5 ns fs, .sl 2 no fo], .st [.i .i64 a0, .i .i64 a1, .i .i64 a2, .i .i64 a3, .i .i64 a4, .i .i64 a5, .i .i64 a6, .i .i64 a7], .st [.i .i64 2, .i .i64 1, .i .i64 1, .i .i64 lo, .i .i64 hi], .one (.i .i64 n)]) hfl hvc
  by_cases hc : n ≤ a2
  · have e : lkB 2 1 n (nthI [a0, a1, a2, a3, a4, a5, a6, a7]) = false := by show not (iLe n a2) = false; rw [(iLe_t _ _).mpr hc]; rfl
    by_cases ho : a2 - n ≤ fv 1 4 ∧ ¬ (a2 - n = 0 ∧ 0 < a3 - 0)
    · exact fin (ay211 nv fv ns fs no fo a0 a1 a2 a3 a4 a5 a6 a7 lo hi n ht hf n0 b0 b1 b2 b3 b4 b5 b6 b7 hc ho) rfl (by rw [afV_nl e (okX_t.mpr (show a2 - n ≤ fv 1 4 ∧ ¬ (a2 - n = 0 ∧ 0 < a3) by omega)), Int.sub_zero]; rfl)
    · exact fin (an211 nv fv ns fs no fo a0 a1 a2 a3 a4 a5 a6 a7 lo hi n ht hf n0 b0 b1 b2 b3 b4 b5 b6 b7 hc ho) rfl (by rw [afV_nl e (okX_f (show ¬ (a2 - n ≤ fv 1 4 ∧ ¬ (a2 - n = 0 ∧ 0 < a3)) by omega)), Int.sub_zero]; rfl)
  · exact fin (al211 nv fv ns fs no fo a0 a1 a2 a3 a4 a5 a6 a7 lo hi n ht hf n0 b0 b1 b2 b3 b4 b5 b6 b7 hc) rfl (afV_lk (by show not (iLe n a2) = true; rw [(iLe_f _ _).mpr (by omega)]; rfl))
theorem cf222 (nv : Nat) (fv : Nat → Nat → Int) (ns : Nat) (fs : Nat → Nat → Int) (no : Nat) (fo : Nat → Nat → Int) (a0 a1 a2 a3 a4 a5 a6 a7 : Int) (lo hi n : Int) (ht : 2 < nv) (hf : nv ≤ 1000) (n0 : 0 ≤ n ∧ n ≤ 1000) (b0 : 0 ≤ a0 ∧ a0 ≤ 1000000) (b1 : 0 ≤ a1 ∧ a1 ≤ 1000000) (b2 : 0 ≤ a2 ∧ a2 ≤ 1000000) (b3 : 0 ≤ a3 ∧ a3 ≤ 1000000) (b4 : 0 ≤ a4 ∧ a4 ≤ 1000000) (b5 : 0 ≤ a5 ∧ a5 ≤ 1000000) (b6 : 0 ≤ a6 ∧ a6 ≤ 1000000) (b7 : 0 ≤ a7 ∧ a7 ≤ 1000000) : flatV (afV 2 2 2 n (nthI [a0, a1, a2, a3, a4, a5, a6, a7]) (fv 2 4)) = true ∧ ∃ v' H', SpecCall Try.prog 66 (enc [.st [.sl 5 nv fv, .sl 5 ns fs, .sl 2 no fo], .st [.i .i64 a0, .i .i64 a1, .i .i64 a2, .i .i64 a3, .i .i64 a4, .i .i64 a5, .i .i64 a6, .i .i64 a7], .st [.i .i64 2, .i .i64 2, .i .i64 2, .i .i64 lo, .i .i64 hi], .one (.i .i64 n)] 0) (heap0 4) v' H' ∧ valP v' (afV 2 2 2 n (nthI [a0, a1, a2, a3, a4, a5, a6, a7]) (fv 2 4)) := by
  have fin : ∀ {u : V} {h : HT}, VC (runD0 Try.prog noExt 400 66 (enc [.st [.sl 5 nv fv, .sl 5 ns fs, .sl 2 no fo], .st [.i .i64 a0, .i .i64 a1, .i .i64 a2, .i .i64 a3, .i .i64 a4, .i .i64 a5, .i .i64 a6, .i .i64 a7], .st [.i .i64 2, .i .i64 2, .i .i64 2, .i .i64 lo, .i .i64 hi], .one (.i .i64 n)] 0) 3 (fun v => valP v u)) h → flatV u = true → (afV 2 2 2 n (nthI [a0, a1, a2, a3, a4, a5, a6, a7]) (fv 2 4)) = u → flatV (afV 2 2 2 n (nthI [a0, a1, a2, a3, a4, a5, a6, a7]) (fv 2 4)) = true ∧ ∃ v' H', SpecCall Try.prog 66 (enc [.st [.sl 5 nv fv, .sl 5 ns fs, .sl 2 no fo], .st [.i .i64 a0, .i .i64 a1, .i .i64 a2, .i .i64 a3, .i .i64 a4, .i .i64 a5, .i .i64 a6, .i .i64 a7], .st [.i .i64 2, .i .i64 2, .i .i64 2, .i .i64 lo, .i .i64 hi], .one (.i .i64 n)] 0) (heap0 4) v' H' ∧ valP v' (afV 2 2 2 n (nthI [a0, a1, a2, a3, a4, a5, a6, a7]) (fv 2 4)) := fun hvc hfl e => by
    rw [e]; exact con_runV drawnC noExt_ok (das := [.st [.sl 5 nv fv, .sl 5 ns fs, .sl 2 no fo], .st [.i .i64 a0, .i .i64 a1, .i .i64 a2, .i .i64 a3, .i .i64 a4, .i .i64 a5, .i .i64 a6, .i .i64 a7], .st [.i .i64 2, .i .i64 2, .i .i64 2, .i .i64 lo, .i .i64 hi], .one (.i .i64 n)]) hfl hvc
  by_cases hc : n ≤ a4
  · have e : lkB 2 2 n (nthI [a0, a1, a2, a3, a4, a5, a6, a7]) = false := by show not (iLe n a4) = false; rw [(iLe_t _ _).mpr hc]; rfl
    by_cases ho : a4 - n ≤ fv 2 4 ∧ ¬ (a4 - n = 0 ∧ 0 < a5 - 0)
    · exact fin (ay222 nv fv ns fs no fo a0 a1 a2 a3 a4 a5 a6 a7 lo hi n ht hf n0 b0 b1 b2 b3 b4 b5 b6 b7 hc ho) rfl (by rw [afV_nl e (okX_t.mpr (show a4 - n ≤ fv 2 4 ∧ ¬ (a4 - n = 0 ∧ 0 < a5) by omega)), Int.sub_zero]; rfl)
    · exact fin (an222 nv fv ns fs no fo a0 a1 a2 a3 a4 a5 a6 a7 lo hi n ht hf n0 b0 b1 b2 b3 b4 b5 b6 b7 hc ho) rfl (by rw [afV_nl e (okX_f (show ¬ (a4 - n ≤ fv 2 4 ∧ ¬ (a4 - n = 0 ∧ 0 < a5)) by omega)), Int.sub_zero]; rfl)
  · exact fin (al222 nv fv ns fs no fo a0 a1 a2 a3 a4 a5 a6 a7 lo hi n ht hf n0 b0 b1 b2 b3 b4 b5 b6 b7 hc) rfl (afV_lk (by show not (iLe n a4) = true; rw [(iLe_f _ _).mpr (by omega)]; rfl))
theorem cf233 (nv : Nat) (fv : Nat → Nat → Int) (ns : Nat) (fs : Nat → Nat → Int) (no : Nat) (fo : Nat → Nat → Int) (a0 a1 a2 a3 a4 a5 a6 a7 : Int) (lo hi n : Int) (ht : 3 < nv) (hf : nv ≤ 1000) (n0 : 0 ≤ n ∧ n ≤ 1000) (b0 : 0 ≤ a0 ∧ a0 ≤ 1000000) (b1 : 0 ≤ a1 ∧ a1 ≤ 1000000) (b2 : 0 ≤ a2 ∧ a2 ≤ 1000000) (b3 : 0 ≤ a3 ∧ a3 ≤ 1000000) (b4 : 0 ≤ a4 ∧ a4 ≤ 1000000) (b5 : 0 ≤ a5 ∧ a5 ≤ 1000000) (b6 : 0 ≤ a6 ∧ a6 ≤ 1000000) (b7 : 0 ≤ a7 ∧ a7 ≤ 1000000) : flatV (afV 2 3 3 n (nthI [a0, a1, a2, a3, a4, a5, a6, a7]) (fv 3 4)) = true ∧ ∃ v' H', SpecCall Try.prog 66 (enc [.st [.sl 5 nv fv, .sl 5 ns fs, .sl 2 no fo], .st [.i .i64 a0, .i .i64 a1, .i .i64 a2, .i .i64 a3, .i .i64 a4, .i .i64 a5, .i .i64 a6, .i .i64 a7], .st [.i .i64 2, .i .i64 3, .i .i64 3, .i .i64 lo, .i .i64 hi], .one (.i .i64 n)] 0) (heap0 4) v' H' ∧ valP v' (afV 2 3 3 n (nthI [a0, a1, a2, a3, a4, a5, a6, a7]) (fv 3 4)) := by
  have fin : ∀ {u : V} {h : HT}, VC (runD0 Try.prog noExt 400 66 (enc [.st [.sl 5 nv fv, .sl 5 ns fs, .sl 2 no fo], .st [.i .i64 a0, .i .i64 a1, .i .i64 a2, .i .i64 a3, .i .i64 a4, .i .i64 a5, .i .i64 a6, .i .i64 a7], .st [.i .i64 2, .i .i64 3, .i .i64 3, .i .i64 lo, .i .i64 hi], .one (.i .i64 n)] 0) 3 (fun v => valP v u)) h → flatV u = true → (afV 2 3 3 n (nthI [a0, a1, a2, a3, a4, a5, a6, a7]) (fv 3 4)) = u → flatV (afV 2 3 3 n (nthI [a0, a1, a2, a3, a4, a5, a6, a7]) (fv 3 4)) = true ∧ ∃ v' H', SpecCall Try.prog 66 (enc [.st [.sl 5 nv fv, .sl 5 ns fs, .sl 2 no fo], .st [.i .i64 a0, .i .i64 a1, .i .i64 a2, .i .i64 a3, .i .i64 a4, .i .i64 a5, .i .i64 a6, .i .i64 a7], .st [.i .i64 2, .i .i64 3, .i .i64 3, .i .i64 lo, .i .i64 hi], .one (.i .i64 n)] 0) (heap0 4) v' H' ∧ valP v' (afV 2 3 3 n (nthI [a0, a1, a2, a3, a4, a5, a6, a7]) (fv 3 4)) := fun hvc hfl e => by
    rw [e]; exact con_runV drawnC noExt_ok (das := [.st [.sl 5 nv fv, .sl 5 ns fs, .sl 2 no fo], .st [.i .i64 a0, .i .i64 a1, .i .i64 a2, .i .i64 a3, .i .i64 a4, .i .i64 a5, .i .i64 a6, .i .i64 a7], .st [.i .i64 2, .i .i64 3, .i .i64 3, .i .i64 lo, .i .i64 hi], .one (.i .i64 n)]) hfl hvc
  by_cases hc : n ≤ a6
  · have e : lkB 2 3 n (nthI [a0, a1, a2, a3, a4, a5, a6, a7]) = false := by show not (iLe n a6) = false; rw [(iLe_t _ _).mpr hc]; rfl
    by_cases ho : a6 - n ≤ fv 3 4 ∧ ¬ (a6 - n = 0 ∧ 0 < a7 - 0)
    · exact fin (ay233 nv fv ns fs no fo a0 a1 a2 a3 a4 a5 a6 a7 lo hi n ht hf n0 b0 b1 b2 b3 b4 b5 b6 b7 hc ho) rfl (by rw [afV_nl e (okX_t.mpr (show a6 - n ≤ fv 3 4 ∧ ¬ (a6 - n = 0 ∧ 0 < a7) by omega)), Int.sub_zero]; rfl)
    · exact fin (an233 nv fv ns fs no fo a0 a1 a2 a3 a4 a5 a6 a7 lo hi n ht hf n0 b0 b1 b2 b3 b4 b5 b6 b7 hc ho) rfl (by rw [afV_nl e (okX_f (show ¬ (a6 - n ≤ fv 3 4 ∧ ¬ (a6 - n = 0 ∧ 0 < a7)) by omega)), Int.sub_zero]; rfl)
  · exact fin (al233 nv fv ns fs no fo a0 a1 a2 a3 a4 a5 a6 a7 lo hi n ht hf n0 b0 b1 b2 b3 b4 b5 b6 b7 hc) rfl (afV_lk (by show not (iLe n a6) = true; rw [(iLe_f _ _).mpr (by omega)]; rfl))
def stpB (k f t : Int) (nv : Nat) : Bool := cond (iIn k 3) (cond (iIn f nv) (cond (iIn t nv) (boolEq (iEq k 0) (not (iEq f t))) false) false) false
theorem stpB_t {k f t : Int} {nv : Nat} : stpB k f t nv = true ↔ (0 ≤ k ∧ k < 3) ∧ (0 ≤ f ∧ f < nv) ∧ (0 ≤ t ∧ t < nv) ∧ (k = 0 ↔ ¬ f = t) := by
  unfold stpB
  constructor
  · intro h
    obtain ⟨h1, h⟩ := cond_tt h
    obtain ⟨h2, h⟩ := cond_tt h
    obtain ⟨h3, h⟩ := cond_tt h
    refine ⟨(iIn_t _ _).mp h1, (iIn_t _ _).mp h2, (iIn_t _ _).mp h3, ?_⟩
    by_cases a : k = 0 <;> by_cases b : f = t
    · rw [(iEq_t _ _).mpr a, (iEq_t _ _).mpr b] at h; cases h
    · exact ⟨fun _ => b, fun _ => a⟩
    · exact ⟨fun q => absurd q a, fun q => absurd b q⟩
    · rw [(iEq_f _ _).mpr a, (iEq_f _ _).mpr b] at h; cases h
  · rintro ⟨h1, h2, h3, h4⟩
    rw [(iIn_t _ _).mpr h1, (iIn_t _ _).mpr h2, (iIn_t _ _).mpr h3]
    by_cases a : k = 0
    · rw [(iEq_t _ _).mpr a, (iEq_f _ _).mpr (h4.mp a)]; rfl
    · have b : f = t := by
        by_cases b : f = t
        · exact b
        · exact absurd (h4.mpr b) a
      rw [(iEq_f _ _).mpr a, (iEq_t _ _).mpr b]; rfl
def inB (a b : Int) (x : Int) : Bool := cond (iLe a x) (iLe x b) false
theorem inB_t {a b x : Int} : inB a b x = true ↔ a ≤ x ∧ x ≤ b := by
  unfold inB
  constructor
  · intro h
    obtain ⟨h1, h2⟩ := cond_tt h
    exact ⟨(iLe_t _ _).mp h1, (iLe_t _ _).mp h2⟩
  · rintro ⟨h1, h2⟩
    rw [(iLe_t _ _).mpr h1, (iLe_t _ _).mpr h2]; rfl
def hB (h : Nat → Int) : Bool := allN (fun j => inB 0 1000000 (h j)) 8
def afP (k f t n : Int) (nv : Nat) (h : Nat → Int) : Bool := cond (stpB k f t nv) (cond (Nat.ble nv 4) (cond (inB 0 1000 n) (hB h) false) false) false
def valAf : Val := fun das => match das with
  | [.st [.sl 5 nv fv, .sl 5 ns fs, .sl 2 no fo], .st [.i .i64 a0, .i .i64 a1, .i .i64 a2, .i .i64 a3, .i .i64 a4, .i .i64 a5, .i .i64 a6, .i .i64 a7], .st [.i .i64 k, .i .i64 f, .i .i64 t, .i .i64 lo, .i .i64 hi], .one (.i .i64 n)] => some (afP k f t n nv (nthI [a0, a1, a2, a3, a4, a5, a6, a7]), afV k (Int.toNat f) (Int.toNat t) n (nthI [a0, a1, a2, a3, a4, a5, a6, a7]) (fv (Int.toNat t) 4))
  | _ => none
theorem conAf : Con Try.prog 66 valAf := by
  intro das v hv
  unfold valAf at hv
  split at hv
  · rename_i nv fv ns fs no fo a0 a1 a2 a3 a4 a5 a6 a7 k f t lo hi n
    have hb := congrArg Prod.fst (Option.some.inj hv)
    have hv := congrArg Prod.snd (Option.some.inj hv)
    subst hv
    obtain ⟨h1, hb⟩ := cond_tt hb
    obtain ⟨h2, hb⟩ := cond_tt hb
    obtain ⟨h3, h4⟩ := cond_tt hb
    have h2 := Nat.le_of_ble_eq_true h2
    have n0 := inB_t.mp h3
    obtain ⟨k1, f1, t1, kt⟩ := stpB_t.mp h1
    have hg : ∀ j, j < 8 → 0 ≤ nthI [a0, a1, a2, a3, a4, a5, a6, a7] j ∧ nthI [a0, a1, a2, a3, a4, a5, a6, a7] j ≤ 1000000 := fun j hj => inB_t.mp (allN_get (show allN (fun j => inB 0 1000000 (nthI [a0, a1, a2, a3, a4, a5, a6, a7] j)) 8 = true from h4) j hj)
    have b0 : 0 ≤ a0 ∧ a0 ≤ 1000000 := hg 0 (by omega)
    have b1 : 0 ≤ a1 ∧ a1 ≤ 1000000 := hg 1 (by omega)
    have b2 : 0 ≤ a2 ∧ a2 ≤ 1000000 := hg 2 (by omega)
    have b3 : 0 ≤ a3 ∧ a3 ≤ 1000000 := hg 3 (by omega)
    have b4 : 0 ≤ a4 ∧ a4 ≤ 1000000 := hg 4 (by omega)
    have b5 : 0 ≤ a5 ∧ a5 ≤ 1000000 := hg 5 (by omega)
    have b6 : 0 ≤ a6 ∧ a6 ≤ 1000000 := hg 6 (by omega)
    have b7 : 0 ≤ a7 ∧ a7 ≤ 1000000 := hg 7 (by omega)
    have hf : nv ≤ 1000 := by omega
    have hk : k = 0 ∨ k = 1 ∨ k = 2 := by omega
    have hff : f = 0 ∨ f = 1 ∨ f = 2 ∨ f = 3 := by omega
    have htt : t = 0 ∨ t = 1 ∨ t = 2 ∨ t = 3 := by omega
    rcases hk with rfl | rfl | rfl <;> rcases hff with rfl | rfl | rfl | rfl <;> rcases htt with rfl | rfl | rfl | rfl
    · omega
    · exact cf001 nv fv ns fs no fo a0 a1 a2 a3 a4 a5 a6 a7 lo hi n (by omega) hf n0 b0 b1 b2 b3 b4 b5 b6 b7
    · exact cf002 nv fv ns fs no fo a0 a1 a2 a3 a4 a5 a6 a7 lo hi n (by omega) hf n0 b0 b1 b2 b3 b4 b5 b6 b7
    · exact cf003 nv fv ns fs no fo a0 a1 a2 a3 a4 a5 a6 a7 lo hi n (by omega) hf n0 b0 b1 b2 b3 b4 b5 b6 b7
    · exact cf010 nv fv ns fs no fo a0 a1 a2 a3 a4 a5 a6 a7 lo hi n (by omega) hf n0 b0 b1 b2 b3 b4 b5 b6 b7
    · omega
    · exact cf012 nv fv ns fs no fo a0 a1 a2 a3 a4 a5 a6 a7 lo hi n (by omega) hf n0 b0 b1 b2 b3 b4 b5 b6 b7
    · exact cf013 nv fv ns fs no fo a0 a1 a2 a3 a4 a5 a6 a7 lo hi n (by omega) hf n0 b0 b1 b2 b3 b4 b5 b6 b7
    · exact cf020 nv fv ns fs no fo a0 a1 a2 a3 a4 a5 a6 a7 lo hi n (by omega) hf n0 b0 b1 b2 b3 b4 b5 b6 b7
    · exact cf021 nv fv ns fs no fo a0 a1 a2 a3 a4 a5 a6 a7 lo hi n (by omega) hf n0 b0 b1 b2 b3 b4 b5 b6 b7
    · omega
    · exact cf023 nv fv ns fs no fo a0 a1 a2 a3 a4 a5 a6 a7 lo hi n (by omega) hf n0 b0 b1 b2 b3 b4 b5 b6 b7
    · exact cf030 nv fv ns fs no fo a0 a1 a2 a3 a4 a5 a6 a7 lo hi n (by omega) hf n0 b0 b1 b2 b3 b4 b5 b6 b7
    · exact cf031 nv fv ns fs no fo a0 a1 a2 a3 a4 a5 a6 a7 lo hi n (by omega) hf n0 b0 b1 b2 b3 b4 b5 b6 b7
    · exact cf032 nv fv ns fs no fo a0 a1 a2 a3 a4 a5 a6 a7 lo hi n (by omega) hf n0 b0 b1 b2 b3 b4 b5 b6 b7
    · omega
    · exact cf100 nv fv ns fs no fo a0 a1 a2 a3 a4 a5 a6 a7 lo hi n (by omega) hf n0 b0 b1 b2 b3 b4 b5 b6 b7
    · omega
    · omega
    · omega
    · omega
    · exact cf111 nv fv ns fs no fo a0 a1 a2 a3 a4 a5 a6 a7 lo hi n (by omega) hf n0 b0 b1 b2 b3 b4 b5 b6 b7
    · omega
    · omega
    · omega
    · omega
    · exact cf122 nv fv ns fs no fo a0 a1 a2 a3 a4 a5 a6 a7 lo hi n (by omega) hf n0 b0 b1 b2 b3 b4 b5 b6 b7
    · omega
    · omega
    · omega
    · omega
    · exact cf133 nv fv ns fs no fo a0 a1 a2 a3 a4 a5 a6 a7 lo hi n (by omega) hf n0 b0 b1 b2 b3 b4 b5 b6 b7
    · exact cf200 nv fv ns fs no fo a0 a1 a2 a3 a4 a5 a6 a7 lo hi n (by omega) hf n0 b0 b1 b2 b3 b4 b5 b6 b7
    · omega
    · omega
    · omega
    · omega
    · exact cf211 nv fv ns fs no fo a0 a1 a2 a3 a4 a5 a6 a7 lo hi n (by omega) hf n0 b0 b1 b2 b3 b4 b5 b6 b7
    · omega
    · omega
    · omega
    · omega
    · exact cf222 nv fv ns fs no fo a0 a1 a2 a3 a4 a5 a6 a7 lo hi n (by omega) hf n0 b0 b1 b2 b3 b4 b5 b6 b7
    · omega
    · omega
    · omega
    · omega
    · exact cf233 nv fv ns fs no fo a0 a1 a2 a3 a4 a5 a6 a7 lo hi n (by omega) hf n0 b0 b1 b2 b3 b4 b5 b6 b7
  · cases hv
theorem gr_bd {g x : Int} (h : ¬ g = 0) (h1 : 0 ≤ g ∧ g ≤ 1000000) (h2 : 0 ≤ x ∧ x ≤ 1000000) : 0 ≤ Int.tdiv (2 * x + g) (2 * g) ∧ Int.tdiv (2 * x + g) (2 * g) ≤ 10000000 := by
  rw [Int.tdiv_eq_ediv_of_nonneg (by omega)]
  refine ⟨Int.ediv_nonneg (by omega) (by omega), ?_⟩
  have := Int.ediv_le_self (2 * g) (show 0 ≤ 2 * x + g by omega)
  omega
def valGr : Val := fun das => match das with | [.st [.i .i64 g, .i .i64 x]] => some (cond (inB 0 1000000 g) (inB 0 1000000 x) false, .int .i64 (grI g x)) | _ => none
theorem conGr : Con Try.prog 70 valGr := by
  intro das v hv
  unfold valGr at hv
  split at hv
  · rename_i g x
    have hb := congrArg Prod.fst (Option.some.inj hv)
    have hv := congrArg Prod.snd (Option.some.inj hv)
    subst hv
    obtain ⟨h1, h2⟩ := cond_tt hb
    have h1 := inB_t.mp h1
    have h2 := inB_t.mp h2
    by_cases e : g = 0
    · subst e
      exact con_runV drawnC noExt_ok rfl (das := [.st [.i .i64 0, .i .i64 x]]) (gr2 x)
    · have q : grI g x = Int.tdiv (2 * x + g) (2 * g) := by unfold grI; rw [(iEq_f _ _).mpr e]; rfl
      rw [q]
      exact con_runV drawnC noExt_ok rfl (das := [.st [.i .i64 g, .i .i64 x]]) (gr1 g x e h1 h2 (gr_bd e h1 h2))
  · cases hv
end
end WO
end Go.Proofs.Ytmcdjginlikbcaa
