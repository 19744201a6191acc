/- The evaluator's next name only grows: operations that enter no function. -/
import Derived.Test.YtaaiocbpgpkheaaEvLight
namespace Go.Ev
open Go

variable {P : Program}

theorem withH_next {H H' : EH} {o : Option V} {v : V} (h : withH H o = some (v, H')) : H.next ≤ H'.next := by
  rw [(withH_some h).2]; exact Nat.le_refl _
theorem EH.new_next {H : EH} {n : Nat} {c : T V} {v : V} {H' : EH} {g : Nat → V} (h : H.new n c (fun b H => some (g b, H)) = some (v, H')) : H.next ≤ H'.next := by
  rw [new_eq] at h; cases h; exact Nat.le_succ _
theorem newVar_next {H H' : EH} {v v' : V} (h : H.newVar v = some (v', H')) : H.next ≤ H'.next := by
  unfold EH.newVar at h
  split at h
  · exact EH.new_next (g := fun b => .ptr b 0) h
  · cases h
theorem newRow_next {H H' : EH} {n len e : Nat} {c : T V} {v : V} (h : H.newRow n c len e = some (v, H')) : H.next ≤ H'.next := EH.new_next (g := fun b => .slice b 0 len e) h
theorem rowZ_next {H H' : EH} {z : V} {len : Nat} {k : Nat → T V → VO} {v : V} (hk : ∀ n c v H', k n c = some (v, H') → H.next ≤ H'.next) (h : rowZ z len k = some (v, H')) : H.next ≤ H'.next := by
  unfold rowZ at h
  split at h
  · split at h
    · exact hk _ _ _ _ h
    · cases h
  · cases h
theorem storeIn_next {H H' : EH} {b lo sz g : Nat} {c : Option (T V)} (h : H.storeIn b lo sz g c = some H') : H.next = H'.next := by
  unfold EH.storeIn at h
  split at h <;> cases h; rfl
theorem storeN_next {H H' : EH} {b off n : Nat} {c : T V} (h : H.storeN b off n c = some H') : H.next = H'.next := by
  unfold EH.storeN at h
  split at h
  · simp only [cond_eq_ite] at h
    split at h
    · split at h
      · exact storeIn_next h
      · cases h
    · cases h
  · cases h
theorem appV_next {H H' : EH} {e off len m : Nat} {c : T V} {grp n sz' : Nat} {g : Grp} {v : V} (h : appV H e off len m c grp n sz' g = some (v, H')) : H.next ≤ H'.next := by
  unfold appV at h; rw [fN_eq] at h; cases h; exact Nat.le_succ _
theorem appB_next {H H' : EH} {e b off len : Nat} {xs : Cs} {v : V} (h : appB H e b off len xs = some (v, H')) : H.next ≤ H'.next := by
  unfold appB at h
  split at h
  · rw [fN_eq] at h
    simp only [cond_eq_ite] at h
    split at h
    · split at h
      · split at h
        · exact appV_next h
        · cases h
      · cases h
    · cases h
  · cases h
theorem appendV_next {H H' : EH} {e : Nat} {s v : V} {xs : Cs} (h : H.appendV e s xs = some (v, H')) : H.next ≤ H'.next := by
  unfold EH.appendV at h
  simp only [cond_eq_ite] at h
  split at h
  · split at h <;> cases h <;> exact Nat.le_refl _
  · split at h
    · split at h
      · exact newRow_next h
      · cases h
    · split at h
      · exact appB_next h
      · cases h
    · cases h
theorem evAppend_next {H H' : EH} {st xt : TypeId} {s x v : V} (h : evAppend P st xt s x H = some (v, H')) : H.next ≤ H'.next := by
  unfold evAppend at h
  simp only [cond_eq_ite] at h
  split at h
  · split at h
    · split at h
      · split at h
        · exact appendV_next h
        · cases h
      · cases h
    · cases h
  · cases h
theorem evLen_next {H H' : EH} {k : NK} {x v : V} (h : evLen k x H = some (v, H')) : H.next ≤ H'.next := by
  unfold evLen at h
  repeat' (first | (cases h; done) | (cases h; exact Nat.le_refl _) | split at h)
theorem evBuiltin_next {H H' : EH} {b : Builtin} {ts : List TypeId} {args : List V} {v : V} (h : evBuiltin P b ts args H = some (v, H')) : H.next ≤ H'.next := by
  unfold evBuiltin at h
  split at h
  · exact evLen_next h
  · exact evAppend_next h
  · unfold evMin at h; split at h <;> cases h; exact Nat.le_refl _
  · unfold evMax at h; split at h <;> cases h; exact Nat.le_refl _
  · cases h
theorem ptrO_next {b off n : Nat} {H H' : EH} {v : V} (h : ptrO b off n H = some (v, H')) : H.next ≤ H'.next := by
  unfold ptrO at h; rw [fN_eq] at h; cases h; exact Nat.le_refl _
theorem fldO_next {b off : Nat} {fd : Field} {s : Option Nat} {H H' : EH} {v : V} (h : fldO b off fd s H = some (v, H')) : H.next ≤ H'.next := by
  unfold fldO at h
  split at h
  · exact ptrO_next h
  · cases h
theorem ixO_next {b off : Nat} {e i : Option Nat} {H H' : EH} {v : V} (h : ixO b off e i H = some (v, H')) : H.next ≤ H'.next := by
  unfold ixO at h
  split at h
  · exact ptrO_next h
  · cases h
theorem aggOf_next {n : Nat} {c : Option (T V)} {H H' : EH} {v : V} (h : aggOf n c H = some (v, H')) : H.next ≤ H'.next := by
  unfold aggOf at h
  split at h <;> cases h; exact Nat.le_refl _
theorem rowOf_next {n len e : Nat} {c : Option (T V)} {H H' : EH} {v : V} (h : rowOf n len e c H = some (v, H')) : H.next ≤ H'.next := by
  unfold rowOf at h
  split at h
  · exact newRow_next h
  · cases h
theorem stO_next {H H' : EH} {r : Option EH} {v : V} (hr : ∀ H', r = some H' → H.next ≤ H'.next) (h : stO r = some (v, H')) : H.next ≤ H'.next := by
  unfold stO at h
  split at h
  · cases h; exact hr _ rfl
  · cases h
theorem foundV_next {z : V} {ok : Bool} {H H' : EH} {r : Option (Option (Nat × V))} {v : V} (h : foundV z ok H r = some (v, H')) : H.next ≤ H'.next := by
  unfold foundV at h
  split at h <;> cases h <;> exact Nat.le_refl _
theorem updV_next {r : Nat} {k x : V} {es : List (V × V × Nat)} {clock : Nat} {H H' : EH} {p : Option (Option (Nat × V))} {v : V} (h : updV r k x es clock H p = some (v, H')) : H.next ≤ H'.next := by
  unfold updV at h
  split at h <;> cases h <;> exact Nat.le_refl _

theorem light_next {op : Op} {a : EA} {H H' : EH} {v : V} (h : evLight op P a H = some (v, H')) : H.next ≤ H'.next := by
  cases op
  case move x => cases h; exact Nat.le_refl _
  case assign x => cases h; exact Nat.le_refl _
  case pick c x y =>
    have h : evPick (a.eval c) (a.eval x) (a.eval y) H = some (v, H') := h
    unfold evPick at h
    split at h <;> cases h <;> exact Nat.le_refl _
  case alloc t =>
    have h : evAlloc P t H = some (v, H') := h
    unfold evAlloc at h
    split at h
    · exact newVar_next h
    · cases h
  case box t x => exact newVar_next h
  case build t parts =>
    have h : evBuild P t parts a H = some (v, H') := h
    unfold evBuild at h
    simp only [cond_eq_ite] at h
    split at h
    · split at h
      · exact aggOf_next h
      · cases h
    · split at h
      · exact aggOf_next h
      · cases h
    · cases h
  case buildSlice t len parts =>
    have h : evBuildSlice P t len parts a H = some (v, H') := h
    unfold evBuildSlice at h
    split at h
    · split at h
      · refine rowZ_next (fun n c v H' h => ?_) h
        simp only [cond_eq_ite] at h
        split at h
        · split at h
          · exact rowOf_next h
          · cases h
        · cases h
      · cases h
    · cases h
  case load t x =>
    have h : evLoad P t (a.eval x) H = some (v, H') := h
    unfold evLoad at h
    split at h
    · exact withH_next h
    · cases h
  case store t x y =>
    have h : evStore P t (a.eval x) (a.eval y) H = some (v, H') := h
    unfold evStore at h
    simp only [cond_eq_ite] at h
    split at h
    · split at h
      · split at h
        · exact stO_next (fun H' e => Nat.le_of_eq (storeN_next e)) h
        · cases h
      · cases h
    · cases h
  case nilCheck x =>
    have h : evNilCheck (a.eval x) H = some (v, H') := h
    unfold evNilCheck at h
    split at h <;> cases h <;> exact Nat.le_refl _
  case binOp op t x y u => exact withH_next h
  case unOp op t x =>
    have h : evUn op (a.eval x) H = some (v, H') := h
    unfold evUn at h
    split at h
    · cases h; exact Nat.le_refl _
    · exact withH_next h
    · cases h
  case convert s d x =>
    have h : evConv P s d (a.eval x) H = some (v, H') := h
    unfold evConv at h
    split at h
    · exact withH_next h
    · cases h
  case makeFunc fn first captured =>
    have h : evMakeFunc fn (mapO a first.toList) (mapO a captured.toList) H = some (v, H') := h
    unfold evMakeFunc at h
    split at h <;> cases h; exact Nat.le_refl _
  case makeMap t r =>
    cases r with
    | none =>
      have h : evMakeMap H = some (v, H') := h
      unfold evMakeMap at h; rw [fN_eq] at h; cases h; exact Nat.le_succ _
    | some r => cases h
  case makeSlice t l c =>
    have h : evMakeSlice P t (a.eval l) (a.eval c) H = some (v, H') := h
    unfold evMakeSlice at h
    simp only [cond_eq_ite] at h
    split at h
    · split at h
      · split at h
        · split at h
          · split at h
            · refine rowZ_next (fun n c v H' h => ?_) h
              split at h
              · exact newRow_next h
              · cases h
            · cases h
          · cases h
        · cases h
      · cases h
    · cases h
  case slice t x lo hi mx =>
    cases mx with
    | none =>
      have h : evSlice P t (a.eval x) (optO a lo) (optO a hi) H = some (v, H') := h
      unfold evSlice at h
      simp only [cond_eq_ite] at h
      repeat' (first | (cases h; done) | (cases h; exact Nat.le_refl _) | split at h)
    | some m => cases h
  case fieldAddr s x f =>
    have h : evFieldAddr P s (a.eval x) f H = some (v, H') := h
    unfold evFieldAddr at h
    split at h
    · split at h
      · exact fldO_next h
      · cases h
    · cases h
  case field s x f =>
    have h : evField P s (a.eval x) f H = some (v, H') := h
    unfold evField at h
    split at h
    · split at h
      · exact withH_next h
      · cases h
    · cases h
  case indexAddr t x i =>
    have h : evIndexAddr P t (a.eval x) (a.eval i) H = some (v, H') := h
    unfold evIndexAddr at h
    split at h
    · exact ixO_next h
    · exact ixO_next h
    · cases h
  case index t x i =>
    have h : evIndex P t (a.eval x) (a.eval i) H = some (v, H') := h
    unfold evIndex at h
    split at h
    · split at h
      · exact withH_next h
      · cases h
    · cases h
  case lookup t x i ok =>
    have h : evLookup P t (a.eval x) (a.eval i) ok H = some (v, H') := h
    unfold evLookup at h
    simp only [cond_eq_ite] at h
    split at h
    · split at h
      · split at h
        · exact foundV_next h
        · cases h
      · cases h
    · cases h
  case mapUpdate t m k x =>
    have h : evMapUpdate P t (a.eval m) (a.eval k) (a.eval x) H = some (v, H') := h
    unfold evMapUpdate at h
    simp only [cond_eq_ite] at h
    split at h
    · split at h
      · split at h
        · exact updV_next h
        · cases h
      · cases h
    · cases h
  case insert t m k x =>
    have h : evMapUpdate P t (a.eval m) (a.eval k) (a.eval x) H = some (v, H') := h
    unfold evMapUpdate at h
    simp only [cond_eq_ite] at h
    split at h
    · split at h
      · split at h
        · exact updV_next h
        · cases h
      · cases h
    · cases h
  case range t x =>
    have h : evRange P t (a.eval x) H = some (v, H') := h
    unfold evRange at h
    split at h
    · split at h
      · rw [fN_eq] at h; cases h; exact Nat.le_succ _
      · cases h
    · cases h
  case extract t i =>
    have h : evExtract (a.eval t) i H = some (v, H') := h
    unfold evExtract at h
    split at h
    · exact withH_next h
    · cases h
  case call c =>
    obtain ⟨callee, args, ts⟩ := c
    cases callee with
    | value f => cases h
    | invoke r m => cases h
    | builtin b => exact evBuiltin_next h
  all_goals (cases h)
end Go.Ev
