/- An operation that enters no function: the machine's is related to the evaluator's. -/
import Derived.Test.YtaaiocbpgpkheaaEvOps9
namespace Go.Ev
open Go

variable {P : Program}

def LightGood (P : Program) (R : Ren) (S : Nat → Prop) (H : EH) (w : World) (s : Sem Next) (v : V) (H' : EH) (ws : List Nat) : Prop :=
  ∃ (W : Nat → Prop) (n : Next) (w' : World) (R' : Ren) (x : Value), (∀ g, W g → g ∈ ws) ∧ s.run P w = .ok n w' ∧ (n = .value x ∨ (n = .skip ∧ x = undef)) ∧ VR R' v x ∧ Sim R R' S H H' W w w'

theorem LightGood.of_good {R : Ren} {S : Nat → Prop} {H H' : EH} {w : World} {s : Sem Value} {v : V} {W : Nat → Prop} (h : Good P R S H w s v H' W) {ws : List Nat} (hW : ∀ g, W g → g ∈ ws) : LightGood P R S H w (do pure (.value (← s))) v H' ws := by
  obtain ⟨x, w', R', h1, h2, h3⟩ := h
  exact ⟨W, .value x, w', R', x, hW, by rw [run_bind_ok h1]; rfl, .inl rfl, h2, h3⟩
theorem LightGood.of_pure {R : Ren} {S : Nat → Prop} {H H' : EH} {w : World} (hw : WF H) (hr : Rel R S H w) {s : Sem Value} {v : V} (h : H' = H ∧ PR P R w s v) (ws : List Nat) : LightGood P R S H w (do pure (.value (← s))) v H' ws := by
  obtain ⟨rfl, x, h1, h2⟩ := h
  exact LightGood.of_good (Good.pure hw hr h1 h2) (fun _ h => h.elim)
theorem LightGood.of_val {R : Ren} {S : Nat → Prop} {H H' : EH} {w : World} (hw : WF H) (hr : Rel R S H w) {s : Sem Next} {v : V} {x : Value} (he : H' = H) (h1 : s.run P w = .ok (.value x) w) (h2 : VR R v x) (ws : List Nat) : LightGood P R S H w s v H' ws := by
  subst he
  exact ⟨_, .value x, w, R, x, fun _ h => h.elim, h1, .inl rfl, h2, .refl hw hr⟩
theorem LightGood.of_unit {R : Ren} {S : Nat → Prop} {H H' : EH} {w w' : World} {s : Sem Unit} {v : V} {W : Nat → Prop} (h1 : s.run P w = .ok () w') (hv : v = .bad) (h : Sim R R S H H' W w w') {ws : List Nat} (hW : ∀ g, W g → g ∈ ws) : LightGood P R S H w (do s; pure .skip) v H' ws := by
  subst hv
  exact ⟨W, .skip, w', R, undef, hW, by rw [run_bind_ok h1]; rfl, .inr ⟨rfl, rfl⟩, .bad _, h⟩

theorem mapO_two {a : EA} {l : List Operand} {s x : V} {r : List V} (h : mapO a l = s :: x :: r) : ∃ o1 o2 l', l = o1 :: o2 :: l' ∧ a.eval o1 = s ∧ a.eval o2 = x ∧ mapO a l' = r := by
  rw [mapO_eq] at h
  match l, h with
  | [], h => cases h
  | [_], h => cases h
  | o1 :: o2 :: l', h => simp only [List.map_cons, List.cons.injEq] at h; exact ⟨o1, o2, l', rfl, h.1, h.2.1, by rw [mapO_eq]; exact h.2.2⟩
theorem mapO_one {a : EA} {l : List Operand} {x : V} {r : List V} (h : mapO a l = x :: r) : ∃ o1 l', l = o1 :: l' ∧ a.eval o1 = x := by
  rw [mapO_eq] at h
  match l, h with
  | [], h => cases h
  | o1 :: l', h => simp only [List.map_cons, List.cons.injEq] at h; exact ⟨o1, l', rfl, h.1⟩
theorem toList0 {α : Type} {ts : Array α} {t : α} {r : List α} (h : ts.toList = t :: r) : ts[0]? = some t := by
  rw [← Array.getElem?_toList, h]; rfl
theorem toList1 {α : Type} {ts : Array α} {t u : α} {r : List α} (h : ts.toList = t :: u :: r) : ts[1]? = some u := by
  rw [← Array.getElem?_toList, h]; rfl

theorem builtin_sound {R : Ren} {S : Nat → Prop} {H H' : EH} {w : World} (hr : Rel R S H w) (hw : WF H) (hf : Free R H H') {b : Builtin} {args : Array Operand} {ts : Array TypeId} {a : EA} {ρ : Operand → Value} (hρ : ∀ x, x ∈ args → VR R (a.eval x) (ρ x)) {v : V} (ty : TypeId) (cs : Array Bool)
    (h : evBuiltin P b ts.toList (mapO a args.toList) H = some (v, H')) (hS : ∀ g, g ∈ (fpL a H H' (touchC b args.toList)).rd ∨ g ∈ (fpL a H H' (touchC b args.toList)).wrs → S g) :
    LightGood P R S H w (builtin b ts ty cs (args.map ρ)) v H' (fpL a H H' (touchC b args.toList)).wrs := by
  unfold evBuiltin at h
  split at h
  · rename_i t tr x xr e1 e2
    obtain ⟨o1, l', q1, q2⟩ := mapO_one e2
    have hm : o1 ∈ args := by rw [← Array.mem_toList_iff, q1]; simp
    have hx := hρ o1 hm
    rw [q2] at hx
    have ha : (args.map ρ)[0]? = some (ρ o1) := by rw [Array.getElem?_map, toList0 q1]; rfl
    rw [q1] at hS ⊢
    exact .of_pure hw hr (pure_len hr hx h (fun g hg => hS g (.inl (by show g ∈ grpV H (a.eval o1); rw [q2]; exact hg))) (toList0 e1) ha) _
  · rename_i st xt tr s x xr e1 e2
    obtain ⟨o1, o2, l', q1, q2, q3, _⟩ := mapO_two e2
    have hx := hρ o1 (by rw [← Array.mem_toList_iff, q1]; simp)
    have hy := hρ o2 (by rw [← Array.mem_toList_iff, q1]; simp)
    rw [q2] at hx
    rw [q3] at hy
    have ha : (args.map ρ)[0]? = some (ρ o1) := by rw [Array.getElem?_map, toList0 q1]; rfl
    have hb : (args.map ρ)[1]? = some (ρ o2) := by rw [Array.getElem?_map, toList1 q1]; rfl
    rw [q1] at hS ⊢
    obtain ⟨W, g1, g2⟩ := good_append (P := P) hr hw hf (ty := ty) (toList0 e1) (toList1 e1) ha hb hx hy h (fun g hg => by
      rcases hg with hg | hg
      · exact hS g (.inr (by show g ∈ grpV H (a.eval o1); rw [q2]; exact hg))
      · exact hS g (.inl (by show g ∈ grpV H (a.eval o2); rw [q3]; exact hg)))
    exact .of_good g2 (fun g hg => by show g ∈ grpV H (a.eval o1); rw [q2]; exact g1 g hg)
  · rename_i x y e2
    obtain ⟨o1, o2, l', q1, q2, q3, q4⟩ := mapO_two e2
    have hx := hρ o1 (by rw [← Array.mem_toList_iff, q1]; simp)
    have hy := hρ o2 (by rw [← Array.mem_toList_iff, q1]; simp)
    rw [q2] at hx
    rw [q3] at hy
    have hn : l' = [] := by rw [mapO_eq] at q4; exact List.map_eq_nil_iff.1 q4
    subst hn
    have ha : args.map ρ = #[ρ o1, ρ o2] := by
      apply Array.toList_inj.1
      rw [Array.toList_map, q1]; rfl
    rw [ha]
    exact .of_pure hw hr (pure_min hx hy h ts ty) _
  · rename_i x y e2
    obtain ⟨o1, o2, l', q1, q2, q3, q4⟩ := mapO_two e2
    have hx := hρ o1 (by rw [← Array.mem_toList_iff, q1]; simp)
    have hy := hρ o2 (by rw [← Array.mem_toList_iff, q1]; simp)
    rw [q2] at hx
    rw [q3] at hy
    have hn : l' = [] := by rw [mapO_eq] at q4; exact List.map_eq_nil_iff.1 q4
    subst hn
    have ha : args.map ρ = #[ρ o1, ρ o2] := by
      apply Array.toList_inj.1
      rw [Array.toList_map, q1]; rfl
    rw [ha]
    exact .of_pure hw hr (pure_max hx hy h ts ty) _
  · cases h

theorem execBuiltin (ρ : Operand → Value) (dst : Option Tmp) (b : Builtin) (args : Array Operand) (ts : Array TypeId) (type : TypeId) (pos : String) (after : Array Edge) (guard : Option (Nat × Bool)) :
    execOp ρ ⟨dst, .call ⟨.builtin b, args, ts⟩, type, pos, after, guard⟩ = builtin b ts type (args.map fun | .const _ => true | _ => false) (args.map ρ) := rfl
set_option maxHeartbeats 1000000 in
theorem light_sound {R : Ren} {S : Nat → Prop} {H H' : EH} {w : World} (hr : Rel R S H w) (hw : WF H) (hf : Free R H H') (o : Oper) (hk : opK o.op = .light) {a : EA} {ρ : Operand → Value} (hρ : ∀ x, x ∈ o.op.operands → VR R (a.eval x) (ρ x)) {v : V}
    (h : evLight o.op P a H = some (v, H')) (hS : ∀ g, g ∈ (fpL a H H' (touch o.op)).rd ∨ g ∈ (fpL a H H' (touch o.op)).wrs → S g) : LightGood P R S H w (execOp ρ o) v H' (fpL a H H' (touch o.op)).wrs := by
  obtain ⟨dst, op, type, pos, after, guard⟩ := o
  cases op
  case move x => have h : some (a.eval x, H) = some (v, H') := h; cases h; exact .of_val hw hr rfl rfl (hρ x (by simp [Op.operands])) _
  case assign x => have h : some (a.eval x, H) = some (v, H') := h; cases h; exact .of_val hw hr rfl rfl (hρ x (by simp [Op.operands])) _
  case pick c x y =>
    have h : evPick (a.eval c) (a.eval x) (a.eval y) H = some (v, H') := h
    obtain ⟨e, z, h1, h2⟩ := pure_pick (P := P) (w := w) (hρ c (by simp [Op.operands])) (hρ x (by simp [Op.operands])) (hρ y (by simp [Op.operands])) h
    exact .of_val hw hr e h1 h2 _
  case alloc t => exact .of_good (good_alloc hr hw hf h) (fun _ h => h.elim)
  case box t x => exact .of_good (good_newVar hr hw hf (hρ x (by simp [Op.operands])) h t) (fun _ h => h.elim)
  case build t parts => exact .of_pure hw hr (pure_build (fun p hp => hρ p.2 (by simp only [Op.operands]; simp; exact ⟨p.1, hp⟩)) h) _
  case buildSlice t len parts => exact .of_good (good_buildSlice hr hw hf (fun p hp => hρ p.2 (by simp only [Op.operands]; simp; exact ⟨p.1, hp⟩)) h) (fun _ h => h.elim)
  case load t x =>
    have h : evLoad P t (a.eval x) H = some (v, H') := h
    have hx := hρ x (by simp [Op.operands])
    have hS' : ∀ g, g ∈ grpV H (a.eval x) → S g := fun g hg => hS g (.inl hg)
    unfold evLoad at h
    split at h
    · rename_i b off e
      rw [e] at hx hS'
      obtain ⟨h1, h2⟩ := withH_some h
      generalize hz : ρ x = z at hx
      cases hx with
      | ptr hm ho =>
        obtain ⟨y, g1, g2⟩ := run_loadVar (P := P) hr h1 hm ho hS'
        refine .of_pure hw hr ⟨h2, y, ?_, g2⟩ _
        rw [hz]
        exact g1
    · cases h
  case store t x y =>
    obtain ⟨w', h1, h2, h3⟩ := good_store (P := P) hr hw (hρ x (by simp [Op.operands])) (hρ y (by simp [Op.operands])) h (fun g hg => hS g (.inr hg))
    exact .of_unit h1 h2 h3 (fun g hg => hg)
  case nilCheck x =>
    have h : evNilCheck (a.eval x) H = some (v, H') := h
    have hx := hρ x (by simp [Op.operands])
    obtain ⟨e1, e2, n1, n2, n3, n4⟩ := pure_nilCheck hx h
    subst e2
    refine .of_val hw hr e1 ?_ hx _
    show (match ρ x with | .pointer none | .nilIface | .nilFunc => runtimePanic .nilDeref | .func (.method name) first captured => _ | x => pure (.value x) : Sem Next).run P w = _
    split
    · rename_i e; exact absurd e n1
    · rename_i e; exact absurd e n2
    · rename_i e; exact absurd e n3
    · rename_i e; exact absurd e (n4 _ _ _)
    · rfl
  case binOp op t x y u =>
    have h : withH H (binV P op t (a.eval x) (a.eval y)) = some (v, H') := h
    obtain ⟨h1, h2⟩ := withH_some h
    obtain ⟨z, g1, g2⟩ := pure_bin (P := P) (w := w) (hρ x (by simp [Op.operands])) (hρ y (by simp [Op.operands])) h1 x y
    exact .of_pure hw hr ⟨h2, z, g1, g2⟩ _
  case unOp op t x => exact .of_pure hw hr (pure_un (hρ x (by simp [Op.operands])) h) _
  case convert s d x => exact .of_pure hw hr (pure_conv (hρ x (by simp [Op.operands])) h) _
  case makeFunc fn first captured =>
    exact .of_pure hw hr (pure_makeFunc (AL.mapO fun x hx => hρ x (by simp only [Op.operands]; simp [hx])) (AL.mapO fun x hx => hρ x (by simp only [Op.operands]; simp [hx])) h) _
  case makeMap t r =>
    cases r with
    | none => exact .of_good (good_makeMap hr hw hf h) (fun _ h => h.elim)
    | some r => cases h
  case makeSlice t l c => exact .of_good (good_makeSlice hr hw hf (hρ l (by simp [Op.operands])) (hρ c (by simp [Op.operands])) h) (fun _ h => h.elim)
  case slice t x lo hi mx =>
    cases mx with
    | none => exact .of_pure hw hr (pure_slice (hρ x (by simp [Op.operands])) (optO_rel fun y hy => hρ y (by subst hy; simp [Op.operands])) (optO_rel fun y hy => hρ y (by subst hy; simp [Op.operands])) h) _
    | some m => cases h
  case fieldAddr s x f => exact .of_pure hw hr (pure_fieldAddr (hρ x (by simp [Op.operands])) h) _
  case field s x f => exact .of_pure hw hr (pure_field (hρ x (by simp [Op.operands])) h) _
  case indexAddr t x i => exact .of_pure hw hr (pure_indexAddr (hρ x (by simp [Op.operands])) (hρ i (by simp [Op.operands])) h) _
  case index t x i => exact .of_pure hw hr (pure_index (hρ x (by simp [Op.operands])) (hρ i (by simp [Op.operands])) h) _
  case lookup t x i ok => exact .of_pure hw hr (pure_lookup hr (hρ x (by simp [Op.operands])) (hρ i (by simp [Op.operands])) h (fun g hg => hS g (.inl hg))) _
  case mapUpdate t m k x =>
    obtain ⟨w', h1, h2, h3⟩ := good_mapUpdate (P := P) hr hw (hρ m (by simp [Op.operands])) (hρ k (by simp [Op.operands])) (hρ x (by simp [Op.operands])) h (fun g hg => hS g (.inr hg))
    exact .of_unit h1 h2 h3 (fun g hg => hg)
  case insert t m k x =>
    obtain ⟨w', h1, h2, h3⟩ := good_mapUpdate (P := P) hr hw (hρ m (by simp [Op.operands])) (hρ k (by simp [Op.operands])) (hρ x (by simp [Op.operands])) h (fun g hg => hS g (.inr hg))
    exact .of_unit h1 h2 h3 (fun g hg => hg)
  case range t x => exact .of_good (good_range hr hw hf (hρ x (by simp [Op.operands])) h (fun g hg => hS g (.inl hg))) (fun _ h => h.elim)
  case extract t i => exact .of_pure hw hr (pure_extract (hρ t (by simp [Op.operands])) h) _
  case call c =>
    obtain ⟨callee, args, ts⟩ := c
    cases callee with
    | value f => cases hk
    | invoke r m => cases h
    | builtin b =>
      rw [execBuiltin]
      exact builtin_sound hr hw hf (fun x hx => hρ x (by simp only [Op.operands, Call.operands]; simpa using hx)) type _ h hS
  all_goals (cases h)
end Go.Ev
