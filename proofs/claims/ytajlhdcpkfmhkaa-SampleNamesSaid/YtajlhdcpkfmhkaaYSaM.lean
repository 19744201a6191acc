/- Stage 8: what First asks on its way, as closed calls. -/
import Derived.Test.YtajlhdcpkfmhkaaYSaE
set_option linter.all false
set_option linter.unusedSimpArgs false
set_option linter.unusedVariables false
namespace Go.Proofs.Ytajlhdcpkfmhkaa
namespace SE
open Go Go.Ev
set_option maxRecDepth 1000000
noncomputable section
def rP (p q : Nat) : List (Nat × T V) := [vrow [vb false, vb false, vb true], vrow (List.take (Nat.mul 5 p) [vi 0, vi 0, vi 1, vi 1, vi 2, vi 0, vi 1, vi 2, vi 3, vi 3, vi 1, vi 0, vi 1, vi 2, vi 2]), vrow (List.take (Nat.mul 3 q) [vi 0, vi 2, vb true, vi 1, vi 4, vb true, vi 0, vi 2, vb false])]
def sP (p q : Nat) : V := va 7 [vi 2, vi 3, vi 4, vi 0, .slice 0 0 3 1, .slice 1 0 p 5, match q with | 0 => .nilSlice | q + 1 => .slice 2 0 (q + 1) 3]
def eMb (q b o : Nat) (w r : Bool) : Ent := ⟨98, [sP 3 q, vi b, va 2 [vi o, vb w]], rP 3 q, vb r⟩
def eCo (p q b : Nat) (h : List Int) (n : Nat) (c : List Int) (r : Bool) : Ent := ⟨60, [sP p q, vi b, .slice 3 0 n 1], List.append (rP p q) [rowI h], .tup [va 10 (c.map vi), vb r]⟩
def emb1000 : Ent := eMb 1 0 0 false true
theorem rmb1000 : entRun Try.prog noExt 3000 emb1000 = true := by kernel_rfl
def emb1001 : Ent := eMb 1 0 0 true true
theorem rmb1001 : entRun Try.prog noExt 3000 emb1001 = true := by kernel_rfl
def emb1010 : Ent := eMb 1 0 1 false true
theorem rmb1010 : entRun Try.prog noExt 3000 emb1010 = true := by kernel_rfl
def emb1011 : Ent := eMb 1 0 1 true true
theorem rmb1011 : entRun Try.prog noExt 3000 emb1011 = true := by kernel_rfl
def emb1020 : Ent := eMb 1 0 2 false true
theorem rmb1020 : entRun Try.prog noExt 3000 emb1020 = true := by kernel_rfl
def emb1021 : Ent := eMb 1 0 2 true true
theorem rmb1021 : entRun Try.prog noExt 3000 emb1021 = true := by kernel_rfl
def emb1030 : Ent := eMb 1 0 3 false false
theorem rmb1030 : entRun Try.prog noExt 3000 emb1030 = true := by kernel_rfl
def emb1031 : Ent := eMb 1 0 3 true true
theorem rmb1031 : entRun Try.prog noExt 3000 emb1031 = true := by kernel_rfl
def emb1040 : Ent := eMb 1 0 4 false true
theorem rmb1040 : entRun Try.prog noExt 3000 emb1040 = true := by kernel_rfl
def emb1041 : Ent := eMb 1 0 4 true true
theorem rmb1041 : entRun Try.prog noExt 3000 emb1041 = true := by kernel_rfl
def emb1050 : Ent := eMb 1 0 5 false true
theorem rmb1050 : entRun Try.prog noExt 3000 emb1050 = true := by kernel_rfl
def emb1051 : Ent := eMb 1 0 5 true true
theorem rmb1051 : entRun Try.prog noExt 3000 emb1051 = true := by kernel_rfl
def emb1100 : Ent := eMb 1 1 0 false true
theorem rmb1100 : entRun Try.prog noExt 3000 emb1100 = true := by kernel_rfl
def emb1101 : Ent := eMb 1 1 0 true true
theorem rmb1101 : entRun Try.prog noExt 3000 emb1101 = true := by kernel_rfl
def emb1110 : Ent := eMb 1 1 1 false true
theorem rmb1110 : entRun Try.prog noExt 3000 emb1110 = true := by kernel_rfl
def emb1111 : Ent := eMb 1 1 1 true true
theorem rmb1111 : entRun Try.prog noExt 3000 emb1111 = true := by kernel_rfl
def emb1120 : Ent := eMb 1 1 2 false true
theorem rmb1120 : entRun Try.prog noExt 3000 emb1120 = true := by kernel_rfl
def emb1121 : Ent := eMb 1 1 2 true true
theorem rmb1121 : entRun Try.prog noExt 3000 emb1121 = true := by kernel_rfl
def emb1130 : Ent := eMb 1 1 3 false true
theorem rmb1130 : entRun Try.prog noExt 3000 emb1130 = true := by kernel_rfl
def emb1131 : Ent := eMb 1 1 3 true true
theorem rmb1131 : entRun Try.prog noExt 3000 emb1131 = true := by kernel_rfl
def emb1140 : Ent := eMb 1 1 4 false true
theorem rmb1140 : entRun Try.prog noExt 3000 emb1140 = true := by kernel_rfl
def emb1141 : Ent := eMb 1 1 4 true true
theorem rmb1141 : entRun Try.prog noExt 3000 emb1141 = true := by kernel_rfl
def emb1150 : Ent := eMb 1 1 5 false true
theorem rmb1150 : entRun Try.prog noExt 3000 emb1150 = true := by kernel_rfl
def emb1151 : Ent := eMb 1 1 5 true true
theorem rmb1151 : entRun Try.prog noExt 3000 emb1151 = true := by kernel_rfl
def emb2000 : Ent := eMb 2 0 0 false true
theorem rmb2000 : entRun Try.prog noExt 3000 emb2000 = true := by kernel_rfl
def emb2001 : Ent := eMb 2 0 0 true true
theorem rmb2001 : entRun Try.prog noExt 3000 emb2001 = true := by kernel_rfl
def emb2010 : Ent := eMb 2 0 1 false true
theorem rmb2010 : entRun Try.prog noExt 3000 emb2010 = true := by kernel_rfl
def emb2011 : Ent := eMb 2 0 1 true true
theorem rmb2011 : entRun Try.prog noExt 3000 emb2011 = true := by kernel_rfl
def emb2020 : Ent := eMb 2 0 2 false true
theorem rmb2020 : entRun Try.prog noExt 3000 emb2020 = true := by kernel_rfl
def emb2021 : Ent := eMb 2 0 2 true true
theorem rmb2021 : entRun Try.prog noExt 3000 emb2021 = true := by kernel_rfl
def emb2030 : Ent := eMb 2 0 3 false false
theorem rmb2030 : entRun Try.prog noExt 3000 emb2030 = true := by kernel_rfl
def emb2031 : Ent := eMb 2 0 3 true true
theorem rmb2031 : entRun Try.prog noExt 3000 emb2031 = true := by kernel_rfl
def emb2040 : Ent := eMb 2 0 4 false true
theorem rmb2040 : entRun Try.prog noExt 3000 emb2040 = true := by kernel_rfl
def emb2041 : Ent := eMb 2 0 4 true true
theorem rmb2041 : entRun Try.prog noExt 3000 emb2041 = true := by kernel_rfl
def emb2050 : Ent := eMb 2 0 5 false true
theorem rmb2050 : entRun Try.prog noExt 3000 emb2050 = true := by kernel_rfl
def emb2051 : Ent := eMb 2 0 5 true true
theorem rmb2051 : entRun Try.prog noExt 3000 emb2051 = true := by kernel_rfl
def emb2100 : Ent := eMb 2 1 0 false true
theorem rmb2100 : entRun Try.prog noExt 3000 emb2100 = true := by kernel_rfl
def emb2101 : Ent := eMb 2 1 0 true true
theorem rmb2101 : entRun Try.prog noExt 3000 emb2101 = true := by kernel_rfl
def emb2110 : Ent := eMb 2 1 1 false true
theorem rmb2110 : entRun Try.prog noExt 3000 emb2110 = true := by kernel_rfl
def emb2111 : Ent := eMb 2 1 1 true true
theorem rmb2111 : entRun Try.prog noExt 3000 emb2111 = true := by kernel_rfl
def emb2120 : Ent := eMb 2 1 2 false true
theorem rmb2120 : entRun Try.prog noExt 3000 emb2120 = true := by kernel_rfl
def emb2121 : Ent := eMb 2 1 2 true true
theorem rmb2121 : entRun Try.prog noExt 3000 emb2121 = true := by kernel_rfl
def emb2130 : Ent := eMb 2 1 3 false true
theorem rmb2130 : entRun Try.prog noExt 3000 emb2130 = true := by kernel_rfl
def emb2131 : Ent := eMb 2 1 3 true true
theorem rmb2131 : entRun Try.prog noExt 3000 emb2131 = true := by kernel_rfl
def emb2140 : Ent := eMb 2 1 4 false true
theorem rmb2140 : entRun Try.prog noExt 3000 emb2140 = true := by kernel_rfl
def emb2141 : Ent := eMb 2 1 4 true true
theorem rmb2141 : entRun Try.prog noExt 3000 emb2141 = true := by kernel_rfl
def emb2150 : Ent := eMb 2 1 5 false false
theorem rmb2150 : entRun Try.prog noExt 3000 emb2150 = true := by kernel_rfl
def emb2151 : Ent := eMb 2 1 5 true true
theorem rmb2151 : entRun Try.prog noExt 3000 emb2151 = true := by kernel_rfl
def emb3000 : Ent := eMb 3 0 0 false true
theorem rmb3000 : entRun Try.prog noExt 3000 emb3000 = true := by kernel_rfl
def emb3001 : Ent := eMb 3 0 0 true true
theorem rmb3001 : entRun Try.prog noExt 3000 emb3001 = true := by kernel_rfl
def emb3010 : Ent := eMb 3 0 1 false true
theorem rmb3010 : entRun Try.prog noExt 3000 emb3010 = true := by kernel_rfl
def emb3011 : Ent := eMb 3 0 1 true true
theorem rmb3011 : entRun Try.prog noExt 3000 emb3011 = true := by kernel_rfl
def emb3020 : Ent := eMb 3 0 2 false true
theorem rmb3020 : entRun Try.prog noExt 3000 emb3020 = true := by kernel_rfl
def emb3021 : Ent := eMb 3 0 2 true true
theorem rmb3021 : entRun Try.prog noExt 3000 emb3021 = true := by kernel_rfl
def emb3030 : Ent := eMb 3 0 3 false false
theorem rmb3030 : entRun Try.prog noExt 3000 emb3030 = true := by kernel_rfl
def emb3031 : Ent := eMb 3 0 3 true false
theorem rmb3031 : entRun Try.prog noExt 3000 emb3031 = true := by kernel_rfl
def emb3040 : Ent := eMb 3 0 4 false true
theorem rmb3040 : entRun Try.prog noExt 3000 emb3040 = true := by kernel_rfl
def emb3041 : Ent := eMb 3 0 4 true true
theorem rmb3041 : entRun Try.prog noExt 3000 emb3041 = true := by kernel_rfl
def emb3050 : Ent := eMb 3 0 5 false true
theorem rmb3050 : entRun Try.prog noExt 3000 emb3050 = true := by kernel_rfl
def emb3051 : Ent := eMb 3 0 5 true true
theorem rmb3051 : entRun Try.prog noExt 3000 emb3051 = true := by kernel_rfl
def emb3100 : Ent := eMb 3 1 0 false true
theorem rmb3100 : entRun Try.prog noExt 3000 emb3100 = true := by kernel_rfl
def emb3101 : Ent := eMb 3 1 0 true true
theorem rmb3101 : entRun Try.prog noExt 3000 emb3101 = true := by kernel_rfl
def emb3110 : Ent := eMb 3 1 1 false true
theorem rmb3110 : entRun Try.prog noExt 3000 emb3110 = true := by kernel_rfl
def emb3111 : Ent := eMb 3 1 1 true true
theorem rmb3111 : entRun Try.prog noExt 3000 emb3111 = true := by kernel_rfl
def emb3120 : Ent := eMb 3 1 2 false true
theorem rmb3120 : entRun Try.prog noExt 3000 emb3120 = true := by kernel_rfl
def emb3121 : Ent := eMb 3 1 2 true true
theorem rmb3121 : entRun Try.prog noExt 3000 emb3121 = true := by kernel_rfl
def emb3130 : Ent := eMb 3 1 3 false true
theorem rmb3130 : entRun Try.prog noExt 3000 emb3130 = true := by kernel_rfl
def emb3131 : Ent := eMb 3 1 3 true true
theorem rmb3131 : entRun Try.prog noExt 3000 emb3131 = true := by kernel_rfl
def emb3140 : Ent := eMb 3 1 4 false true
theorem rmb3140 : entRun Try.prog noExt 3000 emb3140 = true := by kernel_rfl
def emb3141 : Ent := eMb 3 1 4 true true
theorem rmb3141 : entRun Try.prog noExt 3000 emb3141 = true := by kernel_rfl
def emb3150 : Ent := eMb 3 1 5 false false
theorem rmb3150 : entRun Try.prog noExt 3000 emb3150 = true := by kernel_rfl
def emb3151 : Ent := eMb 3 1 5 true true
theorem rmb3151 : entRun Try.prog noExt 3000 emb3151 = true := by kernel_rfl
def eco001 : Ent := eCo 1 0 0 [1] 1 [0, 1, 1, 1, 1, 0, 0, 0, 0, 0] true
theorem rco001 : entRun Try.prog noExt 3000 eco001 = true := by kernel_rfl
def eco002 : Ent := eCo 1 0 0 [2] 1 [0, 0, 1, 1, 1, 0, 0, 0, 0, 0] true
theorem rco002 : entRun Try.prog noExt 3000 eco002 = true := by kernel_rfl
def eco011 : Ent := eCo 1 0 1 [1] 1 [0, 0, 0, 0, 0, 0, 0, 0, 0, 0] true
theorem rco011 : entRun Try.prog noExt 3000 eco011 = true := by kernel_rfl
def eco101 : Ent := eCo 2 0 0 [1, 3] 2 [0, 1, 1, 2, 2, 0, 0, 0, 0, 0] true
theorem rco101 : entRun Try.prog noExt 3000 eco101 = true := by kernel_rfl
def eco102 : Ent := eCo 2 0 0 [2, 3] 2 [0, 0, 1, 2, 2, 0, 0, 0, 0, 0] true
theorem rco102 : entRun Try.prog noExt 3000 eco102 = true := by kernel_rfl
def eco111 : Ent := eCo 2 0 1 [1, 3] 2 [0, 0, 0, 0, 0, 0, 0, 0, 0, 0] true
theorem rco111 : entRun Try.prog noExt 3000 eco111 = true := by kernel_rfl
def eco201 : Ent := eCo 3 0 0 [1, 3, 2] 3 [0, 1, 1, 2, 2, 0, 0, 0, 0, 0] true
theorem rco201 : entRun Try.prog noExt 3000 eco201 = true := by kernel_rfl
def eco202 : Ent := eCo 3 0 0 [2, 3, 2] 3 [0, 0, 1, 2, 2, 0, 0, 0, 0, 0] true
theorem rco202 : entRun Try.prog noExt 3000 eco202 = true := by kernel_rfl
def eco211 : Ent := eCo 3 0 1 [1, 3, 2] 3 [0, 0, 1, 1, 1, 0, 0, 0, 0, 0] true
theorem rco211 : entRun Try.prog noExt 3000 eco211 = true := by kernel_rfl
def eco301 : Ent := eCo 3 1 0 [1, 3, 2] 3 [0, 1, 1, 2, 2, 0, 0, 0, 0, 0] true
theorem rco301 : entRun Try.prog noExt 3000 eco301 = true := by kernel_rfl
def eco302 : Ent := eCo 3 1 0 [2, 3, 2] 3 [0, 0, 1, 2, 2, 0, 0, 0, 0, 0] true
theorem rco302 : entRun Try.prog noExt 3000 eco302 = true := by kernel_rfl
def eco311 : Ent := eCo 3 1 1 [1, 3, 2] 3 [0, 0, 1, 1, 1, 0, 0, 0, 0, 0] true
theorem rco311 : entRun Try.prog noExt 3000 eco311 = true := by kernel_rfl
def eco401 : Ent := eCo 3 2 0 [1, 3, 2] 3 [0, 1, 1, 2, 2, 0, 0, 0, 0, 0] true
theorem rco401 : entRun Try.prog noExt 3000 eco401 = true := by kernel_rfl
def eco402 : Ent := eCo 3 2 0 [2, 3, 2] 3 [0, 0, 1, 2, 2, 0, 0, 0, 0, 0] true
theorem rco402 : entRun Try.prog noExt 3000 eco402 = true := by kernel_rfl
def eco411 : Ent := eCo 3 2 1 [1, 3, 2] 3 [0, 0, 1, 1, 1, 0, 0, 0, 0, 0] true
theorem rco411 : entRun Try.prog noExt 3000 eco411 = true := by kernel_rfl
def eco501 : Ent := eCo 3 3 0 [1, 3, 2] 3 [0, 1, 1, 2, 2, 0, 0, 0, 0, 0] true
theorem rco501 : entRun Try.prog noExt 3000 eco501 = true := by kernel_rfl
def eco502 : Ent := eCo 3 3 0 [2, 3, 2] 3 [0, 0, 1, 2, 2, 0, 0, 0, 0, 0] true
theorem rco502 : entRun Try.prog noExt 3000 eco502 = true := by kernel_rfl
def eco511 : Ent := eCo 3 3 1 [1, 3, 2] 3 [0, 0, 1, 1, 1, 0, 0, 0, 0, 0] true
theorem rco511 : entRun Try.prog noExt 3000 eco511 = true := by kernel_rfl
def famX (g : FuncId) (key : List V → Nat) (L : List (List Ent)) : FuncId → Option (List V → EH → Option (Bool × V)) := fun g' => cond (Nat.beq g g') (some fun args H => match nth' L (key args) with | some es => tryE es g args H | none => none) none
def orF (a b : FuncId → Option (List V → EH → Option (Bool × V))) : FuncId → Option (List V → EH → Option (Bool × V)) := fun g => match a g with | some x => some x | none => b g
def FamOK (P : Program) (F : FuncId → Option (List V → EH → Option (Bool × V))) : Prop := ExtOK P ⟨F, false⟩
theorem famX_ok {P : Program} {g : FuncId} {key : List V → Nat} {L : List (List Ent)} (h : ∀ es ∈ L, EntsOK P es) : FamOK P (famX g key L) := fun g' x args H v hx hv => by
  have hx : cond (Nat.beq g g') (some fun args H => match nth' L (key args) with | some es => tryE es g args H | none => none) none = some x := hx
  cases hg : Nat.beq g g' with
  | false => rw [hg] at hx; cases hx
  | true =>
    rw [hg] at hx
    cases hx
    have := nb hg
    subst this
    have hv : (match nth' L (key args) with | some es => tryE es g args H | none => none) = some (true, v) := hv
    rw [nth'_eq] at hv
    cases hk : L[key args]? with
    | none => rw [hk] at hv; cases hv
    | some es =>
      rw [hk] at hv
      obtain ⟨e, he, rfl, ⟨m, hm⟩, rfl⟩ := tryE_some hv
      exact (h es (List.mem_of_getElem? hk) e he args H m hm).bump
theorem orF_ok {P : Program} {a b : FuncId → Option (List V → EH → Option (Bool × V))} (ha : FamOK P a) (hb : FamOK P b) : FamOK P (orF a b) := fun g x args H v hx hv => by
  have hx : (match a g with | some x => some x | none => b g) = some x := hx
  cases h : a g with
  | some y => rw [h] at hx; cases hx; exact ha g _ args H v h hv
  | none => rw [h] at hx; exact hb g x args H v hx hv
def natV (v : Option V) : Nat := match v with | some (.int _ (.ofNat n)) => n | _ => 0
def bitV (v : Option V) : Nat := match v with | some (.bool true) => 1 | _ => 0
def keyMb (args : List V) : Nat := match args with | [_, b, .agg _ c] => Nat.add (Nat.mul 12 (natV (some b))) (Nat.add (Nat.mul 2 (natV (c.get 0))) (bitV (c.get 1))) | _ => 99
def keyCo (args : List V) : Nat := match args with | [_, b, _] => natV (some b) | _ => 99
def lMb : List (List Ent) := [[emb1000, emb2000, emb3000], [emb1001, emb2001, emb3001], [emb1010, emb2010, emb3010], [emb1011, emb2011, emb3011], [emb1020, emb2020, emb3020], [emb1021, emb2021, emb3021], [emb1030, emb2030, emb3030], [emb1031, emb2031, emb3031], [emb1040, emb2040, emb3040], [emb1041, emb2041, emb3041], [emb1050, emb2050, emb3050], [emb1051, emb2051, emb3051], [emb1100, emb2100, emb3100], [emb1101, emb2101, emb3101], [emb1110, emb2110, emb3110], [emb1111, emb2111, emb3111], [emb1120, emb2120, emb3120], [emb1121, emb2121, emb3121], [emb1130, emb2130, emb3130], [emb1131, emb2131, emb3131], [emb1140, emb2140, emb3140], [emb1141, emb2141, emb3141], [emb1150, emb2150, emb3150], [emb1151, emb2151, emb3151]]
def lCo : List (List Ent) := [[eco001, eco002, eco101, eco102, eco201, eco202, eco301, eco302, eco401, eco402, eco501, eco502], [eco011, eco111, eco211, eco311, eco411, eco511]]
theorem lMb_ok : ∀ es ∈ lMb, EntsOK Try.prog es := fun es h => by
  unfold lMb at h
  simp only [List.mem_cons, List.not_mem_nil, or_false] at h
  rcases h with rfl | rfl | rfl | rfl | rfl | rfl | rfl | rfl | rfl | rfl | rfl | rfl | rfl | rfl | rfl | rfl | rfl | rfl | rfl | rfl | rfl | rfl | rfl | rfl
  · exact .cons (fun _ _ _ h => ent_sound drawn noExt_ok rmb1000 h) <| .cons (fun _ _ _ h => ent_sound drawn noExt_ok rmb2000 h) <| .cons (fun _ _ _ h => ent_sound drawn noExt_ok rmb3000 h) .nil
  · exact .cons (fun _ _ _ h => ent_sound drawn noExt_ok rmb1001 h) <| .cons (fun _ _ _ h => ent_sound drawn noExt_ok rmb2001 h) <| .cons (fun _ _ _ h => ent_sound drawn noExt_ok rmb3001 h) .nil
  · exact .cons (fun _ _ _ h => ent_sound drawn noExt_ok rmb1010 h) <| .cons (fun _ _ _ h => ent_sound drawn noExt_ok rmb2010 h) <| .cons (fun _ _ _ h => ent_sound drawn noExt_ok rmb3010 h) .nil
  · exact .cons (fun _ _ _ h => ent_sound drawn noExt_ok rmb1011 h) <| .cons (fun _ _ _ h => ent_sound drawn noExt_ok rmb2011 h) <| .cons (fun _ _ _ h => ent_sound drawn noExt_ok rmb3011 h) .nil
  · exact .cons (fun _ _ _ h => ent_sound drawn noExt_ok rmb1020 h) <| .cons (fun _ _ _ h => ent_sound drawn noExt_ok rmb2020 h) <| .cons (fun _ _ _ h => ent_sound drawn noExt_ok rmb3020 h) .nil
  · exact .cons (fun _ _ _ h => ent_sound drawn noExt_ok rmb1021 h) <| .cons (fun _ _ _ h => ent_sound drawn noExt_ok rmb2021 h) <| .cons (fun _ _ _ h => ent_sound drawn noExt_ok rmb3021 h) .nil
  · exact .cons (fun _ _ _ h => ent_sound drawn noExt_ok rmb1030 h) <| .cons (fun _ _ _ h => ent_sound drawn noExt_ok rmb2030 h) <| .cons (fun _ _ _ h => ent_sound drawn noExt_ok rmb3030 h) .nil
  · exact .cons (fun _ _ _ h => ent_sound drawn noExt_ok rmb1031 h) <| .cons (fun _ _ _ h => ent_sound drawn noExt_ok rmb2031 h) <| .cons (fun _ _ _ h => ent_sound drawn noExt_ok rmb3031 h) .nil
  · exact .cons (fun _ _ _ h => ent_sound drawn noExt_ok rmb1040 h) <| .cons (fun _ _ _ h => ent_sound drawn noExt_ok rmb2040 h) <| .cons (fun _ _ _ h => ent_sound drawn noExt_ok rmb3040 h) .nil
  · exact .cons (fun _ _ _ h => ent_sound drawn noExt_ok rmb1041 h) <| .cons (fun _ _ _ h => ent_sound drawn noExt_ok rmb2041 h) <| .cons (fun _ _ _ h => ent_sound drawn noExt_ok rmb3041 h) .nil
  · exact .cons (fun _ _ _ h => ent_sound drawn noExt_ok rmb1050 h) <| .cons (fun _ _ _ h => ent_sound drawn noExt_ok rmb2050 h) <| .cons (fun _ _ _ h => ent_sound drawn noExt_ok rmb3050 h) .nil
  · exact .cons (fun _ _ _ h => ent_sound drawn noExt_ok rmb1051 h) <| .cons (fun _ _ _ h => ent_sound drawn noExt_ok rmb2051 h) <| .cons (fun _ _ _ h => ent_sound drawn noExt_ok rmb3051 h) .nil
  · exact .cons (fun _ _ _ h => ent_sound drawn noExt_ok rmb1100 h) <| .cons (fun _ _ _ h => ent_sound drawn noExt_ok rmb2100 h) <| .cons (fun _ _ _ h => ent_sound drawn noExt_ok rmb3100 h) .nil
  · exact .cons (fun _ _ _ h => ent_sound drawn noExt_ok rmb1101 h) <| .cons (fun _ _ _ h => ent_sound drawn noExt_ok rmb2101 h) <| .cons (fun _ _ _ h => ent_sound drawn noExt_ok rmb3101 h) .nil
  · exact .cons (fun _ _ _ h => ent_sound drawn noExt_ok rmb1110 h) <| .cons (fun _ _ _ h => ent_sound drawn noExt_ok rmb2110 h) <| .cons (fun _ _ _ h => ent_sound drawn noExt_ok rmb3110 h) .nil
  · exact .cons (fun _ _ _ h => ent_sound drawn noExt_ok rmb1111 h) <| .cons (fun _ _ _ h => ent_sound drawn noExt_ok rmb2111 h) <| .cons (fun _ _ _ h => ent_sound drawn noExt_ok rmb3111 h) .nil
  · exact .cons (fun _ _ _ h => ent_sound drawn noExt_ok rmb1120 h) <| .cons (fun _ _ _ h => ent_sound drawn noExt_ok rmb2120 h) <| .cons (fun _ _ _ h => ent_sound drawn noExt_ok rmb3120 h) .nil
  · exact .cons (fun _ _ _ h => ent_sound drawn noExt_ok rmb1121 h) <| .cons (fun _ _ _ h => ent_sound drawn noExt_ok rmb2121 h) <| .cons (fun _ _ _ h => ent_sound drawn noExt_ok rmb3121 h) .nil
  · exact .cons (fun _ _ _ h => ent_sound drawn noExt_ok rmb1130 h) <| .cons (fun _ _ _ h => ent_sound drawn noExt_ok rmb2130 h) <| .cons (fun _ _ _ h => ent_sound drawn noExt_ok rmb3130 h) .nil
  · exact .cons (fun _ _ _ h => ent_sound drawn noExt_ok rmb1131 h) <| .cons (fun _ _ _ h => ent_sound drawn noExt_ok rmb2131 h) <| .cons (fun _ _ _ h => ent_sound drawn noExt_ok rmb3131 h) .nil
  · exact .cons (fun _ _ _ h => ent_sound drawn noExt_ok rmb1140 h) <| .cons (fun _ _ _ h => ent_sound drawn noExt_ok rmb2140 h) <| .cons (fun _ _ _ h => ent_sound drawn noExt_ok rmb3140 h) .nil
  · exact .cons (fun _ _ _ h => ent_sound drawn noExt_ok rmb1141 h) <| .cons (fun _ _ _ h => ent_sound drawn noExt_ok rmb2141 h) <| .cons (fun _ _ _ h => ent_sound drawn noExt_ok rmb3141 h) .nil
  · exact .cons (fun _ _ _ h => ent_sound drawn noExt_ok rmb1150 h) <| .cons (fun _ _ _ h => ent_sound drawn noExt_ok rmb2150 h) <| .cons (fun _ _ _ h => ent_sound drawn noExt_ok rmb3150 h) .nil
  · exact .cons (fun _ _ _ h => ent_sound drawn noExt_ok rmb1151 h) <| .cons (fun _ _ _ h => ent_sound drawn noExt_ok rmb2151 h) <| .cons (fun _ _ _ h => ent_sound drawn noExt_ok rmb3151 h) .nil
theorem lCo_ok : ∀ es ∈ lCo, EntsOK Try.prog es := fun es h => by
  unfold lCo at h
  simp only [List.mem_cons, List.not_mem_nil, or_false] at h
  rcases h with rfl | rfl
  · exact .cons (fun _ _ _ h => ent_sound drawn noExt_ok rco001 h) <| .cons (fun _ _ _ h => ent_sound drawn noExt_ok rco002 h) <| .cons (fun _ _ _ h => ent_sound drawn noExt_ok rco101 h) <| .cons (fun _ _ _ h => ent_sound drawn noExt_ok rco102 h) <| .cons (fun _ _ _ h => ent_sound drawn noExt_ok rco201 h) <| .cons (fun _ _ _ h => ent_sound drawn noExt_ok rco202 h) <| .cons (fun _ _ _ h => ent_sound drawn noExt_ok rco301 h) <| .cons (fun _ _ _ h => ent_sound drawn noExt_ok rco302 h) <| .cons (fun _ _ _ h => ent_sound drawn noExt_ok rco401 h) <| .cons (fun _ _ _ h => ent_sound drawn noExt_ok rco402 h) <| .cons (fun _ _ _ h => ent_sound drawn noExt_ok rco501 h) <| .cons (fun _ _ _ h => ent_sound drawn noExt_ok rco502 h) .nil
  · exact .cons (fun _ _ _ h => ent_sound drawn noExt_ok rco011 h) <| .cons (fun _ _ _ h => ent_sound drawn noExt_ok rco111 h) <| .cons (fun _ _ _ h => ent_sound drawn noExt_ok rco211 h) <| .cons (fun _ _ _ h => ent_sound drawn noExt_ok rco311 h) <| .cons (fun _ _ _ h => ent_sound drawn noExt_ok rco411 h) <| .cons (fun _ _ _ h => ent_sound drawn noExt_ok rco511 h) .nil
def XF : Ext := ⟨orF (entX eks).f (orF (famX 98 keyMb lMb) (famX 60 keyCo lCo)), false⟩
theorem XF_ok : ExtOK Try.prog XF := orF_ok (a := (entX eks).f) (entX_ok eks_ok) (orF_ok (famX_ok lMb_ok) (famX_ok lCo_ok))
end
end SE
end Go.Proofs.Ytajlhdcpkfmhkaa
