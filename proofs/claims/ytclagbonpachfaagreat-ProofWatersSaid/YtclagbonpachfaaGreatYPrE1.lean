/- Casks: lists by bits, and the reference's strength of a blend, as contracts. -/
import Derived.Test.YtclagbonpachfaaGreatYPrS4
import Derived.Test.YtclagbonpachfaaGreatYPrL3
import Derived.Test.YtclagbonpachfaaGreatYEe
set_option linter.all false
set_option linter.unusedSimpArgs false
set_option linter.unusedVariables false
namespace Go.Proofs.YtclagbonpachfaaGreat
namespace BL
open Go Go.Ev
set_option maxRecDepth 1000000
set_option maxHeartbeats 0
noncomputable section
variable (lw:Nat) (fw:Nat→Nat→Int) (lm:Nat) (fm:Nat→Nat→Int) (n:Nat) (ls:Nat→Nat) (f:Nat→Nat→Nat→Int)
theorem rowE_fn {k:Nat} {H:EH} {v:V} {len e:Nat} {f:Nat→Nat→Int} (h:rowE k H v len e f) (new:Nat):Fn0 H k new v (.fz true new (cellsI .i64 f) len e):=by
  unfold rowE at h
  split at h
  · have h:(0:Nat)=len:=by injection h
    subst h
    exact .nilS
  · obtain ⟨h1,h2⟩:=cond_and h
    obtain ⟨_,rfl,rfl,rfl⟩:=fz_inj h2
    exact .fz (blt_true h1) (fun _ _ _ _=>rfl) (fun _ _ _ _ => .int _ _) (fun _ _ _ _ => .int _ _)
  · rename_i b off l e'
    obtain ⟨h1,h2⟩:=h
    have h1:l=len:=by injection h1
    subst h1
    split at h2
    · rename_i c lo sz g hb
      obtain ⟨q1,h3⟩:=cond_and h2
      clear h2
      obtain ⟨q2,h4⟩:=cond_and h3
      clear h3
      obtain ⟨q3,h5⟩:=cond_and h4
      clear h4
      have:=nb q1
      subst this
      have q2:=Nat.le_of_ble_eq_true q2
      have q3:off+l*e'≤sz:=Nat.le_of_ble_eq_true q3
      refine .slice (d:=cellsI .i64 f) hb q2 q3 (fun i j hi hj=>?_) (fun _ _ _ _=>rfl) (fun _ _ _ _ => .int _ _) (fun _ _ _ _ => .int _ _)
      have:=cellIJ_get h5 i j hi hj
      rw [Nat.zero_add] at this
      exact this
    · exact h2.elim
  · exact h.elim
end
end BL
end Go.Proofs.YtclagbonpachfaaGreat
