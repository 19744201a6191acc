/- Mixtures: a list of portions that is read from the world. -/
import Derived.Test.YthakjbbhbnhmeaaGreatRows
import Derived.Test.YthakjbbhbnhmeaaGreatYEd
set_option linter.all false
set_option linter.unusedSimpArgs false
set_option linter.unusedVariables false
namespace Go.Proofs.YthakjbbhbnhmeaaGreat
open Go Go.Ev Go.ChangeShapes Go.WideShapes Go.ChangeAt Go.RowKit
set_option maxRecDepth 1000000
theorem own:ownKnob Tryz.prog.godebug=none:=by kernel_rfl
theorem laidOut:laidOutB Tryz.prog=true:=by kernel_rfl
theorem UL {R:Ren} {a len e:Nat} {c:Nat→Nat→V} (h:gG .i64 c len e=true) {x:Value} (hx:VR R (.fz true a c len e) x):VR R (.fz true a (ay .i64 fun i j=>eP (c i j)) len e) x :=
 hx.fz_as (fun _ _ q=>q) (fun _ _ _ _=>rfl) (fun _ _ _ _ => .int _ _) fun i j hi hj y hy=>by
  rw [o6 h hi hj] at hy;exact hy
theorem okWide_slice {W:World} {x:Value} {r:Reach} {base:Nat} {t e:TypeId} (hu:Tryz.prog.underlying t=some (.slice e)) (h:Value.okWide Tryz.prog W r base t x):∃ o l c,x = .slice o l c:=by
 unfold Value.okWide at h
 rw [hu] at h
 simp only at h
 unfold Cell.okWide at h
 rw [hu] at h
 cases x<;>first | exact ⟨_,_,_,rfl⟩ | exact h.elim | (simp only at h;done) | (simp only at h;unfold Cell.ok at h;rw [hu] at h;exact h.elim) | (unfold Cell.ok at h;rw [hu] at h;exact h.elim)
theorem RQ {W:World} {H:Type} {enc:TypeId×Value→H} {sp:Nat→Bool} {x:Value} {d:DataW H} {ps:List MemPlace} {r:Reach} {base:Nat} (hok:Value.okWide Tryz.prog W r base 22 x) (h:DataW.Trod enc Tryz.prog W 0 sp true 22 x d ps) :
 ∃ k t,VR (uf W) (.fz true 0 (ay .i64 t) k 3) x:=by
 obtain ⟨o,l,c,rfl⟩:=okWide_slice Tryz.underlying22 hok
 have ht:aN Tryz.prog 8 22=[22]:=by kernel_rfl
 obtain ⟨vs,q1,q2⟩:=Kt (P:=Tryz.prog) (t:=22) (by kernel_rfl) h (by rw [ht];rfl)
 rw [ht] at q1
 have q3:=q2 0 (by rw [q1];decide) (show 0<1 by decide)
 obtain ⟨cw,lw,e,hw,_⟩:=MM (P:=Tryz.prog) (q:=3) (n:=3) Tryz.underlying22 (by kernel_rfl) (by kernel_rfl) Tryz.underlying3 (q3.2.2 22 (by rw [ht];rfl))
 have q4:=q3.1
 rw [e] at q4
 exact ⟨lw,_,UL hw q4⟩
end Go.Proofs.YthakjbbhbnhmeaaGreat
