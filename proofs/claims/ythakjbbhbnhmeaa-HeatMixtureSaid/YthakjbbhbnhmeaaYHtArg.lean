/- Mixtures: a list of portions that is read from the world. -/
import Derived.Test.YthakjbbhbnhmeaaRows
import Derived.Test.YthakjbbhbnhmeaaYEd
set_option linter.all false
set_option linter.unusedSimpArgs false
set_option linter.unusedVariables false
namespace Go.Proofs.Ythakjbbhbnhmeaa
open Go Go.Ev Go.ChangeShapes Go.WideShapes Go.ChangeAt Go.RowKit
set_option maxRecDepth 1000000
theorem own:ownKnob Try.prog.godebug=none:=by kernel_rfl
theorem laidOut:laidOutB Try.prog=true:=by kernel_rfl
theorem U3 {R:Ren} {a len e:Nat} {c:Nat→Nat→V} (h:je .i64 c len e=true) {x:Value} (hx:VR R (.fz true a c len e) x):VR R (.fz true a (aj .i64 fun i j=>dn (c i j)) len e) x :=
 hx.fz_as (fun _ _ q=>q) (fun _ _ _ _=>rfl) (fun _ _ _ _ => .int _ _) fun i j hi hj y hy=>by
  rw [mP h hi hj] at hy;exact hy
theorem okWide_slice {W:World} {x:Value} {r:Reach} {base:Nat} {t e:TypeId} (hu:Try.prog.underlying t=some (.slice e)) (h:Value.okWide Try.prog W r base t x):∃ o l c,x = .slice o l c:=by
 unfold Value.okWide at h
 rw [hu] at h
 simp only at h
 unfold Cell.okWide at h
 rw [hu] at h
 cases x<;>first | exact ⟨_,_,_,rfl⟩ | exact h.elim | (simp only at h;done) | (simp only at h;unfold Cell.ok at h;rw [hu] at h;exact h.elim) | (unfold Cell.ok at h;rw [hu] at h;exact h.elim)
theorem RN {W:World} {H:Type} {enc:TypeId×Value→H} {sp:Nat→Bool} {x:Value} {d:DataW H} {ps:List MemPlace} {r:Reach} {base:Nat} (hok:Value.okWide Try.prog W r base 67 x) (h:DataW.Trod enc Try.prog W 0 sp true 67 x d ps) :
 ∃ k t,VR (sN W) (.fz true 0 (aj .i64 t) k 3) x:=by
 obtain ⟨o,l,c,rfl⟩:=okWide_slice Try.underlying67 hok
 have ht:aY Try.prog 8 67=[67]:=by kernel_rfl
 obtain ⟨vs,q1,q2⟩:=J8 (P:=Try.prog) (t:=67) (by kernel_rfl) h (by rw [ht];rfl)
 rw [ht] at q1
 have q3:=q2 0 (by rw [q1];decide) (show 0<1 by decide)
 obtain ⟨cw,lw,e,hw,_⟩:=PP (P:=Try.prog) (q:=3) (n:=3) Try.underlying67 (by kernel_rfl) (by kernel_rfl) Try.underlying3 (q3.2.2 67 (by rw [ht];rfl))
 have q4:=q3.1
 rw [e] at q4
 exact ⟨lw,_,U3 hw q4⟩
end Go.Proofs.Ythakjbbhbnhmeaa
