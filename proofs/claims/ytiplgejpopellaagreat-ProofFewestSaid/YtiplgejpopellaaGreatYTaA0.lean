/- Tables: contracts: At, Bounds. -/
import Derived.Test.YtiplgejpopellaaGreatYTc
set_option linter.all false
set_option linter.unusedSimpArgs false
set_option linter.unusedVariables false
namespace Go.Proofs.YtiplgejpopellaaGreat
open Go Go.Ev
set_option maxRecDepth 1000000
noncomputable section
variable (A:Nat) (B:Nat→Nat→Int) (I:Nat) (J:Nat→Nat→Int) (n:Nat) (M:Nat→Nat) (f:Nat→Nat→Nat→Int)
def oQ (A I n:Nat) (M:Nat→Nat):Bool:=cond (Nat.ble A 1000) (cond (Nat.ble I 1000) (cond (Nat.ble n 1000) (fU n M) false) false) false
theorem Ou {A I n:Nat} {M:Nat→Nat} (h:oQ A I n M=true):A≤1000∧I≤1000∧n≤1000∧fU n M=true:=by
 obtain ⟨h1,h⟩:=ah h
 obtain ⟨h2,h⟩:=ah h
 obtain ⟨h3,h4⟩:=ah h
 exact ⟨Nat.le_of_ble_eq_true h1,Nat.le_of_ble_eq_true h2,Nat.le_of_ble_eq_true h3,h4⟩
def XA:Ext:=jO [(56,cf HY),(115,cf N8),(92,cf Uw)] false
theorem VG:dM Tryz.prog XA:=dW (aA (dR Td)<|aA (dR Ya)<|aA (dR aa7) bK)
def onI (len:Nat) (g:Nat→Nat→Int) (x:Int):Bool:=cond (ak (g 0 0) x) (ak x (g (len-1) 0)) false
def atE (A:Nat) (B:Nat→Nat→Int) (I:Nat) (J:Nat→Nat→Int) (n:Nat) (M:Nat→Nat) (f:Nat→Nat→Nat→Int) (x y:Int):Int:=cond (bY (aT A B I J n M f) 0) (cond (cond (onI A B x) (onI I J y) false) 0 2) (aT A B I J n M f)
def atV (A:Nat) (B:Nat→Nat→Int) (I:Nat) (J:Nat→Nat→Int) (n:Nat) (M:Nat→Nat) (f:Nat→Nat→Nat→Int) (x y:Int):Int:=cond (bY (atE A B I J n M f x y) 0) (iy A B I J f x y) 0
theorem onI_t {len:Nat} {g:Nat→Nat→Int} {x:Int}:onI len g x=true↔Aw len g x:=by
 unfold Aw
 constructor
 ·intro h
  obtain ⟨h1,h2⟩:=ah h
  rw [aW] at h1 h2
  exact ⟨h1,h2⟩
 ·rintro ⟨h1,h2⟩
  exact aI ((aW _ _).mpr h1) ((aW _ _).mpr h2)
def Uy:Val:=fun das=>match das with | [.st [.sl 1 A B,.sl 1 I J,.rr 1 n M f],.one (.i .i64 x),.one (.i .i64 y)]=>some (oQ A I n M,.tup [.int .i64 (atV A B I J n M f x y),.int .i64 (atE A B I J n M f x y)]) | _=>none
theorem qy {len:Nat} (h:2≤len):Int.toNat ((len:Int)-1)=len-1:=by omega
def cO (len:Nat) (g:Nat→Nat→Int) (a b:Int):Bool:=cond (ak a b) (cond (onI len g a) (onI len g b) false) false
def boE (A:Nat) (B:Nat→Nat→Int) (I:Nat) (J:Nat→Nat→Int) (n:Nat) (M:Nat→Nat) (f:Nat→Nat→Nat→Int) (a b c d:Int):Int:=cond (bY (aT A B I J n M f) 0) (cond (cond (cO A B a b) (cO I J c d) false) 0 2) (aT A B I J n M f)
def boL (A:Nat) (B:Nat→Nat→Int) (I:Nat) (J:Nat→Nat→Int) (n:Nat) (M:Nat→Nat) (f:Nat→Nat→Nat→Int) (a b c d:Int):Int:=cond (bY (boE A B I J n M f a b c d) 0) (dO A B I J f a b c d) 0
def boH (A:Nat) (B:Nat→Nat→Int) (I:Nat) (J:Nat→Nat→Int) (n:Nat) (M:Nat→Nat) (f:Nat→Nat→Nat→Int) (a b c d:Int):Int:=cond (bY (boE A B I J n M f a b c d) 0) (dP A B I J f a b c d) 0
def qp (len:Nat) (g:Nat→Nat→Int) (a b:Int):Prop:=a≤b∧Aw len g a∧Aw len g b
theorem rgI_t {len:Nat} {g:Nat→Nat→Int} {a b:Int}:cO len g a b=true↔qp len g a b:=by
 constructor
 ·intro h
  obtain ⟨h1,h2⟩:=ah h
  obtain ⟨h2,h3⟩:=ah h2
  exact ⟨(aW _ _).mp h1,onI_t.mp h2,onI_t.mp h3⟩
 ·rintro ⟨h1,h2,h3⟩
  exact aI ((aW _ _).mpr h1) (aI (onI_t.mpr h2) (onI_t.mpr h3))
theorem DY (A:Nat) (B:Nat→Nat→Int) (I:Nat) (J:Nat→Nat→Int) (n:Nat) (M:Nat→Nat) (f:Nat→Nat→Nat→Int) (a b c d:Int) :
 (¬ aT A B I J n M f=0∧boE A B I J n M f a b c d=aT A B I J n M f∧boL A B I J n M f a b c d=0∧boH A B I J n M f a b c d=0) ∨
 (TabOk A B I J n M f∧aT A B I J n M f=0∧¬ (qp A B a b∧qp I J c d)∧boE A B I J n M f a b c d=2∧boL A B I J n M f a b c d=0∧boH A B I J n M f a b c d=0) ∨
 (TabOk A B I J n M f∧aT A B I J n M f=0∧qp A B a b∧qp I J c d∧boE A B I J n M f a b c d=0∧boL A B I J n M f a b c d=dO A B I J f a b c d∧boH A B I J n M f a b c d=dP A B I J f a b c d):=by
 by_cases h:aT A B I J n M f=0
 ·have ok:=lq h
  by_cases hr:qp A B a b∧qp I J c d
  ·have e:boE A B I J n M f a b c d=0:=by unfold boE;rw [(dQ _ _).mpr h,aI (rgI_t.mpr hr.1) (rgI_t.mpr hr.2)];rfl
   exact .inr (.inr ⟨ok,h,hr.1,hr.2,e,by unfold boL;rw [e];rfl,by unfold boH;rw [e];rfl⟩)
  ·have q:cond (cO A B a b) (cO I J c d) false=false:=by
    cases q:cond (cO A B a b) (cO I J c d) false with
    | false=>rfl
    | true=>obtain ⟨q1,q2⟩:=ah q;exact absurd ⟨rgI_t.mp q1,rgI_t.mp q2⟩ hr
   have e:boE A B I J n M f a b c d=2:=by unfold boE;rw [(dQ _ _).mpr h,q];rfl
   exact .inr (.inl ⟨ok,h,hr,e,by unfold boL;rw [e];rfl,by unfold boH;rw [e];rfl⟩)
 ·have e:boE A B I J n M f a b c d=aT A B I J n M f:=by unfold boE;rw [(fD _ _).mpr h];rfl
  exact .inl ⟨h,e,by unfold boL;rw [e,(fD _ _).mpr h];rfl,by unfold boH;rw [e,(fD _ _).mpr h];rfl⟩
theorem Zx {A:Nat} {B:Nat→Nat→Int} {I:Nat} {J:Nat→Nat→Int} {n:Nat} {M:Nat→Nat} {f:Nat→Nat→Nat→Int} {a b c d:Int} (ok:TabOk A B I J n M f) (h1:qp A B a b) (h2:qp I J c d):Iq A B I J n M f a b c d=true:=by
 have w2:=ok.w.two
 have m2:=ok.m.two
 have wa:=ok.w.inn 0 (by omega)
 have wz:=ok.w.inn (A-1) (by omega)
 have ma:=ok.m.inn 0 (by omega)
 have mz:=ok.m.inn (I-1) (by omega)
 obtain ⟨p1,p2,p3⟩:=h1
 obtain ⟨q1,q2,q3⟩:=h2
 have p2a:=p2.1
 have p3b:=p3.2
 have q2a:=q2.1
 have q3b:=q3.2
 refine aI ((aW _ _).mpr p1)<|aI ((aW _ _).mpr q1)<|aI ((aW _ _).mpr (by omega))<|aI ((aW _ _).mpr (by omega))<|aI ((aW _ _).mpr (by omega))<|aI ((aW _ _).mpr (by omega)) ?_
 have hm:=kT c d q1
 have hw:(nW a b:Int)=b-a+1:=kT a b p1
 exact bW fun i hi=>bW fun k hk=>abj ok ⟨by omega,by omega⟩ ⟨by omega,by omega⟩
theorem ac4 (a b c d:Int) (s1:A≤1000) (s2:I≤1000) (s3:n≤1000) (s4:fU n M=true) (h:¬ aT A B I J n M f=0):VC (dh Tryz.prog XA 300 70 (enc [.st [.sl 1 A B,.sl 1 I J,.rr 1 n M f],.st [.i .i64 a,.i .i64 b],.st [.i .i64 c,.i .i64 d]] 0) 3 (fun v=>dB v (.tup [.agg 2 (T.setL .lf 0 [.int .i64 0,.int .i64 0]),.int .i64 (aT A B I J n M f)]))) (.go 21 .nil):=ai (((cond (cond (aZ 2 A B I J n M f) true false) (cond (Nat.ble A 1000) (cond (Nat.ble I 1000) (cond (Nat.ble n 1000) (fU n M) false) false) false) false)=true∧((not (bY (aT A B I J n M f) 0))=true∧(((((0):Int)=0)∧((((0):Int)=0)∧True))∧((((aT A B I J n M f):Int)=(aT A B I J n M f))∧True)))))
theorem aea (a b c d:Int) (s1:A≤1000) (s2:I≤1000) (s3:n≤1000) (s4:fU n M=true) (h:aT A B I J n M f=0) (h2:2≤A) (h3:2≤I) (hr:¬ (a≤b∧B 0 0≤a∧a≤B (Int.toNat ((A:Int)-1)) 0∧B 0 0≤b∧b≤B (Int.toNat ((A:Int)-1)) 0∧c≤d∧J 0 0≤c∧c≤J (Int.toNat ((I:Int)-1)) 0∧J 0 0≤d∧d≤J (Int.toNat ((I:Int)-1)) 0)):VC (dh Tryz.prog XA 300 70 (enc [.st [.sl 1 A B,.sl 1 I J,.rr 1 n M f],.st [.i .i64 a,.i .i64 b],.st [.i .i64 c,.i .i64 d]] 0) 3 (fun v=>dB v (.tup [.agg 2 (T.setL .lf 0 [.int .i64 0,.int .i64 0]),.int .i64 2]))) (.go 1369 (.sp (.go 64 (.sp (.go 1024 (.sp (.go 262208 (.sp .nil (.go 4432 (.sp (.go 64 (.sp (.go 1024 (.sp (.go 20971584 .nil) .nil)) .nil)) .nil)))) .nil)) .nil)) .nil)):=ai (((cond (cond (aZ 2 A B I J n M f) true false) (cond (Nat.ble A 1000) (cond (Nat.ble I 1000) (cond (Nat.ble n 1000) (fU n M) false) false) false) false)=true∧((not (bY (aT A B I J n M f) 0))=false∧((Nat.blt 0 A)=true∧((small ((A:Int)-(1)))=true∧((kE ((A:Int)-(1)) A)=true∧(((not (not (ak a b)))=true→(((ak (B 0 0) a)=true→(((ak a (B (Int.toNat ((A:Int)-(1))) 0))=true→((ak (B 0 0) b)=true∧(((not (ak b (B (Int.toNat ((A:Int)-(1))) 0)))=true→(((((0):Int)=0)∧((((0):Int)=0)∧True))∧((((2):Int)=2)∧True))) ∧
 ((not (ak b (B (Int.toNat (((A:Nat):Int)-(1))) 0)))=false→((Nat.blt 0 I)=true∧((small (((I:Nat):Int)-(1)))=true∧((kE (((I:Nat):Int)-(1)) I)=true∧(((not (not (ak c d)))=true→(((ak (J 0 0) c)=true→(((ak c (J (Int.toNat (((I:Nat):Int)-(1))) 0))=true→((ak (J 0 0) d)=true∧((not (ak d (J (Int.toNat (((I:Nat):Int)-(1))) 0)))=true∧(((((0):Int)=(0))∧((((0):Int)=(0))∧True))∧((((2):Int)=(2))∧True))))) ∧
 ((ak c (J (Int.toNat (((I:Nat):Int)-(1))) 0))=false→(((((0):Int)=(0))∧((((0):Int)=(0))∧True))∧((((2):Int)=(2))∧True))))) ∧
 ((ak (J 0 0) c)=false→(((((0):Int)=(0))∧((((0):Int)=(0))∧True))∧((((2):Int)=(2))∧True))))) ∧
 ((not (not (ak c d)))=false→(((((0):Int)=(0))∧((((0):Int)=(0))∧True))∧((((2):Int)=(2))∧True))))))))))) ∧
 ((ak a (B (Int.toNat (((A:Nat):Int)-(1))) 0))=false→(((((0):Int)=(0))∧((((0):Int)=(0))∧True))∧((((2):Int)=(2))∧True))))) ∧
 ((ak (B 0 0) a)=false→(((((0):Int)=(0))∧((((0):Int)=(0))∧True))∧((((2):Int)=(2))∧True))))) ∧
 ((not (not (ak a b)))=false→(((((0):Int)=(0))∧((((0):Int)=(0))∧True))∧((((2):Int)=(2))∧True))))))))))
theorem acm (a b c d:Int) (s1:A≤1000) (s2:I≤1000) (s3:n≤1000) (s4:fU n M=true) (h:aT A B I J n M f=0) (h2:2≤A) (h3:2≤I) (hr:a≤b∧B 0 0≤a∧a≤B (Int.toNat ((A:Int)-1)) 0∧B 0 0≤b∧b≤B (Int.toNat ((A:Int)-1)) 0∧c≤d∧J 0 0≤c∧c≤J (Int.toNat ((I:Int)-1)) 0∧J 0 0≤d∧d≤J (Int.toNat ((I:Int)-1)) 0) (hp:Iq A B I J n M f a b c d=true):VC (dh Tryz.prog XA 300 70 (enc [.st [.sl 1 A B,.sl 1 I J,.rr 1 n M f],.st [.i .i64 a,.i .i64 b],.st [.i .i64 c,.i .i64 d]] 0) 3 (fun v=>dB v (.tup [.agg 2 (T.setL .lf 0 [.int .i64 (dO A B I J f a b c d),.int .i64 (dP A B I J f a b c d)]),.int .i64 0]))) (.go 7139413151593100573273092761322841 .nil):=ai (((cond (cond (aZ 2 A B I J n M f) true false) (cond (Nat.ble A 1000) (cond (Nat.ble I 1000) (cond (Nat.ble n 1000) (fU n M) false) false) false) false)=true∧((not (bY (aT A B I J n M f) 0))=false∧((Nat.blt 0 A)=true∧((small ((A:Int)-(1)))=true∧((kE ((A:Int)-(1)) A)=true∧((not (not (ak a b)))=true∧((ak (B 0 0) a)=true∧((ak a (B (Int.toNat ((A:Int)-(1))) 0))=true∧((ak (B 0 0) b)=true∧((not (ak b (B (Int.toNat ((A:Int)-(1))) 0)))=false∧((Nat.blt 0 I)=true∧((small ((I:Int)-(1)))=true∧((kE ((I:Int)-(1)) I)=true∧((not (not (ak c d)))=true∧((ak (J 0 0) c)=true∧((ak c (J (Int.toNat ((I:Int)-(1))) 0))=true∧((ak (J 0 0) d)=true∧((not (ak d (J (Int.toNat ((I:Int)-(1))) 0)))=false∧((cond (cond (aZ 2 A B I J n M f) true false) (Iq A B I J n M f a b c d) false)=true∧(((((dO A B I J f a b c d):Int)=(dO A B I J f a b c d))∧((((dP A B I J f a b c d):Int)=(dP A B I J f a b c d))∧True))∧((((0):Int)=0)∧True))))))))))))))))))))))
def VZ:Val:=fun das=>match das with | [.st [.sl 1 A B,.sl 1 I J,.rr 1 n M f],.st [.i .i64 a,.i .i64 b],.st [.i .i64 c,.i .i64 d]]=>some (oQ A I n M,.tup [.agg 2 (T.setL .lf 0 [.int .i64 (boL A B I J n M f a b c d),.int .i64 (boH A B I J n M f a b c d)]),.int .i64 (boE A B I J n M f a b c d)]) | _=>none
theorem Yy:qi Tryz.prog 70 VZ:=by
 intro das v hv
 unfold VZ at hv
 split at hv
 ·rename_i A B I J n M f a b c d
  have hb:=congrArg Prod.fst (Option.some.inj hv)
  have hv:=congrArg Prod.snd (Option.some.inj hv)
  subst hv
  obtain ⟨s1,s2,s3,s4⟩:=Ou hb
  rcases DY A B I J n M f a b c d with ⟨h,e1,e2,e3⟩ | ⟨ok,h,hr,e1,e2,e3⟩ | ⟨ok,h,h1,h2,e1,e2,e3⟩<;>rw [e1,e2,e3]
  ·exact bn aj VG rfl (das:=[.st [.sl 1 A B,.sl 1 I J,.rr 1 n M f],.st [.i .i64 a,.i .i64 b],.st [.i .i64 c,.i .i64 d]]) (ac4 A B I J n M f a b c d s1 s2 s3 s4 h)
  ·refine bn aj VG rfl (das:=[.st [.sl 1 A B,.sl 1 I J,.rr 1 n M f],.st [.i .i64 a,.i .i64 b],.st [.i .i64 c,.i .i64 d]]) (aea A B I J n M f a b c d s1 s2 s3 s4 h ok.w.two ok.m.two ?_)
   rw [qy ok.w.two,qy ok.m.two]
   intro q
   exact hr ⟨⟨q.1,⟨q.2.1,q.2.2.1⟩,⟨q.2.2.2.1,q.2.2.2.2.1⟩⟩,⟨q.2.2.2.2.2.1,⟨q.2.2.2.2.2.2.1,q.2.2.2.2.2.2.2.1⟩,⟨q.2.2.2.2.2.2.2.2.1,q.2.2.2.2.2.2.2.2.2⟩⟩⟩
  ·refine bn aj VG rfl (das:=[.st [.sl 1 A B,.sl 1 I J,.rr 1 n M f],.st [.i .i64 a,.i .i64 b],.st [.i .i64 c,.i .i64 d]]) (acm A B I J n M f a b c d s1 s2 s3 s4 h ok.w.two ok.m.two ?_ (Zx ok h1 h2))
   rw [qy ok.w.two,qy ok.m.two]
   exact ⟨h1.1,h1.2.1.1,h1.2.1.2,h1.2.2.1,h1.2.2.2,h2.1,h2.2.1.1,h2.2.1.2,h2.2.2.1,h2.2.2.2⟩
 ·cases hv
end
end Go.Proofs.YtiplgejpopellaaGreat
