/- Tables: contracts: At, Bounds. -/
import Derived.Test.YtclagbonpachfaaGreatYTc
set_option linter.all false
set_option linter.unusedSimpArgs false
set_option linter.unusedVariables false
namespace Go.Proofs.YtclagbonpachfaaGreat
open Go Go.Ev
set_option maxRecDepth 1000000
noncomputable section
variable (lw:Nat) (fw:Nat→Nat→Int) (lm:Nat) (fm:Nat→Nat→Int) (n:Nat) (ls:Nat→Nat) (f:Nat→Nat→Nat→Int)
def smB (lw lm n:Nat) (ls:Nat→Nat):Bool:=cond (Nat.ble lw 1000) (cond (Nat.ble lm 1000) (cond (Nat.ble n 1000) (shortB n ls) false) false) false
theorem smB_get {lw lm n:Nat} {ls:Nat→Nat} (h:smB lw lm n ls=true):lw≤1000∧lm≤1000∧n≤1000∧shortB n ls=true:=by
  obtain ⟨h1,h⟩:=cond_tt h
  obtain ⟨h2,h⟩:=cond_tt h
  obtain ⟨h3,h4⟩:=cond_tt h
  exact ⟨Nat.le_of_ble_eq_true h1,Nat.le_of_ble_eq_true h2,Nat.le_of_ble_eq_true h3,h4⟩
def XA:Ext:=conX [(63,cf valCk),(117,cf val67),(92,cf val74)] false
theorem XA_ok:ExtOK Tryz.prog XA:=conX_ok (allCon_cons (con_ok conCk)<|allCon_cons (con_ok con67)<|allCon_cons (con_ok con74) allCon_nil)
def onI (len:Nat) (g:Nat→Nat→Int) (x:Int):Bool:=cond (iLe (g 0 0) x) (iLe x (g (len-1) 0)) false
def atE (lw:Nat) (fw:Nat→Nat→Int) (lm:Nat) (fm:Nat→Nat→Int) (n:Nat) (ls:Nat→Nat) (f:Nat→Nat→Nat→Int) (x y:Int):Int:=cond (iEq (tabE lw fw lm fm n ls f) 0) (cond (cond (onI lw fw x) (onI lm fm y) false) 0 2) (tabE lw fw lm fm n ls f)
def atV (lw:Nat) (fw:Nat→Nat→Int) (lm:Nat) (fm:Nat→Nat→Int) (n:Nat) (ls:Nat→Nat) (f:Nat→Nat→Nat→Int) (x y:Int):Int:=cond (iEq (atE lw fw lm fm n ls f x y) 0) (strI lw fw lm fm f x y) 0
theorem onI_t {len:Nat} {g:Nat→Nat→Int} {x:Int}:onI len g x=true↔onB len g x:=by
  unfold onB
  constructor
  · intro h
    obtain ⟨h1,h2⟩:=cond_tt h
    rw [iLe_t] at h1 h2
    exact ⟨h1,h2⟩
  · rintro ⟨h1,h2⟩
    exact cond_mk ((iLe_t _ _).mpr h1) ((iLe_t _ _).mpr h2)
def valAt:Val:=fun das=>match das with | [.st [.sl 1 lw fw,.sl 1 lm fm,.rr 1 n ls f],.one (.i .i64 x),.one (.i .i64 y)]=>some (smB lw lm n ls,.tup [.int .i64 (atV lw fw lm fm n ls f x y),.int .i64 (atE lw fw lm fm n ls f x y)]) | _=>none
theorem last_n {len:Nat} (h:2≤len):Int.toNat ((len:Int)-1)=len-1:=by omega
def rgI (len:Nat) (g:Nat→Nat→Int) (a b:Int):Bool:=cond (iLe a b) (cond (onI len g a) (onI len g b) false) false
def boE (lw:Nat) (fw:Nat→Nat→Int) (lm:Nat) (fm:Nat→Nat→Int) (n:Nat) (ls:Nat→Nat) (f:Nat→Nat→Nat→Int) (a b c d:Int):Int:=cond (iEq (tabE lw fw lm fm n ls f) 0) (cond (cond (rgI lw fw a b) (rgI lm fm c d) false) 0 2) (tabE lw fw lm fm n ls f)
def boL (lw:Nat) (fw:Nat→Nat→Int) (lm:Nat) (fm:Nat→Nat→Int) (n:Nat) (ls:Nat→Nat) (f:Nat→Nat→Nat→Int) (a b c d:Int):Int:=cond (iEq (boE lw fw lm fm n ls f a b c d) 0) (bdL lw fw lm fm f a b c d) 0
def boH (lw:Nat) (fw:Nat→Nat→Int) (lm:Nat) (fm:Nat→Nat→Int) (n:Nat) (ls:Nat→Nat) (f:Nat→Nat→Nat→Int) (a b c d:Int):Int:=cond (iEq (boE lw fw lm fm n ls f a b c d) 0) (bdH lw fw lm fm f a b c d) 0
def rgB (len:Nat) (g:Nat→Nat→Int) (a b:Int):Prop:=a≤b∧onB len g a∧onB len g b
theorem rgI_t {len:Nat} {g:Nat→Nat→Int} {a b:Int}:rgI len g a b=true↔rgB len g a b:=by
  constructor
  · intro h
    obtain ⟨h1,h2⟩:=cond_tt h
    obtain ⟨h2,h3⟩:=cond_tt h2
    exact ⟨(iLe_t _ _).mp h1,onI_t.mp h2,onI_t.mp h3⟩
  · rintro ⟨h1,h2,h3⟩
    exact cond_mk ((iLe_t _ _).mpr h1) (cond_mk (onI_t.mpr h2) (onI_t.mpr h3))
theorem boE_cases (lw:Nat) (fw:Nat→Nat→Int) (lm:Nat) (fm:Nat→Nat→Int) (n:Nat) (ls:Nat→Nat) (f:Nat→Nat→Nat→Int) (a b c d:Int) :
    (¬ tabE lw fw lm fm n ls f=0∧boE lw fw lm fm n ls f a b c d=tabE lw fw lm fm n ls f∧boL lw fw lm fm n ls f a b c d=0∧boH lw fw lm fm n ls f a b c d=0) ∨
    (TabOk lw fw lm fm n ls f∧tabE lw fw lm fm n ls f=0∧¬ (rgB lw fw a b∧rgB lm fm c d)∧boE lw fw lm fm n ls f a b c d=2∧boL lw fw lm fm n ls f a b c d=0∧boH lw fw lm fm n ls f a b c d=0) ∨
    (TabOk lw fw lm fm n ls f∧tabE lw fw lm fm n ls f=0∧rgB lw fw a b∧rgB lm fm c d∧boE lw fw lm fm n ls f a b c d=0∧boL lw fw lm fm n ls f a b c d=bdL lw fw lm fm f a b c d∧boH lw fw lm fm n ls f a b c d=bdH lw fw lm fm f a b c d):=by
  by_cases h:tabE lw fw lm fm n ls f=0
  · have ok:=tabE_get h
    by_cases hr:rgB lw fw a b∧rgB lm fm c d
    · have e:boE lw fw lm fm n ls f a b c d=0:=by unfold boE;rw [(iEq_t _ _).mpr h,cond_mk (rgI_t.mpr hr.1) (rgI_t.mpr hr.2)];rfl
      exact .inr (.inr ⟨ok,h,hr.1,hr.2,e,by unfold boL;rw [e];rfl,by unfold boH;rw [e];rfl⟩)
    · have q:cond (rgI lw fw a b) (rgI lm fm c d) false=false:=by
        cases q:cond (rgI lw fw a b) (rgI lm fm c d) false with
        | false=>rfl
        | true=>obtain ⟨q1,q2⟩:=cond_tt q;exact absurd ⟨rgI_t.mp q1,rgI_t.mp q2⟩ hr
      have e:boE lw fw lm fm n ls f a b c d=2:=by unfold boE;rw [(iEq_t _ _).mpr h,q];rfl
      exact .inr (.inl ⟨ok,h,hr,e,by unfold boL;rw [e];rfl,by unfold boH;rw [e];rfl⟩)
  · have e:boE lw fw lm fm n ls f a b c d=tabE lw fw lm fm n ls f:=by unfold boE;rw [(iEq_f _ _).mpr h];rfl
    exact .inl ⟨h,e,by unfold boL;rw [e,(iEq_f _ _).mpr h];rfl,by unfold boH;rw [e,(iEq_f _ _).mpr h];rfl⟩
theorem pts_ok {lw:Nat} {fw:Nat→Nat→Int} {lm:Nat} {fm:Nat→Nat→Int} {n:Nat} {ls:Nat→Nat} {f:Nat→Nat→Nat→Int} {a b c d:Int} (ok:TabOk lw fw lm fm n ls f) (h1:rgB lw fw a b) (h2:rgB lm fm c d):ptsB lw fw lm fm n ls f a b c d=true:=by
  have w2:=ok.w.two
  have m2:=ok.m.two
  have wa:=ok.w.inn 0 (by omega)
  have wz:=ok.w.inn (lw-1) (by omega)
  have ma:=ok.m.inn 0 (by omega)
  have mz:=ok.m.inn (lm-1) (by omega)
  obtain ⟨p1,p2,p3⟩:=h1
  obtain ⟨q1,q2,q3⟩:=h2
  have p2a:=p2.1
  have p3b:=p3.2
  have q2a:=q2.1
  have q3b:=q3.2
  refine cond_mk ((iLe_t _ _).mpr p1)<|cond_mk ((iLe_t _ _).mpr q1)<|cond_mk ((iLe_t _ _).mpr (by omega))<|cond_mk ((iLe_t _ _).mpr (by omega))<|cond_mk ((iLe_t _ _).mpr (by omega))<|cond_mk ((iLe_t _ _).mpr (by omega)) ?_
  have hm:=nM_eq c d q1
  have hw:(nW a b:Int)=b-a+1:=nM_eq a b p1
  exact allN_true fun i hi=>allN_true fun k hk=>st_ok ok ⟨by omega,by omega⟩ ⟨by omega,by omega⟩
theorem rBo1 (a b c d:Int) (s1:lw≤1000) (s2:lm≤1000) (s3:n≤1000) (s4:shortB n ls=true) (h:¬ tabE lw fw lm fm n ls f=0):VC (runD0 Tryz.prog XA 300 76 (enc [.st [.sl 1 lw fw,.sl 1 lm fm,.rr 1 n ls f],.st [.i .i64 a,.i .i64 b],.st [.i .i64 c,.i .i64 d]] 0) 3 (fun v=>valP v (.tup [.agg 2 (T.setL .lf 0 [.int .i64 0,.int .i64 0]),.int .i64 (tabE lw fw lm fm n ls f)]))) (.go 21 .nil):=VC_of (((cond (cond (okTb 2 lw fw lm fm n ls f) true false) (cond (Nat.ble lw 1000) (cond (Nat.ble lm 1000) (cond (Nat.ble n 1000) (shortB n ls) false) false) false) false)=true∧((not (iEq (tabE lw fw lm fm n ls f) (0)))=true∧(((((0):Int)=(0))∧((((0):Int)=(0))∧True))∧((((tabE lw fw lm fm n ls f):Int)=(tabE lw fw lm fm n ls f))∧True)))))
theorem rBo2 (a b c d:Int) (s1:lw≤1000) (s2:lm≤1000) (s3:n≤1000) (s4:shortB n ls=true) (h:tabE lw fw lm fm n ls f=0) (h2:2≤lw) (h3:2≤lm) (hr:¬ (a≤b∧fw 0 0≤a∧a≤fw (Int.toNat ((lw:Int)-1)) 0∧fw 0 0≤b∧b≤fw (Int.toNat ((lw:Int)-1)) 0∧c≤d∧fm 0 0≤c∧c≤fm (Int.toNat ((lm:Int)-1)) 0∧fm 0 0≤d∧d≤fm (Int.toNat ((lm:Int)-1)) 0)):VC (runD0 Tryz.prog XA 300 76 (enc [.st [.sl 1 lw fw,.sl 1 lm fm,.rr 1 n ls f],.st [.i .i64 a,.i .i64 b],.st [.i .i64 c,.i .i64 d]] 0) 3 (fun v=>valP v (.tup [.agg 2 (T.setL .lf 0 [.int .i64 0,.int .i64 0]),.int .i64 2]))) (.go 1369 (.sp (.go 64 (.sp (.go 1024 (.sp (.go 262208 (.sp .nil (.go 4432 (.sp (.go 64 (.sp (.go 1024 (.sp (.go 20971584 .nil) .nil)) .nil)) .nil)))) .nil)) .nil)) .nil)):=VC_of (((cond (cond (okTb 2 lw fw lm fm n ls f) true false) (cond (Nat.ble lw 1000) (cond (Nat.ble lm 1000) (cond (Nat.ble n 1000) (shortB n ls) false) false) false) false)=true∧((not (iEq (tabE lw fw lm fm n ls f) (0)))=false∧((Nat.blt 0 lw)=true∧((small (((lw:Nat):Int)-(1)))=true∧((iIn (((lw:Nat):Int)-(1)) lw)=true∧(((not (not (iLe a b)))=true→(((iLe (fw 0 0) a)=true→(((iLe a (fw (Int.toNat (((lw:Nat):Int)-(1))) 0))=true→((iLe (fw 0 0) b)=true∧(((not (iLe b (fw (Int.toNat (((lw:Nat):Int)-(1))) 0)))=true→(((((0):Int)=(0))∧((((0):Int)=(0))∧True))∧((((2):Int)=(2))∧True))) ∧
  ((not (iLe b (fw (Int.toNat (((lw:Nat):Int)-(1))) 0)))=false→((Nat.blt 0 lm)=true∧((small (((lm:Nat):Int)-(1)))=true∧((iIn (((lm:Nat):Int)-(1)) lm)=true∧(((not (not (iLe c d)))=true→(((iLe (fm 0 0) c)=true→(((iLe c (fm (Int.toNat (((lm:Nat):Int)-(1))) 0))=true→((iLe (fm 0 0) d)=true∧((not (iLe d (fm (Int.toNat (((lm:Nat):Int)-(1))) 0)))=true∧(((((0):Int)=(0))∧((((0):Int)=(0))∧True))∧((((2):Int)=(2))∧True))))) ∧
  ((iLe c (fm (Int.toNat (((lm:Nat):Int)-(1))) 0))=false→(((((0):Int)=(0))∧((((0):Int)=(0))∧True))∧((((2):Int)=(2))∧True))))) ∧
  ((iLe (fm 0 0) c)=false→(((((0):Int)=(0))∧((((0):Int)=(0))∧True))∧((((2):Int)=(2))∧True))))) ∧
  ((not (not (iLe c d)))=false→(((((0):Int)=(0))∧((((0):Int)=(0))∧True))∧((((2):Int)=(2))∧True))))))))))) ∧
  ((iLe a (fw (Int.toNat (((lw:Nat):Int)-(1))) 0))=false→(((((0):Int)=(0))∧((((0):Int)=(0))∧True))∧((((2):Int)=(2))∧True))))) ∧
  ((iLe (fw 0 0) a)=false→(((((0):Int)=(0))∧((((0):Int)=(0))∧True))∧((((2):Int)=(2))∧True))))) ∧
  ((not (not (iLe a b)))=false→(((((0):Int)=(0))∧((((0):Int)=(0))∧True))∧((((2):Int)=(2))∧True))))))))))
theorem rBo3 (a b c d:Int) (s1:lw≤1000) (s2:lm≤1000) (s3:n≤1000) (s4:shortB n ls=true) (h:tabE lw fw lm fm n ls f=0) (h2:2≤lw) (h3:2≤lm) (hr:a≤b∧fw 0 0≤a∧a≤fw (Int.toNat ((lw:Int)-1)) 0∧fw 0 0≤b∧b≤fw (Int.toNat ((lw:Int)-1)) 0∧c≤d∧fm 0 0≤c∧c≤fm (Int.toNat ((lm:Int)-1)) 0∧fm 0 0≤d∧d≤fm (Int.toNat ((lm:Int)-1)) 0) (hp:ptsB lw fw lm fm n ls f a b c d=true):VC (runD0 Tryz.prog XA 300 76 (enc [.st [.sl 1 lw fw,.sl 1 lm fm,.rr 1 n ls f],.st [.i .i64 a,.i .i64 b],.st [.i .i64 c,.i .i64 d]] 0) 3 (fun v=>valP v (.tup [.agg 2 (T.setL .lf 0 [.int .i64 (bdL lw fw lm fm f a b c d),.int .i64 (bdH lw fw lm fm f a b c d)]),.int .i64 0]))) (.go 7139413151593100573273092761322841 .nil):=VC_of (((cond (cond (okTb 2 lw fw lm fm n ls f) true false) (cond (Nat.ble lw 1000) (cond (Nat.ble lm 1000) (cond (Nat.ble n 1000) (shortB n ls) false) false) false) false)=true∧((not (iEq (tabE lw fw lm fm n ls f) (0)))=false∧((Nat.blt 0 lw)=true∧((small (((lw:Nat):Int)-(1)))=true∧((iIn (((lw:Nat):Int)-(1)) lw)=true∧((not (not (iLe a b)))=true∧((iLe (fw 0 0) a)=true∧((iLe a (fw (Int.toNat (((lw:Nat):Int)-(1))) 0))=true∧((iLe (fw 0 0) b)=true∧((not (iLe b (fw (Int.toNat (((lw:Nat):Int)-(1))) 0)))=false∧((Nat.blt 0 lm)=true∧((small (((lm:Nat):Int)-(1)))=true∧((iIn (((lm:Nat):Int)-(1)) lm)=true∧((not (not (iLe c d)))=true∧((iLe (fm 0 0) c)=true∧((iLe c (fm (Int.toNat (((lm:Nat):Int)-(1))) 0))=true∧((iLe (fm 0 0) d)=true∧((not (iLe d (fm (Int.toNat (((lm:Nat):Int)-(1))) 0)))=false∧((cond (cond (okTb 2 lw fw lm fm n ls f) true false) (ptsB lw fw lm fm n ls f a b c d) false)=true∧(((((bdL lw fw lm fm f a b c d):Int)=(bdL lw fw lm fm f a b c d))∧((((bdH lw fw lm fm f a b c d):Int)=(bdH lw fw lm fm f a b c d))∧True))∧((((0):Int)=(0))∧True))))))))))))))))))))))
def valBo:Val:=fun das=>match das with | [.st [.sl 1 lw fw,.sl 1 lm fm,.rr 1 n ls f],.st [.i .i64 a,.i .i64 b],.st [.i .i64 c,.i .i64 d]]=>some (smB lw lm n ls,.tup [.agg 2 (T.setL .lf 0 [.int .i64 (boL lw fw lm fm n ls f a b c d),.int .i64 (boH lw fw lm fm n ls f a b c d)]),.int .i64 (boE lw fw lm fm n ls f a b c d)]) | _=>none
theorem conBo:Con Tryz.prog 76 valBo:=by
  intro das v hv
  unfold valBo at hv
  split at hv
  · rename_i lw fw lm fm n ls f a b c d
    have hb:=congrArg Prod.fst (Option.some.inj hv)
    have hv:=congrArg Prod.snd (Option.some.inj hv)
    subst hv
    obtain ⟨s1,s2,s3,s4⟩:=smB_get hb
    rcases boE_cases lw fw lm fm n ls f a b c d with ⟨h,e1,e2,e3⟩ | ⟨ok,h,hr,e1,e2,e3⟩ | ⟨ok,h,h1,h2,e1,e2,e3⟩<;>rw [e1,e2,e3]
    · exact con_runV drawnC XA_ok rfl (das:=[.st [.sl 1 lw fw,.sl 1 lm fm,.rr 1 n ls f],.st [.i .i64 a,.i .i64 b],.st [.i .i64 c,.i .i64 d]]) (rBo1 lw fw lm fm n ls f a b c d s1 s2 s3 s4 h)
    · refine con_runV drawnC XA_ok rfl (das:=[.st [.sl 1 lw fw,.sl 1 lm fm,.rr 1 n ls f],.st [.i .i64 a,.i .i64 b],.st [.i .i64 c,.i .i64 d]]) (rBo2 lw fw lm fm n ls f a b c d s1 s2 s3 s4 h ok.w.two ok.m.two ?_)
      rw [last_n ok.w.two,last_n ok.m.two]
      intro q
      exact hr ⟨⟨q.1,⟨q.2.1,q.2.2.1⟩,⟨q.2.2.2.1,q.2.2.2.2.1⟩⟩,⟨q.2.2.2.2.2.1,⟨q.2.2.2.2.2.2.1,q.2.2.2.2.2.2.2.1⟩,⟨q.2.2.2.2.2.2.2.2.1,q.2.2.2.2.2.2.2.2.2⟩⟩⟩
    · refine con_runV drawnC XA_ok rfl (das:=[.st [.sl 1 lw fw,.sl 1 lm fm,.rr 1 n ls f],.st [.i .i64 a,.i .i64 b],.st [.i .i64 c,.i .i64 d]]) (rBo3 lw fw lm fm n ls f a b c d s1 s2 s3 s4 h ok.w.two ok.m.two ?_ (pts_ok ok h1 h2))
      rw [last_n ok.w.two,last_n ok.m.two]
      exact ⟨h1.1,h1.2.1.1,h1.2.1.2,h1.2.2.1,h1.2.2.2,h2.1,h2.2.1.1,h2.2.1.2,h2.2.2.1,h2.2.2.2⟩
  · cases hv
end
end Go.Proofs.YtclagbonpachfaaGreat
