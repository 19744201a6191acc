/- Casks: the water for a strength, as a contract. -/
import Derived.Test.YtclagbonpachfaaGreatYPrS4
import Derived.Test.YtclagbonpachfaaGreatYEe
set_option linter.all false
set_option linter.unusedSimpArgs false
set_option linter.unusedVariables false
namespace Go.Proofs.YtclagbonpachfaaGreat
namespace BL
open Go Go.Ev
set_option maxRecDepth 1000000
set_option maxHeartbeats 0
noncomputable section
variable (lw:Nat) (fw:Nat→Nat→Int) (lm:Nat) (fm:Nat→Nat→Int) (n:Nat) (ls:Nat→Nat) (f:Nat→Nat→Nat→Int)
def XWf:Ext:=conX [(46,cf valBe)] false
theorem XWf_ok:ExtOK Tryz.prog XWf:=conX_ok (allCon_cons (con_ok conBe) allCon_nil)
def ltF:LT:=⟨[1,2,3,11,12],[],[6,7],8⟩
def baseF' (lw:Nat) (fw:Nat→Nat→Int) (lm:Nat) (fm:Nat→Nat→Int) (n:Nat) (ls:Nat→Nat) (f:Nat→Nat→Nat→Int) (r:Int) (nc:Nat) (fc:Nat→Nat→Int) (l0 l1 l2 l3 l4 l5 h0 h1 h2 h3 h4 h5:Int):EH:=⟨setAt [(6,encL [.sl 1 lw fw,.sl 1 lm fm,.rr 1 n ls f,.i .i64 r,.sl 5 nc fc,.i .i64 l0,.i .i64 l1,.i .i64 l2,.i .i64 l3,.i .i64 l4,.i .i64 l5,.i .i64 h0,.i .i64 h1,.i .i64 h2,.i .i64 h3,.i .i64 h4,.i .i64 h5] 0),(7,[.int .i64 0,.int .i64 99])] .lf,8,.lf,7⟩
def sF (k:Nat) (g:Nat→Nat→Int) (x:Int) (i:Nat):LS:=⟨[.fz true 4 (cellsI .i64 g) k 1,.int .i64 x,.ptr 6 0,.int .i64 100,.int .i64 i],[]⟩
def bF:Code:=sub [1,0,1,0,0] (bodyOf Tryz.prog 39)
def xF:Lv := .exit 0 ⟨[],[]⟩
def yF (i:Nat):Lv := .ret ⟨[.int .i64 i,.bool true],[]⟩
theorem eF (r:Int) (nc:Nat) (fc:Nat→Nat→Int) (l0 l1 l2 l3 l4 l5 h0 h1 h2 h3 h4 h5:Int) (k:Nat) (g:Nat→Nat→Int) (x:Int):VC (entD Tryz.prog XWf 300 39 [1,0,1,0] [.st [.sl 1 lw fw,.sl 1 lm fm,.rr 1 n ls f,.i .i64 r,.sl 5 nc fc,.i .i64 l0,.i .i64 l1,.i .i64 l2,.i .i64 l3,.i .i64 l4,.i .i64 l5,.i .i64 h0,.i .i64 h1,.i .i64 h2,.i .i64 h3,.i .i64 h4,.i .i64 h5],.one (.sl 1 k g),.one (.i .i64 x)] (baseF' lw fw lm fm n ls f r nc fc l0 l1 l2 l3 l4 l5 h0 h1 h2 h3 h4 h5) ltF 24 60 (sF k g x 0)) .nil:=VC_of (((True∧((True∧((True∧((((((0):Int)=(0))∧(((((99):Int)=(99))∧(True∧True))∧True))∧(True∧True))∧True))∧True))∧(True∧(True∧(((((V.fz true 0 (cellsI .i64 fw) lw 1):V)=(V.fz true 0 (cellsI .i64 fw) lw 1))∧(((((V.fz true 1 (cellsI .i64 fm) lm 1):V)=(V.fz true 1 (cellsI .i64 fm) lm 1))∧((((r:Int)=r)∧((((l2:Int)=l2)∧((((h4:Int)=h4)∧(True∧True))∧True))∧(((h0:Int)=h0)∧(True∧True))))∧(((l0:Int)=l0)∧((((l4:Int)=l4)∧(True∧True))∧(((h2:Int)=h2)∧(True∧True))))))∧((((V.fz true 2 (rowsI 2 1 ls f) n 1):V)=(V.fz true 2 (rowsI 2 1 ls f) n 1))∧(((((V.fz true 3 (cellsI .i64 fc) nc 5):V)=(V.fz true 3 (cellsI .i64 fc) nc 5))∧((((l3:Int)=l3)∧((((h5:Int)=h5)∧(True∧True))∧True))∧(((h1:Int)=h1)∧(True∧True))))∧(((l1:Int)=l1)∧((((l5:Int)=l5)∧(True∧True))∧(((h3:Int)=h3)∧(True∧True))))))))∧(True∧True))))))∧(((((V.fz true 4 (cellsI .i64 g) k 1):V)=(V.fz true 4 (cellsI .i64 g) k 1))∧(((x:Int)=x)∧((((V.ptr 6 0):V)=(V.ptr 6 0))∧((((100):Int)=(100))∧((((0):Int)=(0))∧True)))))∧True)))
theorem rF1 (r:Int) (nc:Nat) (fc:Nat→Nat→Int) (l0 l1 l2 l3 l4 l5 h0 h1 h2 h3 h4 h5:Int) (k:Nat) (g:Nat→Nat→Int) (x:Int) (i:Nat) (z1:i<100) (c1:blB nc fc k g ((i:Nat):Int) l0 l1 l2 l3 l4 l5=true) (c2:blB nc fc k g ((i:Nat):Int) h0 h1 h2 h3 h4 h5=true) (q:¬ blV fc g ((i:Nat):Int) h0 h1 h2 h3 h4 h5 k≤x):VC (roundD Tryz.prog XWf 300 bF (baseF' lw fw lm fm n ls f r nc fc l0 l1 l2 l3 l4 l5 h0 h1 h2 h3 h4 h5) ltF 24 60 (sF k g x i) (.next (sF k g x (i+1)))) (.go 357 .nil):=VC_of (((not (iLe (100) ((i:Nat):Int)))=true∧((cond (cond (cond (allI .i64 (cellsI .i64 fw) lw 1) (cond (allI .i64 (cellsI .i64 fm) lm 1) (cond (cond true (allR 2 (rowsI 2 1 ls f) n 1) false) (cond (allI .i64 (cellsI .i64 fc) nc 5) true false) false) false) false) (cond (allI .i64 (cellsI .i64 g) k 1) true false) false) (cond (BL.blB nc fc k g ((i:Nat):Int) l0 l1 l2 l3 l4 l5) (BL.blB nc fc k g ((i:Nat):Int) h0 h1 h2 h3 h4 h5) false) false)=true∧((iLe (BL.blV fc g ((i:Nat):Int) h0 h1 h2 h3 h4 h5 k) x)=false∧((small (((i:Nat):Int)+(1)))=true∧(((((V.fz true 4 (cellsI .i64 g) k 1):V)=(V.fz true 4 (cellsI .i64 g) k 1))∧(((x:Int)=x)∧((((V.ptr 6 0):V)=(V.ptr 6 0))∧((((100):Int)=(100))∧((((((i:Nat):Int)+(1)):Int)=(((i+1):Nat):Int))∧True)))))∧True))))))
theorem rF2 (r:Int) (nc:Nat) (fc:Nat→Nat→Int) (l0 l1 l2 l3 l4 l5 h0 h1 h2 h3 h4 h5:Int) (k:Nat) (g:Nat→Nat→Int) (x:Int) (i:Nat) (z1:i<100) (c1:blB nc fc k g ((i:Nat):Int) l0 l1 l2 l3 l4 l5=true) (c2:blB nc fc k g ((i:Nat):Int) h0 h1 h2 h3 h4 h5=true) (q:blV fc g ((i:Nat):Int) h0 h1 h2 h3 h4 h5 k≤x):VC (roundD Tryz.prog XWf 300 bF (baseF' lw fw lm fm n ls f r nc fc l0 l1 l2 l3 l4 l5 h0 h1 h2 h3 h4 h5) ltF 24 60 (sF k g x i) (yF i)) (.go 85 .nil):=VC_of (((not (iLe (100) ((i:Nat):Int)))=true∧((cond (cond (cond (allI .i64 (cellsI .i64 fw) lw 1) (cond (allI .i64 (cellsI .i64 fm) lm 1) (cond (cond true (allR 2 (rowsI 2 1 ls f) n 1) false) (cond (allI .i64 (cellsI .i64 fc) nc 5) true false) false) false) false) (cond (allI .i64 (cellsI .i64 g) k 1) true false) false) (cond (BL.blB nc fc k g ((i:Nat):Int) l0 l1 l2 l3 l4 l5) (BL.blB nc fc k g ((i:Nat):Int) h0 h1 h2 h3 h4 h5) false) false)=true∧((iLe (BL.blV fc g ((i:Nat):Int) h0 h1 h2 h3 h4 h5 k) x)=true∧((((((i:Nat):Int):Int)=((i:Nat):Int))∧((true=true)∧True))∧True)))))
theorem rF3 (r:Int) (nc:Nat) (fc:Nat→Nat→Int) (l0 l1 l2 l3 l4 l5 h0 h1 h2 h3 h4 h5:Int) (k:Nat) (g:Nat→Nat→Int) (x:Int) (i:Nat) (z1:¬ i<100):VC (roundD Tryz.prog XWf 300 bF (baseF' lw fw lm fm n ls f r nc fc l0 l1 l2 l3 l4 l5 h0 h1 h2 h3 h4 h5) ltF 24 60 (sF k g x i) xF) (.go 6 .nil):=VC_of (((not (iLe (100) ((i:Nat):Int)))=false∧(True∧True)))
theorem fF1 (r:Int) (nc:Nat) (fc:Nat→Nat→Int) (l0 l1 l2 l3 l4 l5 h0 h1 h2 h3 h4 h5:Int):VC (fromD Tryz.prog XWf 300 39 [1,0,1,0] (Lv.res ltF 24 (endH (baseF' lw fw lm fm n ls f r nc fc l0 l1 l2 l3 l4 l5 h0 h1 h2 h3 h4 h5) ltF 60 xF) xF) (.tup [.int .i64 0,.bool false])) .nil:=VC_of (((((0):Int)=(0))∧((false=false)∧True)))
theorem fF2 (r:Int) (nc:Nat) (fc:Nat→Nat→Int) (l0 l1 l2 l3 l4 l5 h0 h1 h2 h3 h4 h5:Int) (i:Nat):VC (fromD Tryz.prog XWf 300 39 [1,0,1,0] (Lv.res ltF 24 (endH (baseF' lw fw lm fm n ls f r nc fc l0 l1 l2 l3 l4 l5 h0 h1 h2 h3 h4 h5) ltF 60 (yF i)) (yF i)) (.tup [.int .i64 i,.bool true])) .nil:=VC_of ((((((i:Nat):Int):Int)=((i:Nat):Int))∧((true=true)∧True)))
def fsN (p:Nat→Bool):Nat→Nat→Nat
  | 0,i=>i
  | k+1,i=>cond (p i) i (fsN p k (i+1))
def wpB (fc:Nat→Nat→Int) (k:Nat) (g:Nat→Nat→Int) (x h0 h1 h2 h3 h4 h5:Int) (i:Nat):Bool:=iLe (blV fc g ((i:Nat):Int) h0 h1 h2 h3 h4 h5 k) x
def wfN (fc:Nat→Nat→Int) (k:Nat) (g:Nat→Nat→Int) (x h0 h1 h2 h3 h4 h5:Int):Nat:=fsN (wpB fc k g x h0 h1 h2 h3 h4 h5) 100 0
def wfB (fc:Nat→Nat→Int) (k:Nat) (g:Nat→Nat→Int) (x h0 h1 h2 h3 h4 h5:Int):Bool:=Nat.blt (wfN fc k g x h0 h1 h2 h3 h4 h5) 100
def wfI (fc:Nat→Nat→Int) (k:Nat) (g:Nat→Nat→Int) (x h0 h1 h2 h3 h4 h5:Int):Int:=cond (wfB fc k g x h0 h1 h2 h3 h4 h5) ((wfN fc k g x h0 h1 h2 h3 h4 h5:Nat):Int) 0
def wfO (nc:Nat) (fc:Nat→Nat→Int) (k:Nat) (g:Nat→Nat→Int) (l0 l1 l2 l3 l4 l5 h0 h1 h2 h3 h4 h5:Int):Bool:=allN (fun i=>cond (blB nc fc k g ((i:Nat):Int) l0 l1 l2 l3 l4 l5) (blB nc fc k g ((i:Nat):Int) h0 h1 h2 h3 h4 h5) false) 100
def valWf:Val:=fun das=>match das with | [.st [.sl 1 lw fw,.sl 1 lm fm,.rr 1 n ls f,.i .i64 r,.sl 5 nc fc,.i .i64 l0,.i .i64 l1,.i .i64 l2,.i .i64 l3,.i .i64 l4,.i .i64 l5,.i .i64 h0,.i .i64 h1,.i .i64 h2,.i .i64 h3,.i .i64 h4,.i .i64 h5],.one (.sl 1 k g),.one (.i .i64 x)]=>some (wfO nc fc k g l0 l1 l2 l3 l4 l5 h0 h1 h2 h3 h4 h5,.tup [.int .i64 (wfI fc k g x h0 h1 h2 h3 h4 h5),.bool (wfB fc k g x h0 h1 h2 h3 h4 h5)]) | _=>none
theorem fsN_at {p:Nat→Bool}:∀ {k i N:Nat},i≤N→N<i+k→(∀ j,i≤j→j<N→p j=false)→p N=true→fsN p k i=N:=by
  intro k
  induction k with
  | zero=>intro i N h1 h2;omega
  | succ k ih =>
    intro i N h1 h2 h3 h4
    unfold fsN
    by_cases e:i=N
    · subst e;rw [h4];rfl
    · rw [h3 i (Nat.le_refl i) (by omega)]
      exact ih (by omega) (by omega) (fun j q1 q2=>h3 j (by omega) q2) h4
theorem fsN_no {p:Nat→Bool}:∀ {k i:Nat},(∀ j,i≤j→j<i+k→p j=false)→fsN p k i=i+k:=by
  intro k
  induction k with
  | zero=>intro i _;rfl
  | succ k ih =>
    intro i h
    unfold fsN
    rw [h i (Nat.le_refl i) (by omega)]
    show fsN p k (i+1)=_
    rw [ih (fun j q1 q2=>h j (by omega) (by omega))];omega
theorem fsN_sp {p:Nat→Bool} {k i:Nat}:(fsN p k i=i+k∧∀ j,i≤j→j<i+k→p j=false)∨(i≤fsN p k i∧fsN p k i<i+k∧p (fsN p k i)=true∧∀ j,i≤j→j<fsN p k i→p j=false):=by
  rcases first_bad (fun j=>not (p (i+j))) k with h | ⟨N,z1,z2,z3⟩
  · refine .inl ⟨fsN_no fun j q1 q2=>?_,fun j q1 q2=>?_⟩ <;>
    · have:=h (j-i) (by omega)
      rw [show i+(j-i)=j by omega] at this
      cases e:p j with
      | false=>rfl
      | true=>rw [e] at this;cases this
  · have hp:p (i+N)=true:=by
      cases e:p (i+N) with
      | true=>rfl
      | false=>rw [e] at z3;cases z3
    have hb:∀ j,i≤j→j<i+N→p j=false:=fun j q1 q2=>by
      have:=z2 (j-i) (by omega)
      rw [show i+(j-i)=j by omega] at this
      cases e:p j with
      | false=>rfl
      | true=>rw [e] at this;cases this
    have e:fsN p k i=i+N:=fsN_at (by omega) (by omega) hb hp
    rw [e]
    exact .inr ⟨by omega,by omega,hp,hb⟩
theorem conWf:Con Tryz.prog 39 valWf:=by
  intro das v hv
  unfold valWf at hv
  split at hv
  · rename_i lw fw lm fm n ls f r nc fc l0 l1 l2 l3 l4 l5 h0 h1 h2 h3 h4 h5 k g x
    have hb:=congrArg Prod.fst (Option.some.inj hv)
    have hv:=congrArg Prod.snd (Option.some.inj hv)
    subst hv
    have hB:∀ i,i<100→blB nc fc k g ((i:Nat):Int) l0 l1 l2 l3 l4 l5=true∧blB nc fc k g ((i:Nat):Int) h0 h1 h2 h3 h4 h5=true:=fun i hi=>cond_tt (allN_get (show allN (fun i=>cond (blB nc fc k g ((i:Nat):Int) l0 l1 l2 l3 l4 l5) (blB nc fc k g ((i:Nat):Int) h0 h1 h2 h3 h4 h5) false) 100=true from hb) i hi)
    refine ⟨rfl,?_⟩
    have rd:∀ i,i<100→wpB fc k g x h0 h1 h2 h3 h4 h5 i=false→JL Tryz.prog (baseF' lw fw lm fm n ls f r nc fc l0 l1 l2 l3 l4 l5 h0 h1 h2 h3 h4 h5) ltF 24 60 none bF (sF k g x i) (.next (sF k g x (i+1))):=fun i hi q =>
      round_of drawnC XWf_ok (rF1 lw fw lm fm n ls f r nc fc l0 l1 l2 l3 l4 l5 h0 h1 h2 h3 h4 h5 k g x i hi (hB i hi).1 (hB i hi).2 (by intro z;rw [show wpB fc k g x h0 h1 h2 h3 h4 h5 i=true from (iLe_t _ _).mpr z] at q;cases q)).ok (by kernel_rfl) (by kernel_rfl)
    rcases fsN_sp (p:=wpB fc k g x h0 h1 h2 h3 h4 h5) (k:=100) (i:=0) with ⟨e,h⟩ | ⟨_,z1,z2,z3⟩
    · have e1:wfB fc k g x h0 h1 h2 h3 h4 h5=false:=by unfold wfB wfN;rw [e];rfl
      have e2:wfI fc k g x h0 h1 h2 h3 h4 h5=0:=by unfold wfI;rw [e1];rfl
      rw [e1,e2]
      exact con_loopD drawnC XWf_ok (das:=[.st [.sl 1 lw fw,.sl 1 lm fm,.rr 1 n ls f,.i .i64 r,.sl 5 nc fc,.i .i64 l0,.i .i64 l1,.i .i64 l2,.i .i64 l3,.i .i64 l4,.i .i64 l5,.i .i64 h0,.i .i64 h1,.i .i64 h2,.i .i64 h3,.i .i64 h4,.i .i64 h5],.one (.sl 1 k g),.one (.i .i64 x)]) (lv:=xF) (by kernel_rfl) (by kernel_rfl) (eF lw fw lm fm n ls f r nc fc l0 l1 l2 l3 l4 l5 h0 h1 h2 h3 h4 h5 k g x).ok (loop_rule (body:=bF) (fun _ e=>by cases e) 100 (sF k g x) (fun i hi=>rd i hi (h i (by omega) (by omega))) (round_of drawnC XWf_ok (rF3 lw fw lm fm n ls f r nc fc l0 l1 l2 l3 l4 l5 h0 h1 h2 h3 h4 h5 k g x 100 (by omega)).ok (by kernel_rfl) (by kernel_rfl))) (fF1 lw fw lm fm n ls f r nc fc l0 l1 l2 l3 l4 l5 h0 h1 h2 h3 h4 h5).ok
    · have hN:wfN fc k g x h0 h1 h2 h3 h4 h5<100:=by unfold wfN;omega
      have e1:wfB fc k g x h0 h1 h2 h3 h4 h5=true:=blt_t' hN
      have e2:wfI fc k g x h0 h1 h2 h3 h4 h5=((wfN fc k g x h0 h1 h2 h3 h4 h5:Nat):Int):=by unfold wfI;rw [e1];rfl
      rw [e1,e2]
      exact con_loopD drawnC XWf_ok (das:=[.st [.sl 1 lw fw,.sl 1 lm fm,.rr 1 n ls f,.i .i64 r,.sl 5 nc fc,.i .i64 l0,.i .i64 l1,.i .i64 l2,.i .i64 l3,.i .i64 l4,.i .i64 l5,.i .i64 h0,.i .i64 h1,.i .i64 h2,.i .i64 h3,.i .i64 h4,.i .i64 h5],.one (.sl 1 k g),.one (.i .i64 x)]) (lv:=yF (wfN fc k g x h0 h1 h2 h3 h4 h5)) (by kernel_rfl) (by kernel_rfl) (eF lw fw lm fm n ls f r nc fc l0 l1 l2 l3 l4 l5 h0 h1 h2 h3 h4 h5 k g x).ok (loop_rule (body:=bF) (fun _ e=>by cases e) (wfN fc k g x h0 h1 h2 h3 h4 h5) (sF k g x) (fun i hi=>rd i (by omega) (z3 i (by omega) hi)) (round_of drawnC XWf_ok (rF2 lw fw lm fm n ls f r nc fc l0 l1 l2 l3 l4 l5 h0 h1 h2 h3 h4 h5 k g x (wfN fc k g x h0 h1 h2 h3 h4 h5) hN (hB _ hN).1 (hB _ hN).2 ((iLe_t _ _).mp z2)).ok (by kernel_rfl) (by kernel_rfl))) (fF2 lw fw lm fm n ls f r nc fc l0 l1 l2 l3 l4 l5 h0 h1 h2 h3 h4 h5 _).ok
  · cases hv
def XWa:Ext:=conX [(35,cf valCs),(38,cfS valNw),(36,cf valHb),(39,cf valWf)] false
theorem XWa_ok:ExtOK Tryz.prog XWa:=conX_ok (allCon_cons (con_ok conCs)<|allCon_cons (con_okS conNw)<|allCon_cons (con_ok conHb)<|allCon_cons (con_ok conWf) allCon_nil)
theorem wa1 (r:Int) (nc:Nat) (fc:Nat→Nat→Int) (m:Nat) (g:Nat→Nat→Int) (x:Int) (s:smB lw lm n ls=true) (kn:nc≤1000) (km:m≤1000) (h:¬ ckE lw fw lm fm n ls f r nc fc=0):VC (runD0 Tryz.prog XWa 300 9 (enc [.st [.sl 1 lw fw,.sl 1 lm fm,.rr 1 n ls f,.i .i64 r,.sl 5 nc fc],.one (.sl 1 m g),.one (.i .i64 x)] 0) 5 (fun v=>valP v (.tup [.int .i64 0,.int .i64 (ckE lw fw lm fm n ls f r nc fc)]))) (.go 21 .nil):=VC_of (((cond (cond (cond (allI .i64 (cellsI .i64 fw) lw 1) (cond (allI .i64 (cellsI .i64 fm) lm 1) (cond (cond true (allR 2 (rowsI 2 1 ls f) n 1) false) (cond (allI .i64 (cellsI .i64 fc) nc 5) true false) false) false) false) true false) (cond (smB lw lm n ls) (Nat.ble nc 1000) false) false)=true∧((not (iEq (ckE lw fw lm fm n ls f r nc fc) (0)))=true∧((((0):Int)=(0))∧((((ckE lw fw lm fm n ls f r nc fc):Int)=(ckE lw fw lm fm n ls f r nc fc))∧True)))))
theorem wa2 (r:Int) (nc:Nat) (fc:Nat→Nat→Int) (m:Nat) (g:Nat→Nat→Int) (x:Int) (s:smB lw lm n ls=true) (h:ckE lw fw lm fm n ls f r nc fc=0) (h1:tabE lw fw lm fm n ls f=0) (h2:nc≤6) (h3:acB lw fw lm fm fc nc=true) (km:m≤1000) (h4:hbB nc g m=false):VC (runD0 Tryz.prog XWa 300 9 (enc [.st [.sl 1 lw fw,.sl 1 lm fm,.rr 1 n ls f,.i .i64 r,.sl 5 nc fc],.one (.sl 1 m g),.one (.i .i64 x)] 0) 5 (fun v=>valP v (.tup [.int .i64 0,.int .i64 2]))) (.go 345 .nil):=VC_of (((cond (cond (cond (allI .i64 (cellsI .i64 fw) lw 1) (cond (allI .i64 (cellsI .i64 fm) lm 1) (cond (cond true (allR 2 (rowsI 2 1 ls f) n 1) false) (cond (allI .i64 (cellsI .i64 fc) nc 5) true false) false) false) false) true false) (cond (smB lw lm n ls) (Nat.ble nc 1000) false) false)=true∧((not (iEq (ckE lw fw lm fm n ls f r nc fc) (0)))=false∧((cond (cond (cond (allI .i64 (cellsI .i64 fw) lw 1) (cond (allI .i64 (cellsI .i64 fm) lm 1) (cond (cond true (allR 2 (rowsI 2 1 ls f) n 1) false) (cond (allI .i64 (cellsI .i64 fc) nc 5) true false) false) false) false) (cond (allI .i64 (cellsI .i64 g) m 1) true false) false) (cond (Nat.ble nc 1000000) (Nat.ble m 1000000) false) false)=true∧((not (BL.hbB nc g m))=true∧((((0):Int)=(0))∧((((2):Int)=(2))∧True)))))))
theorem wa3 (r:Int) (nc:Nat) (fc:Nat→Nat→Int) (m:Nat) (g:Nat→Nat→Int) (x:Int) (s:smB lw lm n ls=true) (h:ckE lw fw lm fm n ls f r nc fc=0) (h1:tabE lw fw lm fm n ls f=0) (h2:nc≤6) (h3:acB lw fw lm fm fc nc=true) (km:m≤1000) (h4:hbB nc g m=true) (h5:¬ 1≤x):VC (runD0 Tryz.prog XWa 300 9 (enc [.st [.sl 1 lw fw,.sl 1 lm fm,.rr 1 n ls f,.i .i64 r,.sl 5 nc fc],.one (.sl 1 m g),.one (.i .i64 x)] 0) 5 (fun v=>valP v (.tup [.int .i64 0,.int .i64 2]))) (.go 24729 .nil):=VC_of (((cond (cond (cond (allI .i64 (cellsI .i64 fw) lw 1) (cond (allI .i64 (cellsI .i64 fm) lm 1) (cond (cond true (allR 2 (rowsI 2 1 ls f) n 1) false) (cond (allI .i64 (cellsI .i64 fc) nc 5) true false) false) false) false) true false) (cond (smB lw lm n ls) (Nat.ble nc 1000) false) false)=true∧((not (iEq (ckE lw fw lm fm n ls f r nc fc) (0)))=false∧((cond (cond (cond (allI .i64 (cellsI .i64 fw) lw 1) (cond (allI .i64 (cellsI .i64 fm) lm 1) (cond (cond true (allR 2 (rowsI 2 1 ls f) n 1) false) (cond (allI .i64 (cellsI .i64 fc) nc 5) true false) false) false) false) (cond (allI .i64 (cellsI .i64 g) m 1) true false) false) (cond (Nat.ble nc 1000000) (Nat.ble m 1000000) false) false)=true∧((not (BL.hbB nc g m))=false∧((iLe (1) x)=false∧((((0):Int)=(0))∧((((2):Int)=(2))∧True))))))))
theorem wa4 (r:Int) (nc:Nat) (fc:Nat→Nat→Int) (m:Nat) (g:Nat→Nat→Int) (x:Int) (s:smB lw lm n ls=true) (h:ckE lw fw lm fm n ls f r nc fc=0) (h1:tabE lw fw lm fm n ls f=0) (h2:nc≤6) (h3:acB lw fw lm fm fc nc=true) (km:m≤1000) (h4:hbB nc g m=true) (h5:1≤x) (h6:¬ x≤2000):VC (runD0 Tryz.prog XWa 300 9 (enc [.st [.sl 1 lw fw,.sl 1 lm fm,.rr 1 n ls f,.i .i64 r,.sl 5 nc fc],.one (.sl 1 m g),.one (.i .i64 x)] 0) 5 (fun v=>valP v (.tup [.int .i64 0,.int .i64 2]))) (.go 335548569 .nil):=VC_of (((cond (cond (cond (allI .i64 (cellsI .i64 fw) lw 1) (cond (allI .i64 (cellsI .i64 fm) lm 1) (cond (cond true (allR 2 (rowsI 2 1 ls f) n 1) false) (cond (allI .i64 (cellsI .i64 fc) nc 5) true false) false) false) false) true false) (cond (smB lw lm n ls) (Nat.ble nc 1000) false) false)=true∧((not (iEq (ckE lw fw lm fm n ls f r nc fc) (0)))=false∧((cond (cond (cond (allI .i64 (cellsI .i64 fw) lw 1) (cond (allI .i64 (cellsI .i64 fm) lm 1) (cond (cond true (allR 2 (rowsI 2 1 ls f) n 1) false) (cond (allI .i64 (cellsI .i64 fc) nc 5) true false) false) false) false) (cond (allI .i64 (cellsI .i64 g) m 1) true false) false) (cond (Nat.ble nc 1000000) (Nat.ble m 1000000) false) false)=true∧((not (BL.hbB nc g m))=false∧((iLe (1) x)=true∧((not (iLe x (2000)))=true∧((((0):Int)=(0))∧((((2):Int)=(2))∧True)))))))))
theorem wa5 (r:Int) (nc:Nat) (fc:Nat→Nat→Int) (m:Nat) (g:Nat→Nat→Int) (x:Int) (s:smB lw lm n ls=true) (h:ckE lw fw lm fm n ls f r nc fc=0) (h1:tabE lw fw lm fm n ls f=0) (h2:nc≤6) (h3:acB lw fw lm fm fc nc=true) (km:m≤1000) (h4:hbB nc g m=true) (h5:1≤x) (h6:x≤2000) (b1:wfO nc fc m g (loV lw fw lm fm f nc fc 0) (loV lw fw lm fm f nc fc 1) (loV lw fw lm fm f nc fc 2) (loV lw fw lm fm f nc fc 3) (loV lw fw lm fm f nc fc 4) (loV lw fw lm fm f nc fc 5) (hiV lw fw lm fm f nc fc 0) (hiV lw fw lm fm f nc fc 1) (hiV lw fw lm fm f nc fc 2) (hiV lw fw lm fm f nc fc 3) (hiV lw fw lm fm f nc fc 4) (hiV lw fw lm fm f nc fc 5)=true) (b2:wfB fc m g x (hiV lw fw lm fm f nc fc 0) (hiV lw fw lm fm f nc fc 1) (hiV lw fw lm fm f nc fc 2) (hiV lw fw lm fm f nc fc 3) (hiV lw fw lm fm f nc fc 4) (hiV lw fw lm fm f nc fc 5)=false):VC (runD0 Tryz.prog XWa 300 9 (enc [.st [.sl 1 lw fw,.sl 1 lm fm,.rr 1 n ls f,.i .i64 r,.sl 5 nc fc],.one (.sl 1 m g),.one (.i .i64 x)] 0) 5 (fun v=>valP v (.tup [.int .i64 0,.int .i64 10]))) (.go 22951235737 .nil):=VC_of (((cond (cond (cond (allI .i64 (cellsI .i64 fw) lw 1) (cond (allI .i64 (cellsI .i64 fm) lm 1) (cond (cond true (allR 2 (rowsI 2 1 ls f) n 1) false) (cond (allI .i64 (cellsI .i64 fc) nc 5) true false) false) false) false) true false) (cond (smB lw lm n ls) (Nat.ble nc 1000) false) false)=true∧((not (iEq (ckE lw fw lm fm n ls f r nc fc) (0)))=false∧((cond (cond (cond (allI .i64 (cellsI .i64 fw) lw 1) (cond (allI .i64 (cellsI .i64 fm) lm 1) (cond (cond true (allR 2 (rowsI 2 1 ls f) n 1) false) (cond (allI .i64 (cellsI .i64 fc) nc 5) true false) false) false) false) (cond (allI .i64 (cellsI .i64 g) m 1) true false) false) (cond (Nat.ble nc 1000000) (Nat.ble m 1000000) false) false)=true∧((not (BL.hbB nc g m))=false∧((iLe (1) x)=true∧((not (iLe x (2000)))=false∧((cond (cond (cond (allI .i64 (cellsI .i64 fw) lw 1) (cond (allI .i64 (cellsI .i64 fm) lm 1) (cond (cond true (allR 2 (rowsI 2 1 ls f) n 1) false) (cond (allI .i64 (cellsI .i64 fc) nc 5) true false) false) false) false) true false) (cond (iEq (tabE lw fw lm fm n ls f) (0)) (cond (Nat.ble nc 6) (acB lw fw lm fm fc nc) false) false) false)=true∧((cond (cond (cond (allI .i64 (cellsI .i64 fw) lw 1) (cond (allI .i64 (cellsI .i64 fm) lm 1) (cond (cond true (allR 2 (rowsI 2 1 ls f) n 1) false) (cond (allI .i64 (cellsI .i64 fc) nc 5) true false) false) false) false) (cond (allI .i64 (cellsI .i64 g) m 1) true false) false) (BL.wfO nc fc m g (loV lw fw lm fm f nc fc 0) (loV lw fw lm fm f nc fc 1) (loV lw fw lm fm f nc fc 2) (loV lw fw lm fm f nc fc 3) (loV lw fw lm fm f nc fc 4) (loV lw fw lm fm f nc fc 5) (hiV lw fw lm fm f nc fc 0) (hiV lw fw lm fm f nc fc 1) (hiV lw fw lm fm f nc fc 2) (hiV lw fw lm fm f nc fc 3) (hiV lw fw lm fm f nc fc 4) (hiV lw fw lm fm f nc fc 5)) false)=true∧((not (BL.wfB fc m g x (hiV lw fw lm fm f nc fc 0) (hiV lw fw lm fm f nc fc 1) (hiV lw fw lm fm f nc fc 2) (hiV lw fw lm fm f nc fc 3) (hiV lw fw lm fm f nc fc 4) (hiV lw fw lm fm f nc fc 5)))=true∧((((0):Int)=(0))∧((((10):Int)=(10))∧True))))))))))))
theorem wa6 (r:Int) (nc:Nat) (fc:Nat→Nat→Int) (m:Nat) (g:Nat→Nat→Int) (x:Int) (s:smB lw lm n ls=true) (h:ckE lw fw lm fm n ls f r nc fc=0) (h1:tabE lw fw lm fm n ls f=0) (h2:nc≤6) (h3:acB lw fw lm fm fc nc=true) (km:m≤1000) (h4:hbB nc g m=true) (h5:1≤x) (h6:x≤2000) (b1:wfO nc fc m g (loV lw fw lm fm f nc fc 0) (loV lw fw lm fm f nc fc 1) (loV lw fw lm fm f nc fc 2) (loV lw fw lm fm f nc fc 3) (loV lw fw lm fm f nc fc 4) (loV lw fw lm fm f nc fc 5) (hiV lw fw lm fm f nc fc 0) (hiV lw fw lm fm f nc fc 1) (hiV lw fw lm fm f nc fc 2) (hiV lw fw lm fm f nc fc 3) (hiV lw fw lm fm f nc fc 4) (hiV lw fw lm fm f nc fc 5)=true) (b2:wfB fc m g x (hiV lw fw lm fm f nc fc 0) (hiV lw fw lm fm f nc fc 1) (hiV lw fw lm fm f nc fc 2) (hiV lw fw lm fm f nc fc 3) (hiV lw fw lm fm f nc fc 4) (hiV lw fw lm fm f nc fc 5)=true):VC (runD0 Tryz.prog XWa 300 9 (enc [.st [.sl 1 lw fw,.sl 1 lm fm,.rr 1 n ls f,.i .i64 r,.sl 5 nc fc],.one (.sl 1 m g),.one (.i .i64 x)] 0) 5 (fun v=>valP v (.tup [.int .i64 (wfI fc m g x (hiV lw fw lm fm f nc fc 0) (hiV lw fw lm fm f nc fc 1) (hiV lw fw lm fm f nc fc 2) (hiV lw fw lm fm f nc fc 3) (hiV lw fw lm fm f nc fc 4) (hiV lw fw lm fm f nc fc 5)),.int .i64 0]))) (.go 27246203033 .nil):=VC_of (((cond (cond (cond (allI .i64 (cellsI .i64 fw) lw 1) (cond (allI .i64 (cellsI .i64 fm) lm 1) (cond (cond true (allR 2 (rowsI 2 1 ls f) n 1) false) (cond (allI .i64 (cellsI .i64 fc) nc 5) true false) false) false) false) true false) (cond (smB lw lm n ls) (Nat.ble nc 1000) false) false)=true∧((not (iEq (ckE lw fw lm fm n ls f r nc fc) (0)))=false∧((cond (cond (cond (allI .i64 (cellsI .i64 fw) lw 1) (cond (allI .i64 (cellsI .i64 fm) lm 1) (cond (cond true (allR 2 (rowsI 2 1 ls f) n 1) false) (cond (allI .i64 (cellsI .i64 fc) nc 5) true false) false) false) false) (cond (allI .i64 (cellsI .i64 g) m 1) true false) false) (cond (Nat.ble nc 1000000) (Nat.ble m 1000000) false) false)=true∧((not (BL.hbB nc g m))=false∧((iLe (1) x)=true∧((not (iLe x (2000)))=false∧((cond (cond (cond (allI .i64 (cellsI .i64 fw) lw 1) (cond (allI .i64 (cellsI .i64 fm) lm 1) (cond (cond true (allR 2 (rowsI 2 1 ls f) n 1) false) (cond (allI .i64 (cellsI .i64 fc) nc 5) true false) false) false) false) true false) (cond (iEq (tabE lw fw lm fm n ls f) (0)) (cond (Nat.ble nc 6) (acB lw fw lm fm fc nc) false) false) false)=true∧((cond (cond (cond (allI .i64 (cellsI .i64 fw) lw 1) (cond (allI .i64 (cellsI .i64 fm) lm 1) (cond (cond true (allR 2 (rowsI 2 1 ls f) n 1) false) (cond (allI .i64 (cellsI .i64 fc) nc 5) true false) false) false) false) (cond (allI .i64 (cellsI .i64 g) m 1) true false) false) (BL.wfO nc fc m g (loV lw fw lm fm f nc fc 0) (loV lw fw lm fm f nc fc 1) (loV lw fw lm fm f nc fc 2) (loV lw fw lm fm f nc fc 3) (loV lw fw lm fm f nc fc 4) (loV lw fw lm fm f nc fc 5) (hiV lw fw lm fm f nc fc 0) (hiV lw fw lm fm f nc fc 1) (hiV lw fw lm fm f nc fc 2) (hiV lw fw lm fm f nc fc 3) (hiV lw fw lm fm f nc fc 4) (hiV lw fw lm fm f nc fc 5)) false)=true∧((not (BL.wfB fc m g x (hiV lw fw lm fm f nc fc 0) (hiV lw fw lm fm f nc fc 1) (hiV lw fw lm fm f nc fc 2) (hiV lw fw lm fm f nc fc 3) (hiV lw fw lm fm f nc fc 4) (hiV lw fw lm fm f nc fc 5)))=false∧((((BL.wfI fc m g x (hiV lw fw lm fm f nc fc 0) (hiV lw fw lm fm f nc fc 1) (hiV lw fw lm fm f nc fc 2) (hiV lw fw lm fm f nc fc 3) (hiV lw fw lm fm f nc fc 4) (hiV lw fw lm fm f nc fc 5)):Int)=(BL.wfI fc m g x (hiV lw fw lm fm f nc fc 0) (hiV lw fw lm fm f nc fc 1) (hiV lw fw lm fm f nc fc 2) (hiV lw fw lm fm f nc fc 3) (hiV lw fw lm fm f nc fc 4) (hiV lw fw lm fm f nc fc 5)))∧((((0):Int)=(0))∧True))))))))))))
def waE (lw:Nat) (fw:Nat→Nat→Int) (lm:Nat) (fm:Nat→Nat→Int) (n:Nat) (ls:Nat→Nat) (f:Nat→Nat→Nat→Int) (r:Int) (nc:Nat) (fc:Nat→Nat→Int) (m:Nat) (g:Nat→Nat→Int) (x:Int):Int:=cond (iEq (ckE lw fw lm fm n ls f r nc fc) 0) (cond (hbB nc g m) (cond (iLe 1 x) (cond (iLe x 2000) (cond (wfB fc m g x (hiV lw fw lm fm f nc fc 0) (hiV lw fw lm fm f nc fc 1) (hiV lw fw lm fm f nc fc 2) (hiV lw fw lm fm f nc fc 3) (hiV lw fw lm fm f nc fc 4) (hiV lw fw lm fm f nc fc 5)) 0 10) 2) 2) 2) (ckE lw fw lm fm n ls f r nc fc)
def waV (lw:Nat) (fw:Nat→Nat→Int) (lm:Nat) (fm:Nat→Nat→Int) (n:Nat) (ls:Nat→Nat) (f:Nat→Nat→Nat→Int) (r:Int) (nc:Nat) (fc:Nat→Nat→Int) (m:Nat) (g:Nat→Nat→Int) (x:Int):Int:=cond (iEq (waE lw fw lm fm n ls f r nc fc m g x) 0) (wfI fc m g x (hiV lw fw lm fm f nc fc 0) (hiV lw fw lm fm f nc fc 1) (hiV lw fw lm fm f nc fc 2) (hiV lw fw lm fm f nc fc 3) (hiV lw fw lm fm f nc fc 4) (hiV lw fw lm fm f nc fc 5)) 0
def valWa:Val:=fun das=>match das with | [.st [.sl 1 lw fw,.sl 1 lm fm,.rr 1 n ls f,.i .i64 r,.sl 5 nc fc],.one (.sl 1 m g),.one (.i .i64 x)]=>some (cond (smB lw lm n ls) (cond (Nat.ble nc 1000) (Nat.ble m 1000) false) false,.tup [.int .i64 (waV lw fw lm fm n ls f r nc fc m g x),.int .i64 (waE lw fw lm fm n ls f r nc fc m g x)]) | _=>none
theorem wf_ok (lw:Nat) (fw:Nat→Nat→Int) (lm:Nat) (fm:Nat→Nat→Int) (n:Nat) (ls:Nat→Nat) (f:Nat→Nat→Nat→Int) (r:Int) (nc:Nat) (fc:Nat→Nat→Int) (m:Nat) (g:Nat→Nat→Int) (x:Int) (ok:StOk lw fw lm fm n ls f r nc fc) (hb:hbB nc g m=true) (km:m≤1000):wfO nc fc m g (loV lw fw lm fm f nc fc 0) (loV lw fw lm fm f nc fc 1) (loV lw fw lm fm f nc fc 2) (loV lw fw lm fm f nc fc 3) (loV lw fw lm fm f nc fc 4) (loV lw fw lm fm f nc fc 5) (hiV lw fw lm fm f nc fc 0) (hiV lw fw lm fm f nc fc 1) (hiV lw fw lm fm f nc fc 2) (hiV lw fw lm fm f nc fc 3) (hiV lw fw lm fm f nc fc 4) (hiV lw fw lm fm f nc fc 5)=true:=allN_true fun i hi =>
  cond_mk (bl_mk lw fw lm fm n ls f r nc fc m g ((i:Nat):Int) ok (tn_lo lw fw lm fm n ls f r nc fc ok) hb km (by omega) (by omega)) (bl_mk lw fw lm fm n ls f r nc fc m g ((i:Nat):Int) ok (tn_hi lw fw lm fm n ls f r nc fc ok) hb km (by omega) (by omega))
theorem waE_cases (lw:Nat) (fw:Nat→Nat→Int) (lm:Nat) (fm:Nat→Nat→Int) (n:Nat) (ls:Nat→Nat) (f:Nat→Nat→Nat→Int) (r:Int) (nc:Nat) (fc:Nat→Nat→Int) (m:Nat) (g:Nat→Nat→Int) (x:Int):(¬ ckE lw fw lm fm n ls f r nc fc=0∧waE lw fw lm fm n ls f r nc fc m g x=ckE lw fw lm fm n ls f r nc fc)∨(ckE lw fw lm fm n ls f r nc fc=0∧hbB nc g m=false∧waE lw fw lm fm n ls f r nc fc m g x=2)∨(ckE lw fw lm fm n ls f r nc fc=0∧hbB nc g m=true∧¬ 1≤x∧waE lw fw lm fm n ls f r nc fc m g x=2)∨(ckE lw fw lm fm n ls f r nc fc=0∧hbB nc g m=true∧1≤x∧¬ x≤2000∧waE lw fw lm fm n ls f r nc fc m g x=2) ∨
    (ckE lw fw lm fm n ls f r nc fc=0∧hbB nc g m=true∧1≤x∧x≤2000∧wfB fc m g x (hiV lw fw lm fm f nc fc 0) (hiV lw fw lm fm f nc fc 1) (hiV lw fw lm fm f nc fc 2) (hiV lw fw lm fm f nc fc 3) (hiV lw fw lm fm f nc fc 4) (hiV lw fw lm fm f nc fc 5)=false∧waE lw fw lm fm n ls f r nc fc m g x=10)∨(ckE lw fw lm fm n ls f r nc fc=0∧hbB nc g m=true∧1≤x∧x≤2000∧wfB fc m g x (hiV lw fw lm fm f nc fc 0) (hiV lw fw lm fm f nc fc 1) (hiV lw fw lm fm f nc fc 2) (hiV lw fw lm fm f nc fc 3) (hiV lw fw lm fm f nc fc 4) (hiV lw fw lm fm f nc fc 5)=true∧waE lw fw lm fm n ls f r nc fc m g x=0):=by
  unfold waE
  by_cases h:ckE lw fw lm fm n ls f r nc fc=0
  · rw [(iEq_t _ _).mpr h]
    cases h4:hbB nc g m with
    | false=>exact .inr (.inl ⟨h,rfl,rfl⟩)
    | true =>
      by_cases h5:1≤x
      · rw [(iLe_t _ _).mpr h5]
        by_cases h6:x≤2000
        · rw [(iLe_t _ _).mpr h6]
          cases h7:wfB fc m g x (hiV lw fw lm fm f nc fc 0) (hiV lw fw lm fm f nc fc 1) (hiV lw fw lm fm f nc fc 2) (hiV lw fw lm fm f nc fc 3) (hiV lw fw lm fm f nc fc 4) (hiV lw fw lm fm f nc fc 5) with
          | false=>exact .inr (.inr (.inr (.inr (.inl ⟨h,rfl,h5,h6,rfl,rfl⟩))))
          | true=>exact .inr (.inr (.inr (.inr (.inr ⟨h,rfl,h5,h6,rfl,rfl⟩))))
        · rw [(iLe_f _ _).mpr (by omega)]
          exact .inr (.inr (.inr (.inl ⟨h,rfl,h5,h6,rfl⟩)))
      · rw [(iLe_f _ _).mpr (by omega)]
        exact .inr (.inr (.inl ⟨h,rfl,h5,rfl⟩))
  · rw [(iEq_f _ _).mpr h]
    exact .inl ⟨h,rfl⟩
theorem waV_0 (lw:Nat) (fw:Nat→Nat→Int) (lm:Nat) (fm:Nat→Nat→Int) (n:Nat) (ls:Nat→Nat) (f:Nat→Nat→Nat→Int) (r:Int) (nc:Nat) (fc:Nat→Nat→Int) (m:Nat) (g:Nat→Nat→Int) (x:Int) {e:Int} (h:waE lw fw lm fm n ls f r nc fc m g x=e) (he:e≠0):waV lw fw lm fm n ls f r nc fc m g x=0:=by unfold waV;rw [h,(iEq_f _ _).mpr he];rfl
theorem conWa:Con Tryz.prog 9 valWa:=by
  intro das v hv
  unfold valWa at hv
  split at hv
  · rename_i lw fw lm fm n ls f r nc fc m g x
    have hb:=congrArg Prod.fst (Option.some.inj hv)
    have hv:=congrArg Prod.snd (Option.some.inj hv)
    subst hv
    obtain ⟨hs,hn⟩:=cond_tt hb
    obtain ⟨hn,hm⟩:=cond_tt hn
    have hn:=Nat.le_of_ble_eq_true hn
    have hm:=Nat.le_of_ble_eq_true hm
    rcases waE_cases lw fw lm fm n ls f r nc fc m g x with ⟨h,e⟩ | ⟨h,h4,e⟩ | ⟨h,h4,h5,e⟩ | ⟨h,h4,h5,h6,e⟩ | ⟨h,h4,h5,h6,h7,e⟩ | ⟨h,h4,h5,h6,h7,e⟩
    · rw [waV_0 lw fw lm fm n ls f r nc fc m g x e h,e]
      exact con_runV drawnC XWa_ok rfl (das:=[.st [.sl 1 lw fw,.sl 1 lm fm,.rr 1 n ls f,.i .i64 r,.sl 5 nc fc],.one (.sl 1 m g),.one (.i .i64 x)]) (wa1 lw fw lm fm n ls f r nc fc m g x hs hn hm h)
    · obtain ⟨c1,c2,c3⟩:=ck_hyp lw fw lm fm n ls f r nc fc h
      rw [waV_0 lw fw lm fm n ls f r nc fc m g x e (by decide),e]
      exact con_runV drawnC XWa_ok rfl (das:=[.st [.sl 1 lw fw,.sl 1 lm fm,.rr 1 n ls f,.i .i64 r,.sl 5 nc fc],.one (.sl 1 m g),.one (.i .i64 x)]) (wa2 lw fw lm fm n ls f r nc fc m g x hs h c1 c2 c3 hm h4)
    · obtain ⟨c1,c2,c3⟩:=ck_hyp lw fw lm fm n ls f r nc fc h
      rw [waV_0 lw fw lm fm n ls f r nc fc m g x e (by decide),e]
      exact con_runV drawnC XWa_ok rfl (das:=[.st [.sl 1 lw fw,.sl 1 lm fm,.rr 1 n ls f,.i .i64 r,.sl 5 nc fc],.one (.sl 1 m g),.one (.i .i64 x)]) (wa3 lw fw lm fm n ls f r nc fc m g x hs h c1 c2 c3 hm h4 h5)
    · obtain ⟨c1,c2,c3⟩:=ck_hyp lw fw lm fm n ls f r nc fc h
      rw [waV_0 lw fw lm fm n ls f r nc fc m g x e (by decide),e]
      exact con_runV drawnC XWa_ok rfl (das:=[.st [.sl 1 lw fw,.sl 1 lm fm,.rr 1 n ls f,.i .i64 r,.sl 5 nc fc],.one (.sl 1 m g),.one (.i .i64 x)]) (wa4 lw fw lm fm n ls f r nc fc m g x hs h c1 c2 c3 hm h4 h5 h6)
    · obtain ⟨c1,c2,c3⟩:=ck_hyp lw fw lm fm n ls f r nc fc h
      rw [waV_0 lw fw lm fm n ls f r nc fc m g x e (by decide),e]
      exact con_runV drawnC XWa_ok rfl (das:=[.st [.sl 1 lw fw,.sl 1 lm fm,.rr 1 n ls f,.i .i64 r,.sl 5 nc fc],.one (.sl 1 m g),.one (.i .i64 x)]) (wa5 lw fw lm fm n ls f r nc fc m g x hs h c1 c2 c3 hm h4 h5 h6 (wf_ok lw fw lm fm n ls f r nc fc m g x (ckE_get lw fw lm fm n ls f r nc fc h) h4 hm) h7)
    · obtain ⟨c1,c2,c3⟩:=ck_hyp lw fw lm fm n ls f r nc fc h
      have ev:waV lw fw lm fm n ls f r nc fc m g x=wfI fc m g x (hiV lw fw lm fm f nc fc 0) (hiV lw fw lm fm f nc fc 1) (hiV lw fw lm fm f nc fc 2) (hiV lw fw lm fm f nc fc 3) (hiV lw fw lm fm f nc fc 4) (hiV lw fw lm fm f nc fc 5):=by unfold waV;rw [e];rfl
      rw [ev,e]
      exact con_runV drawnC XWa_ok rfl (das:=[.st [.sl 1 lw fw,.sl 1 lm fm,.rr 1 n ls f,.i .i64 r,.sl 5 nc fc],.one (.sl 1 m g),.one (.i .i64 x)]) (wa6 lw fw lm fm n ls f r nc fc m g x hs h c1 c2 c3 hm h4 h5 h6 (wf_ok lw fw lm fm n ls f r nc fc m g x (ckE_get lw fw lm fm n ls f r nc fc h) h4 hm) h7)
  · cases hv
end
end BL
end Go.Proofs.YtclagbonpachfaaGreat
