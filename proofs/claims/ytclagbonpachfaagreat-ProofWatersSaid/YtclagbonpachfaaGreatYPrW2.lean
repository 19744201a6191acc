/- Casks: the water for a strength: the reference's, as a contract. -/
import Derived.Test.YtclagbonpachfaaGreatYPrIb
import Derived.Test.YtclagbonpachfaaGreatYPrL2b
import Derived.Test.YtclagbonpachfaaGreatYPrW1
set_option linter.all false
set_option linter.unusedSimpArgs false
set_option linter.unusedVariables false
namespace Go.Proofs.YtclagbonpachfaaGreat
namespace BL
open Go Go.Ev
set_option maxRecDepth 1000000
set_option maxHeartbeats 0
noncomputable section
variable (lw:Nat) (fw:Nat→Nat→Int) (lm:Nat) (fm:Nat→Nat→Int) (n:Nat) (ls:Nat→Nat) (f:Nat→Nat→Nat→Int)
def tpG (g:Nat→Nat→Int) (i _:Nat):Int:=g i 1
theorem tp0 (g:Nat→Nat→Int):VC (runDH Tryz.prog noExt 600 42 (enc [.one (.sl 2 0 g)] 0) 1 (fun v H=>rowE 1 H v 0 1 (tpG g))) .nil:=VC_of ((((0):Int)=(0)))
theorem tp1 (g:Nat→Nat→Int):VC (runDH Tryz.prog noExt 600 42 (enc [.one (.sl 2 1 g)] 0) 1 (fun v H=>rowE 1 H v 1 1 (tpG g))) .nil:=VC_of ((((((1:Nat):Int):Int)=(1))∧(((((g 0 1):Int)=(g 0 1))∧True)∧True)))
theorem tp2 (g:Nat→Nat→Int):VC (runDH Tryz.prog noExt 600 42 (enc [.one (.sl 2 2 g)] 0) 1 (fun v H=>rowE 1 H v 2 1 (tpG g))) .nil:=VC_of (((((((1+1):Nat):Int):Int)=(2))∧(((((g 0 1):Int)=(g 0 1))∧True)∧(((((g 1 1):Int)=(g 1 1))∧True)∧True))))
theorem tp3 (g:Nat→Nat→Int):VC (runDH Tryz.prog noExt 600 42 (enc [.one (.sl 2 3 g)] 0) 1 (fun v H=>rowE 1 H v 3 1 (tpG g))) .nil:=VC_of ((((((((1+1)+1):Nat):Int):Int)=(3))∧(((((g 0 1):Int)=(g 0 1))∧True)∧(((((g 1 1):Int)=(g 1 1))∧True)∧(((((g 2 1):Int)=(g 2 1))∧True)∧True)))))
theorem tp4 (g:Nat→Nat→Int):VC (runDH Tryz.prog noExt 600 42 (enc [.one (.sl 2 4 g)] 0) 1 (fun v H=>rowE 1 H v 4 1 (tpG g))) .nil:=VC_of (((((((((1+1)+1)+1):Nat):Int):Int)=(4))∧(((((g 0 1):Int)=(g 0 1))∧True)∧(((((g 1 1):Int)=(g 1 1))∧True)∧(((((g 2 1):Int)=(g 2 1))∧True)∧(((((g 3 1):Int)=(g 3 1))∧True)∧True))))))
theorem tp5 (g:Nat→Nat→Int):VC (runDH Tryz.prog noExt 600 42 (enc [.one (.sl 2 5 g)] 0) 1 (fun v H=>rowE 1 H v 5 1 (tpG g))) .nil:=VC_of ((((((((((1+1)+1)+1)+1):Nat):Int):Int)=(5))∧(((((g 0 1):Int)=(g 0 1))∧True)∧(((((g 1 1):Int)=(g 1 1))∧True)∧(((((g 2 1):Int)=(g 2 1))∧True)∧(((((g 3 1):Int)=(g 3 1))∧True)∧(((((g 4 1):Int)=(g 4 1))∧True)∧True)))))))
theorem tp6 (g:Nat→Nat→Int):VC (runDH Tryz.prog noExt 600 42 (enc [.one (.sl 2 6 g)] 0) 1 (fun v H=>rowE 1 H v 6 1 (tpG g))) .nil:=VC_of (((((((((((1+1)+1)+1)+1)+1):Nat):Int):Int)=(6))∧(((((g 0 1):Int)=(g 0 1))∧True)∧(((((g 1 1):Int)=(g 1 1))∧True)∧(((((g 2 1):Int)=(g 2 1))∧True)∧(((((g 3 1):Int)=(g 3 1))∧True)∧(((((g 4 1):Int)=(g 4 1))∧True)∧(((((g 5 1):Int)=(g 5 1))∧True)∧True))))))))
def valTp:Val:=fun das=>match das with | [.one (.sl 2 m g)]=>some (Nat.ble m 6,.fz true 0 (cellsI .i64 (tpG g)) m 1) | _=>none
theorem conTp:ConN Tryz.prog 42 valTp:=by
  intro das v hv
  unfold valTp at hv
  split at hv
  · rename_i m g
    have hb:=Nat.le_of_ble_eq_true (congrArg Prod.fst (Option.some.inj hv))
    have hv:=congrArg Prod.snd (Option.some.inj hv)
    subst hv
    have fin:∀ {k:Nat} {h:HT},VC (runDH Tryz.prog noExt 600 42 (enc [.one (.sl 2 k g)] 0) 1 (fun v H=>rowE 1 H v k 1 (tpG g))) h→∃ v' H',SpecCall Tryz.prog 42 (enc [.one (.sl 2 k g)] 0) (heap0 2) v' H'∧∀ new,FnV H' 1 new v' (ageN new (.fz true 0 (cellsI .i64 (tpG g)) k 1)):=fun hvc=>by
      obtain ⟨v',H',z1,z2⟩:=runDH_ok drawnC noExt_ok hvc
      exact ⟨v',H',z1,fun new => .one (.one (rowE_fn z2 new))⟩
    have:m=0∨m=1∨m=2∨m=3∨m=4∨m=5∨m=6:=by omega
    rcases this with rfl | rfl | rfl | rfl | rfl | rfl | rfl
    · exact fin (tp0 g)
    · exact fin (tp1 g)
    · exact fin (tp2 g)
    · exact fin (tp3 g)
    · exact fin (tp4 g)
    · exact fin (tp5 g)
    · exact fin (tp6 g)
  · cases hv
def XRw:Ext:=conX [(42,cfN valTp),(25,cf valSt2)] false
theorem XRw_ok:ExtOK Tryz.prog XRw:=conX_ok (allCon_cons (con_okN conTp)<|allCon_cons (con_ok conSt2) allCon_nil)
def ltW:LT:=⟨[1,2,3,4,10],[],[8,9],8⟩
def baseW (lw:Nat) (fw:Nat→Nat→Int) (lm:Nat) (fm:Nat→Nat→Int) (n:Nat) (ls:Nat→Nat) (f:Nat→Nat→Nat→Int) (r:Int) (nc:Nat) (fc:Nat→Nat→Int):EH:=⟨setAt [(7,encL [.sl 1 lw fw,.sl 1 lm fm,.rr 1 n ls f,.i .i64 r,.sl 5 nc fc] 0)] .lf,8,.lf,big⟩
def sW (m:Nat) (g:Nat→Nat→Int) (k:Nat) (l:Nat→Nat→Int) (x:Int) (i:Nat):LS:=⟨[.fz true 4 (cellsI .i64 g) m 2,.fz true 5 (cellsI .i64 l) k 1,.int .i64 x,.ptr 7 0,.int .i64 i],[]⟩
def bW:Code:=sub ([1,0,1,0]++[0]) (bodyOf Tryz.prog 15)
def yW (i:Nat):Lv := .ret ⟨[.int .i64 i,.bool true],[]⟩
theorem eW (r:Int) (nc:Nat) (fc:Nat→Nat→Int) (m:Nat) (g:Nat→Nat→Int) (k:Nat) (l:Nat→Nat→Int) (x:Int):VC (entD Tryz.prog XRw 300 15 [1,0,1,0] [.st [.sl 1 lw fw,.sl 1 lm fm,.rr 1 n ls f,.i .i64 r,.sl 5 nc fc],.one (.sl 2 m g),.one (.sl 1 k l),.one (.i .i64 x)] (baseW lw fw lm fm n ls f r nc fc) ltW 24 60 (sW m g k l x 0)) .nil:=VC_of (((True∧((True∧((True∧((((((V.fz true 0 (cellsI .i64 fw) lw 1):V)=(V.fz true 0 (cellsI .i64 fw) lw 1))∧(((((V.fz true 1 (cellsI .i64 fm) lm 1):V)=(V.fz true 1 (cellsI .i64 fm) lm 1))∧((((r:Int)=r)∧(True∧True))∧True))∧((((V.fz true 2 (rowsI 2 1 ls f) n 1):V)=(V.fz true 2 (rowsI 2 1 ls f) n 1))∧(((((V.fz true 3 (cellsI .i64 fc) nc 5):V)=(V.fz true 3 (cellsI .i64 fc) nc 5))∧(True∧True))∧True))))∧(True∧True))∧True))∧True))∧True))∧(((((V.fz true 4 (cellsI .i64 g) m 2):V)=(V.fz true 4 (cellsI .i64 g) m 2))∧((((V.fz true 5 (cellsI .i64 l) k 1):V)=(V.fz true 5 (cellsI .i64 l) k 1))∧(((x:Int)=x)∧((((V.ptr 7 0):V)=(V.ptr 7 0))∧((((0):Int)=(0))∧True)))))∧True)))
theorem rW1 (r:Int) (nc:Nat) (fc:Nat→Nat→Int) (m:Nat) (g:Nat→Nat→Int) (k:Nat) (l:Nat→Nat→Int) (x:Int) (i:Nat) (z1:i<100) (z2:m≤6) (c1:rsOk nc fc k l ((i:Nat):Int) m (tpG g)=true) (q:¬ (rsV fc l ((i:Nat):Int) (tpG g) k)≤x):VC (roundD Tryz.prog XRw 300 bW (baseW lw fw lm fm n ls f r nc fc) ltW 24 60 (sW m g k l x i) (.next (sW m g k l x (i+1)))) (.go 1429 .nil):=VC_of (((iLe ((i:Nat):Int) (99))=true∧((cond (cond (allI .i64 (cellsI .i64 g) m 2) true false) (Nat.ble m 6) false)=true∧((cond (cond (cond (allI .i64 (cellsI .i64 fw) lw 1) (cond (allI .i64 (cellsI .i64 fm) lm 1) (cond (cond true (allR 2 (rowsI 2 1 ls f) n 1) false) (cond (allI .i64 (cellsI .i64 fc) nc 5) true false) false) false) false) (cond (allI .i64 (cellsI .i64 l) k 1) (cond (allI .i64 (cellsI .i64 (BL.tpG g)) m 1) true false) false) false) (BL.rsOk nc fc k l ((i:Nat):Int) m (BL.tpG g)) false)=true∧((iLe (BL.rsV fc l ((i:Nat):Int) (BL.tpG g) k) x)=false∧((small (((i:Nat):Int)+(1)))=true∧(((((V.fz true 4 (cellsI .i64 g) m 2):V)=(V.fz true 4 (cellsI .i64 g) m 2))∧((((V.fz true 5 (cellsI .i64 l) k 1):V)=(V.fz true 5 (cellsI .i64 l) k 1))∧(((x:Int)=x)∧((((V.ptr 7 0):V)=(V.ptr 7 0))∧((((((i:Nat):Int)+(1)):Int)=(((i+1):Nat):Int))∧True)))))∧True)))))))
theorem rW2 (r:Int) (nc:Nat) (fc:Nat→Nat→Int) (m:Nat) (g:Nat→Nat→Int) (k:Nat) (l:Nat→Nat→Int) (x:Int) (i:Nat) (z1:i<100) (z2:m≤6) (c1:rsOk nc fc k l ((i:Nat):Int) m (tpG g)=true) (q:(rsV fc l ((i:Nat):Int) (tpG g) k)≤x):VC (roundD Tryz.prog XRw 300 bW (baseW lw fw lm fm n ls f r nc fc) ltW 24 60 (sW m g k l x i) (yW i)) (.go 341 .nil):=VC_of (((iLe ((i:Nat):Int) (99))=true∧((cond (cond (allI .i64 (cellsI .i64 g) m 2) true false) (Nat.ble m 6) false)=true∧((cond (cond (cond (allI .i64 (cellsI .i64 fw) lw 1) (cond (allI .i64 (cellsI .i64 fm) lm 1) (cond (cond true (allR 2 (rowsI 2 1 ls f) n 1) false) (cond (allI .i64 (cellsI .i64 fc) nc 5) true false) false) false) false) (cond (allI .i64 (cellsI .i64 l) k 1) (cond (allI .i64 (cellsI .i64 (BL.tpG g)) m 1) true false) false) false) (BL.rsOk nc fc k l ((i:Nat):Int) m (BL.tpG g)) false)=true∧((iLe (BL.rsV fc l ((i:Nat):Int) (BL.tpG g) k) x)=true∧((((((i:Nat):Int):Int)=((i:Nat):Int))∧((true=true)∧True))∧True))))))
theorem rW3 (r:Int) (nc:Nat) (fc:Nat→Nat→Int) (m:Nat) (g:Nat→Nat→Int) (k:Nat) (l:Nat→Nat→Int) (x:Int) (i:Nat) (z1:¬ i<100):VC (roundD Tryz.prog XRw 300 bW (baseW lw fw lm fm n ls f r nc fc) ltW 24 60 (sW m g k l x i) (.exit 0 ⟨[],[]⟩)) (.go 6 .nil):=VC_of (((iLe ((i:Nat):Int) (99))=false∧(True∧True)))
theorem fW1 (r:Int) (nc:Nat) (fc:Nat→Nat→Int):VC (fromD Tryz.prog XRw 300 15 [1,0,1,0] (Lv.res ltW 24 (endH (baseW lw fw lm fm n ls f r nc fc) ltW 60 (.exit 0 ⟨[],[]⟩)) (.exit 0 ⟨[],[]⟩)) (.tup [.int .i64 0,.bool false])) .nil:=VC_of (((((0):Int)=(0))∧((false=false)∧True)))
theorem fW2 (r:Int) (nc:Nat) (fc:Nat→Nat→Int) (i:Nat):VC (fromD Tryz.prog XRw 300 15 [1,0,1,0] (Lv.res ltW 24 (endH (baseW lw fw lm fm n ls f r nc fc) ltW 60 (yW i)) (yW i)) (.tup [.int .i64 i,.bool true])) .nil:=VC_of ((((((i:Nat):Int):Int)=((i:Nat):Int))∧((true=true)∧True)))
def rpB (fc:Nat→Nat→Int) (k:Nat) (l t:Nat→Nat→Int) (x:Int) (i:Nat):Bool:=iLe (rsV fc l ((i:Nat):Int) t k) x
def rwN (fc:Nat→Nat→Int) (k:Nat) (l t:Nat→Nat→Int) (x:Int):Nat:=fsN (rpB fc k l t x) 100 0
def rwB (fc:Nat→Nat→Int) (k:Nat) (l t:Nat→Nat→Int) (x:Int):Bool:=Nat.blt (rwN fc k l t x) 100
def rwI (fc:Nat→Nat→Int) (k:Nat) (l t:Nat→Nat→Int) (x:Int):Int:=cond (rwB fc k l t x) ((rwN fc k l t x:Nat):Int) 0
def rwO (nc:Nat) (fc:Nat→Nat→Int) (k:Nat) (l:Nat→Nat→Int) (m:Nat) (g:Nat→Nat→Int):Bool:=cond (Nat.ble m 6) (allN (fun i=>rsOk nc fc k l ((i:Nat):Int) m (tpG g)) 100) false
def valRw:Val:=fun das=>match das with | [.st [.sl 1 lw fw,.sl 1 lm fm,.rr 1 n ls f,.i .i64 r,.sl 5 nc fc],.one (.sl 2 m g),.one (.sl 1 k l),.one (.i .i64 x)]=>some (rwO nc fc k l m g,.tup [.int .i64 (rwI fc k l (tpG g) x),.bool (rwB fc k l (tpG g) x)]) | _=>none
theorem conRw:Con Tryz.prog 15 valRw:=by
  intro das v hv
  unfold valRw at hv
  split at hv
  · rename_i lw fw lm fm n ls f r nc fc m g k l x
    have hb:=congrArg Prod.fst (Option.some.inj hv)
    have hv:=congrArg Prod.snd (Option.some.inj hv)
    subst hv
    obtain ⟨hm,hO⟩:=cond_tt hb
    have hm:=Nat.le_of_ble_eq_true hm
    refine ⟨rfl,?_⟩
    have rd:∀ i,i<100→rpB fc k l (tpG g) x i=false→JL Tryz.prog (baseW lw fw lm fm n ls f r nc fc) ltW 24 60 none bW (sW m g k l x i) (.next (sW m g k l x (i+1))):=fun i hi q =>
      round_of drawnC XRw_ok (rW1 lw fw lm fm n ls f r nc fc m g k l x i hi hm (allN_get hO i hi) (by intro z;rw [show rpB fc k l (tpG g) x i=true from (iLe_t _ _).mpr z] at q;cases q)).ok (by kernel_rfl) (by kernel_rfl)
    rcases fsN_sp (p:=rpB fc k l (tpG g) x) (k:=100) (i:=0) with ⟨e,h⟩ | ⟨_,z1,z2,z3⟩
    · have e1:rwB fc k l (tpG g) x=false:=by unfold rwB rwN;rw [e];rfl
      have e2:rwI fc k l (tpG g) x=0:=by unfold rwI;rw [e1];rfl
      rw [e1,e2]
      exact con_loopD drawnC XRw_ok (das:=[.st [.sl 1 lw fw,.sl 1 lm fm,.rr 1 n ls f,.i .i64 r,.sl 5 nc fc],.one (.sl 2 m g),.one (.sl 1 k l),.one (.i .i64 x)]) (lv := .exit 0 ⟨[],[]⟩) (by kernel_rfl) (by kernel_rfl) (eW lw fw lm fm n ls f r nc fc m g k l x).ok (loop_rule (body:=bW) (fun _ e=>by cases e) 100 (sW m g k l x) (fun i hi=>rd i hi (h i (by omega) (by omega))) (round_of drawnC XRw_ok (rW3 lw fw lm fm n ls f r nc fc m g k l x 100 (by omega)).ok (by kernel_rfl) (by kernel_rfl))) (fW1 lw fw lm fm n ls f r nc fc).ok
    · have hN:rwN fc k l (tpG g) x<100:=by unfold rwN;omega
      have e1:rwB fc k l (tpG g) x=true:=blt_t' hN
      have e2:rwI fc k l (tpG g) x=((rwN fc k l (tpG g) x:Nat):Int):=by unfold rwI;rw [e1];rfl
      rw [e1,e2]
      exact con_loopD drawnC XRw_ok (das:=[.st [.sl 1 lw fw,.sl 1 lm fm,.rr 1 n ls f,.i .i64 r,.sl 5 nc fc],.one (.sl 2 m g),.one (.sl 1 k l),.one (.i .i64 x)]) (lv:=yW (rwN fc k l (tpG g) x)) (by kernel_rfl) (by kernel_rfl) (eW lw fw lm fm n ls f r nc fc m g k l x).ok (loop_rule (body:=bW) (fun _ e=>by cases e) (rwN fc k l (tpG g) x) (sW m g k l x) (fun i hi=>rd i (by omega) (z3 i (by omega) hi)) (round_of drawnC XRw_ok (rW2 lw fw lm fm n ls f r nc fc m g k l x (rwN fc k l (tpG g) x) hN hm (allN_get hO _ hN) ((iLe_t _ _).mp z2)).ok (by kernel_rfl) (by kernel_rfl))) (fW2 lw fw lm fm n ls f r nc fc _).ok
  · cases hv
end
end BL
end Go.Proofs.YtclagbonpachfaaGreat
