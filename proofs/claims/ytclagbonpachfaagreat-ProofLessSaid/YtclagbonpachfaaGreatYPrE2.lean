/- Casks: the reference's gallons and strength of a blend, as contracts. -/
import Derived.Test.YtclagbonpachfaaGreatYPrE1
set_option linter.all false
set_option linter.unusedSimpArgs false
set_option linter.unusedVariables false
namespace Go.Proofs.YtclagbonpachfaaGreat
namespace BL
open Go Go.Ev
set_option maxRecDepth 1000000
set_option maxHeartbeats 0
noncomputable section
variable (lw:Nat) (fw:Nat→Nat→Int) (lm:Nat) (fm:Nat→Nat→Int) (n:Nat) (ls:Nat→Nat) (f:Nat→Nat→Nat→Int)
def gaOk (nc:Nat) (fc:Nat→Nat→Int) (m:Nat) (g:Nat→Nat→Int):Bool:=cond (Nat.ble m 1000) (cond (Nat.ble nc 6) (allN (fun i=>cond (iIn (g i 0) nc) (cond (iLe 1 (fc (Int.toNat (g i 0)) 0)) (iLe (fc (Int.toNat (g i 0)) 0) 99) false) false) m) false) false
theorem gaOk_get {nc:Nat} {fc:Nat→Nat→Int} {m:Nat} {g:Nat→Nat→Int} (h:gaOk nc fc m g=true):m≤1000∧nc≤6∧∀ i,i<m→(0≤g i 0∧g i 0<nc)∧1≤(fc (Int.toNat (g i 0)) 0)∧(fc (Int.toNat (g i 0)) 0)≤99:=by
  obtain ⟨h1,h⟩:=cond_tt h
  obtain ⟨h2,h3⟩:=cond_tt h
  refine ⟨Nat.le_of_ble_eq_true h1,Nat.le_of_ble_eq_true h2,fun i hi=>?_⟩
  have q:=allN_get h3 i hi
  obtain ⟨q1,q⟩:=cond_tt q
  obtain ⟨q2,q3⟩:=cond_tt q
  rw [iIn_t] at q1
  rw [iLe_t] at q2 q3
  exact ⟨q1,q2,q3⟩
theorem gsm_bd {nc:Nat} {fc:Nat→Nat→Int} {m:Nat} {g:Nat→Nat→Int} (h:gaOk nc fc m g=true):∀ i,i≤m→(i:Int)≤gsm fc g 0 i∧gsm fc g 0 i≤99*(i:Int):=by
  obtain ⟨_,_,q⟩:=gaOk_get h
  intro i
  induction i with
  | zero=>intro _;exact ⟨Int.le_refl _,Int.le_refl _⟩
  | succ i ih =>
    intro hi
    have a:=ih (by omega)
    have b:=q i (by omega)
    rw [gsm_s];push_cast;omega
def ltG:LT:=⟨[1,2,5,6],[5],[],7⟩
def baseG (lw:Nat) (fw:Nat→Nat→Int) (lm:Nat) (fm:Nat→Nat→Int) (n:Nat) (ls:Nat→Nat) (f:Nat→Nat→Nat→Int) (r:Int) (nc:Nat) (fc:Nat→Nat→Int):EH:=⟨setAt [(6,encL [.sl 1 lw fw,.sl 1 lm fm,.rr 1 n ls f,.i .i64 r,.sl 5 nc fc] 0)] .lf,7,.lf,big⟩
def sG (m:Nat) (g:Nat→Nat→Int) (S:Int) (i:Nat):LS:=⟨[.fz true 4 (cellsI .i64 g) m 1,.ptr 6 0,.int .i64 S,.int .i64 i],[]⟩
def bG:Code:=sub [1,1,0,1,0,0] (bodyOf Tryz.prog 53)
theorem eG (r:Int) (nc:Nat) (fc:Nat→Nat→Int) (m:Nat) (g:Nat→Nat→Int):VC (entD Tryz.prog noExt 300 53 [1,1,0,1,0] [.st [.sl 1 lw fw,.sl 1 lm fm,.rr 1 n ls f,.i .i64 r,.sl 5 nc fc],.one (.sl 1 m g)] (baseG lw fw lm fm n ls f r nc fc) ltG 25 60 (sG m g 0 0)) .nil:=VC_of (((True∧(True∧(True∧(True∧(((((V.fz true 0 (cellsI .i64 fw) lw 1):V)=(V.fz true 0 (cellsI .i64 fw) lw 1))∧(((((V.fz true 1 (cellsI .i64 fm) lm 1):V)=(V.fz true 1 (cellsI .i64 fm) lm 1))∧((((r:Int)=r)∧(True∧True))∧True))∧((((V.fz true 2 (rowsI 2 1 ls f) n 1):V)=(V.fz true 2 (rowsI 2 1 ls f) n 1))∧(((((V.fz true 3 (cellsI .i64 fc) nc 5):V)=(V.fz true 3 (cellsI .i64 fc) nc 5))∧(True∧True))∧True))))∧(True∧True))))))∧(((((V.fz true 4 (cellsI .i64 g) m 1):V)=(V.fz true 4 (cellsI .i64 g) m 1))∧((((V.ptr 6 0):V)=(V.ptr 6 0))∧((((0):Int)=(0))∧((((0):Int)=(0))∧True))))∧True)))
theorem rG1 (r:Int) (nc:Nat) (fc:Nat→Nat→Int) (m:Nat) (g:Nat→Nat→Int) (S:Int) (i:Nat) (h1:i<m) (h2:m≤1000) (h3:0≤g i 0∧g i 0<nc) (h4:nc≤6) (h5:1≤(fc (Int.toNat (g i 0)) 0)∧(fc (Int.toNat (g i 0)) 0)≤99) (h6:0≤S∧S≤1000000):VC (roundD Tryz.prog noExt 300 bG (baseG lw fw lm fm n ls f r nc fc) ltG 25 60 (sG m g S i) (.next (sG m g (S+(fc (Int.toNat (g i 0)) 0)) (i+1)))) (.go 1365 .nil):=VC_of (((not (iLe ((m:Nat):Int) ((i:Nat):Int)))=true∧((Nat.blt i m)=true∧((iIn (g i 0) nc)=true∧((small (S+(fc (Int.toNat (g i 0)) 0)))=true∧((small (((i:Nat):Int)+(1)))=true∧(((((V.fz true 4 (cellsI .i64 g) m 1):V)=(V.fz true 4 (cellsI .i64 g) m 1))∧((((V.ptr 6 0):V)=(V.ptr 6 0))∧((((S+(fc (Int.toNat (g i 0)) 0)):Int)=(S+(fc (Int.toNat (g i 0)) 0)))∧((((((i:Nat):Int)+(1)):Int)=(((i+1):Nat):Int))∧True))))∧True)))))))
theorem rG3 (r:Int) (nc:Nat) (fc:Nat→Nat→Int) (m:Nat) (g:Nat→Nat→Int) (S:Int) (i:Nat) (h1:¬ i<m):VC (roundD Tryz.prog noExt 300 bG (baseG lw fw lm fm n ls f r nc fc) ltG 25 60 (sG m g S i) (.exit 0 ⟨[.int .i64 S],[]⟩)) (.go 6 .nil):=VC_of (((not (iLe ((m:Nat):Int) ((i:Nat):Int)))=false∧((((S:Int)=S)∧True)∧True)))
theorem fG (r:Int) (nc:Nat) (fc:Nat→Nat→Int) (S:Int):VC (fromD Tryz.prog noExt 300 53 [1,1,0,1,0] (Lv.res ltG 25 (endH (baseG lw fw lm fm n ls f r nc fc) ltG 60 (.exit 0 ⟨[.int .i64 S],[]⟩)) (.exit 0 ⟨[.int .i64 S],[]⟩)) (.int .i64 S)) .nil:=VC_of (((S:Int)=S))
def valGa:Val:=fun das=>match das with | [.st [.sl 1 lw fw,.sl 1 lm fm,.rr 1 n ls f,.i .i64 r,.sl 5 nc fc],.one (.sl 1 m g)]=>some (gaOk nc fc m g,.int .i64 (gsm fc g 0 m)) | _=>none
theorem conGa:Con Tryz.prog 53 valGa:=by
  intro das v hv
  unfold valGa at hv
  split at hv
  · rename_i lw fw lm fm n ls f r nc fc m g
    have hb:=congrArg Prod.fst (Option.some.inj hv)
    have hv:=congrArg Prod.snd (Option.some.inj hv)
    subst hv
    have hb:gaOk nc fc m g=true:=hb
    obtain ⟨q1,q2,q3⟩:=gaOk_get hb
    refine ⟨rfl,?_⟩
    exact con_loopD drawnC noExt_ok (das:=[.st [.sl 1 lw fw,.sl 1 lm fm,.rr 1 n ls f,.i .i64 r,.sl 5 nc fc],.one (.sl 1 m g)]) (lv := .exit 0 ⟨[.int .i64 (gsm fc g 0 m)],[]⟩) (by kernel_rfl) (by kernel_rfl) (eG lw fw lm fm n ls f r nc fc m g).ok (loop_rule (body:=bG) (fun _ e=>by cases e) m (fun i=>sG m g (gsm fc g 0 i) i) (fun i hi =>
      round_of drawnC noExt_ok (rG1 lw fw lm fm n ls f r nc fc m g (gsm fc g 0 i) i hi q1 (q3 i hi).1 q2 (q3 i hi).2 (by have:=gsm_bd hb i (by omega);omega)).ok (by kernel_rfl) (by kernel_rfl)) (round_of drawnC noExt_ok (rG3 lw fw lm fm n ls f r nc fc m g (gsm fc g 0 m) m (by omega)).ok (by kernel_rfl) (by kernel_rfl))) (fG lw fw lm fm n ls f r nc fc _).ok
  · cases hv
def XSt:Ext:=conX [(53,cf valGa)] false
theorem XSt_ok:ExtOK Tryz.prog XSt:=conX_ok (allCon_cons (con_ok conGa) allCon_nil)
def ltT:LT:=⟨[1,2,3,4,9,10],[1,2,4,9],[],8⟩
def baseT (lw:Nat) (fw:Nat→Nat→Int) (lm:Nat) (fm:Nat→Nat→Int) (n:Nat) (ls:Nat→Nat) (f:Nat→Nat→Nat→Int) (r:Int) (nc:Nat) (fc:Nat→Nat→Int):EH:=⟨setAt [(7,encL [.sl 1 lw fw,.sl 1 lm fm,.rr 1 n ls f,.i .i64 r,.sl 5 nc fc] 0)] .lf,8,.lf,big⟩
def sT (m:Nat) (g:Nat→Nat→Int) (w:Int) (k:Nat) (t:Nat→Nat→Int) (S:Int) (i:Nat):LS:=⟨[.fz true 4 (cellsI .i64 g) m 1,.int .i64 w,.fz true 5 (cellsI .i64 t) k 1,.ptr 7 0,.int .i64 S,.int .i64 i],[]⟩
def xT (m:Nat) (g:Nat→Nat→Int) (w:Int) (S:Int):Lv := .exit 0 ⟨[.fz true 4 (cellsI .i64 g) m 1,.int .i64 w,.ptr 7 0,.int .i64 S],[]⟩
def bT:Code:=sub [1,1,0,1,0,0] (bodyOf Tryz.prog 25)
theorem eT (r:Int) (nc:Nat) (fc:Nat→Nat→Int) (m:Nat) (g:Nat→Nat→Int) (w:Int) (k:Nat) (t:Nat→Nat→Int):VC (entD Tryz.prog XSt 300 25 [1,1,0,1,0] [.st [.sl 1 lw fw,.sl 1 lm fm,.rr 1 n ls f,.i .i64 r,.sl 5 nc fc],.one (.sl 1 m g),.one (.i .i64 w),.one (.sl 1 k t)] (baseT lw fw lm fm n ls f r nc fc) ltT 43 60 (sT m g w k t 0 0)) .nil:=VC_of (((True∧((True∧((True∧((((((V.fz true 0 (cellsI .i64 fw) lw 1):V)=(V.fz true 0 (cellsI .i64 fw) lw 1))∧(((((V.fz true 1 (cellsI .i64 fm) lm 1):V)=(V.fz true 1 (cellsI .i64 fm) lm 1))∧((((r:Int)=r)∧(True∧True))∧True))∧((((V.fz true 2 (rowsI 2 1 ls f) n 1):V)=(V.fz true 2 (rowsI 2 1 ls f) n 1))∧(((((V.fz true 3 (cellsI .i64 fc) nc 5):V)=(V.fz true 3 (cellsI .i64 fc) nc 5))∧(True∧True))∧True))))∧(True∧True))∧True))∧True))∧True))∧(((((V.fz true 4 (cellsI .i64 g) m 1):V)=(V.fz true 4 (cellsI .i64 g) m 1))∧(((w:Int)=w)∧((((V.fz true 5 (cellsI .i64 t) k 1):V)=(V.fz true 5 (cellsI .i64 t) k 1))∧((((V.ptr 7 0):V)=(V.ptr 7 0))∧((((0):Int)=(0))∧((((0):Int)=(0))∧True))))))∧True)))
theorem rT1 (r:Int) (nc:Nat) (fc:Nat→Nat→Int) (m:Nat) (g:Nat→Nat→Int) (w:Int) (k:Nat) (t:Nat→Nat→Int) (S:Int) (i:Nat) (h1:i<m) (h2:m≤1000) (h3:0≤g i 0∧g i 0<nc) (h4:nc≤6) (h5:1≤(fc (Int.toNat (g i 0)) 0)∧(fc (Int.toNat (g i 0)) 0)≤99) (h7:0≤g i 0∧g i 0<k) (h8:0≤(t (Int.toNat (g i 0)) 0)∧(t (Int.toNat (g i 0)) 0)≤2000) (h9:0≤(fc (Int.toNat (g i 0)) 0)*(t (Int.toNat (g i 0)) 0)∧(fc (Int.toNat (g i 0)) 0)*(t (Int.toNat (g i 0)) 0)≤198000) (h6:0≤S∧S≤1000000000):VC (roundD Tryz.prog XSt 300 bT (baseT lw fw lm fm n ls f r nc fc) ltT 43 60 (sT m g w k t S i) (.next (sT m g w k t (S+(fc (Int.toNat (g i 0)) 0)*(t (Int.toNat (g i 0)) 0)) (i+1)))) (.go 87381 .nil):=VC_of (((not (iLe ((m:Nat):Int) ((i:Nat):Int)))=true∧((Nat.blt i m)=true∧((iIn (g i 0) nc)=true∧((Nat.blt i m)=true∧((iIn (g i 0) k)=true∧((small ((fc (Int.toNat (g i 0)) 0)*(t (Int.toNat (g i 0)) 0)))=true∧((small (S+((fc (Int.toNat (g i 0)) 0)*(t (Int.toNat (g i 0)) 0))))=true∧((small (((i:Nat):Int)+(1)))=true∧(((((V.fz true 4 (cellsI .i64 g) m 1):V)=(V.fz true 4 (cellsI .i64 g) m 1))∧(((w:Int)=w)∧((((V.fz true 5 (cellsI .i64 t) k 1):V)=(V.fz true 5 (cellsI .i64 t) k 1))∧((((V.ptr 7 0):V)=(V.ptr 7 0))∧((((S+((fc (Int.toNat (g i 0)) 0)*(t (Int.toNat (g i 0)) 0))):Int)=(S+((fc (Int.toNat (g i 0)) 0)*(t (Int.toNat (g i 0)) 0))))∧((((((i:Nat):Int)+(1)):Int)=(((i+1):Nat):Int))∧True))))))∧True))))))))))
theorem rT3 (r:Int) (nc:Nat) (fc:Nat→Nat→Int) (m:Nat) (g:Nat→Nat→Int) (w:Int) (k:Nat) (t:Nat→Nat→Int) (S:Int) (i:Nat) (h1:¬ i<m):VC (roundD Tryz.prog XSt 300 bT (baseT lw fw lm fm n ls f r nc fc) ltT 43 60 (sT m g w k t S i) (xT m g w S)) (.go 6 .nil):=VC_of (((not (iLe ((m:Nat):Int) ((i:Nat):Int)))=false∧(((((V.fz true 4 (cellsI .i64 g) m 1):V)=(V.fz true 4 (cellsI .i64 g) m 1))∧(((w:Int)=w)∧((((V.ptr 7 0):V)=(V.ptr 7 0))∧(((S:Int)=S)∧True))))∧True)))
end
end BL
end Go.Proofs.YtclagbonpachfaaGreat
