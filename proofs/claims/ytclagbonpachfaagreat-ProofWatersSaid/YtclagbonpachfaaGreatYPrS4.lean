/- Casks: Blend, as a contract. -/
import Derived.Test.YtclagbonpachfaaGreatYPrS3
set_option linter.all false
set_option linter.unusedSimpArgs false
set_option linter.unusedVariables false
namespace Go.Proofs.YtclagbonpachfaaGreat
namespace BL
open Go Go.Ev
set_option maxRecDepth 1000000
set_option maxHeartbeats 0
noncomputable section
variable (lw:Nat) (fw:Nat→Nat→Int) (lm:Nat) (fm:Nat→Nat→Int) (n:Nat) (ls:Nat→Nat) (f:Nat→Nat→Nat→Int)
def XBd:Ext:=conX [(35,cf valCs),(38,cfS valNw),(36,cf valHb),(46,cf valBe)] false
theorem bd1 (r:Int) (nc:Nat) (fc:Nat→Nat→Int) (m:Nat) (g:Nat→Nat→Int) (w:Int) (s:smB lw lm n ls=true) (kn:nc≤1000) (km:m≤1000) (h:¬ ckE lw fw lm fm n ls f r nc fc=0):VC (runD0 Tryz.prog XBd 300 19 (enc [.st [.sl 1 lw fw,.sl 1 lm fm,.rr 1 n ls f,.i .i64 r,.sl 5 nc fc],.one (.sl 1 m g),.one (.i .i64 w)] 0) 5 (fun v=>valP v (.tup [.agg 2 (T.setL .lf 0 [.int .i64 0,.int .i64 0]),.int .i64 (ckE lw fw lm fm n ls f r nc fc)]))) (.go 21 .nil):=VC_of (((cond (cond (cond (allI .i64 (cellsI .i64 fw) lw 1) (cond (allI .i64 (cellsI .i64 fm) lm 1) (cond (cond true (allR 2 (rowsI 2 1 ls f) n 1) false) (cond (allI .i64 (cellsI .i64 fc) nc 5) true false) false) false) false) true false) (cond (smB lw lm n ls) (Nat.ble nc 1000) false) false)=true∧((not (iEq (ckE lw fw lm fm n ls f r nc fc) (0)))=true∧(((((0):Int)=(0))∧((((0):Int)=(0))∧True))∧((((ckE lw fw lm fm n ls f r nc fc):Int)=(ckE lw fw lm fm n ls f r nc fc))∧True)))))
theorem bd2 (r:Int) (nc:Nat) (fc:Nat→Nat→Int) (m:Nat) (g:Nat→Nat→Int) (w:Int) (s:smB lw lm n ls=true) (h:ckE lw fw lm fm n ls f r nc fc=0) (h1:tabE lw fw lm fm n ls f=0) (h2:nc≤6) (h3:acB lw fw lm fm fc nc=true) (km:m≤1000) (h4:hbB nc g m=false):VC (runD0 Tryz.prog XBd 300 19 (enc [.st [.sl 1 lw fw,.sl 1 lm fm,.rr 1 n ls f,.i .i64 r,.sl 5 nc fc],.one (.sl 1 m g),.one (.i .i64 w)] 0) 5 (fun v=>valP v (.tup [.agg 2 (T.setL .lf 0 [.int .i64 0,.int .i64 0]),.int .i64 2]))) (.go 345 .nil):=VC_of (((cond (cond (cond (allI .i64 (cellsI .i64 fw) lw 1) (cond (allI .i64 (cellsI .i64 fm) lm 1) (cond (cond true (allR 2 (rowsI 2 1 ls f) n 1) false) (cond (allI .i64 (cellsI .i64 fc) nc 5) true false) false) false) false) true false) (cond (smB lw lm n ls) (Nat.ble nc 1000) false) false)=true∧((not (iEq (ckE lw fw lm fm n ls f r nc fc) (0)))=false∧((cond (cond (cond (allI .i64 (cellsI .i64 fw) lw 1) (cond (allI .i64 (cellsI .i64 fm) lm 1) (cond (cond true (allR 2 (rowsI 2 1 ls f) n 1) false) (cond (allI .i64 (cellsI .i64 fc) nc 5) true false) false) false) false) (cond (allI .i64 (cellsI .i64 g) m 1) true false) false) (cond (Nat.ble nc 1000000) (Nat.ble m 1000000) false) false)=true∧((not (BL.hbB nc g m))=true∧(((((0):Int)=(0))∧((((0):Int)=(0))∧True))∧((((2):Int)=(2))∧True)))))))
def bdE (lw:Nat) (fw:Nat→Nat→Int) (lm:Nat) (fm:Nat→Nat→Int) (n:Nat) (ls:Nat→Nat) (f:Nat→Nat→Nat→Int) (r:Int) (nc:Nat) (fc:Nat→Nat→Int) (m:Nat) (g:Nat→Nat→Int) (w:Int):Int:=cond (iEq (ckE lw fw lm fm n ls f r nc fc) 0) (cond (hbB nc g m) (cond (iLe 0 w) (cond (iLe w 99) 0 2) 2) 2) (ckE lw fw lm fm n ls f r nc fc)
def bdL (lw:Nat) (fw:Nat→Nat→Int) (lm:Nat) (fm:Nat→Nat→Int) (n:Nat) (ls:Nat→Nat) (f:Nat→Nat→Nat→Int) (r:Int) (nc:Nat) (fc:Nat→Nat→Int) (m:Nat) (g:Nat→Nat→Int) (w:Int):Int:=cond (iEq (bdE lw fw lm fm n ls f r nc fc m g w) 0) (blV fc g w (loV lw fw lm fm f nc fc 0) (loV lw fw lm fm f nc fc 1) (loV lw fw lm fm f nc fc 2) (loV lw fw lm fm f nc fc 3) (loV lw fw lm fm f nc fc 4) (loV lw fw lm fm f nc fc 5) m) 0
def bdH (lw:Nat) (fw:Nat→Nat→Int) (lm:Nat) (fm:Nat→Nat→Int) (n:Nat) (ls:Nat→Nat) (f:Nat→Nat→Nat→Int) (r:Int) (nc:Nat) (fc:Nat→Nat→Int) (m:Nat) (g:Nat→Nat→Int) (w:Int):Int:=cond (iEq (bdE lw fw lm fm n ls f r nc fc m g w) 0) (blV fc g w (hiV lw fw lm fm f nc fc 0) (hiV lw fw lm fm f nc fc 1) (hiV lw fw lm fm f nc fc 2) (hiV lw fw lm fm f nc fc 3) (hiV lw fw lm fm f nc fc 4) (hiV lw fw lm fm f nc fc 5) m) 0
theorem gsm_ge {nc:Nat} {fc:Nat→Nat→Int} {k:Nat} {g:Nat→Nat→Int} {w:Int} (hw:0≤w) (h:∀ i,i<k→1≤fc (Int.toNat (g i 0)) 0):∀ i,i≤k→(i:Int)≤gsm fc g w i:=by
  intro i
  induction i with
  | zero=>intro _;exact hw
  | succ i ih =>
    intro hi
    have:=ih (by omega)
    have e:=h i (by omega)
    rw [gsm_s];omega
theorem bl_mk (lw:Nat) (fw:Nat→Nat→Int) (lm:Nat) (fm:Nat→Nat→Int) (n:Nat) (ls:Nat→Nat) (f:Nat→Nat→Nat→Int) (r:Int) (nc:Nat) (fc:Nat→Nat→Int) (m:Nat) (g:Nat→Nat→Int) (w:Int) {t0 t1 t2 t3 t4 t5:Int} (ok:StOk lw fw lm fm n ls f r nc fc) (ht:tnB nc fc t0 t1 t2 t3 t4 t5=true) (hb:hbB nc g m=true) (km:m≤1000) (h5:0≤w) (h6:w≤99):blB nc fc m g w t0 t1 t2 t3 t4 t5=true:=by
  obtain ⟨p1,p2⟩:=cond_tt hb
  obtain ⟨p2,_⟩:=cond_tt p2
  have p1:0<m:=by
    cases m with
    | zero=>cases p1
    | succ j=>omega
  have hg:∀ i,i<m→1≤fc (Int.toNat (g i 0)) 0:=fun i hi=>by
    have q:=allN_get p2 i hi
    unfold inH at q
    rw [iIn_t] at q
    exact (ok.cask (Int.toNat (g i 0)) (by omega)).1.1
  have hs:=gsm_ge (nc:=nc) h5 hg m (Nat.le_refl m)
  exact cond_mk ht (cond_mk (ble_mk km) (cond_mk (by rw [iLe_t];exact h5) (cond_mk (by rw [iLe_t];omega) (cond_mk p2 (by rw [iLe_t];omega)))))
end
end BL
end Go.Proofs.YtclagbonpachfaaGreat
