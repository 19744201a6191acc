/- Casks: Blend, as a contract. -/
import Derived.Test.YtclagbonpachfaaGreatYPrS3
set_option linter.all false
set_option linter.unusedSimpArgs false
set_option linter.unusedVariables false
namespace Go.Proofs.YtclagbonpachfaaGreat
namespace BL
open Go Go.Ev
set_option maxRecDepth 1000000
set_option maxHeartbeats 0
noncomputable section
variable (lw:Nat) (fw:Nat→Nat→Int) (lm:Nat) (fm:Nat→Nat→Int) (n:Nat) (ls:Nat→Nat) (f:Nat→Nat→Nat→Int)
def XBd:Ext:=conX [(35,cf valCs),(38,cfS valNw),(36,cf valHb),(46,cf valBe)] false
theorem XBd_ok:ExtOK Tryz.prog XBd:=conX_ok (allCon_cons (con_ok conCs)<|allCon_cons (con_okS conNw)<|allCon_cons (con_ok conHb)<|allCon_cons (con_ok conBe) allCon_nil)
theorem bd1 (r:Int) (nc:Nat) (fc:Nat→Nat→Int) (m:Nat) (g:Nat→Nat→Int) (w:Int) (s:smB lw lm n ls=true) (kn:nc≤1000) (km:m≤1000) (h:¬ ckE lw fw lm fm n ls f r nc fc=0):VC (runD0 Tryz.prog XBd 300 19 (enc [.st [.sl 1 lw fw,.sl 1 lm fm,.rr 1 n ls f,.i .i64 r,.sl 5 nc fc],.one (.sl 1 m g),.one (.i .i64 w)] 0) 5 (fun v=>valP v (.tup [.agg 2 (T.setL .lf 0 [.int .i64 0,.int .i64 0]),.int .i64 (ckE lw fw lm fm n ls f r nc fc)]))) (.go 21 .nil):=VC_of (((cond (cond (cond (allI .i64 (cellsI .i64 fw) lw 1) (cond (allI .i64 (cellsI .i64 fm) lm 1) (cond (cond true (allR 2 (rowsI 2 1 ls f) n 1) false) (cond (allI .i64 (cellsI .i64 fc) nc 5) true false) false) false) false) true false) (cond (smB lw lm n ls) (Nat.ble nc 1000) false) false)=true∧((not (iEq (ckE lw fw lm fm n ls f r nc fc) (0)))=true∧(((((0):Int)=(0))∧((((0):Int)=(0))∧True))∧((((ckE lw fw lm fm n ls f r nc fc):Int)=(ckE lw fw lm fm n ls f r nc fc))∧True)))))
theorem bd2 (r:Int) (nc:Nat) (fc:Nat→Nat→Int) (m:Nat) (g:Nat→Nat→Int) (w:Int) (s:smB lw lm n ls=true) (h:ckE lw fw lm fm n ls f r nc fc=0) (h1:tabE lw fw lm fm n ls f=0) (h2:nc≤6) (h3:acB lw fw lm fm fc nc=true) (km:m≤1000) (h4:hbB nc g m=false):VC (runD0 Tryz.prog XBd 300 19 (enc [.st [.sl 1 lw fw,.sl 1 lm fm,.rr 1 n ls f,.i .i64 r,.sl 5 nc fc],.one (.sl 1 m g),.one (.i .i64 w)] 0) 5 (fun v=>valP v (.tup [.agg 2 (T.setL .lf 0 [.int .i64 0,.int .i64 0]),.int .i64 2]))) (.go 345 .nil):=VC_of (((cond (cond (cond (allI .i64 (cellsI .i64 fw) lw 1) (cond (allI .i64 (cellsI .i64 fm) lm 1) (cond (cond true (allR 2 (rowsI 2 1 ls f) n 1) false) (cond (allI .i64 (cellsI .i64 fc) nc 5) true false) false) false) false) true false) (cond (smB lw lm n ls) (Nat.ble nc 1000) false) false)=true∧((not (iEq (ckE lw fw lm fm n ls f r nc fc) (0)))=false∧((cond (cond (cond (allI .i64 (cellsI .i64 fw) lw 1) (cond (allI .i64 (cellsI .i64 fm) lm 1) (cond (cond true (allR 2 (rowsI 2 1 ls f) n 1) false) (cond (allI .i64 (cellsI .i64 fc) nc 5) true false) false) false) false) (cond (allI .i64 (cellsI .i64 g) m 1) true false) false) (cond (Nat.ble nc 1000000) (Nat.ble m 1000000) false) false)=true∧((not (BL.hbB nc g m))=true∧(((((0):Int)=(0))∧((((0):Int)=(0))∧True))∧((((2):Int)=(2))∧True)))))))
theorem bd3 (r:Int) (nc:Nat) (fc:Nat→Nat→Int) (m:Nat) (g:Nat→Nat→Int) (w:Int) (s:smB lw lm n ls=true) (h:ckE lw fw lm fm n ls f r nc fc=0) (h1:tabE lw fw lm fm n ls f=0) (h2:nc≤6) (h3:acB lw fw lm fm fc nc=true) (km:m≤1000) (h4:hbB nc g m=true) (h5:¬ (0≤w∧w≤99)):VC (runD0 Tryz.prog XBd 300 19 (enc [.st [.sl 1 lw fw,.sl 1 lm fm,.rr 1 n ls f,.i .i64 r,.sl 5 nc fc],.one (.sl 1 m g),.one (.i .i64 w)] 0) 5 (fun v=>valP v (.tup [.agg 2 (T.setL .lf 0 [.int .i64 0,.int .i64 0]),.int .i64 2]))) (.go 4249 (.sp (.go 20480 .nil) .nil)):=VC_of (((cond (cond (cond (allI .i64 (cellsI .i64 fw) lw 1) (cond (allI .i64 (cellsI .i64 fm) lm 1) (cond (cond true (allR 2 (rowsI 2 1 ls f) n 1) false) (cond (allI .i64 (cellsI .i64 fc) nc 5) true false) false) false) false) true false) (cond (smB lw lm n ls) (Nat.ble nc 1000) false) false)=true∧((not (iEq (ckE lw fw lm fm n ls f r nc fc) (0)))=false∧((cond (cond (cond (allI .i64 (cellsI .i64 fw) lw 1) (cond (allI .i64 (cellsI .i64 fm) lm 1) (cond (cond true (allR 2 (rowsI 2 1 ls f) n 1) false) (cond (allI .i64 (cellsI .i64 fc) nc 5) true false) false) false) false) (cond (allI .i64 (cellsI .i64 g) m 1) true false) false) (cond (Nat.ble nc 1000000) (Nat.ble m 1000000) false) false)=true∧((not (BL.hbB nc g m))=false∧(((iLe (0) w)=true→((not (iLe w (99)))=true∧(((((0):Int)=(0))∧((((0):Int)=(0))∧True))∧((((2):Int)=(2))∧True)))) ∧
  ((iLe (0) w)=false→(((((0):Int)=(0))∧((((0):Int)=(0))∧True))∧((((2):Int)=(2))∧True)))))))))
theorem bd4 (r:Int) (nc:Nat) (fc:Nat→Nat→Int) (m:Nat) (g:Nat→Nat→Int) (w:Int) (s:smB lw lm n ls=true) (h:ckE lw fw lm fm n ls f r nc fc=0) (h1:tabE lw fw lm fm n ls f=0) (h2:nc≤6) (h3:acB lw fw lm fm fc nc=true) (km:m≤1000) (h4:hbB nc g m=true) (h5:0≤w) (h6:w≤99) (b1:blB nc fc m g w (loV lw fw lm fm f nc fc 0) (loV lw fw lm fm f nc fc 1) (loV lw fw lm fm f nc fc 2) (loV lw fw lm fm f nc fc 3) (loV lw fw lm fm f nc fc 4) (loV lw fw lm fm f nc fc 5)=true) (b2:blB nc fc m g w (hiV lw fw lm fm f nc fc 0) (hiV lw fw lm fm f nc fc 1) (hiV lw fw lm fm f nc fc 2) (hiV lw fw lm fm f nc fc 3) (hiV lw fw lm fm f nc fc 4) (hiV lw fw lm fm f nc fc 5)=true):VC (runD0 Tryz.prog XBd 300 19 (enc [.st [.sl 1 lw fw,.sl 1 lm fm,.rr 1 n ls f,.i .i64 r,.sl 5 nc fc],.one (.sl 1 m g),.one (.i .i64 w)] 0) 5 (fun v=>valP v (.tup [.agg 2 (T.setL .lf 0 [.int .i64 (blV fc g w (loV lw fw lm fm f nc fc 0) (loV lw fw lm fm f nc fc 1) (loV lw fw lm fm f nc fc 2) (loV lw fw lm fm f nc fc 3) (loV lw fw lm fm f nc fc 4) (loV lw fw lm fm f nc fc 5) m),.int .i64 (blV fc g w (hiV lw fw lm fm f nc fc 0) (hiV lw fw lm fm f nc fc 1) (hiV lw fw lm fm f nc fc 2) (hiV lw fw lm fm f nc fc 3) (hiV lw fw lm fm f nc fc 4) (hiV lw fw lm fm f nc fc 5) m)]),.int .i64 0]))) (.go 5771366553 .nil):=VC_of (((cond (cond (cond (allI .i64 (cellsI .i64 fw) lw 1) (cond (allI .i64 (cellsI .i64 fm) lm 1) (cond (cond true (allR 2 (rowsI 2 1 ls f) n 1) false) (cond (allI .i64 (cellsI .i64 fc) nc 5) true false) false) false) false) true false) (cond (smB lw lm n ls) (Nat.ble nc 1000) false) false)=true∧((not (iEq (ckE lw fw lm fm n ls f r nc fc) (0)))=false∧((cond (cond (cond (allI .i64 (cellsI .i64 fw) lw 1) (cond (allI .i64 (cellsI .i64 fm) lm 1) (cond (cond true (allR 2 (rowsI 2 1 ls f) n 1) false) (cond (allI .i64 (cellsI .i64 fc) nc 5) true false) false) false) false) (cond (allI .i64 (cellsI .i64 g) m 1) true false) false) (cond (Nat.ble nc 1000000) (Nat.ble m 1000000) false) false)=true∧((not (BL.hbB nc g m))=false∧((iLe (0) w)=true∧((not (iLe w (99)))=false∧((cond (cond (cond (allI .i64 (cellsI .i64 fw) lw 1) (cond (allI .i64 (cellsI .i64 fm) lm 1) (cond (cond true (allR 2 (rowsI 2 1 ls f) n 1) false) (cond (allI .i64 (cellsI .i64 fc) nc 5) true false) false) false) false) true false) (cond (iEq (tabE lw fw lm fm n ls f) (0)) (cond (Nat.ble nc 6) (acB lw fw lm fm fc nc) false) false) false)=true∧((cond (cond (cond (allI .i64 (cellsI .i64 fw) lw 1) (cond (allI .i64 (cellsI .i64 fm) lm 1) (cond (cond true (allR 2 (rowsI 2 1 ls f) n 1) false) (cond (allI .i64 (cellsI .i64 fc) nc 5) true false) false) false) false) (cond (allI .i64 (cellsI .i64 g) m 1) true false) false) (cond (BL.blB nc fc m g w (loV lw fw lm fm f nc fc 0) (loV lw fw lm fm f nc fc 1) (loV lw fw lm fm f nc fc 2) (loV lw fw lm fm f nc fc 3) (loV lw fw lm fm f nc fc 4) (loV lw fw lm fm f nc fc 5)) (BL.blB nc fc m g w (hiV lw fw lm fm f nc fc 0) (hiV lw fw lm fm f nc fc 1) (hiV lw fw lm fm f nc fc 2) (hiV lw fw lm fm f nc fc 3) (hiV lw fw lm fm f nc fc 4) (hiV lw fw lm fm f nc fc 5)) false) false)=true∧(((((BL.blV fc g w (loV lw fw lm fm f nc fc 0) (loV lw fw lm fm f nc fc 1) (loV lw fw lm fm f nc fc 2) (loV lw fw lm fm f nc fc 3) (loV lw fw lm fm f nc fc 4) (loV lw fw lm fm f nc fc 5) m):Int)=(BL.blV fc g w (loV lw fw lm fm f nc fc 0) (loV lw fw lm fm f nc fc 1) (loV lw fw lm fm f nc fc 2) (loV lw fw lm fm f nc fc 3) (loV lw fw lm fm f nc fc 4) (loV lw fw lm fm f nc fc 5) m))∧((((BL.blV fc g w (hiV lw fw lm fm f nc fc 0) (hiV lw fw lm fm f nc fc 1) (hiV lw fw lm fm f nc fc 2) (hiV lw fw lm fm f nc fc 3) (hiV lw fw lm fm f nc fc 4) (hiV lw fw lm fm f nc fc 5) m):Int)=(BL.blV fc g w (hiV lw fw lm fm f nc fc 0) (hiV lw fw lm fm f nc fc 1) (hiV lw fw lm fm f nc fc 2) (hiV lw fw lm fm f nc fc 3) (hiV lw fw lm fm f nc fc 4) (hiV lw fw lm fm f nc fc 5) m))∧True))∧((((0):Int)=(0))∧True)))))))))))
def bdE (lw:Nat) (fw:Nat→Nat→Int) (lm:Nat) (fm:Nat→Nat→Int) (n:Nat) (ls:Nat→Nat) (f:Nat→Nat→Nat→Int) (r:Int) (nc:Nat) (fc:Nat→Nat→Int) (m:Nat) (g:Nat→Nat→Int) (w:Int):Int:=cond (iEq (ckE lw fw lm fm n ls f r nc fc) 0) (cond (hbB nc g m) (cond (iLe 0 w) (cond (iLe w 99) 0 2) 2) 2) (ckE lw fw lm fm n ls f r nc fc)
def bdL (lw:Nat) (fw:Nat→Nat→Int) (lm:Nat) (fm:Nat→Nat→Int) (n:Nat) (ls:Nat→Nat) (f:Nat→Nat→Nat→Int) (r:Int) (nc:Nat) (fc:Nat→Nat→Int) (m:Nat) (g:Nat→Nat→Int) (w:Int):Int:=cond (iEq (bdE lw fw lm fm n ls f r nc fc m g w) 0) (blV fc g w (loV lw fw lm fm f nc fc 0) (loV lw fw lm fm f nc fc 1) (loV lw fw lm fm f nc fc 2) (loV lw fw lm fm f nc fc 3) (loV lw fw lm fm f nc fc 4) (loV lw fw lm fm f nc fc 5) m) 0
def bdH (lw:Nat) (fw:Nat→Nat→Int) (lm:Nat) (fm:Nat→Nat→Int) (n:Nat) (ls:Nat→Nat) (f:Nat→Nat→Nat→Int) (r:Int) (nc:Nat) (fc:Nat→Nat→Int) (m:Nat) (g:Nat→Nat→Int) (w:Int):Int:=cond (iEq (bdE lw fw lm fm n ls f r nc fc m g w) 0) (blV fc g w (hiV lw fw lm fm f nc fc 0) (hiV lw fw lm fm f nc fc 1) (hiV lw fw lm fm f nc fc 2) (hiV lw fw lm fm f nc fc 3) (hiV lw fw lm fm f nc fc 4) (hiV lw fw lm fm f nc fc 5) m) 0
theorem gsm_ge {nc:Nat} {fc:Nat→Nat→Int} {k:Nat} {g:Nat→Nat→Int} {w:Int} (hw:0≤w) (h:∀ i,i<k→1≤fc (Int.toNat (g i 0)) 0):∀ i,i≤k→(i:Int)≤gsm fc g w i:=by
  intro i
  induction i with
  | zero=>intro _;exact hw
  | succ i ih =>
    intro hi
    have:=ih (by omega)
    have e:=h i (by omega)
    rw [gsm_s];omega
theorem bl_mk (lw:Nat) (fw:Nat→Nat→Int) (lm:Nat) (fm:Nat→Nat→Int) (n:Nat) (ls:Nat→Nat) (f:Nat→Nat→Nat→Int) (r:Int) (nc:Nat) (fc:Nat→Nat→Int) (m:Nat) (g:Nat→Nat→Int) (w:Int) {t0 t1 t2 t3 t4 t5:Int} (ok:StOk lw fw lm fm n ls f r nc fc) (ht:tnB nc fc t0 t1 t2 t3 t4 t5=true) (hb:hbB nc g m=true) (km:m≤1000) (h5:0≤w) (h6:w≤99):blB nc fc m g w t0 t1 t2 t3 t4 t5=true:=by
  obtain ⟨p1,p2⟩:=cond_tt hb
  obtain ⟨p2,_⟩:=cond_tt p2
  have p1:0<m:=by
    cases m with
    | zero=>cases p1
    | succ j=>omega
  have hg:∀ i,i<m→1≤fc (Int.toNat (g i 0)) 0:=fun i hi=>by
    have q:=allN_get p2 i hi
    unfold inH at q
    rw [iIn_t] at q
    exact (ok.cask (Int.toNat (g i 0)) (by omega)).1.1
  have hs:=gsm_ge (nc:=nc) h5 hg m (Nat.le_refl m)
  exact cond_mk ht (cond_mk (ble_mk km) (cond_mk (by rw [iLe_t];exact h5) (cond_mk (by rw [iLe_t];omega) (cond_mk p2 (by rw [iLe_t];omega)))))
def valBd:Val:=fun das=>match das with | [.st [.sl 1 lw fw,.sl 1 lm fm,.rr 1 n ls f,.i .i64 r,.sl 5 nc fc],.one (.sl 1 m g),.one (.i .i64 w)]=>some (cond (smB lw lm n ls) (cond (Nat.ble nc 1000) (Nat.ble m 1000) false) false,.tup [.agg 2 (T.setL .lf 0 [.int .i64 (bdL lw fw lm fm n ls f r nc fc m g w),.int .i64 (bdH lw fw lm fm n ls f r nc fc m g w)]),.int .i64 (bdE lw fw lm fm n ls f r nc fc m g w)]) | _=>none
theorem conBd:Con Tryz.prog 19 valBd:=by
  intro das v hv
  unfold valBd at hv
  split at hv
  · rename_i lw fw lm fm n ls f r nc fc m g w
    have hb:=congrArg Prod.fst (Option.some.inj hv)
    have hv:=congrArg Prod.snd (Option.some.inj hv)
    subst hv
    obtain ⟨hb,hn⟩:=cond_tt hb
    obtain ⟨hn,hm⟩:=cond_tt hn
    have hn:=Nat.le_of_ble_eq_true hn
    have hm:=Nat.le_of_ble_eq_true hm
    have hz:∀ e:Int,bdE lw fw lm fm n ls f r nc fc m g w=e→e≠0→bdL lw fw lm fm n ls f r nc fc m g w=0∧bdH lw fw lm fm n ls f r nc fc m g w=0:=fun e q qn=>by
      unfold bdL bdH
      rw [q,(iEq_f _ _).mpr qn];exact ⟨rfl,rfl⟩
    by_cases h:ckE lw fw lm fm n ls f r nc fc=0
    · obtain ⟨c1,c2,c3⟩:=ck_hyp lw fw lm fm n ls f r nc fc h
      have ok:=ckE_get lw fw lm fm n ls f r nc fc h
      cases h4:hbB nc g m with
      | false =>
        have e:bdE lw fw lm fm n ls f r nc fc m g w=2:=by unfold bdE;rw [h,h4];rfl
        obtain ⟨e1,e2⟩:=hz 2 e (by decide)
        rw [e,e1,e2]
        exact con_runV drawnC XBd_ok rfl (das:=[.st [.sl 1 lw fw,.sl 1 lm fm,.rr 1 n ls f,.i .i64 r,.sl 5 nc fc],.one (.sl 1 m g),.one (.i .i64 w)]) (bd2 lw fw lm fm n ls f r nc fc m g w hb h c1 c2 c3 hm h4)
      | true =>
        by_cases h5:0≤w∧w≤99
        · have e:bdE lw fw lm fm n ls f r nc fc m g w=0:=by unfold bdE;rw [h,h4,(iLe_t 0 w).mpr h5.1,(iLe_t w 99).mpr h5.2];rfl
          have e1:bdL lw fw lm fm n ls f r nc fc m g w=(blV fc g w (loV lw fw lm fm f nc fc 0) (loV lw fw lm fm f nc fc 1) (loV lw fw lm fm f nc fc 2) (loV lw fw lm fm f nc fc 3) (loV lw fw lm fm f nc fc 4) (loV lw fw lm fm f nc fc 5) m):=by unfold bdL;rw [e];rfl
          have e2:bdH lw fw lm fm n ls f r nc fc m g w=(blV fc g w (hiV lw fw lm fm f nc fc 0) (hiV lw fw lm fm f nc fc 1) (hiV lw fw lm fm f nc fc 2) (hiV lw fw lm fm f nc fc 3) (hiV lw fw lm fm f nc fc 4) (hiV lw fw lm fm f nc fc 5) m):=by unfold bdH;rw [e];rfl
          rw [e,e1,e2]
          exact con_runV drawnC XBd_ok rfl (das:=[.st [.sl 1 lw fw,.sl 1 lm fm,.rr 1 n ls f,.i .i64 r,.sl 5 nc fc],.one (.sl 1 m g),.one (.i .i64 w)]) (bd4 lw fw lm fm n ls f r nc fc m g w hb h c1 c2 c3 hm h4 h5.1 h5.2 (bl_mk lw fw lm fm n ls f r nc fc m g w ok (tn_lo lw fw lm fm n ls f r nc fc ok) h4 hm h5.1 h5.2) (bl_mk lw fw lm fm n ls f r nc fc m g w ok (tn_hi lw fw lm fm n ls f r nc fc ok) h4 hm h5.1 h5.2))
        · have e:bdE lw fw lm fm n ls f r nc fc m g w=2:=by
            unfold bdE;rw [h,h4]
            by_cases q:0≤w
            · rw [(iLe_t 0 w).mpr q,show iLe w 99=false by
                cases q2:iLe w 99 with
                | false=>rfl
                | true=>rw [iLe_t] at q2;exact absurd ⟨q,q2⟩ h5];rfl
            · rw [show iLe 0 w=false by
                cases q2:iLe 0 w with
                | false=>rfl
                | true=>rw [iLe_t] at q2;exact absurd q2 q];rfl
          obtain ⟨e1,e2⟩:=hz 2 e (by decide)
          rw [e,e1,e2]
          exact con_runV drawnC XBd_ok rfl (das:=[.st [.sl 1 lw fw,.sl 1 lm fm,.rr 1 n ls f,.i .i64 r,.sl 5 nc fc],.one (.sl 1 m g),.one (.i .i64 w)]) (bd3 lw fw lm fm n ls f r nc fc m g w hb h c1 c2 c3 hm h4 h5)
    · have e:bdE lw fw lm fm n ls f r nc fc m g w=ckE lw fw lm fm n ls f r nc fc:=by unfold bdE;rw [(iEq_f _ _).mpr h];rfl
      obtain ⟨e1,e2⟩:=hz _ e h
      rw [e,e1,e2]
      exact con_runV drawnC XBd_ok rfl (das:=[.st [.sl 1 lw fw,.sl 1 lm fm,.rr 1 n ls f,.i .i64 r,.sl 5 nc fc],.one (.sl 1 m g),.one (.i .i64 w)]) (bd1 lw fw lm fm n ls f r nc fc m g w hb hn hm h)
  · cases hv
end
end BL
end Go.Proofs.YtclagbonpachfaaGreat
