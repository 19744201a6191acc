/- Casks: a list is one of casks of a blend: the contracts. -/
import Derived.Test.YtclagbonpachfaaGreatYPrS2
set_option linter.all false
set_option linter.unusedSimpArgs false
set_option linter.unusedVariables false
namespace Go.Proofs.YtclagbonpachfaaGreat
namespace BL
open Go Go.Ev
set_option maxRecDepth 1000000
set_option maxHeartbeats 0
noncomputable section
variable (lw:Nat) (fw:Nat→Nat→Int) (lm:Nat) (fm:Nat→Nat→Int) (n:Nat) (ls:Nat→Nat) (f:Nat→Nat→Nat→Int)
def inH (nc:Nat) (g:Nat→Nat→Int) (i:Nat):Bool:=iIn (g i 0) nc
def allH (nc:Nat) (g:Nat→Nat→Int) (m:Nat):Bool:=allN (inH nc g) m
def upH (g:Nat→Nat→Int) (i:Nat):Bool:=cond (iLe (g (i+1) 0) (g i 0)) false true
def risH (g:Nat→Nat→Int) (m:Nat):Bool:=allN (upH g) (Nat.sub m 1)
def hbB (nc:Nat) (g:Nat→Nat→Int) (m:Nat):Bool:=cond (Nat.blt 0 m) (cond (allH nc g m) (risH g m) false) false
def clH (lw:Nat) (fw:Nat→Nat→Int) (lm:Nat) (fm:Nat→Nat→Int) (n:Nat) (ls:Nat→Nat) (f:Nat→Nat→Nat→Int) (r:Int) (nc:Nat) (fc:Nat→Nat→Int):V := .func 59 [.agg 5 (T.setL .lf 0 [.fz true 1 (cellsI .i64 fw) lw 1,.fz true 2 (cellsI .i64 fm) lm 1,.fz true 3 (rowsI 3 1 ls f) n 1,.int .i64 r,.fz true 4 (cellsI .i64 fc) nc 5])] []
def ltH:LT:=⟨[1,7,8,9],[],[4],6⟩
def sH (lw:Nat) (fw:Nat→Nat→Int) (lm:Nat) (fm:Nat→Nat→Int) (n:Nat) (ls:Nat→Nat) (f:Nat→Nat→Nat→Int) (r:Int) (nc:Nat) (fc:Nat→Nat→Int) (m:Nat) (g:Nat→Nat→Int) (k:Nat):LS:=⟨[clH lw fw lm fm n ls f r nc fc,.fz true 0 (cellsI .i64 g) m 1,.int .i64 m,.int .i64 k],[]⟩
def bH:Code:=sub [1,0,1,0,0] (bodyOf Tryz.prog 65)
def ltU:LT:=⟨[0,3],[],[2],2⟩
def sU (m:Nat) (g:Nat→Nat→Int) (k:Nat):LS:=⟨[.fz true 0 (cellsI .i64 g) m 1,.int .i64 ((k:Int)+1)],[]⟩
def bU:Code:=sub [1,0,1,0,0] (bodyOf Tryz.prog 66)
theorem eH (r:Int) (nc:Nat) (fc:Nat→Nat→Int) (m:Nat) (g:Nat→Nat→Int):VC (entD Tryz.prog noExt 300 65 [1,0,1,0] [.one (.sl 1 m g),.cl 59 [.sl 1 lw fw,.sl 1 lm fm,.rr 1 n ls f,.i .i64 r,.sl 5 nc fc]] (heap0 6) ltH 18 60 (sH lw fw lm fm n ls f r nc fc m g 0)) .nil:=VC_of ((True∧((((V.func 59
  [V.agg (lenS' [D0.sl 1 lw fw,D0.sl 1 lm fm,D0.rr 1 n ls f,D0.i IntKind.i64 r,D0.sl 5 nc fc])
      (T.lf.setL 0
        (encL [D0.sl 1 lw fw,D0.sl 1 lm fm,D0.rr 1 n ls f,D0.i IntKind.i64 r,D0.sl 5 nc fc]
          (nxD (DA.one (D0.sl 1 m g)) 0)))]
  []:V)=V.func 59
  [V.agg 5
      (T.lf.setL 0
        [V.fz true 1 (cellsI .i64 fw) lw 1,V.fz true 2 (cellsI .i64 fm) lm 1,
          V.fz true 3 (rowsI 3 1 ls f) n 1,V.int IntKind.i64 r,V.fz true 4 (cellsI .i64 fc) nc 5])]
  [])∧((((V.fz true 0 (cellsI .i64 g) m 1):V)=(V.fz true 0 (cellsI .i64 g) m 1))∧(((((m:Nat):Int):Int)=((m:Nat):Int))∧((((0):Int)=(0))∧True))))∧True)))
theorem rH1 (r:Int) (nc:Nat) (fc:Nat→Nat→Int) (m:Nat) (g:Nat→Nat→Int) (k:Nat) (k1:k<m) (k2:m≤1000000) (k4:nc≤1000000) (k3:0≤g k 0∧g k 0<nc):VC (roundD Tryz.prog noExt 300 bH (heap0 6) ltH 18 60 (sH lw fw lm fm n ls f r nc fc m g k) (.next (sH lw fw lm fm n ls f r nc fc m g (k+1)))) (.go 1441813 .nil):=VC_of (((not (iLe ((m:Nat):Int) ((k:Nat):Int)))=true∧((Nat.blt k m)=true∧((iLe (0) (g k 0))=true∧((not (not (iLe ((nc:Nat):Int) (g k 0))))=false∧((small (((k:Nat):Int)+(1)))=true∧((((V.func 59
  [V.agg 5
      (T.lf.setL 0
        [V.fz true 1 (cellsI .i64 fw) lw 1,V.fz true 2 (cellsI .i64 fm) lm 1,
          V.fz true 3 (rowsI 3 1 ls f) n 1,V.int IntKind.i64 r,V.fz true 4 (cellsI .i64 fc) nc 5])]
  []:V)=V.func 59
  [V.agg 5
      (T.lf.setL 0
        [V.fz true 1 (cellsI .i64 fw) lw 1,V.fz true 2 (cellsI .i64 fm) lm 1,
          V.fz true 3 (rowsI 3 1 ls f) n 1,V.int IntKind.i64 r,V.fz true 4 (cellsI .i64 fc) nc 5])]
  [])∧((((V.fz true 0 (cellsI .i64 g) m 1):V)=(V.fz true 0 (cellsI .i64 g) m 1))∧(((((m:Nat):Int):Int)=((m:Nat):Int))∧((((((k:Nat):Int)+(1)):Int)=(((k+1):Nat):Int))∧True))))∧True)))))))
theorem rH2 (r:Int) (nc:Nat) (fc:Nat→Nat→Int) (m:Nat) (g:Nat→Nat→Int) (k:Nat) (k1:k<m) (k2:m≤1000000) (k4:nc≤1000000) (k3:¬ (0≤g k 0∧g k 0<nc)):VC (roundD Tryz.prog noExt 300 bH (heap0 6) ltH 18 60 (sH lw fw lm fm n ls f r nc fc m g k) (.ret ⟨[.bool false],[]⟩)) (.go 21 (.sp (.go 5120 .nil) .nil)):=VC_of (((not (iLe ((m:Nat):Int) ((k:Nat):Int)))=true∧((Nat.blt k m)=true∧(((iLe (0) (g k 0))=true→((not (not (iLe ((nc:Nat):Int) (g k 0))))=true∧(((false=false)∧True)∧True))) ∧
  ((iLe (0) (g k 0))=false→(((false=false)∧True)∧True))))))
theorem rH3 (r:Int) (nc:Nat) (fc:Nat→Nat→Int) (m:Nat) (g:Nat→Nat→Int) (k:Nat) (k1:¬ k<m):VC (roundD Tryz.prog noExt 300 bH (heap0 6) ltH 18 60 (sH lw fw lm fm n ls f r nc fc m g k) (.exit 0 ⟨[],[]⟩)) (.go 6 .nil):=VC_of (((not (iLe ((m:Nat):Int) ((k:Nat):Int)))=false∧(True∧True)))
theorem fH1  : VC (fromD Tryz.prog noExt 300 65 [1,0,1,0] (Lv.res ltH 18 (endH (heap0 6) ltH 60 (.exit 0 ⟨[],[]⟩)) (.exit 0 ⟨[],[]⟩)) (.bool true)) .nil:=VC_of ((true=true))
theorem fH2  : VC (fromD Tryz.prog noExt 300 65 [1,0,1,0] (Lv.res ltH 18 (endH (heap0 6) ltH 60 (.ret ⟨[.bool false],[]⟩)) (.ret ⟨[.bool false],[]⟩)) (.bool false)) .nil:=VC_of ((false=false))
theorem eU (m:Nat) (g:Nat→Nat→Int):VC (entD Tryz.prog noExt 300 66 [1,0,1,0] [.one (.sl 1 m g)] (heap0 2) ltU 20 60 (sU m g 0)) .nil:=VC_of ((True∧(((((V.fz true 0 (cellsI .i64 g) m 1):V)=(V.fz true 0 (cellsI .i64 g) m 1))∧((((1):Int)=(1))∧True))∧True)))
theorem rU1 (m:Nat) (g:Nat→Nat→Int) (k:Nat) (k1:k+1<m) (k2:m≤1000000) (k3:¬ g (k+1) 0≤g (Int.toNat (((k:Nat):Int)+1-1)) 0):VC (roundD Tryz.prog noExt 300 bU (heap0 2) ltU 20 60 (sU m g k) (.next (sU m g (k+1)))) (.go 5717 .nil):=VC_of (((not (iLe ((m:Nat):Int) (((k:Nat):Int)+(1))))=true∧((Nat.blt (k+1) m)=true∧((small ((((k:Nat):Int)+(1))-(1)))=true∧((iIn ((((k:Nat):Int)+(1))-(1)) m)=true∧((iLe (g (k+1) 0) (g (Int.toNat ((((k:Nat):Int)+(1))-(1))) 0))=false∧((small ((((k:Nat):Int)+(1))+(1)))=true∧(((((V.fz true 0 (cellsI .i64 g) m 1):V)=(V.fz true 0 (cellsI .i64 g) m 1))∧(((((((k:Nat):Int)+(1))+(1)):Int)=((((k+1):Nat):Int)+(1)))∧True))∧True))))))))
theorem rU2 (m:Nat) (g:Nat→Nat→Int) (k:Nat) (k1:k+1<m) (k2:m≤1000000) (k3:g (k+1) 0≤g (Int.toNat (((k:Nat):Int)+1-1)) 0):VC (roundD Tryz.prog noExt 300 bU (heap0 2) ltU 20 60 (sU m g k) (.ret ⟨[.bool false],[]⟩)) (.go 1365 .nil):=VC_of (((not (iLe ((m:Nat):Int) (((k:Nat):Int)+(1))))=true∧((Nat.blt (k+1) m)=true∧((small ((((k:Nat):Int)+(1))-(1)))=true∧((iIn ((((k:Nat):Int)+(1))-(1)) m)=true∧((iLe (g (k+1) 0) (g (Int.toNat ((((k:Nat):Int)+(1))-(1))) 0))=true∧(((false=false)∧True)∧True)))))))
theorem rU3 (m:Nat) (g:Nat→Nat→Int) (k:Nat) (k1:¬ k+1<m):VC (roundD Tryz.prog noExt 300 bU (heap0 2) ltU 20 60 (sU m g k) (.exit 0 ⟨[],[]⟩)) (.go 6 .nil):=VC_of (((not (iLe ((m:Nat):Int) (((k:Nat):Int)+(1))))=false∧(True∧True)))
theorem fU1  : VC (fromD Tryz.prog noExt 300 66 [1,0,1,0] (Lv.res ltU 20 (endH (heap0 2) ltU 60 (.exit 0 ⟨[],[]⟩)) (.exit 0 ⟨[],[]⟩)) (.bool true)) .nil:=VC_of ((true=true))
theorem fU2  : VC (fromD Tryz.prog noExt 300 66 [1,0,1,0] (Lv.res ltU 20 (endH (heap0 2) ltU 60 (.ret ⟨[.bool false],[]⟩)) (.ret ⟨[.bool false],[]⟩)) (.bool false)) .nil:=VC_of ((false=false))
def valAh:Val:=fun das=>match das with | [.one (.sl 1 m g),.cl 59 [.sl 1 lw fw,.sl 1 lm fm,.rr 1 n ls f,.i .i64 r,.sl 5 nc fc]]=>some (cond (Nat.ble nc 1000000) (Nat.ble m 1000000) false,.bool (allH nc g m)) | _=>none
def valRs:Val:=fun das=>match das with | [.one (.sl 1 m g)]=>some (Nat.ble m 1000000,.bool (risH g m)) | _=>none
theorem conAh:Con Tryz.prog 65 valAh:=by
  intro das v hv
  unfold valAh at hv
  split at hv
  · rename_i m g lw fw lm fm n ls f r nc fc
    have hb:=congrArg Prod.fst (Option.some.inj hv)
    have hv:=congrArg Prod.snd (Option.some.inj hv)
    subst hv
    obtain ⟨hc,hb⟩:=cond_tt hb
    have hb:=Nat.le_of_ble_eq_true hb
    have hc:=Nat.le_of_ble_eq_true hc
    refine ⟨rfl,?_⟩
    have ht:∀ k,inH nc g k=true→0≤g k 0∧g k 0<nc:=fun k h=>by unfold inH at h;rw [iIn_t] at h;exact h
    have hf:∀ k,inH nc g k=false→¬ (0≤g k 0∧g k 0<nc):=fun k h q=>by
      have:inH nc g k=true:=by unfold inH;rw [iIn_t];exact q
      rw [this] at h;cases h
    rcases first_bad (inH nc g) m with h | ⟨N,z1,z2,z3⟩
    · have e:allH nc g m=true:=allN_true h
      show ∃ v' H',SpecCall _ _ _ _ v' H'∧valP v' (.bool (allH nc g m))
      rw [e]
      exact con_loopD drawnC noExt_ok (das:=[.one (.sl 1 m g),.cl 59 [.sl 1 lw fw,.sl 1 lm fm,.rr 1 n ls f,.i .i64 r,.sl 5 nc fc]]) (lv := .exit 0 ⟨[],[]⟩) (by kernel_rfl) (by kernel_rfl) (eH lw fw lm fm n ls f r nc fc m g).ok (loop_rule (body:=bH) (fun _ e=>by cases e) m (sH lw fw lm fm n ls f r nc fc m g) (fun k hk =>
        round_of drawnC noExt_ok (rH1 lw fw lm fm n ls f r nc fc m g k hk hb hc (ht k (h k hk))).ok (by kernel_rfl) (by kernel_rfl)) (round_of drawnC noExt_ok (rH3 lw fw lm fm n ls f r nc fc m g m (by omega)).ok (by kernel_rfl) (by kernel_rfl))) fH1.ok
    · have e:allH nc g m=false:=allN_false z1 z3
      show ∃ v' H',SpecCall _ _ _ _ v' H'∧valP v' (.bool (allH nc g m))
      rw [e]
      exact con_loopD drawnC noExt_ok (das:=[.one (.sl 1 m g),.cl 59 [.sl 1 lw fw,.sl 1 lm fm,.rr 1 n ls f,.i .i64 r,.sl 5 nc fc]]) (lv := .ret ⟨[.bool false],[]⟩) (by kernel_rfl) (by kernel_rfl) (eH lw fw lm fm n ls f r nc fc m g).ok (loop_rule (body:=bH) (fun _ e=>by cases e) N (sH lw fw lm fm n ls f r nc fc m g) (fun k hk =>
        round_of drawnC noExt_ok (rH1 lw fw lm fm n ls f r nc fc m g k (by omega) hb hc (ht k (z2 k hk))).ok (by kernel_rfl) (by kernel_rfl)) (round_of drawnC noExt_ok (rH2 lw fw lm fm n ls f r nc fc m g N z1 hb hc (hf N z3)).ok (by kernel_rfl) (by kernel_rfl))) fH2.ok
  · cases hv
theorem upH_t {g:Nat→Nat→Int} {k:Nat} (h:upH g k=true):¬ g (k+1) 0≤g (Int.toNat (((k:Nat):Int)+1-1)) 0:=by
  rw [show Int.toNat (((k:Nat):Int)+1-1)=k by omega]
  intro q
  unfold upH at h
  rw [← iLe_t] at q
  rw [q] at h;cases h
theorem upH_f {g:Nat→Nat→Int} {k:Nat} (h:upH g k=false):g (k+1) 0≤g (Int.toNat (((k:Nat):Int)+1-1)) 0:=by
  rw [show Int.toNat (((k:Nat):Int)+1-1)=k by omega]
  unfold upH at h
  cases hq:iLe (g (k+1) 0) (g k 0) with
  | true=>rw [iLe_t] at hq;exact hq
  | false=>rw [hq] at h;cases h
theorem conRs:Con Tryz.prog 66 valRs:=by
  intro das v hv
  unfold valRs at hv
  split at hv
  · rename_i m g
    have hb:=Nat.le_of_ble_eq_true (congrArg Prod.fst (Option.some.inj hv))
    have hv:=congrArg Prod.snd (Option.some.inj hv)
    subst hv
    refine ⟨rfl,?_⟩
    rcases first_bad (upH g) (Nat.sub m 1) with h | ⟨N,z1,z2,z3⟩
    · have e:risH g m=true:=allN_true h
      have hm:∀ k,k<Nat.sub m 1→k+1<m:=fun k hk=>by have:k<m-1:=hk;omega
      show ∃ v' H',SpecCall _ _ _ _ v' H'∧valP v' (.bool (risH g m))
      rw [e]
      exact con_loopD drawnC noExt_ok (das:=[.one (.sl 1 m g)]) (lv := .exit 0 ⟨[],[]⟩) (by kernel_rfl) (by kernel_rfl) (eU m g).ok (loop_rule (body:=bU) (fun _ e=>by cases e) (Nat.sub m 1) (sU m g) (fun k hk =>
        round_of drawnC noExt_ok (rU1 m g k (hm k hk) hb (upH_t (h k hk))).ok (by kernel_rfl) (by kernel_rfl)) (round_of drawnC noExt_ok (rU3 m g (Nat.sub m 1) (by show ¬ (m-1)+1<m;omega)).ok (by kernel_rfl) (by kernel_rfl))) fU1.ok
    · have e:risH g m=false:=allN_false z1 z3
      have hm:∀ k,k<Nat.sub m 1→k+1<m:=fun k hk=>by have:k<m-1:=hk;omega
      show ∃ v' H',SpecCall _ _ _ _ v' H'∧valP v' (.bool (risH g m))
      rw [e]
      exact con_loopD drawnC noExt_ok (das:=[.one (.sl 1 m g)]) (lv := .ret ⟨[.bool false],[]⟩) (by kernel_rfl) (by kernel_rfl) (eU m g).ok (loop_rule (body:=bU) (fun _ e=>by cases e) N (sU m g) (fun k hk =>
        round_of drawnC noExt_ok (rU1 m g k (hm k (Nat.lt_trans hk z1)) hb (upH_t (z2 k hk))).ok (by kernel_rfl) (by kernel_rfl)) (round_of drawnC noExt_ok (rU2 m g N (hm N z1) hb (upH_f z3)).ok (by kernel_rfl) (by kernel_rfl))) fU2.ok
  · cases hv
def XHb:Ext:=conX [(65,cf valAh),(66,cf valRs)] false
theorem XHb_ok:ExtOK Tryz.prog XHb:=conX_ok (allCon_cons (con_ok conAh)<|allCon_cons (con_ok conRs) allCon_nil)
theorem hb0 (r:Int) (nc:Nat) (fc:Nat→Nat→Int) (g:Nat→Nat→Int):VC (runD0 Tryz.prog XHb 300 36 (enc [.st [.sl 1 lw fw,.sl 1 lm fm,.rr 1 n ls f,.i .i64 r,.sl 5 nc fc],.one (.sl 1 0 g)] 0) 5 (fun v=>valP v (.bool false))) .nil:=VC_of ((false=false))
theorem hb1 (r:Int) (nc:Nat) (fc:Nat→Nat→Int) (m:Nat) (g:Nat→Nat→Int) (k1:0<m) (k2:m≤1000000) (k4:nc≤1000000) (k3:allH nc g m=false):VC (runD0 Tryz.prog XHb 300 36 (enc [.st [.sl 1 lw fw,.sl 1 lm fm,.rr 1 n ls f,.i .i64 r,.sl 5 nc fc],.one (.sl 1 m g)] 0) 5 (fun v=>valP v (.bool false))) (.go 6209 .nil):=VC_of (((not (iLe ((m:Nat):Int) (0)))=true∧((cond (cond (allI .i64 (cellsI .i64 g) m 1) (cond (cond (allI .i64 (cellsI .i64 fw) lw 1) (cond (allI .i64 (cellsI .i64 fm) lm 1) (cond (cond true (allR 2 (rowsI 2 1 ls f) n 1) false) (cond (allI .i64 (cellsI .i64 fc) nc 5) true false) false) false) false) true false) false) (cond (Nat.ble nc 1000000) (Nat.ble m 1000000) false) false)=true∧((BL.allH nc g m)=false∧(false=false)))))
theorem hb2 (r:Int) (nc:Nat) (fc:Nat→Nat→Int) (m:Nat) (g:Nat→Nat→Int) (k1:0<m) (k2:m≤1000000) (k4:nc≤1000000) (k3:allH nc g m=true):VC (runD0 Tryz.prog XHb 300 36 (enc [.st [.sl 1 lw fw,.sl 1 lm fm,.rr 1 n ls f,.i .i64 r,.sl 5 nc fc],.one (.sl 1 m g)] 0) 5 (fun v=>valP v (.bool (risH g m)))) (.go 83009 .nil):=VC_of (((not (iLe ((m:Nat):Int) (0)))=true∧((cond (cond (allI .i64 (cellsI .i64 g) m 1) (cond (cond (allI .i64 (cellsI .i64 fw) lw 1) (cond (allI .i64 (cellsI .i64 fm) lm 1) (cond (cond true (allR 2 (rowsI 2 1 ls f) n 1) false) (cond (allI .i64 (cellsI .i64 fc) nc 5) true false) false) false) false) true false) false) (cond (Nat.ble nc 1000000) (Nat.ble m 1000000) false) false)=true∧((BL.allH nc g m)=true∧((cond (cond (allI .i64 (cellsI .i64 g) m 1) true false) (Nat.ble m 1000000) false)=true∧((BL.risH g m)=(BL.risH g m)))))))
def valHb:Val:=fun das=>match das with | [.st [.sl 1 lw fw,.sl 1 lm fm,.rr 1 n ls f,.i .i64 r,.sl 5 nc fc],.one (.sl 1 m g)]=>some (cond (Nat.ble nc 1000000) (Nat.ble m 1000000) false,.bool (hbB nc g m)) | _=>none
theorem conHb:Con Tryz.prog 36 valHb:=by
  intro das v hv
  unfold valHb at hv
  split at hv
  · rename_i lw fw lm fm n ls f r nc fc m g
    have hb:=congrArg Prod.fst (Option.some.inj hv)
    have hv:=congrArg Prod.snd (Option.some.inj hv)
    subst hv
    obtain ⟨hc,hb⟩:=cond_tt hb
    have hb:=Nat.le_of_ble_eq_true hb
    have hc:=Nat.le_of_ble_eq_true hc
    cases m with
    | zero=>exact con_runV drawnC XHb_ok rfl (das:=[.st [.sl 1 lw fw,.sl 1 lm fm,.rr 1 n ls f,.i .i64 r,.sl 5 nc fc],.one (.sl 1 0 g)]) (hb0 lw fw lm fm n ls f r nc fc g)
    | succ j =>
      cases ha:allH nc g (Nat.succ j) with
      | false =>
        have e:hbB nc g (Nat.succ j)=false:=by unfold hbB;rw [ha];rfl
        rw [e]
        exact con_runV drawnC XHb_ok rfl (das:=[.st [.sl 1 lw fw,.sl 1 lm fm,.rr 1 n ls f,.i .i64 r,.sl 5 nc fc],.one (.sl 1 (Nat.succ j) g)]) (hb1 lw fw lm fm n ls f r nc fc (Nat.succ j) g (by omega) hb hc ha)
      | true =>
        have e:hbB nc g (Nat.succ j)=risH g (Nat.succ j):=by unfold hbB;rw [ha];rfl
        rw [e]
        exact con_runV drawnC XHb_ok rfl (das:=[.st [.sl 1 lw fw,.sl 1 lm fm,.rr 1 n ls f,.i .i64 r,.sl 5 nc fc],.one (.sl 1 (Nat.succ j) g)]) (hb2 lw fw lm fm n ls f r nc fc (Nat.succ j) g (by omega) hb hc ha)
  · cases hv
end
end BL
end Go.Proofs.YtclagbonpachfaaGreat
