/- Tables: contracts: all numbers of a row are in a range; a row rises. -/
import Derived.Test.YtclagbonpachfaaGreatYTb
set_option linter.all false
set_option linter.unusedSimpArgs false
set_option linter.unusedVariables false
namespace Go.Proofs.YtclagbonpachfaaGreat
open Go Go.Ev
set_option maxRecDepth 1000000
noncomputable section
def inB (lo hi:Int) (f:Nat→Nat→Int) (i:Nat):Bool:=decide (lo≤f i 0∧f i 0≤hi)
def allIn (lo hi:Int) (f:Nat→Nat→Int) (len:Nat):Bool:=allN (inB lo hi f) len
def upB (f:Nat→Nat→Int) (i:Nat):Bool:=decide (f i 0<f (i+1) 0)
def allUp (f:Nat→Nat→Int) (len:Nat):Bool:=allN (upB f) (len-1)
def clH (lo hi:Int):V := .func 105 [.agg 2 (T.setL .lf 0 [.int .i64 lo,.int .i64 hi])] []
def ltA:LT:=⟨[1,7,8,9],[],[4],2⟩
def sA (lo hi:Int) (len:Nat) (f:Nat→Nat→Int) (k:Nat):LS:=⟨[clH lo hi,.fz true 0 (cellsI .i64 f) len 1,.int .i64 len,.int .i64 k],[]⟩
def dasA (lo hi:Int) (len:Nat) (f:Nat→Nat→Int):List DA:=[.one (.sl 1 len f),.cl 105 [.i .i64 lo,.i .i64 hi]]
def bA:Code:=sub [1,0,1,0,0] (bodyOf Tryz.prog 112)
def ltU:LT:=⟨[0,1,5],[],[4],2⟩
def sU (len:Nat) (f:Nat→Nat→Int) (k:Nat):LS:=⟨[.fz true 0 (cellsI .i64 f) len 1,.func 114 [] [],.int .i64 ((k:Int)+1)],[]⟩
def dasU (len:Nat) (f:Nat→Nat→Int):List DA:=[.one (.sl 1 len f),.fn 114]
def bU:Code:=sub [1,0,1,0,0] (bodyOf Tryz.prog 115)
theorem eA (lo hi:Int) (len:Nat) (f:Nat→Nat→Int):VC (entD Tryz.prog noExt 300 112 [1,0,1,0] (dasA lo hi len f) (heap0 2) ltA 18 60 (sA lo hi len f 0)) .nil:=VC_of ((True∧((((V.func 105
  [V.agg (lenS' [D0.i IntKind.i64 lo,D0.i IntKind.i64 hi])
      (T.lf.setL 0 (encL [D0.i IntKind.i64 lo,D0.i IntKind.i64 hi] (nxD (DA.one (D0.sl 1 len f)) 0)))]
  []:V)=V.func 105 [V.agg 2 (T.lf.setL 0 [V.int IntKind.i64 lo,V.int IntKind.i64 hi])] [])∧((((V.fz true 0 (cellsI .i64 f) len 1):V)=(V.fz true 0 (cellsI .i64 f) len 1))∧(((((len:Nat):Int):Int)=((len:Nat):Int))∧((((0):Int)=((0:Nat):Int))∧True))))∧True)))
theorem rA1 (lo hi:Int) (len k:Nat) (f:Nat→Nat→Int) (h1:k<len) (h2:len≤1000000) (h3:lo≤f k 0) (h4:f k 0≤hi):VC (roundD Tryz.prog noExt 300 bA (heap0 2) ltA 18 60 (sA lo hi len f k) (.next (sA lo hi len f (k+1)))) (.go 360469 .nil):=VC_of (((not (iLe ((len:Nat):Int) ((k:Nat):Int)))=true∧((Nat.blt k len)=true∧((iLe lo (f k 0))=true∧((not (iLe (f k 0) hi))=false∧((small (((k:Nat):Int)+(1)))=true∧((((V.func 105 [V.agg 2 (T.lf.setL 0 [V.int IntKind.i64 lo,V.int IntKind.i64 hi])] []:V)=V.func 105 [V.agg 2 (T.lf.setL 0 [V.int IntKind.i64 lo,V.int IntKind.i64 hi])] [])∧((((V.fz true 0 (cellsI .i64 f) len 1):V)=(V.fz true 0 (cellsI .i64 f) len 1))∧(((((len:Nat):Int):Int)=((len:Nat):Int))∧((((((k:Nat):Int)+(1)):Int)=(((k+1):Nat):Int))∧True))))∧True)))))))
theorem rA2 (lo hi:Int) (len k:Nat) (f:Nat→Nat→Int) (h1:k<len) (h2:len≤1000000) (h3:¬ (lo≤f k 0∧f k 0≤hi)):VC (roundD Tryz.prog noExt 300 bA (heap0 2) ltA 18 60 (sA lo hi len f k) (.ret ⟨[.bool false],[]⟩)) (.go 21 (.sp (.go 1280 .nil) .nil)):=VC_of (((not (iLe ((len:Nat):Int) ((k:Nat):Int)))=true∧((Nat.blt k len)=true∧(((iLe lo (f k 0))=true→((not (iLe (f k 0) hi))=true∧(((false=false)∧True)∧True))) ∧
  ((iLe lo (f k 0))=false→(((false=false)∧True)∧True))))))
theorem rA3 (lo hi:Int) (len k:Nat) (f:Nat→Nat→Int) (h1:¬ k<len):VC (roundD Tryz.prog noExt 300 bA (heap0 2) ltA 18 60 (sA lo hi len f k) (.exit 0 ⟨[],[]⟩)) (.go 6 .nil):=VC_of (((not (iLe ((len:Nat):Int) ((k:Nat):Int)))=false∧(True∧True)))
theorem fA1  : VC (fromD Tryz.prog noExt 300 112 [1,0,1,0] (Lv.res ltA 18 (endH (heap0 2) ltA 60 (.exit 0 ⟨[],[]⟩)) (.exit 0 ⟨[],[]⟩)) (.bool true)) .nil:=VC_of ((true=true))
theorem fA2  : VC (fromD Tryz.prog noExt 300 112 [1,0,1,0] (Lv.res ltA 18 (endH (heap0 2) ltA 60 (.ret ⟨[.bool false],[]⟩)) (.ret ⟨[.bool false],[]⟩)) (.bool false)) .nil:=VC_of ((false=false))
theorem eU (len:Nat) (f:Nat→Nat→Int):VC (entD Tryz.prog noExt 300 115 [1,0,1,0] (dasU len f) (heap0 2) ltU 24 60 (sU len f 0)) .nil:=VC_of ((True∧(((((V.fz true 0 (cellsI .i64 f) len 1):V)=(V.fz true 0 (cellsI .i64 f) len 1))∧(((V.func 114 [] []:V)=V.func 114 [] [])∧((((1):Int)=(((0:Nat):Int)+(1)))∧True)))∧True)))
theorem rU1 (len k:Nat) (f:Nat→Nat→Int) (h1:k+1<len) (h2:len≤1000000) (h3:f (Int.toNat (((k:Nat):Int)+1-1)) 0<f (k+1) 0):VC (roundD Tryz.prog noExt 300 bU (heap0 2) ltU 24 60 (sU len f k) (.next (sU len f (k+1)))) (.go 5717 .nil):=VC_of (((not (iLe ((len:Nat):Int) (((k:Nat):Int)+(1))))=true∧((small ((((k:Nat):Int)+(1))-(1)))=true∧((iIn ((((k:Nat):Int)+(1))-(1)) len)=true∧((Nat.blt (k+1) len)=true∧((not (not (iLe (f (k+1) 0) (f (Int.toNat ((((k:Nat):Int)+(1))-(1))) 0))))=false∧((small ((((k:Nat):Int)+(1))+(1)))=true∧(((((V.fz true 0 (cellsI .i64 f) len 1):V)=(V.fz true 0 (cellsI .i64 f) len 1))∧(((V.func 114 [] []:V)=V.func 114 [] [])∧(((((((k:Nat):Int)+(1))+(1)):Int)=((((k+1):Nat):Int)+(1)))∧True)))∧True))))))))
theorem rU2 (len k:Nat) (f:Nat→Nat→Int) (h1:k+1<len) (h2:len≤1000000) (h3:¬ (f (Int.toNat (((k:Nat):Int)+1-1)) 0<f (k+1) 0)):VC (roundD Tryz.prog noExt 300 bU (heap0 2) ltU 24 60 (sU len f k) (.ret ⟨[.bool false],[]⟩)) (.go 1365 .nil):=VC_of (((not (iLe ((len:Nat):Int) (((k:Nat):Int)+(1))))=true∧((small ((((k:Nat):Int)+(1))-(1)))=true∧((iIn ((((k:Nat):Int)+(1))-(1)) len)=true∧((Nat.blt (k+1) len)=true∧((not (not (iLe (f (k+1) 0) (f (Int.toNat ((((k:Nat):Int)+(1))-(1))) 0))))=true∧(((false=false)∧True)∧True)))))))
theorem rU3 (len k:Nat) (f:Nat→Nat→Int) (h1:¬ k+1<len):VC (roundD Tryz.prog noExt 300 bU (heap0 2) ltU 24 60 (sU len f k) (.exit 0 ⟨[],[]⟩)) (.go 6 .nil):=VC_of (((not (iLe ((len:Nat):Int) (((k:Nat):Int)+(1))))=false∧(True∧True)))
theorem fU1  : VC (fromD Tryz.prog noExt 300 115 [1,0,1,0] (Lv.res ltU 24 (endH (heap0 2) ltU 60 (.exit 0 ⟨[],[]⟩)) (.exit 0 ⟨[],[]⟩)) (.bool true)) .nil:=VC_of ((true=true))
theorem fU2  : VC (fromD Tryz.prog noExt 300 115 [1,0,1,0] (Lv.res ltU 24 (endH (heap0 2) ltU 60 (.ret ⟨[.bool false],[]⟩)) (.ret ⟨[.bool false],[]⟩)) (.bool false)) .nil:=VC_of ((false=false))
def valAll:Val:=fun das=>match das with | [.one (.sl 1 len f),.cl 105 [.i .i64 lo,.i .i64 hi]]=>some (Nat.ble len 1000000,.bool (allIn lo hi f len)) | _=>none
def valFol:Val:=fun das=>match das with | [.one (.sl 1 len f),.fn 114]=>some (Nat.ble len 1000000,.bool (allUp f len)) | _=>none
theorem conAll:Con Tryz.prog 112 valAll:=by
  intro das v hv
  unfold valAll at hv
  split at hv
  · rename_i len f lo hi
    have hb:=Nat.le_of_ble_eq_true (congrArg Prod.fst (Option.some.inj hv))
    have hv:=congrArg Prod.snd (Option.some.inj hv)
    subst hv
    refine ⟨rfl,?_⟩
    rcases first_bad (inB lo hi f) len with h | ⟨N,h1,h2,h3⟩
    · have e:allIn lo hi f len=true:=allN_true h
      show ∃ v' H',SpecCall _ _ _ _ v' H'∧valP v' (.bool (allIn lo hi f len))
      rw [e]
      exact con_loopD drawnC noExt_ok (das:=dasA lo hi len f) (lv := .exit 0 ⟨[],[]⟩) (by kernel_rfl) (by kernel_rfl) (eA lo hi len f).ok (loop_rule (body:=bA) (fun _ e=>by cases e) len (sA lo hi len f) (fun k hk=>by
        have:=h k hk
        simp only [inB,decide_eq_true_eq] at this
        exact round_of drawnC noExt_ok (rA1 lo hi len k f hk hb this.1 this.2).ok (by kernel_rfl) (by kernel_rfl)) (round_of drawnC noExt_ok (rA3 lo hi len len f (by omega)).ok (by kernel_rfl) (by kernel_rfl))) fA1.ok
    · have e:allIn lo hi f len=false:=allN_false h1 h3
      show ∃ v' H',SpecCall _ _ _ _ v' H'∧valP v' (.bool (allIn lo hi f len))
      rw [e]
      exact con_loopD drawnC noExt_ok (das:=dasA lo hi len f) (lv := .ret ⟨[.bool false],[]⟩) (by kernel_rfl) (by kernel_rfl) (eA lo hi len f).ok (loop_rule (body:=bA) (fun _ e=>by cases e) N (sA lo hi len f) (fun k hk=>by
        have:=h2 k hk
        simp only [inB,decide_eq_true_eq] at this
        exact round_of drawnC noExt_ok (rA1 lo hi len k f (by omega) hb this.1 this.2).ok (by kernel_rfl) (by kernel_rfl)) (by
        simp only [inB,decide_eq_false_iff_not] at h3
        exact round_of drawnC noExt_ok (rA2 lo hi len N f h1 hb h3).ok (by kernel_rfl) (by kernel_rfl))) fA2.ok
  · cases hv
theorem conFol:Con Tryz.prog 115 valFol:=by
  intro das v hv
  unfold valFol at hv
  split at hv
  · rename_i len f
    have hb:=Nat.le_of_ble_eq_true (congrArg Prod.fst (Option.some.inj hv))
    have hv:=congrArg Prod.snd (Option.some.inj hv)
    subst hv
    refine ⟨rfl,?_⟩
    rcases first_bad (upB f) (len-1) with h | ⟨N,h1,h2,h3⟩
    · have e:allUp f len=true:=allN_true h
      show ∃ v' H',SpecCall _ _ _ _ v' H'∧valP v' (.bool (allUp f len))
      rw [e]
      exact con_loopD drawnC noExt_ok (das:=dasU len f) (lv := .exit 0 ⟨[],[]⟩) (by kernel_rfl) (by kernel_rfl) (eU len f).ok (loop_rule (body:=bU) (fun _ e=>by cases e) (len-1) (sU len f) (fun k hk=>by
        have:=h k hk
        simp only [upB,decide_eq_true_eq] at this
        exact round_of drawnC noExt_ok (rU1 len k f (by omega) hb (by rw [show Int.toNat (((k:Nat):Int)+1-1)=k by omega];exact this)).ok (by kernel_rfl) (by kernel_rfl)) (round_of drawnC noExt_ok (rU3 len (len-1) f (by omega)).ok (by kernel_rfl) (by kernel_rfl))) fU1.ok
    · have e:allUp f len=false:=allN_false h1 h3
      show ∃ v' H',SpecCall _ _ _ _ v' H'∧valP v' (.bool (allUp f len))
      rw [e]
      exact con_loopD drawnC noExt_ok (das:=dasU len f) (lv := .ret ⟨[.bool false],[]⟩) (by kernel_rfl) (by kernel_rfl) (eU len f).ok (loop_rule (body:=bU) (fun _ e=>by cases e) N (sU len f) (fun k hk=>by
        have:=h2 k hk
        simp only [upB,decide_eq_true_eq] at this
        exact round_of drawnC noExt_ok (rU1 len k f (by omega) hb (by rw [show Int.toNat (((k:Nat):Int)+1-1)=k by omega];exact this)).ok (by kernel_rfl) (by kernel_rfl)) (by
        simp only [upB,decide_eq_false_iff_not] at h3
        exact round_of drawnC noExt_ok (rU2 len N f (by omega) hb (by rw [show Int.toNat (((N:Nat):Int)+1-1)=N by omega];exact h3)).ok (by kernel_rfl) (by kernel_rfl))) fU2.ok
  · cases hv
end
end Go.Proofs.YtclagbonpachfaaGreat
/- Tables: contracts: what is valid. -/
namespace Go.Proofs.YtclagbonpachfaaGreat
open Go Go.Ev
set_option maxRecDepth 1000000
noncomputable section
variable (lw:Nat) (fw:Nat→Nat→Int) (lm:Nat) (fm:Nat→Nat→Int) (n:Nat) (ls:Nat→Nat) (f:Nat→Nat→Nat→Int)
def XV1:Ext:=conX [(112,cf valAll),(115,cf valFol)] false
theorem XV1_ok:ExtOK Tryz.prog XV1:=conX_ok (allCon_cons (con_ok conAll)<|allCon_cons (con_ok conFol) allCon_nil)
def rowB (lm k:Nat) (g:Nat→Nat→Int):Bool:=cond (iEq (k:Int) lm) (allIn 0 2000 g k) false
theorem rSr1 (k:Nat) (g:Nat→Nat→Int) (hk:k≤1000) (h:(k:Int)=lm):VC (runD0 Tryz.prog XV1 300 99 (enc [.st [.sl 1 lw fw,.sl 1 lm fm,.rr 1 n ls f],.one (.sl 1 k g)] 0) 4 (fun v=>valP v (.bool (rowB lm k g)))) (.go 1281 .nil):=VC_of (((iEq ((k:Nat):Int) ((lm:Nat):Int))=true∧((cond (cond (allI .i64 (cellsI .i64 g) k 1) true false) (Nat.ble k 1000000) false)=true∧((allIn (0) (2000) g k)=(cond (iEq ((k:Nat):Int) ((lm:Nat):Int)) (allIn (0) (2000) g k) false))))) (q:=by
  have e:=(iEq_t (k:Int) lm).mpr h;simp only [e,cond_true];(try simp only [iLe_t,iLe_f,iEq_t,iEq_f,small_t,small_f,cmin,cmax,not_t,not_f,boolEq_t,boolEq_f,ble_t,ble_f,blt_t,blt_f,beq_t,beq_f,iIn_t,iIn_f,allI_cells,allR_rows,cond_true,cond_false,true_and,and_true,eq_self]);(repeat' (first | exact True.intro | (with_reducible assumption) | refine And.intro ?_ ?_ | refine cond_mk ?_ ?_ | intro _));all_goals (first | (with_reducible assumption) | (with_reducible rfl) | omega | rfl | (simp only [iLe_t,iLe_f,iEq_t,iEq_f,small_t,small_f,cmin,cmax,not_t,not_f,boolEq_t,boolEq_f,ble_t,ble_f,blt_t,blt_f,beq_t,beq_f,iIn_t,iIn_f,allI_cells,allR_rows,cond_true,cond_false,true_and,and_true,eq_self];first | done | omega | (with_reducible assumption) | rfl)))
theorem rSr2 (k:Nat) (g:Nat→Nat→Int) (hk:k≤1000) (h:¬ (k:Int)=lm):VC (runD0 Tryz.prog XV1 300 99 (enc [.st [.sl 1 lw fw,.sl 1 lm fm,.rr 1 n ls f],.one (.sl 1 k g)] 0) 4 (fun v=>valP v (.bool (rowB lm k g)))) (.go 6 .nil):=VC_of (((iEq ((k:Nat):Int) ((lm:Nat):Int))=false∧(false=(cond (iEq ((k:Nat):Int) ((lm:Nat):Int)) (allIn (0) (2000) g k) false)))) (q:=by
  have e:=(iEq_f (k:Int) lm).mpr h;simp only [e,cond_false];(try simp only [iLe_t,iLe_f,iEq_t,iEq_f,small_t,small_f,cmin,cmax,not_t,not_f,boolEq_t,boolEq_f,ble_t,ble_f,blt_t,blt_f,beq_t,beq_f,iIn_t,iIn_f,allI_cells,allR_rows,cond_true,cond_false,true_and,and_true,eq_self]);(repeat' (first | exact True.intro | (with_reducible assumption) | refine And.intro ?_ ?_ | refine cond_mk ?_ ?_ | intro _));all_goals (first | (with_reducible assumption) | (with_reducible rfl) | omega | rfl | (simp only [iLe_t,iLe_f,iEq_t,iEq_f,small_t,small_f,cmin,cmax,not_t,not_f,boolEq_t,boolEq_f,ble_t,ble_f,blt_t,blt_f,beq_t,beq_f,iIn_t,iIn_f,allI_cells,allR_rows,cond_true,cond_false,true_and,and_true,eq_self];first | done | omega | (with_reducible assumption) | rfl)))
def valSr:Val:=fun das=>match das with | [.st [.sl 1 lw fw,.sl 1 lm fm,.rr 1 n ls f],.one (.sl 1 k g)]=>some (Nat.ble k 1000,.bool (rowB lm k g)) | _=>none
theorem conSr:Con Tryz.prog 99 valSr:=by
  intro das v hv
  unfold valSr at hv
  split at hv
  · rename_i lw fw lm fm n ls f k g
    have hb:=Nat.le_of_ble_eq_true (congrArg Prod.fst (Option.some.inj hv))
    have hv:=congrArg Prod.snd (Option.some.inj hv)
    subst hv
    by_cases h:(k:Int)=lm
    · exact con_runV drawnC XV1_ok rfl (das:=[.st [.sl 1 lw fw,.sl 1 lm fm,.rr 1 n ls f],.one (.sl 1 k g)]) (rSr1 lw fw lm fm n ls f k g hb h)
    · exact con_runV drawnC XV1_ok rfl (das:=[.st [.sl 1 lw fw,.sl 1 lm fm,.rr 1 n ls f],.one (.sl 1 k g)]) (rSr2 lw fw lm fm n ls f k g hb h)
  · cases hv
def allRowsB (lm n:Nat) (ls:Nat→Nat) (f:Nat→Nat→Nat→Int):Bool:=allN (fun i=>rowB lm (ls i) (f i)) n
def shortB (n:Nat) (ls:Nat→Nat):Bool:=allN (fun i=>Nat.ble (ls i) 1000) n
def XV2:Ext:=conX [(99,cf valSr)] false
theorem XV2_ok:ExtOK Tryz.prog XV2:=conX_ok (allCon_cons (con_ok conSr) allCon_nil)
def wV (lw:Nat) (fw:Nat→Nat→Int) (lm:Nat) (fm:Nat→Nat→Int) (n:Nat) (ls:Nat→Nat) (f:Nat→Nat→Nat→Int) (n2:Nat) (ls2:Nat→Nat) (f2:Nat→Nat→Nat→Int) (a:Nat):V := .agg 3 (T.setL .lf 0 (encL [.sl 1 lw fw,.sl 1 lm fm,.rr 1 n2 ls2 f2] a))
def dasR (lw:Nat) (fw:Nat→Nat→Int) (lm:Nat) (fm:Nat→Nat→Int) (n:Nat) (ls:Nat→Nat) (f:Nat→Nat→Nat→Int) (n2:Nat) (ls2:Nat→Nat) (f2:Nat→Nat→Nat→Int):List DA:=[.one (.rr 1 n ls f),.cl 99 [.sl 1 lw fw,.sl 1 lm fm,.rr 1 n2 ls2 f2]]
def ltR:LT:=⟨[1,7,8,9],[],[4],5⟩
def sR (lw:Nat) (fw:Nat→Nat→Int) (lm:Nat) (fm:Nat→Nat→Int) (n:Nat) (ls:Nat→Nat) (f:Nat→Nat→Nat→Int) (n2:Nat) (ls2:Nat→Nat) (f2:Nat→Nat→Nat→Int) (k:Nat):LS:=⟨[.func 99 [wV lw fw lm fm n ls f n2 ls2 f2 1] [],.fz true 0 (rowsI 0 1 ls f) n 1,.int .i64 n,.int .i64 k],[]⟩
def bR:Code:=sub [1,0,1,0,0] (bodyOf Tryz.prog 101)
theorem eR (n2:Nat) (ls2:Nat→Nat) (f2:Nat→Nat→Nat→Int):VC (entD Tryz.prog XV2 300 101 [1,0,1,0] (dasR lw fw lm fm n ls f n2 ls2 f2) (heap0 5) ltR 18 90 (sR lw fw lm fm n ls f n2 ls2 f2 0)) .nil:=VC_of ((True∧((((V.func 99
  [V.agg (lenS' [D0.sl 1 lw fw,D0.sl 1 lm fm,D0.rr 1 n2 ls2 f2])
      (T.lf.setL 0 (encL [D0.sl 1 lw fw,D0.sl 1 lm fm,D0.rr 1 n2 ls2 f2] (nxD (DA.one (D0.rr 1 n ls f)) 0)))]
  []:V)=V.func 99 [wV lw fw lm fm n ls f n2 ls2 f2 1] [])∧((((V.fz true 0 (fun i x=>V.fz true 0 (cellsI .i64 (f i)) (ls i) 1) n 1):V)=(V.fz true 0 (fun i x=>V.fz true 0 (cellsI .i64 (f i)) (ls i) 1) n 1))∧(((((n:Nat):Int):Int)=((n:Nat):Int))∧((((0):Int)=((0:Nat):Int))∧True))))∧True)))
theorem rR1 (n2:Nat) (ls2:Nat→Nat) (f2:Nat→Nat→Nat→Int) (k:Nat) (h1:k<n) (h2:n≤1000) (h3:ls k≤1000) (h4:rowB lm (ls k) (f k)=true):VC (roundD Tryz.prog XV2 300 bR (heap0 5) ltR 18 90 (sR lw fw lm fm n ls f n2 ls2 f2 k) (.next (sR lw fw lm fm n ls f n2 ls2 f2 (k+1)))) (.go 1429 .nil):=VC_of (((not (iLe ((n:Nat):Int) ((k:Nat):Int)))=true∧((Nat.blt k n)=true∧((cond (cond (okTb 3 lw fw lm fm n2 ls2 f2) (cond (allI .i64 (cellsI .i64 (f k)) (ls k) 1) true false) false) (Nat.ble (ls k) 1000) false)=true∧((not (rowB lm (ls k) (f k)))=false∧((small (((k:Nat):Int)+(1)))=true∧((((V.func 99 [wV lw fw lm fm n ls f n2 ls2 f2 1] []:V)=V.func 99 [wV lw fw lm fm n ls f n2 ls2 f2 1] [])∧((((V.fz true 0 (fun i x=>V.fz true 0 (cellsI .i64 (f i)) (ls i) 1) n 1):V)=(V.fz true 0 (fun i x=>V.fz true 0 (cellsI .i64 (f i)) (ls i) 1) n 1))∧(((((n:Nat):Int):Int)=((n:Nat):Int))∧((((((k:Nat):Int)+(1)):Int)=(((k+1):Nat):Int))∧True))))∧True)))))))
theorem rR2 (n2:Nat) (ls2:Nat→Nat) (f2:Nat→Nat→Nat→Int) (k:Nat) (h1:k<n) (h2:n≤1000) (h3:ls k≤1000) (h4:rowB lm (ls k) (f k)=false):VC (roundD Tryz.prog XV2 300 bR (heap0 5) ltR 18 90 (sR lw fw lm fm n ls f n2 ls2 f2 k) (.ret ⟨[.bool false],[]⟩)) (.go 341 .nil):=VC_of (((not (iLe ((n:Nat):Int) ((k:Nat):Int)))=true∧((Nat.blt k n)=true∧((cond (cond (okTb 3 lw fw lm fm n2 ls2 f2) (cond (allI .i64 (cellsI .i64 (f k)) (ls k) 1) true false) false) (Nat.ble (ls k) 1000) false)=true∧((not (rowB lm (ls k) (f k)))=true∧(((false=false)∧True)∧True))))))
theorem rR3 (n2:Nat) (ls2:Nat→Nat) (f2:Nat→Nat→Nat→Int) (k:Nat) (h1:¬ k<n):VC (roundD Tryz.prog XV2 300 bR (heap0 5) ltR 18 90 (sR lw fw lm fm n ls f n2 ls2 f2 k) (.exit 0 ⟨[],[]⟩)) (.go 6 .nil):=VC_of (((not (iLe ((n:Nat):Int) ((k:Nat):Int)))=false∧(True∧True)))
theorem fR1  : VC (fromD Tryz.prog XV2 300 101 [1,0,1,0] (Lv.res ltR 18 (endH (heap0 5) ltR 90 (.exit 0 ⟨[],[]⟩)) (.exit 0 ⟨[],[]⟩)) (.bool true)) .nil:=VC_of ((true=true))
theorem fR2  : VC (fromD Tryz.prog XV2 300 101 [1,0,1,0] (Lv.res ltR 18 (endH (heap0 5) ltR 90 (.ret ⟨[.bool false],[]⟩)) (.ret ⟨[.bool false],[]⟩)) (.bool false)) .nil:=VC_of ((false=false))
def valAr:Val:=fun das=>match das with | [.one (.rr 1 n ls f),.cl 99 [.sl 1 lw fw,.sl 1 lm fm,.rr 1 n2 ls2 f2]]=>some (cond (Nat.ble n 1000) (shortB n ls) false,.bool (allRowsB lm n ls f)) | _=>none
theorem conAr:Con Tryz.prog 101 valAr:=by
  intro das v hv
  unfold valAr at hv
  split at hv
  · rename_i n ls f lw fw lm fm n2 ls2 f2
    have hb:=congrArg Prod.fst (Option.some.inj hv)
    have hv:=congrArg Prod.snd (Option.some.inj hv)
    subst hv
    obtain ⟨hb,hs⟩:=cond_tt hb
    have hb:=Nat.le_of_ble_eq_true hb
    have hl:∀ k,k<n→ls k≤1000:=fun k hk=>Nat.le_of_ble_eq_true (allN_get hs k hk)
    refine ⟨rfl,?_⟩
    rcases first_bad (fun i=>rowB lm (ls i) (f i)) n with h | ⟨N,h1,h2,h3⟩
    · have e:allRowsB lm n ls f=true:=allN_true h
      show ∃ v' H',SpecCall _ _ _ _ v' H'∧valP v' (.bool (allRowsB lm n ls f))
      rw [e]
      exact con_loopD drawnC XV2_ok (das:=dasR lw fw lm fm n ls f n2 ls2 f2) (lv := .exit 0 ⟨[],[]⟩) (by kernel_rfl) (by kernel_rfl) (eR lw fw lm fm n ls f n2 ls2 f2).ok (loop_rule (body:=bR) (fun _ e=>by cases e) n (sR lw fw lm fm n ls f n2 ls2 f2) (fun k hk =>
        round_of drawnC XV2_ok (rR1 lw fw lm fm n ls f n2 ls2 f2 k hk hb (hl k hk) (h k hk)).ok (by kernel_rfl) (by kernel_rfl)) (round_of drawnC XV2_ok (rR3 lw fw lm fm n ls f n2 ls2 f2 n (by omega)).ok (by kernel_rfl) (by kernel_rfl))) fR1.ok
    · have e:allRowsB lm n ls f=false:=allN_false h1 h3
      show ∃ v' H',SpecCall _ _ _ _ v' H'∧valP v' (.bool (allRowsB lm n ls f))
      rw [e]
      exact con_loopD drawnC XV2_ok (das:=dasR lw fw lm fm n ls f n2 ls2 f2) (lv := .ret ⟨[.bool false],[]⟩) (by kernel_rfl) (by kernel_rfl) (eR lw fw lm fm n ls f n2 ls2 f2).ok (loop_rule (body:=bR) (fun _ e=>by cases e) N (sR lw fw lm fm n ls f n2 ls2 f2) (fun k hk =>
        round_of drawnC XV2_ok (rR1 lw fw lm fm n ls f n2 ls2 f2 k (by omega) hb (hl k (by omega)) (h2 k hk)).ok (by kernel_rfl) (by kernel_rfl)) (round_of drawnC XV2_ok (rR2 lw fw lm fm n ls f n2 ls2 f2 N h1 hb (hl N h1) h3).ok (by kernel_rfl) (by kernel_rfl))) fR2.ok
  · cases hv
end
end Go.Proofs.YtclagbonpachfaaGreat
/- Tables: contracts: what is valid: the whole table. -/
namespace Go.Proofs.YtclagbonpachfaaGreat
open Go Go.Ev
set_option maxRecDepth 1000000
noncomputable section
def XV3:Ext:=conX [(112,cf valAll),(115,cf valFol),(101,cf valAr)] false
theorem XV3_ok:ExtOK Tryz.prog XV3:=conX_ok (allCon_cons (con_ok conAll)<|allCon_cons (con_ok conFol)<|allCon_cons (con_ok conAr) allCon_nil)
def sideB (len:Nat) (g:Nat→Nat→Int) (m:Int):Bool:=cond (iLe 2 (len:Int)) (cond (allIn 0 m g len) (allUp g len) false) false
def tabB (lw:Nat) (fw:Nat→Nat→Int) (lm:Nat) (fm:Nat→Nat→Int) (n:Nat) (ls:Nat→Nat) (f:Nat→Nat→Nat→Int):Bool:=cond (sideB lw fw 40) (cond (sideB lm fm 60) (cond (iEq (n:Int) (lw:Int)) (allRowsB lm n ls f) false) false) false
def tabE (lw:Nat) (fw:Nat→Nat→Int) (lm:Nat) (fm:Nat→Nat→Int) (n:Nat) (ls:Nat→Nat) (f:Nat→Nat→Nat→Int):Int:=cond (iLe (lw:Int) 5) (cond (iLe (lm:Int) 5) (cond (iLe (n:Int) 5) (cond (tabB lw fw lm fm n ls f) 0 1) 3) 3) 3
theorem rCk (lw:Nat) (fw:Nat→Nat→Int) (lm:Nat) (fm:Nat→Nat→Int) (n:Nat) (ls:Nat→Nat) (f:Nat→Nat→Nat→Int) (h1:lw≤1000) (h2:lm≤1000) (h3:n≤1000) (h4:shortB n ls=true):VC (runD0 Tryz.prog XV3 400 63 (enc [.st [.sl 1 lw fw,.sl 1 lm fm,.rr 1 n ls f]] 0) 3 (fun v=>valP v (.int .i64 (tabE lw fw lm fm n ls f)))) (.go 16 (.sp .nil (.go 16 (.cs (1) (.sp .nil (.go 65536 (.sp .nil (.go 16 (.sp (.go 4352 (.sp (.go 1088 (.sp .nil (.go 16 (.cs (1) (.sp (.go 4352 (.sp (.go 1088 (.sp .nil (.go 16777216 (.sp (.go 4352 (.sp .nil .nil)) .nil)))) .nil)) .nil) .nil)))) .nil)) .nil))))) .nil)))):=VC_of ((((not (iLe ((lw:Nat):Int) (5)))=true→(((3):Int)=(cond (iLe ((lw:Nat):Int) (5)) (cond (iLe ((lm:Nat):Int) (5)) (cond (iLe ((n:Nat):Int) (5)) (cond (cond (cond (iLe (2) ((lw:Nat):Int)) (cond (allIn (0) (40) fw lw) (allUp fw lw) false) false) (cond (cond (iLe (2) ((lm:Nat):Int)) (cond (allIn (0) (60) fm lm) (allUp fm lm) false) false) (cond (iEq ((n:Nat):Int) ((lw:Nat):Int)) (allRowsB lm n ls f) false) false) false) (0) (1)) (3)) (3)) (3)))) ∧
  ((not (iLe ((lw:Nat):Int) (5)))=false→(((((0)+(1)):Int)=(1)∨False)∧(((((0)+(1)):Int)=(1)→(((not (iLe ((lm:Nat):Int) (5)))=true→(((3):Int)=(cond (iLe ((lw:Nat):Int) (5)) (cond (iLe ((lm:Nat):Int) (5)) (cond (iLe ((n:Nat):Int) (5)) (cond (cond (cond (iLe (2) ((lw:Nat):Int)) (cond (allIn (0) (40) fw lw) (allUp fw lw) false) false) (cond (cond (iLe (2) ((lm:Nat):Int)) (cond (allIn (0) (60) fm lm) (allUp fm lm) false) false) (cond (iEq ((n:Nat):Int) ((lw:Nat):Int)) (allRowsB lm n ls f) false) false) false) (0) (1)) (3)) (3)) (3)))) ∧
  ((not (iLe ((lm:Nat):Int) (5)))=false→(((not (iLe ((n:Nat):Int) (5)))=true→(((3):Int)=(cond (iLe ((lw:Nat):Int) (5)) (cond (iLe ((lm:Nat):Int) (5)) (cond (iLe ((n:Nat):Int) (5)) (cond (cond (cond (iLe (2) ((lw:Nat):Int)) (cond (allIn (0) (40) fw lw) (allUp fw lw) false) false) (cond (cond (iLe (2) ((lm:Nat):Int)) (cond (allIn (0) (60) fm lm) (allUp fm lm) false) false) (cond (iEq ((n:Nat):Int) ((lw:Nat):Int)) (allRowsB lm n ls f) false) false) false) (0) (1)) (3)) (3)) (3)))) ∧
  ((not (iLe ((n:Nat):Int) (5)))=false→(((iLe (2) ((lw:Nat):Int))=true→((cond (cond (allI .i64 (cellsI .i64 fw) lw 1) true false) (Nat.ble lw 1000000) false)=true∧(((allIn (0) (40) fw lw)=true→((cond (cond (allI .i64 (cellsI .i64 fw) lw 1) true false) (Nat.ble lw 1000000) false)=true∧(((not (allUp fw lw))=true→(((1):Int)=(cond (iLe ((lw:Nat):Int) (5)) (cond (iLe ((lm:Nat):Int) (5)) (cond (iLe ((n:Nat):Int) (5)) (cond (cond (cond (iLe (2) ((lw:Nat):Int)) (cond (allIn (0) (40) fw lw) (allUp fw lw) false) false) (cond (cond (iLe (2) ((lm:Nat):Int)) (cond (allIn (0) (60) fm lm) (allUp fm lm) false) false) (cond (iEq ((n:Nat):Int) ((lw:Nat):Int)) (allRowsB lm n ls f) false) false) false) (0) (1)) (3)) (3)) (3)))) ∧
  ((not (allUp fw lw))=false→(((((0)+(1)):Int)=(1)∨False)∧(((((0)+(1)):Int)=(1)→(((iLe (2) ((lm:Nat):Int))=true→((cond (cond (allI .i64 (cellsI .i64 fm) lm 1) true false) (Nat.ble lm 1000000) false)=true∧(((allIn (0) (60) fm lm)=true→((cond (cond (allI .i64 (cellsI .i64 fm) lm 1) true false) (Nat.ble lm 1000000) false)=true∧(((not (allUp fm lm))=true→(((1):Int)=(cond (iLe ((lw:Nat):Int) (5)) (cond (iLe ((lm:Nat):Int) (5)) (cond (iLe ((n:Nat):Int) (5)) (cond (cond (cond (iLe (2) ((lw:Nat):Int)) (cond (allIn (0) (40) fw lw) (allUp fw lw) false) false) (cond (cond (iLe (2) ((lm:Nat):Int)) (cond (allIn (0) (60) fm lm) (allUp fm lm) false) false) (cond (iEq ((n:Nat):Int) ((lw:Nat):Int)) (allRowsB lm n ls f) false) false) false) (0) (1)) (3)) (3)) (3)))) ∧
  ((not (allUp fm lm))=false→(((iEq ((n:Nat):Int) ((lw:Nat):Int))=true→((cond (cond (cond true (allR 2 (rowsI 2 1 ls f) n 1) false) (cond (okTb 2 lw fw lm fm n ls f) true false) false) (cond (Nat.ble n 1000) (shortB n ls) false) false)=true∧(((not (allRowsB lm n ls f))=true→(((1):Int)=(cond (iLe ((lw:Nat):Int) (5)) (cond (iLe ((lm:Nat):Int) (5)) (cond (iLe ((n:Nat):Int) (5)) (cond (cond (cond (iLe (2) ((lw:Nat):Int)) (cond (allIn (0) (40) fw lw) (allUp fw lw) false) false) (cond (cond (iLe (2) ((lm:Nat):Int)) (cond (allIn (0) (60) fm lm) (allUp fm lm) false) false) (cond (iEq ((n:Nat):Int) ((lw:Nat):Int)) (allRowsB lm n ls f) false) false) false) (0) (1)) (3)) (3)) (3)))) ∧
  ((not (allRowsB lm n ls f))=false→(((0):Int)=(cond (iLe ((lw:Nat):Int) (5)) (cond (iLe ((lm:Nat):Int) (5)) (cond (iLe ((n:Nat):Int) (5)) (cond (cond (cond (iLe (2) ((lw:Nat):Int)) (cond (allIn (0) (40) fw lw) (allUp fw lw) false) false) (cond (cond (iLe (2) ((lm:Nat):Int)) (cond (allIn (0) (60) fm lm) (allUp fm lm) false) false) (cond (iEq ((n:Nat):Int) ((lw:Nat):Int)) (allRowsB lm n ls f) false) false) false) (0) (1)) (3)) (3)) (3))))))) ∧
  ((iEq ((n:Nat):Int) ((lw:Nat):Int))=false→(((1):Int)=(cond (iLe ((lw:Nat):Int) (5)) (cond (iLe ((lm:Nat):Int) (5)) (cond (iLe ((n:Nat):Int) (5)) (cond (cond (cond (iLe (2) ((lw:Nat):Int)) (cond (allIn (0) (40) fw lw) (allUp fw lw) false) false) (cond (cond (iLe (2) ((lm:Nat):Int)) (cond (allIn (0) (60) fm lm) (allUp fm lm) false) false) (cond (iEq ((n:Nat):Int) ((lw:Nat):Int)) (allRowsB lm n ls f) false) false) false) (0) (1)) (3)) (3)) (3))))))))) ∧
  ((allIn (0) (60) fm lm)=false→(((1):Int)=(cond (iLe ((lw:Nat):Int) (5)) (cond (iLe ((lm:Nat):Int) (5)) (cond (iLe ((n:Nat):Int) (5)) (cond (cond (cond (iLe (2) ((lw:Nat):Int)) (cond (allIn (0) (40) fw lw) (allUp fw lw) false) false) (cond (cond (iLe (2) ((lm:Nat):Int)) (cond (allIn (0) (60) fm lm) (allUp fm lm) false) false) (cond (iEq ((n:Nat):Int) ((lw:Nat):Int)) (allRowsB lm n ls f) false) false) false) (0) (1)) (3)) (3)) (3))))))) ∧
  ((iLe (2) ((lm:Nat):Int))=false→(((1):Int)=(cond (iLe ((lw:Nat):Int) (5)) (cond (iLe ((lm:Nat):Int) (5)) (cond (iLe ((n:Nat):Int) (5)) (cond (cond (cond (iLe (2) ((lw:Nat):Int)) (cond (allIn (0) (40) fw lw) (allUp fw lw) false) false) (cond (cond (iLe (2) ((lm:Nat):Int)) (cond (allIn (0) (60) fm lm) (allUp fm lm) false) false) (cond (iEq ((n:Nat):Int) ((lw:Nat):Int)) (allRowsB lm n ls f) false) false) false) (0) (1)) (3)) (3)) (3))))))∧True)))))) ∧
  ((allIn (0) (40) fw lw)=false→(((1):Int)=(cond (iLe ((lw:Nat):Int) (5)) (cond (iLe ((lm:Nat):Int) (5)) (cond (iLe ((n:Nat):Int) (5)) (cond (cond (cond (iLe (2) ((lw:Nat):Int)) (cond (allIn (0) (40) fw lw) (allUp fw lw) false) false) (cond (cond (iLe (2) ((lm:Nat):Int)) (cond (allIn (0) (60) fm lm) (allUp fm lm) false) false) (cond (iEq ((n:Nat):Int) ((lw:Nat):Int)) (allRowsB lm n ls f) false) false) false) (0) (1)) (3)) (3)) (3))))))) ∧
  ((iLe (2) ((lw:Nat):Int))=false→(((1):Int)=(cond (iLe ((lw:Nat):Int) (5)) (cond (iLe ((lm:Nat):Int) (5)) (cond (iLe ((n:Nat):Int) (5)) (cond (cond (cond (iLe (2) ((lw:Nat):Int)) (cond (allIn (0) (40) fw lw) (allUp fw lw) false) false) (cond (cond (iLe (2) ((lm:Nat):Int)) (cond (allIn (0) (60) fm lm) (allUp fm lm) false) false) (cond (iEq ((n:Nat):Int) ((lw:Nat):Int)) (allRowsB lm n ls f) false) false) false) (0) (1)) (3)) (3)) (3))))))))))∧True))))) (q:=by
  (repeat' (first | exact True.intro | exact Or.inl rfl | refine And.intro ?_ ?_ | (intro hh;(try simp only [Bool.not_eq_true',Bool.not_eq_false'] at hh))));all_goals (first | (with_reducible assumption) | (with_reducible rfl) | (simp only [*,cond_true,cond_false];done) | (exact DEFT)))
def valCk:Val:=fun das=>match das with | [.st [.sl 1 lw fw,.sl 1 lm fm,.rr 1 n ls f]]=>some (cond (Nat.ble lw 1000) (cond (Nat.ble lm 1000) (cond (Nat.ble n 1000) (shortB n ls) false) false) false,.int .i64 (tabE lw fw lm fm n ls f)) | _=>none
theorem conCk:Con Tryz.prog 63 valCk:=by
  intro das v hv
  unfold valCk at hv
  split at hv
  · rename_i lw fw lm fm n ls f
    have hb:=congrArg Prod.fst (Option.some.inj hv)
    have hv:=congrArg Prod.snd (Option.some.inj hv)
    subst hv
    obtain ⟨h1,hb⟩:=cond_tt hb
    obtain ⟨h2,hb⟩:=cond_tt hb
    obtain ⟨h3,h4⟩:=cond_tt hb
    exact con_runV drawnC XV3_ok rfl (das:=[.st [.sl 1 lw fw,.sl 1 lm fm,.rr 1 n ls f]]) (rCk lw fw lm fm n ls f (Nat.le_of_ble_eq_true h1) (Nat.le_of_ble_eq_true h2) (Nat.le_of_ble_eq_true h3) h4)
  · cases hv
end
end Go.Proofs.YtclagbonpachfaaGreat
/- Tables: what is valid, in words; where a point is; the strength at it. -/
namespace Go.Proofs.YtclagbonpachfaaGreat
open Go Go.Ev
set_option maxRecDepth 1000000
noncomputable section
structure LinesOk (len:Nat) (g:Nat→Nat→Int) (m:Int):Prop where
  two:2≤len
  five:len≤5
  inn:∀ i,i<len→0≤g i 0∧g i 0≤m
  up:∀ i,i+1<len→g i 0<g (i+1) 0
structure TabOk (lw:Nat) (fw:Nat→Nat→Int) (lm:Nat) (fm:Nat→Nat→Int) (n:Nat) (ls:Nat→Nat) (f:Nat→Nat→Nat→Int):Prop where
  w:LinesOk lw fw 40
  m:LinesOk lm fm 60
  n:n=lw
  l:∀ i,i<lw→ls i=lm
  v:∀ i j,i<lw→j<lm→0≤f i j 0∧f i j 0≤2000
theorem cond_t2 {a b:Bool} {x y:Int} (h:cond a x y=0) (hy:¬ y=0):a=true:=by
  cases a with
  | true=>rfl
  | false=>exact absurd h hy
theorem side_get {len:Nat} {g:Nat→Nat→Int} {m:Int} (h5:len≤5) (h:sideB len g m=true):LinesOk len g m:=by
  obtain ⟨h1,h⟩:=cond_tt h
  obtain ⟨h2,h3⟩:=cond_tt h
  rw [iLe_t] at h1
  refine ⟨by omega,h5,fun i hi=>?_,fun i hi=>?_⟩
  · have:=allN_get h2 i hi
    simpa only [inB,decide_eq_true_eq] using this
  · have:=allN_get h3 i (by omega)
    simpa only [upB,decide_eq_true_eq] using this
theorem tabE_get {lw:Nat} {fw:Nat→Nat→Int} {lm:Nat} {fm:Nat→Nat→Int} {n:Nat} {ls:Nat→Nat} {f:Nat→Nat→Nat→Int} (h:tabE lw fw lm fm n ls f=0):TabOk lw fw lm fm n ls f:=by
  unfold tabE at h
  have h1:=cond_t2 (b:=true) h (by decide)
  rw [h1] at h
  have h:cond (iLe (lm:Int) 5) (cond (iLe (n:Int) 5) (cond (tabB lw fw lm fm n ls f) 0 1) 3) 3=(0:Int):=h
  have h2:=cond_t2 (b:=true) h (by decide)
  rw [h2] at h
  have h:cond (iLe (n:Int) 5) (cond (tabB lw fw lm fm n ls f) 0 1) 3=(0:Int):=h
  have h3:=cond_t2 (b:=true) h (by decide)
  rw [h3] at h
  have h:cond (tabB lw fw lm fm n ls f) 0 1=(0:Int):=h
  have h4:=cond_t2 (b:=true) h (by decide)
  rw [iLe_t] at h1 h2 h3
  obtain ⟨k1,h4⟩:=cond_tt h4
  obtain ⟨k2,h4⟩:=cond_tt h4
  obtain ⟨k3,k4⟩:=cond_tt h4
  have e:(n:Int)=lw:=(iEq_t _ _).mp k3
  have en:n=lw:=by omega
  have kr:∀ i,i<lw→rowB lm (ls i) (f i)=true:=fun i hi=>allN_get k4 i (by omega)
  refine ⟨side_get (by omega) k1,side_get (by omega) k2,en,fun i hi=>?_,fun i j hi hj=>?_⟩
  · have:=(iEq_t _ _).mp (cond_tt (kr i hi)).1
    omega
  · have e1:=(iEq_t _ _).mp (cond_tt (kr i hi)).1
    have:=allN_get (cond_tt (kr i hi)).2 j (by omega)
    simpa only [inB,decide_eq_true_eq] using this
theorem lines_le {len:Nat} {g:Nat→Nat→Int} {m:Int} (h:LinesOk len g m):∀ {i j:Nat},i≤j→j<len→g i 0≤g j 0:=by
  intro i j hij hj
  induction j with
  | zero=>rw [show i=0 by omega];exact Int.le_refl _
  | succ j ih =>
    by_cases e:i=j+1
    · rw [e];exact Int.le_refl _
    · have h1:=ih (by omega) (by omega)
      have h2:=h.up j hj
      omega
theorem lb_of {len:Nat} {g:Nat→Nat→Int} {m x:Int} (h:LinesOk len g m) (h0:g 0 0≤x) (h9:x≤g (len-1) 0):∃ i:Nat,lbI len g x=(i:Int)∧i+2≤len∧g i 0≤x∧x≤g (i+1) 0∧(i+2=len∨x<g (i+1) 0):=by
  have h2:=h.two
  have h5:=h.five
  have hu:=h.up
  have:len=2∨len=3∨len=4∨len=5:=by omega
  rcases this with rfl | rfl | rfl | rfl
  · exact ⟨0,rfl,by omega,h0,h9,.inl rfl⟩
  · by_cases q1:g 1 0≤x
    · exact ⟨1,by show cond (iLe (g 1 0) x) 1 0=_;rw [(iLe_t _ _).mpr q1];rfl,by omega,q1,h9,.inl rfl⟩
    · exact ⟨0,by show cond (iLe (g 1 0) x) 1 0=_;rw [(iLe_f _ _).mpr (by omega)];rfl,by omega,h0,by show x≤g 1 0;omega,.inr (by show x<g 1 0;omega)⟩
  · by_cases q1:g 1 0≤x
    · by_cases q2:g 2 0≤x
      · exact ⟨2,by show cond (iLe (g 1 0) x) (cond (iLe (g 2 0) x) 2 1) 0=_;rw [(iLe_t _ _).mpr q1,(iLe_t _ _).mpr q2];rfl,by omega,q2,h9,.inl rfl⟩
      · exact ⟨1,by show cond (iLe (g 1 0) x) (cond (iLe (g 2 0) x) 2 1) 0=_;rw [(iLe_t _ _).mpr q1,(iLe_f _ _).mpr (by omega)];rfl,by omega,q1,by show x≤g 2 0;omega,.inr (by show x<g 2 0;omega)⟩
    · exact ⟨0,by show cond (iLe (g 1 0) x) (cond (iLe (g 2 0) x) 2 1) 0=_;rw [(iLe_f _ _).mpr (by omega)];rfl,by omega,h0,by show x≤g 1 0;omega,.inr (by show x<g 1 0;omega)⟩
  · by_cases q1:g 1 0≤x
    · by_cases q2:g 2 0≤x
      · by_cases q3:g 3 0≤x
        · exact ⟨3,by show cond (iLe (g 1 0) x) (cond (iLe (g 2 0) x) (cond (iLe (g 3 0) x) 3 2) 1) 0=_;rw [(iLe_t _ _).mpr q1,(iLe_t _ _).mpr q2,(iLe_t _ _).mpr q3];rfl,by omega,q3,h9,.inl rfl⟩
        · exact ⟨2,by show cond (iLe (g 1 0) x) (cond (iLe (g 2 0) x) (cond (iLe (g 3 0) x) 3 2) 1) 0=_;rw [(iLe_t _ _).mpr q1,(iLe_t _ _).mpr q2,(iLe_f _ _).mpr (by omega)];rfl,by omega,q2,by show x≤g 3 0;omega,.inr (by show x<g 3 0;omega)⟩
      · exact ⟨1,by show cond (iLe (g 1 0) x) (cond (iLe (g 2 0) x) (cond (iLe (g 3 0) x) 3 2) 1) 0=_;rw [(iLe_t _ _).mpr q1,(iLe_f _ _).mpr (by omega)];rfl,by omega,q1,by show x≤g 2 0;omega,.inr (by show x<g 2 0;omega)⟩
    · exact ⟨0,by show cond (iLe (g 1 0) x) (cond (iLe (g 2 0) x) (cond (iLe (g 3 0) x) 3 2) 1) 0=_;rw [(iLe_f _ _).mpr (by omega)];rfl,by omega,h0,by show x≤g 1 0;omega,.inr (by show x<g 1 0;omega)⟩
def onB (len:Nat) (g:Nat→Nat→Int) (x:Int):Prop:=g 0 0≤x∧x≤g (len-1) 0
theorem leB_mk {a b c:Int} (h1:a≤b) (h2:b≤c):leB a b c=true:=cond_mk ((iLe_t _ _).mpr h1) ((iLe_t _ _).mpr h2)
theorem stB4_mk {a0 a1 x m:Int} (h0:0≤a0) (h1:a0≤x) (h2:x≤a1) (h3:a1≤m) (h4:a0<a1):stB4 a0 a1 x m=true:=by
  unfold stB4
  rw [(iLe_t _ _).mpr h0,leB_mk h1 h2,(iLe_t _ _).mpr h3,(iLe_f _ _).mpr h4];rfl
theorem ble_mk {a b:Nat} (h:a≤b):Nat.ble a b=true:=Nat.ble_eq_true_of_le h
theorem beq_mk {a b:Nat} (h:a=b):Nat.beq a b=true:=by rw [h];exact nbeq_refl b
section
variable {lw:Nat} {fw:Nat→Nat→Int} {lm:Nat} {fm:Nat→Nat→Int} {n:Nat} {ls:Nat→Nat} {f:Nat→Nat→Nat→Int} {x y:Int}
theorem st_ok (h:TabOk lw fw lm fm n ls f) (hx:onB lw fw x) (hy:onB lm fm y):stOkB lw fw lm fm n ls f x y=true:=by
  obtain ⟨i,e1,i2,i3,i4,i5⟩:=lb_of h.w hx.1 hx.2
  obtain ⟨k,e2,k2,k3,k4,k5⟩:=lb_of h.m hy.1 hy.2
  have w2:=h.w.two
  have w5:=h.w.five
  have m2:=h.m.two
  have m5:=h.m.five
  have a0:=h.w.inn i (by omega)
  have a1:=h.w.inn (i+1) (by omega)
  have au:=h.w.up i (by omega)
  have b0:=h.m.inn k (by omega)
  have b1:=h.m.inn (k+1) (by omega)
  have bu:=h.m.up k (by omega)
  have v00:=h.v i k (by omega) (by omega)
  have v10:=h.v (i+1) k (by omega) (by omega)
  have v01:=h.v i (k+1) (by omega) (by omega)
  have v11:=h.v (i+1) (k+1) (by omega) (by omega)
  have l0:=h.l i (by omega)
  have l1:=h.l (i+1) (by omega)
  unfold stOkB
  rw [e1,e2]
  have ti:Int.toNat ((i:Nat):Int)=i:=by omega
  have ti1:Int.toNat (((i:Nat):Int)+1)=i+1:=by omega
  have tk:Int.toNat ((k:Nat):Int)=k:=by omega
  have tk1:Int.toNat (((k:Nat):Int)+1)=k+1:=by omega
  rw [ti,ti1,tk,tk1]
  have s1:Int.sub (lw:Int) 2=(lw:Int)-2:=rfl
  have s2:Int.sub (lm:Int) 2=(lm:Int)-2:=rfl
  rw [s1,s2]
  exact cond_mk (ble_mk w2)<|cond_mk (ble_mk w5)<|cond_mk (ble_mk m2)<|cond_mk (ble_mk m5)<|cond_mk (beq_mk h.n)<|cond_mk (leB_mk (by omega) (by omega))<|cond_mk (leB_mk (by omega) (by omega))<|cond_mk (beq_mk l0)<|cond_mk (beq_mk l1) <|
    cond_mk (stB4_mk a0.1 i3 i4 a1.2 au)<|cond_mk (stB4_mk b0.1 k3 k4 b1.2 bu)<|cond_mk (leB_mk v00.1 v00.2)<|cond_mk (leB_mk v10.1 v10.2)<|cond_mk (leB_mk v01.1 v01.2) (leB_mk v11.1 v11.2)
theorem str_at (h:TabOk lw fw lm fm n ls f) (hx:onB lw fw x) (hy:onB lm fm y):∃ i k:Nat,i+2≤lw∧k+2≤lm∧(fw i 0≤x∧x≤fw (i+1) 0)∧(fm k 0≤y∧y≤fm (k+1) 0)∧(i+2=lw∨x<fw (i+1) 0)∧(k+2=lm∨y<fm (k+1) 0) ∧
    strI lw fw lm fm f x y=stI (fw i 0) (fw (i+1) 0) (fm k 0) (fm (k+1) 0) (f i k 0) (f (i+1) k 0) (f i (k+1) 0) (f (i+1) (k+1) 0) x y:=by
  obtain ⟨i,e1,i2,i3,i4,i5⟩:=lb_of h.w hx.1 hx.2
  obtain ⟨k,e2,k2,k3,k4,k5⟩:=lb_of h.m hy.1 hy.2
  refine ⟨i,k,i2,k2,⟨i3,i4⟩,⟨k3,k4⟩,i5,k5,?_⟩
  unfold strI
  rw [e1,e2]
  have ti:Int.toNat ((i:Nat):Int)=i:=by omega
  have ti1:Int.toNat (((i:Nat):Int)+1)=i+1:=by omega
  have tk:Int.toNat ((k:Nat):Int)=k:=by omega
  have tk1:Int.toNat (((k:Nat):Int)+1)=k+1:=by omega
  rw [ti,ti1,tk,tk1]
end
end
end Go.Proofs.YtclagbonpachfaaGreat
/- Tables: the strength at a point, as a number between four values. -/
namespace Go.Proofs.YtclagbonpachfaaGreat
open Go Go.Ev
set_option maxRecDepth 1000000
noncomputable section
theorem mul_le3 {a v L:Int} (h:L≤v) (ha:0≤a):L*a≤v*a:=Int.mul_le_mul_of_nonneg_right h ha
theorem mul_w {a v L U:Int} (h:a=0∨(L≤v∧v≤U)) (ha:0≤a):L*a≤v*a∧v*a≤U*a:=by
  rcases h with h | h
  · rw [h];simp only [Int.mul_zero];omega
  · exact ⟨mul_le3 h.1 ha,mul_le3 h.2 ha⟩
theorem zero_w {a b:Int} {Q:Prop} (h:a=0∨b=0∨Q):a*b=0∨Q:=by
  rcases h with h | h | h
  · rw [h];exact .inl (Int.zero_mul _)
  · rw [h];exact .inl (Int.mul_zero _)
  · exact .inr h
theorem parts {a0 a1 b0 b1 x y v00 v10 v01 v11:Int}:v00*((a1-a0)-(x-a0))*((b1-b0)-(y-b0))=v00*((a1-x)*(b1-y))∧v10*(x-a0)*((b1-b0)-(y-b0))=v10*((x-a0)*(b1-y))∧v01*((a1-a0)-(x-a0))*(y-b0)=v01*((a1-x)*(y-b0))∧v11*(x-a0)*(y-b0)=v11*((x-a0)*(y-b0)):=by
  rw [show (a1-a0)-(x-a0)=a1-x by omega,show (b1-b0)-(y-b0)=b1-y by omega]
  exact ⟨Int.mul_assoc _ _ _,Int.mul_assoc _ _ _,Int.mul_assoc _ _ _,Int.mul_assoc _ _ _⟩
theorem area {a0 a1 b0 b1 x y:Int}:(a1-a0)*(b1-b0)=(a1-x)*(b1-y)+(x-a0)*(b1-y)+(a1-x)*(y-b0)+(x-a0)*(y-b0):=by
  rw [show a1-a0=(a1-x)+(x-a0) by omega,show b1-b0=(b1-y)+(y-b0) by omega,Int.add_mul,Int.mul_add,Int.mul_add];omega
theorem st_betweenW {a0 a1 b0 b1 x y v00 v10 v01 v11 L U:Int} (ha:a0≤x∧x≤a1∧a0<a1) (hb:b0≤y∧y≤b1∧b0<b1) (hL:0≤L) (h00:a1-x=0∨b1-y=0∨(L≤v00∧v00≤U)) (h10:x-a0=0∨b1-y=0∨(L≤v10∧v10≤U)) (h01:a1-x=0∨y-b0=0∨(L≤v01∧v01≤U)) (h11:x-a0=0∨y-b0=0∨(L≤v11∧v11≤U)) :
    L≤stI a0 a1 b0 b1 v00 v10 v01 v11 x y∧stI a0 a1 b0 b1 v00 v10 v01 v11 x y≤U:=by
  unfold stI
  obtain ⟨p1,p2,p3,p4⟩:=parts (a0:=a0) (a1:=a1) (b0:=b0) (b1:=b1) (x:=x) (y:=y) (v00:=v00) (v10:=v10) (v01:=v01) (v11:=v11)
  rw [p1,p2,p3,p4]
  have q1:=Int.mul_nonneg (show 0≤a1-x by omega) (show 0≤b1-y by omega)
  have q2:=Int.mul_nonneg (show 0≤x-a0 by omega) (show 0≤b1-y by omega)
  have q3:=Int.mul_nonneg (show 0≤a1-x by omega) (show 0≤y-b0 by omega)
  have q4:=Int.mul_nonneg (show 0≤x-a0 by omega) (show 0≤y-b0 by omega)
  have d1:=Int.mul_le_mul (show 1≤a1-a0 by omega) (show 1≤b1-b0 by omega) (by omega) (by omega)
  have ar:=area (a0:=a0) (a1:=a1) (b0:=b0) (b1:=b1) (x:=x) (y:=y)
  have h00:=zero_w h00
  have h10:=zero_w h10
  have h01:=zero_w h01
  have h11:=zero_w h11
  generalize (a1-a0)*(b1-b0)=D at *
  generalize (a1-x)*(b1-y)=c00 at *
  generalize (x-a0)*(b1-y)=c10 at *
  generalize (a1-x)*(y-b0)=c01 at *
  generalize (x-a0)*(y-b0)=c11 at *
  have l1:=mul_w h00 q1
  have l2:=mul_w h10 q2
  have l3:=mul_w h01 q3
  have l4:=mul_w h11 q4
  have eL:L*D=L*c00+L*c10+L*c01+L*c11:=by rw [ar,Int.mul_add,Int.mul_add,Int.mul_add]
  have eU:U*D=U*c00+U*c10+U*c01+U*c11:=by rw [ar,Int.mul_add,Int.mul_add,Int.mul_add]
  have LD:=Int.mul_nonneg hL (show 0≤D by omega)
  generalize v00*c00=w1 at *
  generalize v10*c10=w2 at *
  generalize v01*c01=w3 at *
  generalize v11*c11=w4 at *
  have hN:L*D≤w1+w2+w3+w4∧w1+w2+w3+w4≤U*D:=by omega
  generalize w1+w2+w3+w4=N at *
  rw [Int.tdiv_eq_ediv_of_nonneg (by omega)]
  constructor
  · refine Int.le_ediv_of_mul_le (by omega) ?_
    have:L*(2*D)=2*(L*D):=by rw [Int.mul_left_comm]
    omega
  · have:(U+1)*(2*D)=2*(U*D)+2*D:=by rw [Int.add_mul,Int.mul_left_comm];omega
    have h2:(2*N+D)/(2*D)<U+1:=Int.ediv_lt_of_lt_mul (by omega) (by omega)
    omega
theorem st_between {a0 a1 b0 b1 x y v00 v10 v01 v11 L U:Int} (ha:a0≤x∧x≤a1∧a0<a1) (hb:b0≤y∧y≤b1∧b0<b1) (hL:0≤L) (h00:L≤v00∧v00≤U) (h10:L≤v10∧v10≤U) (h01:L≤v01∧v01≤U) (h11:L≤v11∧v11≤U) :
    L≤stI a0 a1 b0 b1 v00 v10 v01 v11 x y∧stI a0 a1 b0 b1 v00 v10 v01 v11 x y≤U:=st_betweenW ha hb hL (.inr (.inr h00)) (.inr (.inr h10)) (.inr (.inr h01)) (.inr (.inr h11))
end
end Go.Proofs.YtclagbonpachfaaGreat
/- Tables: the strength at printed points, and between them. -/
namespace Go.Proofs.YtclagbonpachfaaGreat
open Go Go.Ev
set_option maxRecDepth 1000000
noncomputable section
theorem lines_lt {len:Nat} {g:Nat→Nat→Int} {m:Int} (h:LinesOk len g m) {i j:Nat} (hij:i<j) (hj:j<len):g i 0<g j 0:=by
  have h1:=lines_le h (show i+1≤j by omega) hj
  have h2:=h.up i (by omega)
  omega
theorem cell_of {len:Nat} {g:Nat→Nat→Int} {m x:Int} (h:LinesOk len g m) {i i':Nat} (hi:i+2≤len) (h1:g i 0≤x) (h2:x≤g (i+1) 0) (hi':i'+2≤len) (k1:g i' 0≤x) (k2:x≤g (i'+1) 0) (k3:i'+2=len∨x<g (i'+1) 0):i'=i∨(i'=i+1∧x-g i' 0=0):=by
  by_cases c1:i'<i
  · have:=lines_le h (show i'+1≤i by omega) (by omega)
    rcases k3 with k3 | k3
    · omega
    · omega
  · by_cases c2:i+1<i'
    · have:=lines_lt h c2 (by omega)
      omega
    · by_cases c3:i'=i
      · exact .inl c3
      · have e:i'=i+1:=by omega
        refine .inr ⟨e,?_⟩
        rw [e] at k1 ⊢
        omega
section
variable {lw:Nat} {fw:Nat→Nat→Int} {lm:Nat} {fm:Nat→Nat→Int} {n:Nat} {ls:Nat→Nat} {f:Nat→Nat→Nat→Int} {x y:Int}
theorem on_of {len:Nat} {g:Nat→Nat→Int} {m x:Int} (h:LinesOk len g m) {i:Nat} (hi:i+2≤len) (h1:g i 0≤x) (h2:x≤g (i+1) 0):onB len g x:=by
  have:=lines_le h (show 0≤i by omega) (by omega)
  have:=lines_le h (show i+1≤len-1 by omega) (by omega)
  exact ⟨by omega,by omega⟩
theorem str_cell (h:TabOk lw fw lm fm n ls f) {i k:Nat} (hi:i+2≤lw) (hk:k+2≤lm) (hx:fw i 0≤x∧x≤fw (i+1) 0) (hy:fm k 0≤y∧y≤fm (k+1) 0) {L U:Int} (hL:0≤L)
    (q00:L≤f i k 0∧f i k 0≤U) (q10:L≤f (i+1) k 0∧f (i+1) k 0≤U) (q01:L≤f i (k+1) 0∧f i (k+1) 0≤U) (q11:L≤f (i+1) (k+1) 0∧f (i+1) (k+1) 0≤U):L≤strI lw fw lm fm f x y∧strI lw fw lm fm f x y≤U:=by
  obtain ⟨i',k',i2,k2,x1,y1,x2,y2,e⟩:=str_at h (on_of h.w hi hx.1 hx.2) (on_of h.m hk hy.1 hy.2)
  rw [e]
  have wa:=h.w.up i' (by omega)
  have wb:=h.m.up k' (by omega)
  rcases cell_of h.w hi hx.1 hx.2 i2 x1.1 x1.2 x2 with c1 | ⟨c1,c3⟩<;>rcases cell_of h.m hk hy.1 hy.2 k2 y1.1 y1.2 y2 with c2 | ⟨c2,c4⟩<;>subst c1<;>subst c2
  · exact st_between ⟨x1.1,x1.2,wa⟩ ⟨y1.1,y1.2,wb⟩ hL q00 q10 q01 q11
  · exact st_betweenW ⟨x1.1,x1.2,wa⟩ ⟨y1.1,y1.2,wb⟩ hL (.inr (.inr q01)) (.inr (.inr q11)) (.inr (.inl c4)) (.inr (.inl c4))
  · exact st_betweenW ⟨x1.1,x1.2,wa⟩ ⟨y1.1,y1.2,wb⟩ hL (.inr (.inr q10)) (.inl c3) (.inr (.inr q11)) (.inl c3)
  · exact st_betweenW ⟨x1.1,x1.2,wa⟩ ⟨y1.1,y1.2,wb⟩ hL (.inr (.inr q11)) (.inl c3) (.inr (.inl c4)) (.inl c3)
theorem str_bd (h:TabOk lw fw lm fm n ls f) (hx:onB lw fw x) (hy:onB lm fm y):0≤strI lw fw lm fm f x y∧strI lw fw lm fm f x y≤2000:=by
  obtain ⟨i,k,i2,k2,x1,y1,x2,y2,e⟩:=str_at h hx hy
  exact str_cell h i2 k2 x1 y1 (Int.le_refl 0) (h.v i k (by omega) (by omega)) (h.v (i+1) k (by omega) (by omega)) (h.v i (k+1) (by omega) (by omega)) (h.v (i+1) (k+1) (by omega) (by omega))
end
end
end Go.Proofs.YtclagbonpachfaaGreat
