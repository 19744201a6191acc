/- Casks: what a list of casks of a blend is, and the bounds of its strength by all truths: the reference's, as contracts. -/
import Derived.Test.YtpfcfonplmhmiaaGreatYPrBm
import Derived.Test.YtpfcfonplmhmiaaGreatYPrE2
set_option linter.all false
set_option linter.unusedSimpArgs false
set_option linter.unusedVariables false
namespace Go.Proofs.YtpfcfonplmhmiaaGreat
namespace BL
open Go Go.Ev PD
set_option maxRecDepth 1000000
set_option maxHeartbeats 0
noncomputable section
variable (lw:Nat) (fw:Nat→Nat→Int) (lm:Nat) (fm:Nat→Nat→Int) (n:Nat) (ls:Nat→Nat) (f:Nat→Nat→Nat→Int)
def ltI:LT:=⟨[1,2,5],[1],[4],7⟩
def sI (m:Nat) (g:Nat→Nat→Int) (i:Nat):LS:=⟨[.fz true 4 (cellsI .i64 g) m 1,.ptr 6 0,.int .i64 i],[]⟩
def bI:Code:=sub [1,0,1,0,0] (bodyOf Tryz.prog 26)
def xI (m:Nat) (g:Nat→Nat→Int):Lv := .exit 0 ⟨[.fz true 4 (cellsI .i64 g) m 1],[]⟩
def fI:Lv := .ret ⟨[.bool false],[]⟩
theorem eI (r:Int) (nc:Nat) (fc:Nat→Nat→Int) (m:Nat) (g:Nat→Nat→Int):VC (entD Tryz.prog noExt 300 26 [1,0,1,0] [.st [.sl 1 lw fw,.sl 1 lm fm,.rr 1 n ls f,.i .i64 r,.sl 5 nc fc],.one (.sl 1 m g)] (baseG lw fw lm fm n ls f r nc fc) ltI 41 60 (sI m g 0)) .nil:=VC_of (((True∧(True∧(True∧(True∧(((((V.fz true 0 (cellsI .i64 fw) lw 1):V)=(V.fz true 0 (cellsI .i64 fw) lw 1))∧(((((V.fz true 1 (cellsI .i64 fm) lm 1):V)=(V.fz true 1 (cellsI .i64 fm) lm 1))∧((((r:Int)=r)∧(True∧True))∧True))∧((((V.fz true 2 (rowsI 2 1 ls f) n 1):V)=(V.fz true 2 (rowsI 2 1 ls f) n 1))∧(((((V.fz true 3 (cellsI .i64 fc) nc 5):V)=(V.fz true 3 (cellsI .i64 fc) nc 5))∧(True∧True))∧True))))∧(True∧True))))))∧(((((V.fz true 4 (cellsI .i64 g) m 1):V)=(V.fz true 4 (cellsI .i64 g) m 1))∧((((V.ptr 6 0):V)=(V.ptr 6 0))∧((((0):Int)=(0))∧True)))∧True)))
theorem rI0 (r:Int) (nc:Nat) (fc:Nat→Nat→Int) (m:Nat) (g:Nat→Nat→Int) (h1:0<m) (h2:m≤1000) (h4:nc≤1000) (h3:0≤g 0 0∧g 0 0<nc):VC (roundD Tryz.prog noExt 300 bI (baseG lw fw lm fm n ls f r nc fc) ltI 41 60 (sI m g 0) (.next (sI m g 1))) (.go 98389 .nil):=VC_of (((not (iLe ((m:Nat):Int) (0)))=true∧((Nat.blt 0 m)=true∧((small (((nc:Nat):Int)-(1)))=true∧((iLe (0) (g 0 0))=true∧((not (iLe (g 0 0) (((nc:Nat):Int)-(1))))=false∧(((((V.fz true 4 (cellsI .i64 g) m 1):V)=(V.fz true 4 (cellsI .i64 g) m 1))∧((((V.ptr 6 0):V)=(V.ptr 6 0))∧((((1):Int)=(1))∧True)))∧True)))))))
theorem rI0f (r:Int) (nc:Nat) (fc:Nat→Nat→Int) (m:Nat) (g:Nat→Nat→Int) (h1:0<m) (h2:m≤1000) (h4:nc≤1000) (h3:¬ (0≤g 0 0∧g 0 0<nc)):VC (roundD Tryz.prog noExt 300 bI (baseG lw fw lm fm n ls f r nc fc) ltI 41 60 (sI m g 0) fI) (.go 85 (.sp (.go 320 .nil) .nil)):=VC_of (((not (iLe ((m:Nat):Int) (0)))=true∧((Nat.blt 0 m)=true∧((small (((nc:Nat):Int)-(1)))=true∧(((iLe (0) (g 0 0))=true→((not (iLe (g 0 0) (((nc:Nat):Int)-(1))))=true∧(((false=false)∧True)∧True))) ∧
  ((iLe (0) (g 0 0))=false→(((false=false)∧True)∧True)))))))
theorem rI1 (r:Int) (nc:Nat) (fc:Nat→Nat→Int) (m:Nat) (g:Nat→Nat→Int) (i:Nat) (h1:i+1<m) (h2:m≤1000) (h4:nc≤1000) (h3:0≤g (i+1) 0∧g (i+1) 0<nc) (h5:¬ g (i+1) 0≤(g (Int.toNat ((((i+1:Nat)):Int)-1)) 0)):VC (roundD Tryz.prog noExt 300 bI (baseG lw fw lm fm n ls f r nc fc) ltI 41 60 (sI m g (i+1)) (.next (sI m g (i+1+1)))) (.go 99080360100397141 .nil):=VC_of (((not (iLe ((m:Nat):Int) (((i+1):Nat):Int)))=true∧((Nat.blt (i+1) m)=true∧((small (((nc:Nat):Int)-(1)))=true∧((iLe (0) (g (i+1) 0))=true∧((not (iLe (g (i+1) 0) (((nc:Nat):Int)-(1))))=false∧((Nat.blt (i+1) m)=true∧((small ((((i+1):Nat):Int)-(1)))=true∧((iIn ((((i+1):Nat):Int)-(1)) m)=true∧((iLe (g (i+1) 0) (g (Int.toNat ((((i+1):Nat):Int)-(1))) 0))=false∧((small ((((i+1):Nat):Int)+(1)))=true∧(((((V.fz true 4 (cellsI .i64 g) m 1):V)=(V.fz true 4 (cellsI .i64 g) m 1))∧((((V.ptr 6 0):V)=(V.ptr 6 0))∧(((((((i+1):Nat):Int)+(1)):Int)=((((i+1)+1):Nat):Int))∧True)))∧True))))))))))))
theorem rI1f (r:Int) (nc:Nat) (fc:Nat→Nat→Int) (m:Nat) (g:Nat→Nat→Int) (i:Nat) (h1:i+1<m) (h2:m≤1000) (h4:nc≤1000) (h3:¬ ((0≤g (i+1) 0∧g (i+1) 0<nc)∧¬ g (i+1) 0≤(g (Int.toNat ((((i+1:Nat)):Int)-1)) 0))):VC (roundD Tryz.prog noExt 300 bI (baseG lw fw lm fm n ls f r nc fc) ltI 41 60 (sI m g (i+1)) fI) (.go 85 (.sp (.go 64 (.sp .nil (.go 343615210496 .nil))) .nil)):=VC_of (((not (iLe ((m:Nat):Int) (((i+1):Nat):Int)))=true∧((Nat.blt (i+1) m)=true∧((small (((nc:Nat):Int)-(1)))=true∧(((iLe (0) (g (i+1) 0))=true→(((not (iLe (g (i+1) 0) (((nc:Nat):Int)-(1))))=true→(((false=false)∧True)∧True)) ∧
  ((not (iLe (g (i+1) 0) (((nc:Nat):Int)-(1))))=false→((Nat.blt (i+1) m)=true∧((small ((((i+1):Nat):Int)-(1)))=true∧((iIn ((((i+1):Nat):Int)-(1)) m)=true∧((iLe (g (i+1) 0) (g (Int.toNat ((((i+1):Nat):Int)-(1))) 0))=true∧(((false=false)∧True)∧True)))))))) ∧
  ((iLe (0) (g (i+1) 0))=false→(((false=false)∧True)∧True)))))))
theorem rI3 (r:Int) (nc:Nat) (fc:Nat→Nat→Int) (m:Nat) (g:Nat→Nat→Int) (i:Nat) (h1:¬ i<m):VC (roundD Tryz.prog noExt 300 bI (baseG lw fw lm fm n ls f r nc fc) ltI 41 60 (sI m g i) (xI m g)) (.go 6 .nil):=VC_of (((not (iLe ((m:Nat):Int) ((i:Nat):Int)))=false∧(((((V.fz true 4 (cellsI .i64 g) m 1):V)=(V.fz true 4 (cellsI .i64 g) m 1))∧True)∧True)))
theorem fI1 (r:Int) (nc:Nat) (fc:Nat→Nat→Int) (m:Nat) (g:Nat→Nat→Int) (h:0<m):VC (fromD Tryz.prog noExt 300 26 [1,0,1,0] (Lv.res ltI 41 (endH (baseG lw fw lm fm n ls f r nc fc) ltI 60 (xI m g)) (xI m g)) (.bool true)) .nil:=VC_of (((not (iLe ((m:Nat):Int) (0)))=true))
theorem fI2 (r:Int) (nc:Nat) (fc:Nat→Nat→Int) (g:Nat→Nat→Int):VC (fromD Tryz.prog noExt 300 26 [1,0,1,0] (Lv.res ltI 41 (endH (baseG lw fw lm fm n ls f r nc fc) ltI 60 (xI 0 g)) (xI 0 g)) (.bool false)) .nil:=VC_of (((not true)=false))
theorem fI3 (r:Int) (nc:Nat) (fc:Nat→Nat→Int):VC (fromD Tryz.prog noExt 300 26 [1,0,1,0] (Lv.res ltI 41 (endH (baseG lw fw lm fm n ls f r nc fc) ltI 60 fI) fI) (.bool false)) .nil:=VC_of ((false=false))
def valIb:Val:=fun das=>match das with | [.st [.sl 1 lw fw,.sl 1 lm fm,.rr 1 n ls f,.i .i64 r,.sl 5 nc fc],.one (.sl 1 m g)]=>some (cond (Nat.ble m 1000) (Nat.ble nc 1000) false,.bool (hbB nc g m)) | _=>none
def okI (nc:Nat) (g:Nat→Nat→Int) (i:Nat):Bool:=match i with
  | 0=>inH nc g 0
  | i+1=>cond (inH nc g (i+1)) (upH g i) false
theorem inH_t {nc:Nat} {g:Nat→Nat→Int} {i:Nat}:inH nc g i=true↔0≤g i 0∧g i 0<nc:=by unfold inH;rw [iIn_t]
theorem hb_of {nc m:Nat} {g:Nat→Nat→Int} (hm:0<m) (h:∀ i,i<m→okI nc g i=true):hbB nc g m=true:=by
  have a:∀ i,i<m→inH nc g i=true:=fun i hi=>by
    have q:=h i hi
    cases i with
    | zero=>exact q
    | succ i=>exact (cond_tt q).1
  refine cond_mk (blt_t' hm) (cond_mk (allN_true a) (allN_true fun i hi=>?_))
  have hi:i<m-1:=hi
  exact (cond_tt (h (i+1) (by omega))).2
theorem hb_not {nc m N:Nat} {g:Nat→Nat→Int} (h1:N<m) (h:okI nc g N=false):hbB nc g m=false:=by
  cases q:hbB nc g m with
  | false=>rfl
  | true =>
    obtain ⟨_,q⟩:=cond_tt q
    obtain ⟨q1,q2⟩:=cond_tt q
    have:okI nc g N=true:=by
      cases N with
      | zero=>exact allN_get q1 0 h1
      | succ N=>exact cond_mk (allN_get q1 (N+1) h1) (allN_get q2 N (by show N<m-1;omega))
    rw [this] at h;cases h
theorem conIb:Con Tryz.prog 26 valIb:=by
  intro das v hv
  unfold valIb at hv
  split at hv
  · rename_i lw fw lm fm n ls f r nc fc m g
    have hb:=congrArg Prod.fst (Option.some.inj hv)
    have hv:=congrArg Prod.snd (Option.some.inj hv)
    subst hv
    obtain ⟨hm,hn⟩:=cond_tt hb
    have hm:=Nat.le_of_ble_eq_true hm
    have hn:=Nat.le_of_ble_eq_true hn
    refine ⟨rfl,?_⟩
    have rd:∀ i,i<m→okI nc g i=true→JL Tryz.prog (baseG lw fw lm fm n ls f r nc fc) ltI 41 60 none bI (sI m g i) (.next (sI m g (i+1))):=fun i hi q=>by
      cases i with
      | zero=>exact round_of drawnC noExt_ok (rI0 lw fw lm fm n ls f r nc fc m g hi hm hn (inH_t.mp q)).ok (by kernel_rfl) (by kernel_rfl)
      | succ i =>
        obtain ⟨q1,q2⟩:=cond_tt q
        exact round_of drawnC noExt_ok (rI1 lw fw lm fm n ls f r nc fc m g i hi hm hn (inH_t.mp q1) (upH_t q2)).ok (by kernel_rfl) (by kernel_rfl)
    rcases first_bad (okI nc g) m with h | ⟨N,z1,z2,z3⟩
    · by_cases h0:0<m
      · have e:hbB nc g m=true:=hb_of h0 h
        show ∃ v' H',SpecCall _ _ _ _ v' H'∧valP v' (.bool (hbB nc g m))
        rw [e]
        exact con_loopD drawnC noExt_ok (das:=[.st [.sl 1 lw fw,.sl 1 lm fm,.rr 1 n ls f,.i .i64 r,.sl 5 nc fc],.one (.sl 1 m g)]) (lv:=xI m g) (by kernel_rfl) (by kernel_rfl) (eI lw fw lm fm n ls f r nc fc m g).ok (loop_rule (body:=bI) (fun _ e=>by cases e) m (sI m g) (fun i hi=>rd i hi (h i hi)) (round_of drawnC noExt_ok (rI3 lw fw lm fm n ls f r nc fc m g m (by omega)).ok (by kernel_rfl) (by kernel_rfl))) (fI1 lw fw lm fm n ls f r nc fc m g h0).ok
      · have:m=0:=by omega
        subst this
        exact con_loopD drawnC noExt_ok (das:=[.st [.sl 1 lw fw,.sl 1 lm fm,.rr 1 n ls f,.i .i64 r,.sl 5 nc fc],.one (.sl 1 0 g)]) (lv:=xI 0 g) (by kernel_rfl) (by kernel_rfl) (eI lw fw lm fm n ls f r nc fc 0 g).ok (loop_rule (body:=bI) (fun _ e=>by cases e) 0 (sI 0 g) (fun i hi=>absurd hi (by omega)) (round_of drawnC noExt_ok (rI3 lw fw lm fm n ls f r nc fc 0 g 0 (by omega)).ok (by kernel_rfl) (by kernel_rfl))) (fI2 lw fw lm fm n ls f r nc fc g).ok
    · have e:hbB nc g m=false:=hb_not z1 z3
      show ∃ v' H',SpecCall _ _ _ _ v' H'∧valP v' (.bool (hbB nc g m))
      rw [e]
      refine con_loopD drawnC noExt_ok (das:=[.st [.sl 1 lw fw,.sl 1 lm fm,.rr 1 n ls f,.i .i64 r,.sl 5 nc fc],.one (.sl 1 m g)]) (lv:=fI) (by kernel_rfl) (by kernel_rfl) (eI lw fw lm fm n ls f r nc fc m g).ok (loop_rule (body:=bI) (fun _ e=>by cases e) N (sI m g) (fun i hi=>rd i (by omega) (z2 i hi)) ?_) (fI3 lw fw lm fm n ls f r nc fc).ok
      cases N with
      | zero =>
        exact round_of drawnC noExt_ok (rI0f lw fw lm fm n ls f r nc fc m g z1 hm hn (fun q=>by rw [show okI nc g 0=true from inH_t.mpr q] at z3;cases z3)).ok (by kernel_rfl) (by kernel_rfl)
      | succ N =>
        refine round_of drawnC noExt_ok (rI1f lw fw lm fm n ls f r nc fc m g N z1 hm hn (fun q=>?_)).ok (by kernel_rfl) (by kernel_rfl)
        have u:upH g N=true:=by
          unfold upH
          have w:=q.2
          rw [show Int.toNat ((((N+1:Nat)):Int)-1)=N by omega] at w
          rw [(iLe_f _ _).mpr (by omega)];rfl
        rw [show okI nc g (N+1)=true from cond_mk (inH_t.mpr q.1) u] at z3
        cases z3
  · cases hv
def XU:Ext:=conX [(21,cf valMa),(53,cfS valNt),(17,cf valSt2)] false
theorem XU_ok:ExtOK Tryz.prog XU:=conX_ok (allCon_cons (con_ok conMa)<|allCon_cons (con_okS conNt)<|allCon_cons (con_ok conSt2) allCon_nil)
def basU (lw:Nat) (fw:Nat→Nat→Int) (lm:Nat) (fm:Nat→Nat→Int) (n:Nat) (ls:Nat→Nat) (f:Nat→Nat→Nat→Int) (r:Int) (nc:Nat) (fc:Nat→Nat→Int):EH:=⟨setAt [(7,encL [.sl 1 lw fw,.sl 1 lm fm,.rr 1 n ls f,.i .i64 r,.sl 5 nc fc] 0),(8,[.int .i64 0,.int .i64 0]),(9,[.int .i64 1099511627776,.int .i64 (-1)])] .lf,10,.lf,9⟩
def ltU2:LT:=⟨[1,2,3,4,8,9,10],[8,9],[],9⟩
def sU2 (m:Nat) (g:Nat→Nat→Int) (k:Nat) (l:Nat→Nat→Int) (w:Int) (lo hi:Int) (i:Nat):LS:=⟨[.fz true 4 (cellsI .i64 g) m 2,.fz true 5 (cellsI .i64 l) k 1,.int .i64 w,.ptr 7 0,.ptr 8 0,.ptr 9 0,.int .i64 i],[[.int .i64 lo,.int .i64 hi]]⟩
def xU2 (lo hi:Int):Lv := .exit 0 ⟨[.ptr 8 0,.ptr 9 0],[[.int .i64 lo,.int .i64 hi]]⟩
def bU2:Code:=sub [1,1,0,1,0,0] (bodyOf Tryz.prog 28)
theorem eU2 (r:Int) (nc:Nat) (fc:Nat→Nat→Int) (m:Nat) (g:Nat→Nat→Int) (k:Nat) (l:Nat→Nat→Int) (w:Int):VC (entD Tryz.prog XU 300 28 [1,1,0,1,0] [.st [.sl 1 lw fw,.sl 1 lm fm,.rr 1 n ls f,.i .i64 r,.sl 5 nc fc],.one (.sl 2 m g),.one (.sl 1 k l),.one (.i .i64 w)] (basU lw fw lm fm n ls f r nc fc) ltU2 36 60 (sU2 m g k l w 1099511627776 (-1) 0)) .nil:=VC_of (((True∧((True∧((True∧((((((V.fz true 0 (cellsI .i64 fw) lw 1):V)=(V.fz true 0 (cellsI .i64 fw) lw 1))∧(((((V.fz true 1 (cellsI .i64 fm) lm 1):V)=(V.fz true 1 (cellsI .i64 fm) lm 1))∧((((r:Int)=r)∧(True∧True))∧True))∧((((V.fz true 2 (rowsI 2 1 ls f) n 1):V)=(V.fz true 2 (rowsI 2 1 ls f) n 1))∧(((((V.fz true 3 (cellsI .i64 fc) nc 5):V)=(V.fz true 3 (cellsI .i64 fc) nc 5))∧(True∧True))∧True))))∧(True∧True))∧True))∧(True∧((((((1099511627776):Int)=(1099511627776))∧(((((-1):Int)=(-1))∧(True∧True))∧True))∧(True∧True))∧True))))∧(True∧((True∧((((((0):Int)=(0))∧(((((0):Int)=(0))∧(True∧True))∧True))∧(True∧True))∧True))∧True))))∧(((((V.fz true 4 (cellsI .i64 g) m 2):V)=(V.fz true 4 (cellsI .i64 g) m 2))∧((((V.fz true 5 (cellsI .i64 l) k 1):V)=(V.fz true 5 (cellsI .i64 l) k 1))∧(((w:Int)=w)∧((((V.ptr 7 0):V)=(V.ptr 7 0))∧((((V.ptr 8 0):V)=(V.ptr 8 0))∧((((V.ptr 9 0):V)=(V.ptr 9 0))∧((((0):Int)=(0))∧True)))))))∧(((((1099511627776):Int)=(1099511627776))∧((((-1):Int)=(-1))∧True))∧True))))
theorem rU21 (r:Int) (nc:Nat) (fc:Nat→Nat→Int) (m:Nat) (g:Nat→Nat→Int) (k:Nat) (l:Nat→Nat→Int) (w:Int) (lo hi:Int) (i:Nat) (h1:((i:Nat):Int)<maI m g 1073741824) (h2:m≤6) (h3:szA g m=true) (h4:moB 1073741824=true) (h5:moB ((i:Nat):Int)=true) (h8:rsOk nc fc k l w m (ntF g ((i:Nat):Int))=true) (h9:i≤1000000):VC (roundD Tryz.prog XU 300 bU2 (basU lw fw lm fm n ls f r nc fc) ltU2 36 60 (sU2 m g k l w lo hi i) (.next (sU2 m g k l w (min lo (rsV fc l w (ntF g ((i:Nat):Int)) k)) (max hi (rsV fc l w (ntF g ((i:Nat):Int)) k)) (i+1)))) (.go 1365 .nil):=VC_of (((cond (cond (allI .i64 (cellsI .i64 g) m 2) true false) (cond (Nat.ble m 6) (cond (PD.szA g m) (PD.moB (1073741824)) false) false) false)=true∧((not (iLe (PD.maI m g (1073741824)) ((i:Nat):Int)))=true∧((cond (cond (allI .i64 (cellsI .i64 g) m 2) true false) (cond (Nat.ble m 6) (cond (PD.szA g m) (PD.moB ((i:Nat):Int)) false) false) false)=true∧((cond (cond (cond (allI .i64 (cellsI .i64 fw) lw 1) (cond (allI .i64 (cellsI .i64 fm) lm 1) (cond (cond true (allR 2 (rowsI 2 1 ls f) n 1) false) (cond (allI .i64 (cellsI .i64 fc) nc 5) true false) false) false) false) (cond (allI .i64 (cellsI .i64 l) k 1) (cond (allI .i64 (cellsI .i64 (PD.ntF g ((i:Nat):Int))) m 1) true false) false) false) (BL.rsOk nc fc k l w m (PD.ntF g ((i:Nat):Int))) false)=true∧((small (((i:Nat):Int)+(1)))=true∧(((((V.fz true 4 (cellsI .i64 g) m 2):V)=(V.fz true 4 (cellsI .i64 g) m 2))∧((((V.fz true 5 (cellsI .i64 l) k 1):V)=(V.fz true 5 (cellsI .i64 l) k 1))∧(((w:Int)=w)∧((((V.ptr 7 0):V)=(V.ptr 7 0))∧((((V.ptr 8 0):V)=(V.ptr 8 0))∧((((V.ptr 9 0):V)=(V.ptr 9 0))∧((((((i:Nat):Int)+(1)):Int)=(((i+1):Nat):Int))∧True)))))))∧(((((cond (iLe lo (BL.rsV fc l w (PD.ntF g ((i:Nat):Int)) k)) lo (BL.rsV fc l w (PD.ntF g ((i:Nat):Int)) k)):Int)=(min lo (BL.rsV fc l w (PD.ntF g ((i:Nat):Int)) k)))∧((((cond (iLe (BL.rsV fc l w (PD.ntF g ((i:Nat):Int)) k) hi) hi (BL.rsV fc l w (PD.ntF g ((i:Nat):Int)) k)):Int)=(max hi (BL.rsV fc l w (PD.ntF g ((i:Nat):Int)) k)))∧True))∧True)))))))) (q:=by
  (repeat' (first | exact True.intro | (with_reducible assumption) | refine And.intro ?_ ?_ | refine cond_mk ?_ ?_ | intro _));all_goals (first | (with_reducible assumption) | (with_reducible rfl) | exact allI_cells _ _ _ _ | exact allR_rows _ _ _ _ _ | (simp only [iLe_t,iLe_f,iEq_t,iEq_f,small_t,small_f,cmin,cmax,not_t,not_f,boolEq_t,boolEq_f,ble_t,ble_f,blt_t,blt_f,beq_t,beq_f,iIn_t,iIn_f,allI_cells,allR_rows,cond_true,cond_false,true_and,and_true,eq_self];first | done | omega | (with_reducible assumption) | rfl) | omega))
theorem rU22 (r:Int) (nc:Nat) (fc:Nat→Nat→Int) (m:Nat) (g:Nat→Nat→Int) (k:Nat) (l:Nat→Nat→Int) (w:Int) (lo hi:Int) (i:Nat) (h1:¬ ((i:Nat):Int)<maI m g 1073741824) (h2:m≤6) (h3:szA g m=true) (h4:moB 1073741824=true):VC (roundD Tryz.prog XU 300 bU2 (basU lw fw lm fm n ls f r nc fc) ltU2 36 60 (sU2 m g k l w lo hi i) (xU2 lo hi)) (.go 25 .nil):=VC_of (((cond (cond (allI .i64 (cellsI .i64 g) m 2) true false) (cond (Nat.ble m 6) (cond (PD.szA g m) (PD.moB (1073741824)) false) false) false)=true∧((not (iLe (PD.maI m g (1073741824)) ((i:Nat):Int)))=false∧(((((V.ptr 8 0):V)=(V.ptr 8 0))∧((((V.ptr 9 0):V)=(V.ptr 9 0))∧True))∧((((lo:Int)=lo)∧(((hi:Int)=hi)∧True))∧True))))) (q:=by
  (repeat' (first | exact True.intro | (with_reducible assumption) | refine And.intro ?_ ?_ | refine cond_mk ?_ ?_ | intro _));all_goals (first | (with_reducible assumption) | (with_reducible rfl) | exact allI_cells _ _ _ _ | exact allR_rows _ _ _ _ _ | (simp only [iLe_t,iLe_f,iEq_t,iEq_f,small_t,small_f,cmin,cmax,not_t,not_f,boolEq_t,boolEq_f,ble_t,ble_f,blt_t,blt_f,beq_t,beq_f,iIn_t,iIn_f,allI_cells,allR_rows,cond_true,cond_false,true_and,and_true,eq_self];first | done | omega | (with_reducible assumption) | rfl) | omega))
theorem fUz (r:Int) (nc:Nat) (fc:Nat→Nat→Int) (lo hi:Int):VC (fromD Tryz.prog XU 300 28 [1,1,0,1,0] (Lv.res ltU2 36 (endH (basU lw fw lm fm n ls f r nc fc) ltU2 60 (xU2 lo hi)) (xU2 lo hi)) (.agg 2 (T.setL .lf 0 [.int .i64 lo,.int .i64 hi]))) .nil:=VC_of ((((lo:Int)=lo)∧(((hi:Int)=hi)∧True)))
def inA (m k:Nat) (l:Nat→Nat→Int):Bool:=allN (fun i=>iIn (l i 0) m) k
def rbB (nc:Nat) (fc:Nat→Nat→Int) (m:Nat) (g:Nat→Nat→Int) (k:Nat) (l:Nat→Nat→Int) (w:Int):Bool:=cond (Nat.ble m 6) (cond (szA g m) (cond (gaOk nc fc k l) (cond (Nat.blt 0 k) (cond (iLe 0 w) (cond (iLe w 1000) (cond (inA m k l) (iLe (maI m g 1000) 1000) false) false) false) false) false) false) false
def valRb2:Val:=fun das=>match das with | [.st [.sl 1 lw fw,.sl 1 lm fm,.rr 1 n ls f,.i .i64 r,.sl 5 nc fc],.one (.sl 2 m g),.one (.sl 1 k l),.one (.i .i64 w)]=>some (rbB nc fc m g k l w,.agg 2 (T.setL .lf 0 [.int .i64 (rsV fc l w (loG g) k),.int .i64 (rsV fc l w (hiG g) k)])) | _=>none
theorem rsm_mono {nc:Nat} {fc l s t:Nat→Nat→Int} {k m:Nat} (hg:gaOk nc fc k l=true) (hl:∀ i,i<k→0≤l i 0∧l i 0<m) (h:∀ i,i<m→s i 0≤t i 0):∀ i,i≤k→rsm fc l s i≤rsm fc l t i:=by
  obtain ⟨_,_,q⟩:=gaOk_get hg
  intro i
  induction i with
  | zero=>intro _;exact Int.le_refl _
  | succ i ih =>
    intro hi
    have a:=ih (by omega)
    have b:=(q i (by omega)).2
    have d:=hl i (by omega)
    have c:=h (Int.toNat (l i 0)) (by omega)
    have e:=Int.mul_le_mul_of_nonneg_left c (show 0≤fc (Int.toNat (l i 0)) 0 by omega)
    rw [rsm_s,rsm_s];omega
theorem rs_mono {nc:Nat} {fc l s t:Nat→Nat→Int} {k m:Nat} {w:Int} (hg:gaOk nc fc k l=true) (hk:0<k) (hw:0≤w) (hl:∀ i,i<k→0≤l i 0∧l i 0<m) (h:∀ i,i<m→0≤s i 0∧s i 0≤t i 0∧t i 0≤2000):rsV fc l w s k≤rsV fc l w t k∧0≤rsV fc l w s k∧rsV fc l w t k≤1000000000:=by
  have bg:=gsm_bd hg k (Nat.le_refl k)
  have q:=gaOk_get hg
  have okS:∀ u:Nat→Nat→Int,(∀ i,i<m→0≤u i 0∧u i 0≤2000)→0≤rsm fc l u k∧rsm fc l u k≤198000000:=fun u hu=>by
    have key:∀ i,i≤k→0≤rsm fc l u i∧rsm fc l u i≤198000*(i:Int):=by
      intro i
      induction i with
      | zero=>intro _;exact ⟨Int.le_refl _,Int.le_refl _⟩
      | succ i ih =>
        intro hi
        have a:=ih (by omega)
        have d:=hl i (by omega)
        have b:=gt_mul (q.2.2 i (by omega)).2 (hu (Int.toNat (l i 0)) (by omega))
        rw [rsm_s];push_cast;omega
    have:=key k (Nat.le_refl k)
    have:=q.1
    omega
  have b1:=okS s (fun i hi=>by have:=h i hi;omega)
  have b2:=okS t (fun i hi=>by have:=h i hi;omega)
  have mo:=rsm_mono hg hl (fun i hi=>(h i hi).2.1) k (Nat.le_refl k)
  unfold rsV
  rw [Int.tdiv_eq_ediv_of_nonneg b1.1,Int.tdiv_eq_ediv_of_nonneg b2.1]
  refine ⟨Int.ediv_le_ediv (by omega) mo,Int.ediv_nonneg b1.1 (by omega),?_⟩
  have:=Int.ediv_le_self (gsm fc l 0 k+w) b2.1
  omega
theorem rs_same {fc l s t:Nat→Nat→Int} {k m:Nat} {w:Int} (hl:∀ i,i<k→0≤l i 0∧l i 0<m) (h:∀ i,i<m→s i 0=t i 0):rsV fc l w s k=rsV fc l w t k:=by
  have key:∀ i,i≤k→rsm fc l s i=rsm fc l t i:=by
    intro i
    induction i with
    | zero=>intro _;rfl
    | succ i ih =>
      intro hi
      have d:=hl i (by omega)
      rw [rsm_s,rsm_s,ih (by omega),h (Int.toNat (l i 0)) (by omega)]
  unfold rsV
  rw [key k (Nat.le_refl k)]
theorem conRb2:Con Tryz.prog 28 valRb2:=by
  intro das v hv
  unfold valRb2 at hv
  split at hv
  · rename_i lw fw lm fm n ls f r nc fc m g k l w
    have hb:=congrArg Prod.fst (Option.some.inj hv)
    have hv:=congrArg Prod.snd (Option.some.inj hv)
    subst hv
    obtain ⟨h1,hb⟩:=cond_tt hb
    obtain ⟨h3,hb⟩:=cond_tt hb
    obtain ⟨hga,hb⟩:=cond_tt hb
    obtain ⟨hk,hb⟩:=cond_tt hb
    obtain ⟨w1,hb⟩:=cond_tt hb
    obtain ⟨w2,hb⟩:=cond_tt hb
    obtain ⟨hin0,h6⟩:=cond_tt hb
    have h1:=Nat.le_of_ble_eq_true h1
    have hk:0<k:=by have:0+1≤k:=Nat.le_of_ble_eq_true hk;omega
    have w1:=(iLe_t _ _).mp w1
    have w2:=(iLe_t _ _).mp w2
    have hl:∀ i,i<k→0≤l i 0∧l i 0<m:=fun i hi=>(iIn_t _ _).mp (allN_get hin0 i hi)
    have hs:∀ i,i<m→szB g i=true:=fun i hi=>allN_get (show allN (szB g) m=true from h3) i hi
    have hP:=pr_le hs ((iLe_t _ _).mp h6)
    have e30:=ma_pr (most:=1073741824) hs (by omega) m (Nat.le_refl _)
    have p1:=pr_pos hs m (Nat.le_refl _)
    obtain ⟨N,hN⟩:∃ N:Nat,prI g m=(N:Int):=⟨(prI g m).toNat,by omega⟩
    have hin:∀ i:Nat,i<N→∀ j,j<m→g j 0≤ntF g ((i:Nat):Int) j 0∧ntF g ((i:Nat):Int) j 0≤g j 1:=fun i hi j hj=>by
      have a:=nt_bd (n0:=((i:Nat):Int)) (by omega) hs hj
      unfold ntF
      omega
    let dI:Nat→Int:=fun i=>rsV fc l w (ntF g ((i:Nat):Int)) k
    have hlo:∀ i:Nat,i<N→rsV fc l w (loG g) k≤dI i∧dI i≤rsV fc l w (hiG g) k:=fun i hi=>by
      have b:=fun j hj=>hin i hi j hj
      have c:=fun j hj=>szB_t.mp (hs j hj)
      have d1:=rs_mono (s:=loG g) (t:=ntF g ((i:Nat):Int)) hga hk w1 hl (fun j hj=>⟨(c j hj).1,(b j hj).1,by have:=b j hj;have:=c j hj;omega⟩)
      have d2:=rs_mono (s:=ntF g ((i:Nat):Int)) (t:=hiG g) hga hk w1 hl (fun j hj=>⟨by have:=b j hj;have:=c j hj;omega,(b j hj).2,(c j hj).2.2⟩)
      exact ⟨d1.1,d2.1⟩
    have bd:=rs_mono (s:=loG g) (t:=hiG g) hga hk w1 hl (fun j hj=>⟨(szB_t.mp (hs j hj)).1,(szB_t.mp (hs j hj)).2.1,(szB_t.mp (hs j hj)).2.2⟩)
    have d0:dI 0=rsV fc l w (loG g) k:=rs_same hl (fun i hi=>nt_zero g i 0)
    have d9:dI (N-1)=rsV fc l w (hiG g) k:=rs_same hl (fun i hi=>by
      rw [show (((N-1:Nat)):Int)=prI g m-1 by omega];exact nt_last hs hi 0)
    have emn:minF (fun i _=>dI i) 1099511627776 N=rsV fc l w (loG g) k:=by
      have a:=minF_le (g:=fun i _=>dI i) (x:=1099511627776) (n:=N) (k:=0) (by omega)
      have a:minF (fun i _=>dI i) 1099511627776 N≤dI 0:=a
      rw [d0] at a
      rcases minF_at (g:=fun i _=>dI i) (x:=1099511627776) N with h | ⟨j,k1,k2⟩
      · omega
      · have:=(hlo j k1).1
        omega
    have emx:maxF (fun i _=>dI i) (-1) N=rsV fc l w (hiG g) k:=by
      have a:=maxF_ge (g:=fun i _=>dI i) (x := -1) (n:=N) (k:=N-1) (by omega)
      have a:dI (N-1)≤maxF (fun i _=>dI i) (-1) N:=a
      rw [d9] at a
      rcases maxF_at (g:=fun i _=>dI i) (x := -1) N with h | ⟨j,k1,k2⟩
      · omega
      · have:=(hlo j k1).2
        omega
    rw [← emn,← emx]
    refine ⟨rfl,?_⟩
    have ok:∀ i:Nat,i<N→rsOk nc fc k l w m (ntF g ((i:Nat):Int))=true:=fun i hi=>cond_mk hga (cond_mk (blt_t' hk) (cond_mk ((iLe_t _ _).mpr w1) (cond_mk ((iLe_t _ _).mpr w2) (allN_true fun j hj=>by
      have d:=hl j hj
      have b:=hin i hi (Int.toNat (l j 0)) (by omega)
      have c:=szB_t.mp (hs (Int.toNat (l j 0)) (by omega))
      exact cond_mk ((iIn_t _ _).mpr d) (cond_mk ((iLe_t _ _).mpr (by omega)) ((iLe_t _ _).mpr (by omega)))))))
    exact con_loopD drawnC XU_ok (das:=[.st [.sl 1 lw fw,.sl 1 lm fm,.rr 1 n ls f,.i .i64 r,.sl 5 nc fc],.one (.sl 2 m g),.one (.sl 1 k l),.one (.i .i64 w)]) (lv:=xU2 (minF (fun i _=>dI i) 1099511627776 N) (maxF (fun i _=>dI i) (-1) N)) (by kernel_rfl) (by kernel_rfl) (eU2 lw fw lm fm n ls f r nc fc m g k l w).ok (loop_rule (body:=bU2) (fun _ e=>by cases e) N (fun i=>sU2 m g k l w (minF (fun i _=>dI i) 1099511627776 i) (maxF (fun i _=>dI i) (-1) i) i) (fun i hi =>
      round_of drawnC XU_ok (rU21 lw fw lm fm n ls f r nc fc m g k l w (minF (fun i _=>dI i) 1099511627776 i) (maxF (fun i _=>dI i) (-1) i) i (by omega) h1 h3 (moB_t.mpr (by omega)) (moB_t.mpr (by omega)) (ok i hi) (by omega)).ok (by kernel_rfl) (by kernel_rfl)) (round_of drawnC XU_ok (rU22 lw fw lm fm n ls f r nc fc m g k l w _ _ N (by omega) h1 h3 (moB_t.mpr (by omega))).ok (by kernel_rfl) (by kernel_rfl))) (fUz lw fw lm fm n ls f r nc fc _ _).ok
  · cases hv
end
end BL
end Go.Proofs.YtpfcfonplmhmiaaGreat
