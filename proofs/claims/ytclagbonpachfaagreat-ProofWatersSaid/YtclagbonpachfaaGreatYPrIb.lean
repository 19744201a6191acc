/- Casks: what a list of casks of a blend is: the reference's, as a contract. -/
import Derived.Test.YtclagbonpachfaaGreatYPrE2
set_option linter.all false
set_option linter.unusedSimpArgs false
set_option linter.unusedVariables false
namespace Go.Proofs.YtclagbonpachfaaGreat
namespace BL
open Go Go.Ev
set_option maxRecDepth 1000000
set_option maxHeartbeats 0
noncomputable section
variable (lw:Nat) (fw:Nat→Nat→Int) (lm:Nat) (fm:Nat→Nat→Int) (n:Nat) (ls:Nat→Nat) (f:Nat→Nat→Nat→Int)
def ltI:LT:=⟨[1,2,5],[1],[4],7⟩
def sI (m:Nat) (g:Nat→Nat→Int) (i:Nat):LS:=⟨[.fz true 4 (cellsI .i64 g) m 1,.ptr 6 0,.int .i64 i],[]⟩
def bI:Code:=sub [1,0,1,0,0] (bodyOf Tryz.prog 13)
def xI (m:Nat) (g:Nat→Nat→Int):Lv := .exit 0 ⟨[.fz true 4 (cellsI .i64 g) m 1],[]⟩
def fI:Lv := .ret ⟨[.bool false],[]⟩
theorem eI (r:Int) (nc:Nat) (fc:Nat→Nat→Int) (m:Nat) (g:Nat→Nat→Int):VC (entD Tryz.prog noExt 300 13 [1,0,1,0] [.st [.sl 1 lw fw,.sl 1 lm fm,.rr 1 n ls f,.i .i64 r,.sl 5 nc fc],.one (.sl 1 m g)] (baseG lw fw lm fm n ls f r nc fc) ltI 41 60 (sI m g 0)) .nil:=VC_of (((True∧(True∧(True∧(True∧(((((V.fz true 0 (cellsI .i64 fw) lw 1):V)=(V.fz true 0 (cellsI .i64 fw) lw 1))∧(((((V.fz true 1 (cellsI .i64 fm) lm 1):V)=(V.fz true 1 (cellsI .i64 fm) lm 1))∧((((r:Int)=r)∧(True∧True))∧True))∧((((V.fz true 2 (rowsI 2 1 ls f) n 1):V)=(V.fz true 2 (rowsI 2 1 ls f) n 1))∧(((((V.fz true 3 (cellsI .i64 fc) nc 5):V)=(V.fz true 3 (cellsI .i64 fc) nc 5))∧(True∧True))∧True))))∧(True∧True))))))∧(((((V.fz true 4 (cellsI .i64 g) m 1):V)=(V.fz true 4 (cellsI .i64 g) m 1))∧((((V.ptr 6 0):V)=(V.ptr 6 0))∧((((0):Int)=(0))∧True)))∧True)))
theorem rI0 (r:Int) (nc:Nat) (fc:Nat→Nat→Int) (m:Nat) (g:Nat→Nat→Int) (h1:0<m) (h2:m≤1000) (h4:nc≤1000) (h3:0≤g 0 0∧g 0 0<nc):VC (roundD Tryz.prog noExt 300 bI (baseG lw fw lm fm n ls f r nc fc) ltI 41 60 (sI m g 0) (.next (sI m g 1))) (.go 98389 .nil):=VC_of (((not (iLe ((m:Nat):Int) (0)))=true∧((Nat.blt 0 m)=true∧((small (((nc:Nat):Int)-(1)))=true∧((iLe (0) (g 0 0))=true∧((not (iLe (g 0 0) (((nc:Nat):Int)-(1))))=false∧(((((V.fz true 4 (cellsI .i64 g) m 1):V)=(V.fz true 4 (cellsI .i64 g) m 1))∧((((V.ptr 6 0):V)=(V.ptr 6 0))∧((((1):Int)=(1))∧True)))∧True)))))))
theorem rI0f (r:Int) (nc:Nat) (fc:Nat→Nat→Int) (m:Nat) (g:Nat→Nat→Int) (h1:0<m) (h2:m≤1000) (h4:nc≤1000) (h3:¬ (0≤g 0 0∧g 0 0<nc)):VC (roundD Tryz.prog noExt 300 bI (baseG lw fw lm fm n ls f r nc fc) ltI 41 60 (sI m g 0) fI) (.go 85 (.sp (.go 320 .nil) .nil)):=VC_of (((not (iLe ((m:Nat):Int) (0)))=true∧((Nat.blt 0 m)=true∧((small (((nc:Nat):Int)-(1)))=true∧(((iLe (0) (g 0 0))=true→((not (iLe (g 0 0) (((nc:Nat):Int)-(1))))=true∧(((false=false)∧True)∧True))) ∧
  ((iLe (0) (g 0 0))=false→(((false=false)∧True)∧True)))))))
theorem rI1 (r:Int) (nc:Nat) (fc:Nat→Nat→Int) (m:Nat) (g:Nat→Nat→Int) (i:Nat) (h1:i+1<m) (h2:m≤1000) (h4:nc≤1000) (h3:0≤g (i+1) 0∧g (i+1) 0<nc) (h5:¬ g (i+1) 0≤(g (Int.toNat ((((i+1:Nat)):Int)-1)) 0)):VC (roundD Tryz.prog noExt 300 bI (baseG lw fw lm fm n ls f r nc fc) ltI 41 60 (sI m g (i+1)) (.next (sI m g (i+1+1)))) (.go 99080360100397141 .nil):=VC_of (((not (iLe ((m:Nat):Int) (((i+1):Nat):Int)))=true∧((Nat.blt (i+1) m)=true∧((small (((nc:Nat):Int)-(1)))=true∧((iLe (0) (g (i+1) 0))=true∧((not (iLe (g (i+1) 0) (((nc:Nat):Int)-(1))))=false∧((Nat.blt (i+1) m)=true∧((small ((((i+1):Nat):Int)-(1)))=true∧((iIn ((((i+1):Nat):Int)-(1)) m)=true∧((iLe (g (i+1) 0) (g (Int.toNat ((((i+1):Nat):Int)-(1))) 0))=false∧((small ((((i+1):Nat):Int)+(1)))=true∧(((((V.fz true 4 (cellsI .i64 g) m 1):V)=(V.fz true 4 (cellsI .i64 g) m 1))∧((((V.ptr 6 0):V)=(V.ptr 6 0))∧(((((((i+1):Nat):Int)+(1)):Int)=((((i+1)+1):Nat):Int))∧True)))∧True))))))))))))
theorem rI1f (r:Int) (nc:Nat) (fc:Nat→Nat→Int) (m:Nat) (g:Nat→Nat→Int) (i:Nat) (h1:i+1<m) (h2:m≤1000) (h4:nc≤1000) (h3:¬ ((0≤g (i+1) 0∧g (i+1) 0<nc)∧¬ g (i+1) 0≤(g (Int.toNat ((((i+1:Nat)):Int)-1)) 0))):VC (roundD Tryz.prog noExt 300 bI (baseG lw fw lm fm n ls f r nc fc) ltI 41 60 (sI m g (i+1)) fI) (.go 85 (.sp (.go 64 (.sp .nil (.go 343615210496 .nil))) .nil)):=VC_of (((not (iLe ((m:Nat):Int) (((i+1):Nat):Int)))=true∧((Nat.blt (i+1) m)=true∧((small (((nc:Nat):Int)-(1)))=true∧(((iLe (0) (g (i+1) 0))=true→(((not (iLe (g (i+1) 0) (((nc:Nat):Int)-(1))))=true→(((false=false)∧True)∧True)) ∧
  ((not (iLe (g (i+1) 0) (((nc:Nat):Int)-(1))))=false→((Nat.blt (i+1) m)=true∧((small ((((i+1):Nat):Int)-(1)))=true∧((iIn ((((i+1):Nat):Int)-(1)) m)=true∧((iLe (g (i+1) 0) (g (Int.toNat ((((i+1):Nat):Int)-(1))) 0))=true∧(((false=false)∧True)∧True)))))))) ∧
  ((iLe (0) (g (i+1) 0))=false→(((false=false)∧True)∧True)))))))
theorem rI3 (r:Int) (nc:Nat) (fc:Nat→Nat→Int) (m:Nat) (g:Nat→Nat→Int) (i:Nat) (h1:¬ i<m):VC (roundD Tryz.prog noExt 300 bI (baseG lw fw lm fm n ls f r nc fc) ltI 41 60 (sI m g i) (xI m g)) (.go 6 .nil):=VC_of (((not (iLe ((m:Nat):Int) ((i:Nat):Int)))=false∧(((((V.fz true 4 (cellsI .i64 g) m 1):V)=(V.fz true 4 (cellsI .i64 g) m 1))∧True)∧True)))
theorem fI1 (r:Int) (nc:Nat) (fc:Nat→Nat→Int) (m:Nat) (g:Nat→Nat→Int) (h:0<m):VC (fromD Tryz.prog noExt 300 13 [1,0,1,0] (Lv.res ltI 41 (endH (baseG lw fw lm fm n ls f r nc fc) ltI 60 (xI m g)) (xI m g)) (.bool true)) .nil:=VC_of (((not (iLe ((m:Nat):Int) (0)))=true))
theorem fI2 (r:Int) (nc:Nat) (fc:Nat→Nat→Int) (g:Nat→Nat→Int):VC (fromD Tryz.prog noExt 300 13 [1,0,1,0] (Lv.res ltI 41 (endH (baseG lw fw lm fm n ls f r nc fc) ltI 60 (xI 0 g)) (xI 0 g)) (.bool false)) .nil:=VC_of (((not true)=false))
theorem fI3 (r:Int) (nc:Nat) (fc:Nat→Nat→Int):VC (fromD Tryz.prog noExt 300 13 [1,0,1,0] (Lv.res ltI 41 (endH (baseG lw fw lm fm n ls f r nc fc) ltI 60 fI) fI) (.bool false)) .nil:=VC_of ((false=false))
def valIb:Val:=fun das=>match das with | [.st [.sl 1 lw fw,.sl 1 lm fm,.rr 1 n ls f,.i .i64 r,.sl 5 nc fc],.one (.sl 1 m g)]=>some (cond (Nat.ble m 1000) (Nat.ble nc 1000) false,.bool (hbB nc g m)) | _=>none
def okI (nc:Nat) (g:Nat→Nat→Int) (i:Nat):Bool:=match i with
  | 0=>inH nc g 0
  | i+1=>cond (inH nc g (i+1)) (upH g i) false
theorem inH_t {nc:Nat} {g:Nat→Nat→Int} {i:Nat}:inH nc g i=true↔0≤g i 0∧g i 0<nc:=by unfold inH;rw [iIn_t]
theorem hb_of {nc m:Nat} {g:Nat→Nat→Int} (hm:0<m) (h:∀ i,i<m→okI nc g i=true):hbB nc g m=true:=by
  have a:∀ i,i<m→inH nc g i=true:=fun i hi=>by
    have q:=h i hi
    cases i with
    | zero=>exact q
    | succ i=>exact (cond_tt q).1
  refine cond_mk (blt_t' hm) (cond_mk (allN_true a) (allN_true fun i hi=>?_))
  have hi:i<m-1:=hi
  exact (cond_tt (h (i+1) (by omega))).2
theorem hb_not {nc m N:Nat} {g:Nat→Nat→Int} (h1:N<m) (h:okI nc g N=false):hbB nc g m=false:=by
  cases q:hbB nc g m with
  | false=>rfl
  | true =>
    obtain ⟨_,q⟩:=cond_tt q
    obtain ⟨q1,q2⟩:=cond_tt q
    have:okI nc g N=true:=by
      cases N with
      | zero=>exact allN_get q1 0 h1
      | succ N=>exact cond_mk (allN_get q1 (N+1) h1) (allN_get q2 N (by show N<m-1;omega))
    rw [this] at h;cases h
theorem conIb:Con Tryz.prog 13 valIb:=by
  intro das v hv
  unfold valIb at hv
  split at hv
  · rename_i lw fw lm fm n ls f r nc fc m g
    have hb:=congrArg Prod.fst (Option.some.inj hv)
    have hv:=congrArg Prod.snd (Option.some.inj hv)
    subst hv
    obtain ⟨hm,hn⟩:=cond_tt hb
    have hm:=Nat.le_of_ble_eq_true hm
    have hn:=Nat.le_of_ble_eq_true hn
    refine ⟨rfl,?_⟩
    have rd:∀ i,i<m→okI nc g i=true→JL Tryz.prog (baseG lw fw lm fm n ls f r nc fc) ltI 41 60 none bI (sI m g i) (.next (sI m g (i+1))):=fun i hi q=>by
      cases i with
      | zero=>exact round_of drawnC noExt_ok (rI0 lw fw lm fm n ls f r nc fc m g hi hm hn (inH_t.mp q)).ok (by kernel_rfl) (by kernel_rfl)
      | succ i =>
        obtain ⟨q1,q2⟩:=cond_tt q
        exact round_of drawnC noExt_ok (rI1 lw fw lm fm n ls f r nc fc m g i hi hm hn (inH_t.mp q1) (upH_t q2)).ok (by kernel_rfl) (by kernel_rfl)
    rcases first_bad (okI nc g) m with h | ⟨N,z1,z2,z3⟩
    · by_cases h0:0<m
      · have e:hbB nc g m=true:=hb_of h0 h
        show ∃ v' H',SpecCall _ _ _ _ v' H'∧valP v' (.bool (hbB nc g m))
        rw [e]
        exact con_loopD drawnC noExt_ok (das:=[.st [.sl 1 lw fw,.sl 1 lm fm,.rr 1 n ls f,.i .i64 r,.sl 5 nc fc],.one (.sl 1 m g)]) (lv:=xI m g) (by kernel_rfl) (by kernel_rfl) (eI lw fw lm fm n ls f r nc fc m g).ok (loop_rule (body:=bI) (fun _ e=>by cases e) m (sI m g) (fun i hi=>rd i hi (h i hi)) (round_of drawnC noExt_ok (rI3 lw fw lm fm n ls f r nc fc m g m (by omega)).ok (by kernel_rfl) (by kernel_rfl))) (fI1 lw fw lm fm n ls f r nc fc m g h0).ok
      · have:m=0:=by omega
        subst this
        exact con_loopD drawnC noExt_ok (das:=[.st [.sl 1 lw fw,.sl 1 lm fm,.rr 1 n ls f,.i .i64 r,.sl 5 nc fc],.one (.sl 1 0 g)]) (lv:=xI 0 g) (by kernel_rfl) (by kernel_rfl) (eI lw fw lm fm n ls f r nc fc 0 g).ok (loop_rule (body:=bI) (fun _ e=>by cases e) 0 (sI 0 g) (fun i hi=>absurd hi (by omega)) (round_of drawnC noExt_ok (rI3 lw fw lm fm n ls f r nc fc 0 g 0 (by omega)).ok (by kernel_rfl) (by kernel_rfl))) (fI2 lw fw lm fm n ls f r nc fc g).ok
    · have e:hbB nc g m=false:=hb_not z1 z3
      show ∃ v' H',SpecCall _ _ _ _ v' H'∧valP v' (.bool (hbB nc g m))
      rw [e]
      refine con_loopD drawnC noExt_ok (das:=[.st [.sl 1 lw fw,.sl 1 lm fm,.rr 1 n ls f,.i .i64 r,.sl 5 nc fc],.one (.sl 1 m g)]) (lv:=fI) (by kernel_rfl) (by kernel_rfl) (eI lw fw lm fm n ls f r nc fc m g).ok (loop_rule (body:=bI) (fun _ e=>by cases e) N (sI m g) (fun i hi=>rd i (by omega) (z2 i hi)) ?_) (fI3 lw fw lm fm n ls f r nc fc).ok
      cases N with
      | zero =>
        exact round_of drawnC noExt_ok (rI0f lw fw lm fm n ls f r nc fc m g z1 hm hn (fun q=>by rw [show okI nc g 0=true from inH_t.mpr q] at z3;cases z3)).ok (by kernel_rfl) (by kernel_rfl)
      | succ N =>
        refine round_of drawnC noExt_ok (rI1f lw fw lm fm n ls f r nc fc m g N z1 hm hn (fun q=>?_)).ok (by kernel_rfl) (by kernel_rfl)
        have u:upH g N=true:=by
          unfold upH
          have w:=q.2
          rw [show Int.toNat ((((N+1:Nat)):Int)-1)=N by omega] at w
          rw [(iLe_f _ _).mpr (by omega)];rfl
        rw [show okI nc g (N+1)=true from cond_mk (inH_t.mpr q.1) u] at z3
        cases z3
  · cases hv
end
end BL
end Go.Proofs.YtclagbonpachfaaGreat
