/- Tables: contracts: the reference's error of a table: Fault. -/
import Derived.Test.YtclagbonpachfaaGreatYTaF1
set_option linter.all false
set_option linter.unusedSimpArgs false
set_option linter.unusedVariables false
namespace Go.Proofs.YtclagbonpachfaaGreat
open Go Go.Ev
set_option maxRecDepth 1000000
noncomputable section
variable (lw:Nat) (fw:Nat→Nat→Int) (lm:Nat) (fm:Nat→Nat→Int) (n:Nat) (ls:Nat→Nat) (f:Nat→Nat→Nat→Int)
def XF:Ext:=conX [(85,cf valRi)] false
theorem XF_ok:ExtOK Tryz.prog XF:=conX_ok (allCon_cons (con_ok conRi) allCon_nil)
def rowF (lm k:Nat) (g:Nat→Nat→Int):Bool:=cond (iEq (k:Int) lm) (allIn 0 2000 g lm) false
def rowsF (lm n:Nat) (ls:Nat→Nat) (f:Nat→Nat→Nat→Int):Bool:=allN (fun i=>rowF lm (ls i) (f i)) n
def preF (lw:Nat) (fw:Nat→Nat→Int) (lm:Nat) (fm:Nat→Nat→Int) (n:Nat) (ls:Nat→Nat) (f:Nat→Nat→Nat→Int):Bool:=cond (iLe 2 (lw:Int)) (cond (iLe 2 (lm:Int)) (cond (risB lw fw 40) (cond (risB lm fm 60) (iEq (n:Int) (lw:Int)) false) false) false) false
def faE (lw:Nat) (fw:Nat→Nat→Int) (lm:Nat) (fm:Nat→Nat→Int) (n:Nat) (ls:Nat→Nat) (f:Nat→Nat→Nat→Int):Int:=cond (iLe (lw:Int) 5) (cond (iLe (lm:Int) 5) (cond (iLe (n:Int) 5) (cond (preF lw fw lm fm n ls f) (cond (rowsF lm n ls f) 0 1) 1) 3) 3) 3
def baseG (lw:Nat) (fw:Nat→Nat→Int) (lm:Nat) (fm:Nat→Nat→Int) (n:Nat) (ls:Nat→Nat) (f:Nat→Nat→Nat→Int):EH:=⟨setAt [(4,rowT lw fw lm fm n ls f 0)] .lf,7,.lf,big⟩
def ltG:LT:=⟨[1,3],[],[2],7⟩
def ltH:LT:=⟨[1,3,4],[1,3],[2],7⟩
def sG (k:Nat):LS:=⟨[.ptr 4 0,.int .i64 k],[]⟩
def sH (i k:Nat):LS:=⟨[.ptr 4 0,.int .i64 i,.int .i64 k],[]⟩
def xH (i:Nat):Lv := .exit 2 ⟨[.ptr 4 0,.int .i64 i],[]⟩
def bad1:Lv := .ret ⟨[.int .i64 1],[]⟩
def bG:Code:=sub [1,1,1,0,1,0,0] (bodyOf Tryz.prog 71)
def bH:Code:=sub [1,0,0,1,1,0,0] bG
theorem g1 (h:¬ (lw≤5∧lm≤5∧n≤5)):VC (runD0 Tryz.prog XF 300 71 (enc [.st [.sl 1 lw fw,.sl 1 lm fm,.rr 1 n ls f]] 0) 3 (fun v=>valP v (.int .i64 3))) (.sp .nil (.go 256 (.sp .nil (.go 1280 .nil)))):=VC_of ((((not (iLe ((lw:Nat):Int) (5)))=true→(((3):Int)=(3))) ∧
  ((not (iLe ((lw:Nat):Int) (5)))=false→(((not (iLe ((lm:Nat):Int) (5)))=true→(((3):Int)=(3))) ∧
  ((not (iLe ((lm:Nat):Int) (5)))=false→((not (iLe ((n:Nat):Int) (5)))=true∧(((3):Int)=(3))))))))
theorem g2 (h1:lw≤5) (h2:lm≤5) (h3:n≤5) (h:lw<2):VC (runD0 Tryz.prog XF 300 71 (enc [.st [.sl 1 lw fw,.sl 1 lm fm,.rr 1 n ls f]] 0) 3 (fun v=>valP v (.int .i64 1))) (.go 23070722 .nil):=VC_of (((not (iLe ((lw:Nat):Int) (5)))=false∧((not (iLe ((lm:Nat):Int) (5)))=false∧((not (iLe ((n:Nat):Int) (5)))=false∧((not (iLe (2) ((lw:Nat):Int)))=true∧(((1):Int)=(1)))))))
theorem g3 (h1:lw≤5) (h2:lm≤5) (h3:n≤5) (h4:2≤lw) (h:lm<2):VC (runD0 Tryz.prog XF 300 71 (enc [.st [.sl 1 lw fw,.sl 1 lm fm,.rr 1 n ls f]] 0) 3 (fun v=>valP v (.int .i64 1))) (.go 21485324290 .nil):=VC_of (((not (iLe ((lw:Nat):Int) (5)))=false∧((not (iLe ((lm:Nat):Int) (5)))=false∧((not (iLe ((n:Nat):Int) (5)))=false∧((not (iLe (2) ((lw:Nat):Int)))=false∧((not (iLe (2) ((lm:Nat):Int)))=true∧(((1):Int)=(1))))))))
theorem g4 (h1:lw≤5) (h2:lm≤5) (h3:n≤5) (h4:2≤lw) (h5:2≤lm) (h:risB lw fw 40=false):VC (runD0 Tryz.prog XF 300 71 (enc [.st [.sl 1 lw fw,.sl 1 lm fm,.rr 1 n ls f]] 0) 3 (fun v=>valP v (.int .i64 1))) (.go 88244408551426 .nil):=VC_of (((not (iLe ((lw:Nat):Int) (5)))=false∧((not (iLe ((lm:Nat):Int) (5)))=false∧((not (iLe ((n:Nat):Int) (5)))=false∧((not (iLe (2) ((lw:Nat):Int)))=false∧((not (iLe (2) ((lm:Nat):Int)))=false∧((cond (cond (allI .i64 (cellsI .i64 fw) lw 1) true false) (Nat.ble lw 1000) false)=true∧((not (risB lw fw (40)))=true∧(((1):Int)=(1))))))))))
theorem g5 (h1:lw≤5) (h2:lm≤5) (h3:n≤5) (h4:2≤lw) (h5:2≤lm) (h6:risB lw fw 40=true) (h:risB lm fm 60=false):VC (runD0 Tryz.prog XF 300 71 (enc [.st [.sl 1 lw fw,.sl 1 lm fm,.rr 1 n ls f]] 0) 3 (fun v=>valP v (.int .i64 1))) (.go 361449337946900482 .nil):=VC_of (((not (iLe ((lw:Nat):Int) (5)))=false∧((not (iLe ((lm:Nat):Int) (5)))=false∧((not (iLe ((n:Nat):Int) (5)))=false∧((not (iLe (2) ((lw:Nat):Int)))=false∧((not (iLe (2) ((lm:Nat):Int)))=false∧((cond (cond (allI .i64 (cellsI .i64 fw) lw 1) true false) (Nat.ble lw 1000) false)=true∧((not (risB lw fw (40)))=false∧((cond (cond (allI .i64 (cellsI .i64 fm) lm 1) true false) (Nat.ble lm 1000) false)=true∧((not (risB lm fm (60)))=true∧(((1):Int)=(1))))))))))))
theorem g6 (h1:lw≤5) (h2:lm≤5) (h3:n≤5) (h4:2≤lw) (h5:2≤lm) (h6:risB lw fw 40=true) (h7:risB lm fm 60=true) (h:¬ n=lw):VC (runD0 Tryz.prog XF 300 71 (enc [.st [.sl 1 lw fw,.sl 1 lm fm,.rr 1 n ls f]] 0) 3 (fun v=>valP v (.int .i64 1))) (.go 23611977690904059185154 .nil):=VC_of (((not (iLe ((lw:Nat):Int) (5)))=false∧((not (iLe ((lm:Nat):Int) (5)))=false∧((not (iLe ((n:Nat):Int) (5)))=false∧((not (iLe (2) ((lw:Nat):Int)))=false∧((not (iLe (2) ((lm:Nat):Int)))=false∧((cond (cond (allI .i64 (cellsI .i64 fw) lw 1) true false) (Nat.ble lw 1000) false)=true∧((not (risB lw fw (40)))=false∧((cond (cond (allI .i64 (cellsI .i64 fm) lm 1) true false) (Nat.ble lm 1000) false)=true∧((not (risB lm fm (60)))=false∧((not (iEq ((n:Nat):Int) ((lw:Nat):Int)))=true∧(((1):Int)=(1)))))))))))))
theorem g7 (h1:lw≤5) (h2:lm≤5) (h3:n≤5) (h4:2≤lw) (h5:2≤lm) (h6:risB lw fw 40=true) (h7:risB lm fm 60=true) (h:n=lw):VC (entD Tryz.prog XF 300 71 [1,1,1,0,1,0] [.st [.sl 1 lw fw,.sl 1 lm fm,.rr 1 n ls f]] (baseG lw fw lm fm n ls f) ltG 86 80 (sG 0)) (.go 28334344173773704398850 .nil):=VC_of (((not (iLe ((lw:Nat):Int) (5)))=false∧((not (iLe ((lm:Nat):Int) (5)))=false∧((not (iLe ((n:Nat):Int) (5)))=false∧((not (iLe (2) ((lw:Nat):Int)))=false∧((not (iLe (2) ((lm:Nat):Int)))=false∧((cond (cond (allI .i64 (cellsI .i64 fw) lw 1) true false) (Nat.ble lw 1000) false)=true∧((not (risB lw fw (40)))=false∧((cond (cond (allI .i64 (cellsI .i64 fm) lm 1) true false) (Nat.ble lm 1000) false)=true∧((not (risB lm fm (60)))=false∧((not (iEq ((n:Nat):Int) ((lw:Nat):Int)))=false∧((True∧(True∧(True∧((((((V.fz true 0 (cellsI .i64 fw) lw 1):V)=(V.fz true 0 (cellsI .i64 fw) lw 1))∧(((((V.fz true 1 (cellsI .i64 fm) lm 1):V)=(V.fz true 1 (cellsI .i64 fm) lm 1))∧(True∧True))∧((((V.fz true 2 (fun i x=>V.fz true (nxA (D0.sl 1 lm fm) (nxA (D0.sl 1 lw fw) 0)) (cellsI .i64 (f i)) (ls i) 1) n 1):V)=(V.fz true 2 (fun i x=>V.fz true (nxA (D0.sl 1 lm fm) (nxA (D0.sl 1 lw fw) 0)) (cellsI .i64 (f i)) (ls i) 1) n 1))∧(True∧True))))∧(True∧True))∧True))))∧(((((V.ptr 4 0):V)=(V.ptr 4 0))∧((((0):Int)=((0:Nat):Int))∧True))∧True)))))))))))))
theorem g8 (i k:Nat) (h1:i<n) (h2:n≤5) (h3:k<lm) (h4:lm≤5) (h5:ls i=lm) (h6:0≤f i k 0) (h7:f i k 0≤2000):VC (roundD Tryz.prog XF 300 bH (baseG lw fw lm fm n ls f) ltH 86 60 (sH i k) (.next (sH i (k+1)))) (.go 360533 .nil):=VC_of (((not (iLe ((lm:Nat):Int) ((k:Nat):Int)))=true∧((Nat.blt i n)=true∧((Nat.blt k (ls i))=true∧((iLe (0) (f i k 0))=true∧((not (iLe (f i k 0) (2000)))=false∧((small (((k:Nat):Int)+(1)))=true∧(((((V.ptr 4 0):V)=(V.ptr 4 0))∧(((((i:Nat):Int):Int)=((i:Nat):Int))∧((((((k:Nat):Int)+(1)):Int)=(((k+1):Nat):Int))∧True)))∧True))))))))
theorem g9 (i k:Nat) (h1:i<n) (h2:n≤5) (h3:k<lm) (h4:lm≤5) (h5:ls i=lm) (h6:¬ (0≤f i k 0∧f i k 0≤2000)):VC (roundD Tryz.prog XF 300 bH (baseG lw fw lm fm n ls f) ltH 86 60 (sH i k) bad1) (.go 85 (.sp (.go 320 .nil) .nil)):=VC_of (((not (iLe ((lm:Nat):Int) ((k:Nat):Int)))=true∧((Nat.blt i n)=true∧((Nat.blt k (ls i))=true∧(((iLe (0) (f i k 0))=true→((not (iLe (f i k 0) (2000)))=true∧(((((1):Int)=(1))∧True)∧True))) ∧
  ((iLe (0) (f i k 0))=false→(((((1):Int)=(1))∧True)∧True)))))))
theorem g10 (i k:Nat) (h1:¬ k<lm):VC (roundD Tryz.prog XF 300 bH (baseG lw fw lm fm n ls f) ltH 86 60 (sH i k) (xH i)) (.go 6 .nil):=VC_of (((not (iLe ((lm:Nat):Int) ((k:Nat):Int)))=false∧(((((V.ptr 4 0):V)=(V.ptr 4 0))∧(((((i:Nat):Int):Int)=((i:Nat):Int))∧True))∧True)))
theorem g11 (i:Nat) (h1:i<n) (h2:n≤5) (h4:lm≤5) (h5:ls i=lm):VC (nestTo Tryz.prog XF 300 [1,0,0,1,1,0] bG (baseG lw fw lm fm n ls f) ltG 86 (sG i) (baseG lw fw lm fm n ls f) ltH 60 (sH i 0)) (.go 101 .nil):=VC_of (((not (iLe ((n:Nat):Int) ((i:Nat):Int)))=true∧((Nat.blt i n)=true∧((not (iEq (((ls i):Nat):Int) ((lm:Nat):Int)))=false∧((True∧(True∧(True∧((((((V.fz true 0 (cellsI .i64 fw) lw 1):V)=(V.fz true 0 (cellsI .i64 fw) lw 1))∧(((((V.fz true 1 (cellsI .i64 fm) lm 1):V)=(V.fz true 1 (cellsI .i64 fm) lm 1))∧(True∧True))∧((((V.fz true 2 (fun i x=>V.fz true (nxA (D0.sl 1 lm fm) (nxA (D0.sl 1 lw fw) 0)) (cellsI .i64 (f i)) (ls i) 1) n 1):V)=(V.fz true 2 (fun i x=>V.fz true (nxA (D0.sl 1 lm fm) (nxA (D0.sl 1 lw fw) 0)) (cellsI .i64 (f i)) (ls i) 1) n 1))∧(True∧True))))∧(True∧True))∧True))))∧(((((V.ptr 4 0):V)=(V.ptr 4 0))∧(((((i:Nat):Int):Int)=((i:Nat):Int))∧((((0):Int)=((0:Nat):Int))∧True)))∧True))))))
theorem g12 (i:Nat) (h1:i<n) (h2:n≤5):VC (nestFrom Tryz.prog XF 300 [1,0,0,1,1,0] bG (baseG lw fw lm fm n ls f) ltG 86 80 (.next (sG (i+1))) (baseG lw fw lm fm n ls f) ltH 60 (xH i)) (.go 5 .nil):=VC_of (((small (((i:Nat):Int)+(1)))=true∧(((((V.ptr 4 0):V)=(V.ptr 4 0))∧((((((i:Nat):Int)+(1)):Int)=(((i+1):Nat):Int))∧True))∧True)))
theorem g13:VC (nestFrom Tryz.prog XF 300 [1,0,0,1,1,0] bG (baseG lw fw lm fm n ls f) ltG 86 80 bad1 (baseG lw fw lm fm n ls f) ltH 60 bad1) .nil:=VC_of ((((((1):Int)=(1))∧True)∧True))
theorem g14 (i:Nat) (h1:i<n) (h2:n≤5) (h4:lm≤5) (h5:¬ ls i=lm):VC (roundD Tryz.prog XF 300 bG (baseG lw fw lm fm n ls f) ltG 86 80 (sG i) bad1) (.go 85 .nil):=VC_of (((not (iLe ((n:Nat):Int) ((i:Nat):Int)))=true∧((Nat.blt i n)=true∧((not (iEq (((ls i):Nat):Int) ((lm:Nat):Int)))=true∧(((((1):Int)=(1))∧True)∧True)))))
theorem g15 (i:Nat) (h1:¬ i<n):VC (roundD Tryz.prog XF 300 bG (baseG lw fw lm fm n ls f) ltG 86 80 (sG i) (.exit 0 ⟨[],[]⟩)) (.go 6 .nil):=VC_of (((not (iLe ((n:Nat):Int) ((i:Nat):Int)))=false∧(True∧True)))
theorem g16:VC (fromD Tryz.prog XF 300 71 [1,1,1,0,1,0] (Lv.res ltG 86 (endH (baseG lw fw lm fm n ls f) ltG 80 (.exit 0 ⟨[],[]⟩)) (.exit 0 ⟨[],[]⟩)) (.int .i64 0)) .nil:=VC_of ((((0):Int)=(0)))
theorem g17:VC (fromD Tryz.prog XF 300 71 [1,1,1,0,1,0] (Lv.res ltG 86 (endH (baseG lw fw lm fm n ls f) ltG 80 bad1) bad1) (.int .i64 1)) .nil:=VC_of ((((1):Int)=(1)))
def valFa:Val:=fun das=>match das with | [.st [.sl 1 lw fw,.sl 1 lm fm,.rr 1 n ls f]]=>some (thB lw lm n ls,.int .i64 (faE lw fw lm fm n ls f)) | _=>none
theorem conFa:Con Tryz.prog 71 valFa:=by
  intro das v hv
  unfold valFa at hv
  split at hv
  · rename_i lw fw lm fm n ls f
    have hb:=congrArg Prod.fst (Option.some.inj hv)
    have hv:=congrArg Prod.snd (Option.some.inj hv)
    subst hv
    have fin:∀ {x:Int} {h:HT},VC (runD0 Tryz.prog XF 300 71 (enc [.st [.sl 1 lw fw,.sl 1 lm fm,.rr 1 n ls f]] 0) 3 (fun v=>valP v (.int .i64 x))) h→flatV (.int .i64 x)=true∧∃ v' H',SpecCall Tryz.prog 71 (enc [.st [.sl 1 lw fw,.sl 1 lm fm,.rr 1 n ls f]] 0) (heap0 4) v' H'∧valP v' (.int .i64 x):=fun {x h} hvc=>con_runV (v := .int .i64 x) drawnC XF_ok rfl (das:=[.st [.sl 1 lw fw,.sl 1 lm fm,.rr 1 n ls f]]) hvc
    by_cases h:lw≤5∧lm≤5∧n≤5
    · obtain ⟨h1,h2,h3⟩:=h
      have e0:faE lw fw lm fm n ls f=cond (preF lw fw lm fm n ls f) (cond (rowsF lm n ls f) 0 1) 1:=by unfold faE;rw [(iLe_t _ _).mpr (by omega),(iLe_t _ _).mpr (by omega),(iLe_t _ _).mpr (by omega)];rfl
      rw [e0]
      by_cases h4:2≤lw
      · by_cases h5:2≤lm
        · have e1:preF lw fw lm fm n ls f=cond (risB lw fw 40) (cond (risB lm fm 60) (iEq (n:Int) (lw:Int)) false) false:=by unfold preF;rw [(iLe_t _ _).mpr (by omega),(iLe_t _ _).mpr (by omega)];rfl
          cases h6:risB lw fw 40 with
          | false=>rw [e1,h6];exact fin (g4 lw fw lm fm n ls f h1 h2 h3 h4 h5 h6)
          | true =>
          cases h7:risB lm fm 60 with
          | false=>rw [e1,h6,h7];exact fin (g5 lw fw lm fm n ls f h1 h2 h3 h4 h5 h6 h7)
          | true =>
          by_cases h8:n=lw
          · have e2:preF lw fw lm fm n ls f=true:=by rw [e1,h6,h7,(iEq_t _ _).mpr (by omega)];rfl
            rw [e2]
            refine ⟨rfl,?_⟩
            have inner:∀ i,i<n→ls i=lm→∀ k,k<lm→inB 0 2000 (f i) k=true→JL Tryz.prog (baseG lw fw lm fm n ls f) ltH 86 60 none bH (sH i k) (.next (sH i (k+1))):=fun i hi hl k hk q=>by
              simp only [inB,decide_eq_true_eq] at q
              exact round_of drawnC XF_ok (g8 lw fw lm fm n ls f i k hi h3 hk h2 hl q.1 q.2).ok (by kernel_rfl) (by kernel_rfl)
            have good:∀ i,i<n→rowF lm (ls i) (f i)=true→JL Tryz.prog (baseG lw fw lm fm n ls f) ltG 86 80 none bG (sG i) (.next (sG (i+1))):=fun i hi q=>by
              obtain ⟨q1,q2⟩:=cond_tt q
              have hl:ls i=lm:=by have:=(iEq_t _ _).mp q1;omega
              exact JL_nest drawnC XF_ok (by kernel_rfl) (by kernel_rfl) (g11 lw fw lm fm n ls f i hi h3 h2 hl)
                (loop_rule (body:=bH) (lv:=xH i) (fun _ e=>by cases e) lm (sH i) (fun k hk=>inner i hi hl k hk (allN_get q2 k hk)) (round_of drawnC XF_ok (g10 lw fw lm fm n ls f i lm (by omega)).ok (by kernel_rfl) (by kernel_rfl)))
                (g12 lw fw lm fm n ls f i hi h3)
            have bad:∀ i,i<n→rowF lm (ls i) (f i)=false→JL Tryz.prog (baseG lw fw lm fm n ls f) ltG 86 80 none bG (sG i) bad1:=fun i hi q=>by
              by_cases hl:ls i=lm
              · have q2:allIn 0 2000 (f i) lm=false:=by
                  cases q2:allIn 0 2000 (f i) lm with
                  | false=>rfl
                  | true=>rw [show rowF lm (ls i) (f i)=true from cond_mk ((iEq_t _ _).mpr (by omega)) q2] at q;cases q
                rcases first_bad (inB 0 2000 (f i)) lm with p | ⟨N,p1,p2,p3⟩
                · rw [show allIn 0 2000 (f i) lm=true from allN_true p] at q2;cases q2
                · simp only [inB,decide_eq_false_iff_not] at p3
                  exact JL_nest drawnC XF_ok (by kernel_rfl) (by kernel_rfl) (g11 lw fw lm fm n ls f i hi h3 h2 hl)
                    (loop_rule (body:=bH) (lv:=bad1) (fun _ e=>by cases e) N (sH i) (fun k hk=>inner i hi hl k (by omega) (p2 k hk)) (round_of drawnC XF_ok (g9 lw fw lm fm n ls f i N hi h3 p1 h2 hl p3).ok (by kernel_rfl) (by kernel_rfl)))
                    (g13 lw fw lm fm n ls f)
              · exact round_of drawnC XF_ok (g14 lw fw lm fm n ls f i hi h3 h2 hl).ok (by kernel_rfl) (by kernel_rfl)
            rcases first_bad (fun i=>rowF lm (ls i) (f i)) n with p | ⟨N,p1,p2,p3⟩
            · have e3:rowsF lm n ls f=true:=allN_true p
              rw [e3]
              exact con_loopD drawnC XF_ok (das:=[.st [.sl 1 lw fw,.sl 1 lm fm,.rr 1 n ls f]]) (v := .int .i64 0) (lv := .exit 0 ⟨[],[]⟩) (by kernel_rfl) (by kernel_rfl) (g7 lw fw lm fm n ls f h1 h2 h3 h4 h5 h6 h7 h8).ok
                (loop_rule (body:=bG) (fun _ e=>by cases e) n sG (fun i hi=>good i hi (p i hi)) (round_of drawnC XF_ok (g15 lw fw lm fm n ls f n (by omega)).ok (by kernel_rfl) (by kernel_rfl))) (g16 lw fw lm fm n ls f).ok
            · have e3:rowsF lm n ls f=false:=allN_false p1 p3
              rw [e3]
              exact con_loopD drawnC XF_ok (das:=[.st [.sl 1 lw fw,.sl 1 lm fm,.rr 1 n ls f]]) (v := .int .i64 1) (lv:=bad1) (by kernel_rfl) (by kernel_rfl) (g7 lw fw lm fm n ls f h1 h2 h3 h4 h5 h6 h7 h8).ok
                (loop_rule (body:=bG) (fun _ e=>by cases e) N sG (fun i hi=>good i (by omega) (p2 i hi)) (bad N p1 p3)) (g17 lw fw lm fm n ls f).ok
          · have e2:preF lw fw lm fm n ls f=false:=by rw [e1,h6,h7,(iEq_f _ _).mpr (by omega)];rfl
            rw [e2];exact fin (g6 lw fw lm fm n ls f h1 h2 h3 h4 h5 h6 h7 h8)
        · have e1:preF lw fw lm fm n ls f=false:=by unfold preF;rw [(iLe_t _ _).mpr (by omega),(iLe_f 2 (lm:Int)).mpr (by omega)];rfl
          rw [e1];exact fin (g3 lw fw lm fm n ls f h1 h2 h3 h4 (by omega))
      · have e1:preF lw fw lm fm n ls f=false:=by unfold preF;rw [(iLe_f 2 (lw:Int)).mpr (by omega)];rfl
        rw [e1];exact fin (g2 lw fw lm fm n ls f h1 h2 h3 (by omega))
    · have e0:faE lw fw lm fm n ls f=3:=by
        unfold faE
        by_cases q1:lw≤5
        · by_cases q2:lm≤5
          · rw [(iLe_t _ _).mpr (by omega),(iLe_t _ _).mpr (by omega),(iLe_f (n:Int) 5).mpr (by omega)];rfl
          · rw [(iLe_t _ _).mpr (by omega),(iLe_f (lm:Int) 5).mpr (by omega)];rfl
        · rw [(iLe_f (lw:Int) 5).mpr (by omega)];rfl
      rw [e0];exact fin (g1 lw fw lm fm n ls f h)
  · cases hv
end
end Go.Proofs.YtclagbonpachfaaGreat
