/- Casks: contracts: a cask is sound; all casks are; the error of a store. -/
import Derived.Test.YtclagbonpachfaaGreatYTaM6
import Derived.Test.YtclagbonpachfaaGreatYEe
set_option linter.all false
set_option linter.unusedSimpArgs false
set_option linter.unusedVariables false
namespace Go.Proofs.YtclagbonpachfaaGreat
open Go Go.Ev
set_option maxRecDepth 1000000
set_option maxHeartbeats 0
noncomputable section
variable (lw:Nat) (fw:Nat→Nat→Int) (lm:Nat) (fm:Nat→Nat→Int) (n:Nat) (ls:Nat→Nat) (f:Nat→Nat→Nat→Int)
def gaB (g:Int):Bool:=cond (iLe 1 g) (iLe g 99) false
def soB (lw:Nat) (fw:Nat→Nat→Int) (lm:Nat) (fm:Nat→Nat→Int) (g a b c d:Int):Bool:=cond (gaB g) (cond (rgI lw fw a b) (rgI lm fm c d) false) false
def caB (lw:Nat) (fw:Nat→Nat→Int) (lm:Nat) (fm:Nat→Nat→Int) (fc:Nat→Nat→Int) (i:Nat):Bool:=soB lw fw lm fm (fc i 0) (fc i 1) (fc i 2) (fc i 3) (fc i 4)
def acB (lw:Nat) (fw:Nat→Nat→Int) (lm:Nat) (fm:Nat→Nat→Int) (fc:Nat→Nat→Int) (nc:Nat):Bool:=allN (caB lw fw lm fm fc) nc
def raB (r:Int):Bool:=cond (iLe 0 r) (iLe r 200) false
def ckE (lw:Nat) (fw:Nat→Nat→Int) (lm:Nat) (fm:Nat→Nat→Int) (n:Nat) (ls:Nat→Nat) (f:Nat→Nat→Nat→Int) (r:Int) (nc:Nat) (fc:Nat→Nat→Int):Int:=cond (iEq (tabE lw fw lm fm n ls f) 0) (cond (Nat.ble nc 6) (cond (raB r) (cond (acB lw fw lm fm fc nc) 0 1) 1) 3) (tabE lw fw lm fm n ls f)
def twoB (lw lm:Nat):Bool:=cond (Nat.ble 2 lw) (cond (Nat.ble lw 5) (cond (Nat.ble 2 lm) (Nat.ble lm 5) false) false) false
theorem sc1 (r:Int) (nc:Nat) (fc:Nat→Nat→Int) (g a b c d:Int) (t1:2≤lw) (t2:lw≤5) (t3:2≤lm) (t4:lm≤5) (h:1≤g∧g≤99∧a≤b∧fw 0 0≤a∧a≤(fw (Int.toNat ((lw:Int)-1)) 0)∧fw 0 0≤b∧b≤(fw (Int.toNat ((lw:Int)-1)) 0)∧c≤d∧fm 0 0≤c∧c≤(fm (Int.toNat ((lm:Int)-1)) 0)∧fm 0 0≤d∧d≤(fm (Int.toNat ((lm:Int)-1)) 0)):VC (runD0 Tryz.prog noExt 300 83 (enc [.st [.sl 1 lw fw,.sl 1 lm fm,.rr 1 n ls f,.i .i64 r,.sl 5 nc fc],.st [.i .i64 g,.i .i64 a,.i .i64 b,.i .i64 c,.i .i64 d]] 0) 4 (fun v=>valP v (.bool true))) (.go 6651333548791678375564843218475418625 .nil):=VC_of (((iLe (1) g)=true∧((iLe g (99))=true∧((Nat.blt 0 lw)=true∧((small (((lw:Nat):Int)-(1)))=true∧((iIn (((lw:Nat):Int)-(1)) lw)=true∧((not (not (iLe a b)))=true∧((iLe (fw 0 0) a)=true∧((iLe a (fw (Int.toNat (((lw:Nat):Int)-(1))) 0))=true∧((iLe (fw 0 0) b)=true∧((iLe b (fw (Int.toNat (((lw:Nat):Int)-(1))) 0))=true∧((Nat.blt 0 lm)=true∧((small (((lm:Nat):Int)-(1)))=true∧((iIn (((lm:Nat):Int)-(1)) lm)=true∧((not (not (iLe c d)))=true∧((iLe (fm 0 0) c)=true∧((iLe c (fm (Int.toNat (((lm:Nat):Int)-(1))) 0))=true∧((iLe (fm 0 0) d)=true∧((iLe d (fm (Int.toNat (((lm:Nat):Int)-(1))) 0))=true)))))))))))))))))))
theorem sc2 (r:Int) (nc:Nat) (fc:Nat→Nat→Int) (g a b c d:Int) (t1:2≤lw) (t2:lw≤5) (t3:2≤lm) (t4:lm≤5) (h:¬ (1≤g∧g≤99∧a≤b∧fw 0 0≤a∧a≤(fw (Int.toNat ((lw:Int)-1)) 0)∧fw 0 0≤b∧b≤(fw (Int.toNat ((lw:Int)-1)) 0)∧c≤d∧fm 0 0≤c∧c≤(fm (Int.toNat ((lm:Int)-1)) 0)∧fm 0 0≤d∧d≤(fm (Int.toNat ((lm:Int)-1)) 0))):VC (runD0 Tryz.prog noExt 300 83 (enc [.st [.sl 1 lw fw,.sl 1 lm fm,.rr 1 n ls f,.i .i64 r,.sl 5 nc fc],.st [.i .i64 g,.i .i64 a,.i .i64 b,.i .i64 c,.i .i64 d]] 0) 4 (fun v=>valP v (.bool false))) (.sp (.go 256 (.sp (.go 283648 (.sp (.go 64 (.sp (.go 1024 (.sp (.go 1048640 (.sp (.go 283648 (.sp (.go 64 (.sp (.go 1024 (.sp (.go 320 .nil) .nil)) .nil)) .nil)) .nil)) .nil)) .nil)) .nil)) .nil)) .nil):=VC_of ((((iLe (1) g)=true→(((iLe g (99))=true→((Nat.blt 0 lw)=true∧((small (((lw:Nat):Int)-(1)))=true∧((iIn (((lw:Nat):Int)-(1)) lw)=true∧(((not (not (iLe a b)))=true→(((iLe (fw 0 0) a)=true→(((iLe a (fw (Int.toNat (((lw:Nat):Int)-(1))) 0))=true→((iLe (fw 0 0) b)=true∧(((iLe b (fw (Int.toNat (((lw:Nat):Int)-(1))) 0))=true→((Nat.blt 0 lm)=true∧((small (((lm:Nat):Int)-(1)))=true∧((iIn (((lm:Nat):Int)-(1)) lm)=true∧(((not (not (iLe c d)))=true→(((iLe (fm 0 0) c)=true→(((iLe c (fm (Int.toNat (((lm:Nat):Int)-(1))) 0))=true→((iLe (fm 0 0) d)=true∧((iLe d (fm (Int.toNat (((lm:Nat):Int)-(1))) 0))=false))) ∧
  ((iLe c (fm (Int.toNat (((lm:Nat):Int)-(1))) 0))=false→(false=false)))) ∧
  ((iLe (fm 0 0) c)=false→(false=false)))) ∧
  ((not (not (iLe c d)))=false→(false=false))))))) ∧
  ((iLe b (fw (Int.toNat (((lw:Nat):Int)-(1))) 0))=false→(false=false))))) ∧
  ((iLe a (fw (Int.toNat (((lw:Nat):Int)-(1))) 0))=false→(false=false)))) ∧
  ((iLe (fw 0 0) a)=false→(false=false)))) ∧
  ((not (not (iLe a b)))=false→(false=false))))))) ∧
  ((iLe g (99))=false→(false=false)))) ∧
  ((iLe (1) g)=false→(false=false))))
def valSc:Val:=fun das=>match das with | [.st [.sl 1 lw fw,.sl 1 lm fm,.rr 1 n ls f,.i .i64 r,.sl 5 nc fc],.st [.i .i64 g,.i .i64 a,.i .i64 b,.i .i64 c,.i .i64 d]]=>some (twoB lw lm,.bool (soB lw fw lm fm g a b c d)) | _=>none
theorem twoB_t {lw lm:Nat}:twoB lw lm=true↔2≤lw∧lw≤5∧2≤lm∧lm≤5:=by
  unfold twoB
  constructor
  · intro h
    obtain ⟨h1,h⟩:=cond_tt h
    obtain ⟨h2,h⟩:=cond_tt h
    obtain ⟨h3,h4⟩:=cond_tt h
    exact ⟨Nat.le_of_ble_eq_true h1,Nat.le_of_ble_eq_true h2,Nat.le_of_ble_eq_true h3,Nat.le_of_ble_eq_true h4⟩
  · rintro ⟨h1,h2,h3,h4⟩
    rw [ble_mk h1,ble_mk h2,ble_mk h3,ble_mk h4];rfl
theorem gaB_t {g:Int}:gaB g=true↔1≤g∧g≤99:=by
  unfold gaB
  constructor
  · intro h
    obtain ⟨h1,h2⟩:=cond_tt h
    exact ⟨(iLe_t _ _).mp h1,(iLe_t _ _).mp h2⟩
  · rintro ⟨h1,h2⟩
    rw [(iLe_t _ _).mpr h1,(iLe_t _ _).mpr h2];rfl
theorem raB_t {g:Int}:raB g=true↔0≤g∧g≤200:=by
  unfold raB
  constructor
  · intro h
    obtain ⟨h1,h2⟩:=cond_tt h
    exact ⟨(iLe_t _ _).mp h1,(iLe_t _ _).mp h2⟩
  · rintro ⟨h1,h2⟩
    rw [(iLe_t _ _).mpr h1,(iLe_t _ _).mpr h2];rfl
theorem soB_t {lw:Nat} {fw:Nat→Nat→Int} {lm:Nat} {fm:Nat→Nat→Int} {g a b c d:Int}:soB lw fw lm fm g a b c d=true↔(1≤g∧g≤99)∧rgB lw fw a b∧rgB lm fm c d:=by
  unfold soB
  constructor
  · intro h
    obtain ⟨h1,h⟩:=cond_tt h
    obtain ⟨h2,h3⟩:=cond_tt h
    exact ⟨gaB_t.mp h1,rgI_t.mp h2,rgI_t.mp h3⟩
  · rintro ⟨h1,h2,h3⟩
    rw [gaB_t.mpr h1,rgI_t.mpr h2,rgI_t.mpr h3];rfl
theorem conSc:Con Tryz.prog 83 valSc:=by
  intro das v hv
  unfold valSc at hv
  split at hv
  · rename_i lw fw lm fm n ls f r nc fc g a b c d
    have hb:=congrArg Prod.fst (Option.some.inj hv)
    have hv:=congrArg Prod.snd (Option.some.inj hv)
    subst hv
    obtain ⟨t1,t2,t3,t4⟩:=twoB_t.mp hb
    have e1:=last_n t1
    have e2:=last_n t3
    have key:soB lw fw lm fm g a b c d=true↔(1≤g∧g≤99∧a≤b∧fw 0 0≤a∧a≤(fw (Int.toNat ((lw:Int)-1)) 0)∧fw 0 0≤b∧b≤(fw (Int.toNat ((lw:Int)-1)) 0)∧c≤d∧fm 0 0≤c∧c≤(fm (Int.toNat ((lm:Int)-1)) 0)∧fm 0 0≤d∧d≤(fm (Int.toNat ((lm:Int)-1)) 0)):=by
      rw [soB_t,e1,e2]
      unfold rgB onB
      constructor
      · rintro ⟨q1,q2,q3⟩
        exact ⟨q1.1,q1.2,q2.1,q2.2.1.1,q2.2.1.2,q2.2.2.1,q2.2.2.2,q3.1,q3.2.1.1,q3.2.1.2,q3.2.2.1,q3.2.2.2⟩
      · rintro ⟨q1,q2,q3,q4,q5,q6,q7,q8,q9,p1,p2,p3⟩
        exact ⟨⟨q1,q2⟩,⟨q3,⟨q4,q5⟩,⟨q6,q7⟩⟩,⟨q8,⟨q9,p1⟩,⟨p2,p3⟩⟩⟩
    cases hs:soB lw fw lm fm g a b c d with
    | true=>exact con_runV drawnC noExt_ok rfl (das:=[.st [.sl 1 lw fw,.sl 1 lm fm,.rr 1 n ls f,.i .i64 r,.sl 5 nc fc],.st [.i .i64 g,.i .i64 a,.i .i64 b,.i .i64 c,.i .i64 d]]) (sc1 lw fw lm fm n ls f r nc fc g a b c d t1 t2 t3 t4 (key.mp hs))
    | false=>exact con_runV drawnC noExt_ok rfl (das:=[.st [.sl 1 lw fw,.sl 1 lm fm,.rr 1 n ls f,.i .i64 r,.sl 5 nc fc],.st [.i .i64 g,.i .i64 a,.i .i64 b,.i .i64 c,.i .i64 d]]) (sc2 lw fw lm fm n ls f r nc fc g a b c d t1 t2 t3 t4 (fun q=>by rw [key.mpr q] at hs;cases hs))
  · cases hv
def XSc:Ext:=conX [(83,cf valSc)] false
theorem XSc_ok:ExtOK Tryz.prog XSc:=conX_ok (allCon_cons (con_ok conSc) allCon_nil)
def clS (lw:Nat) (fw:Nat→Nat→Int) (lm:Nat) (fm:Nat→Nat→Int) (n:Nat) (ls:Nat→Nat) (f:Nat→Nat→Nat→Int) (r:Int) (nc:Nat) (fc:Nat→Nat→Int):V := .func 83 [.agg 5 (T.setL .lf 0 [.fz true 1 (cellsI .i64 fw) lw 1,.fz true 2 (cellsI .i64 fm) lm 1,.fz true 3 (rowsI 3 1 ls f) n 1,.int .i64 r,.fz true 4 (cellsI .i64 fc) nc 5])] []
def ltC:LT:=⟨[1,7,8,9],[],[4],6⟩
def sC (lw:Nat) (fw:Nat→Nat→Int) (lm:Nat) (fm:Nat→Nat→Int) (n:Nat) (ls:Nat→Nat) (f:Nat→Nat→Nat→Int) (r:Int) (nc:Nat) (fc:Nat→Nat→Int) (m:Nat) (g:Nat→Nat→Int) (k:Nat):LS:=⟨[clS lw fw lm fm n ls f r nc fc,.fz true 0 (cellsI .i64 g) m 5,.int .i64 m,.int .i64 k],[]⟩
def bC:Code:=sub [1,0,1,0,0] (bodyOf Tryz.prog 84)
theorem eC (r:Int) (nc:Nat) (fc:Nat→Nat→Int) (m:Nat) (g:Nat→Nat→Int):VC (entD Tryz.prog XSc 300 84 [1,0,1,0] [.one (.sl 5 m g),.cl 83 [.sl 1 lw fw,.sl 1 lm fm,.rr 1 n ls f,.i .i64 r,.sl 5 nc fc]] (heap0 6) ltC 18 60 (sC lw fw lm fm n ls f r nc fc m g 0)) .nil:=VC_of ((True∧((((V.func 83
  [V.agg (lenS' [D0.sl 1 lw fw,D0.sl 1 lm fm,D0.rr 1 n ls f,D0.i IntKind.i64 r,D0.sl 5 nc fc])
      (T.lf.setL 0
        (encL [D0.sl 1 lw fw,D0.sl 1 lm fm,D0.rr 1 n ls f,D0.i IntKind.i64 r,D0.sl 5 nc fc]
          (nxD (DA.one (D0.sl 5 m g)) 0)))]
  []:V)=V.func 83
  [V.agg 5
      (T.lf.setL 0
        [V.fz true 1 (cellsI .i64 fw) lw 1,V.fz true 2 (cellsI .i64 fm) lm 1,
          V.fz true 3 (rowsI 3 1 ls f) n 1,V.int IntKind.i64 r,V.fz true 4 (cellsI .i64 fc) nc 5])]
  [])∧((((V.fz true 0 (cellsI .i64 g) m 5):V)=(V.fz true 0 (cellsI .i64 g) m 5))∧(((((m:Nat):Int):Int)=((m:Nat):Int))∧((((0):Int)=((0:Nat):Int))∧True))))∧True)))
theorem rC1 (r:Int) (nc:Nat) (fc:Nat→Nat→Int) (m:Nat) (g:Nat→Nat→Int) (k:Nat) (t1:2≤lw) (t2:lw≤5) (t3:2≤lm) (t4:lm≤5) (h1:k<m) (h2:m≤1000000) (h3:soB lw fw lm fm (g k 0) (g k 1) (g k 2) (g k 3) (g k 4)=true):VC (roundD Tryz.prog XSc 300 bC (heap0 6) ltC 18 60 (sC lw fw lm fm n ls f r nc fc m g k) (.next (sC lw fw lm fm n ls f r nc fc m g (k+1)))) (.go 1429 .nil):=VC_of (((not (iLe ((m:Nat):Int) ((k:Nat):Int)))=true∧((Nat.blt k m)=true∧((cond (cond (cond (allI .i64 (cellsI .i64 fw) lw 1) (cond (allI .i64 (cellsI .i64 fm) lm 1) (cond (cond true (allR 3 (rowsI 3 1 ls f) n 1) false) (cond (allI .i64 (cellsI .i64 fc) nc 5) true false) false) false) false) true false) (cond (Nat.ble 2 lw) (cond (Nat.ble lw 5) (cond (Nat.ble 2 lm) (Nat.ble lm 5) false) false) false) false)=true∧((not (soB lw fw lm fm (g k 0) (g k 1) (g k 2) (g k 3) (g k 4)))=false∧((small (((k:Nat):Int)+(1)))=true∧((((V.func 83
  [V.agg 5
      (T.lf.setL 0
        [V.fz true 1 (cellsI .i64 fw) lw 1,V.fz true 2 (cellsI .i64 fm) lm 1,
          V.fz true 3 (rowsI 3 1 ls f) n 1,V.int IntKind.i64 r,V.fz true 4 (cellsI .i64 fc) nc 5])]
  []:V)=V.func 83
  [V.agg 5
      (T.lf.setL 0
        [V.fz true 1 (cellsI .i64 fw) lw 1,V.fz true 2 (cellsI .i64 fm) lm 1,
          V.fz true 3 (rowsI 3 1 ls f) n 1,V.int IntKind.i64 r,V.fz true 4 (cellsI .i64 fc) nc 5])]
  [])∧((((V.fz true 0 (cellsI .i64 g) m 5):V)=(V.fz true 0 (cellsI .i64 g) m 5))∧(((((m:Nat):Int):Int)=((m:Nat):Int))∧((((((k:Nat):Int)+(1)):Int)=(((k+1):Nat):Int))∧True))))∧True)))))))
theorem rC2 (r:Int) (nc:Nat) (fc:Nat→Nat→Int) (m:Nat) (g:Nat→Nat→Int) (k:Nat) (t1:2≤lw) (t2:lw≤5) (t3:2≤lm) (t4:lm≤5) (h1:k<m) (h2:m≤1000000) (h3:soB lw fw lm fm (g k 0) (g k 1) (g k 2) (g k 3) (g k 4)=false):VC (roundD Tryz.prog XSc 300 bC (heap0 6) ltC 18 60 (sC lw fw lm fm n ls f r nc fc m g k) (.ret ⟨[.bool false],[]⟩)) (.go 341 .nil):=VC_of (((not (iLe ((m:Nat):Int) ((k:Nat):Int)))=true∧((Nat.blt k m)=true∧((cond (cond (cond (allI .i64 (cellsI .i64 fw) lw 1) (cond (allI .i64 (cellsI .i64 fm) lm 1) (cond (cond true (allR 3 (rowsI 3 1 ls f) n 1) false) (cond (allI .i64 (cellsI .i64 fc) nc 5) true false) false) false) false) true false) (cond (Nat.ble 2 lw) (cond (Nat.ble lw 5) (cond (Nat.ble 2 lm) (Nat.ble lm 5) false) false) false) false)=true∧((not (soB lw fw lm fm (g k 0) (g k 1) (g k 2) (g k 3) (g k 4)))=true∧(((false=false)∧True)∧True))))))
theorem rC3 (r:Int) (nc:Nat) (fc:Nat→Nat→Int) (m:Nat) (g:Nat→Nat→Int) (k:Nat) (h1:¬ k<m):VC (roundD Tryz.prog XSc 300 bC (heap0 6) ltC 18 60 (sC lw fw lm fm n ls f r nc fc m g k) (.exit 0 ⟨[],[]⟩)) (.go 6 .nil):=VC_of (((not (iLe ((m:Nat):Int) ((k:Nat):Int)))=false∧(True∧True)))
theorem fC1  : VC (fromD Tryz.prog XSc 300 84 [1,0,1,0] (Lv.res ltC 18 (endH (heap0 6) ltC 60 (.exit 0 ⟨[],[]⟩)) (.exit 0 ⟨[],[]⟩)) (.bool true)) .nil:=VC_of ((true=true))
theorem fC2  : VC (fromD Tryz.prog XSc 300 84 [1,0,1,0] (Lv.res ltC 18 (endH (heap0 6) ltC 60 (.ret ⟨[.bool false],[]⟩)) (.ret ⟨[.bool false],[]⟩)) (.bool false)) .nil:=VC_of ((false=false))
def valAc:Val:=fun das=>match das with | [.one (.sl 5 m g),.cl 83 [.sl 1 lw fw,.sl 1 lm fm,.rr 1 n ls f,.i .i64 r,.sl 5 nc fc]]=>some (cond (twoB lw lm) (Nat.ble m 1000000) false,.bool (acB lw fw lm fm g m)) | _=>none
theorem conAc:Con Tryz.prog 84 valAc:=by
  intro das v hv
  unfold valAc at hv
  split at hv
  · rename_i m g lw fw lm fm n ls f r nc fc
    have hb:=congrArg Prod.fst (Option.some.inj hv)
    have hv:=congrArg Prod.snd (Option.some.inj hv)
    subst hv
    obtain ⟨ht,hb⟩:=cond_tt hb
    obtain ⟨t1,t2,t3,t4⟩:=twoB_t.mp ht
    have hb:=Nat.le_of_ble_eq_true hb
    refine ⟨rfl,?_⟩
    rcases first_bad (caB lw fw lm fm g) m with h | ⟨N,h1,h2,h3⟩
    · have e:acB lw fw lm fm g m=true:=allN_true h
      show ∃ v' H',SpecCall _ _ _ _ v' H'∧valP v' (.bool (acB lw fw lm fm g m))
      rw [e]
      exact con_loopD drawnC XSc_ok (das:=[.one (.sl 5 m g),.cl 83 [.sl 1 lw fw,.sl 1 lm fm,.rr 1 n ls f,.i .i64 r,.sl 5 nc fc]]) (lv := .exit 0 ⟨[],[]⟩) (by kernel_rfl) (by kernel_rfl) (eC lw fw lm fm n ls f r nc fc m g).ok (loop_rule (body:=bC) (fun _ e=>by cases e) m (sC lw fw lm fm n ls f r nc fc m g) (fun k hk =>
        round_of drawnC XSc_ok (rC1 lw fw lm fm n ls f r nc fc m g k t1 t2 t3 t4 hk hb (h k hk)).ok (by kernel_rfl) (by kernel_rfl)) (round_of drawnC XSc_ok (rC3 lw fw lm fm n ls f r nc fc m g m (by omega)).ok (by kernel_rfl) (by kernel_rfl))) fC1.ok
    · have e:acB lw fw lm fm g m=false:=allN_false h1 h3
      show ∃ v' H',SpecCall _ _ _ _ v' H'∧valP v' (.bool (acB lw fw lm fm g m))
      rw [e]
      exact con_loopD drawnC XSc_ok (das:=[.one (.sl 5 m g),.cl 83 [.sl 1 lw fw,.sl 1 lm fm,.rr 1 n ls f,.i .i64 r,.sl 5 nc fc]]) (lv := .ret ⟨[.bool false],[]⟩) (by kernel_rfl) (by kernel_rfl) (eC lw fw lm fm n ls f r nc fc m g).ok (loop_rule (body:=bC) (fun _ e=>by cases e) N (sC lw fw lm fm n ls f r nc fc m g) (fun k hk =>
        round_of drawnC XSc_ok (rC1 lw fw lm fm n ls f r nc fc m g k t1 t2 t3 t4 (by omega) hb (h2 k hk)).ok (by kernel_rfl) (by kernel_rfl)) (round_of drawnC XSc_ok (rC2 lw fw lm fm n ls f r nc fc m g N t1 t2 t3 t4 h1 hb h3).ok (by kernel_rfl) (by kernel_rfl))) fC2.ok
  · cases hv
def XCs:Ext:=conX [(63,cf valCk),(84,cf valAc)] false
theorem XCs_ok:ExtOK Tryz.prog XCs:=conX_ok (allCon_cons (con_ok conCk)<|allCon_cons (con_ok conAc) allCon_nil)
theorem ck1 (r:Int) (nc:Nat) (fc:Nat→Nat→Int) (s1:lw≤1000) (s2:lm≤1000) (s3:n≤1000) (s4:shortB n ls=true) (h:¬ tabE lw fw lm fm n ls f=0):VC (runD0 Tryz.prog XCs 300 35 (enc [.st [.sl 1 lw fw,.sl 1 lm fm,.rr 1 n ls f,.i .i64 r,.sl 5 nc fc]] 0) 4 (fun v=>valP v (.int .i64 (tabE lw fw lm fm n ls f)))) (.go 21 .nil):=VC_of (((cond (cond (okTb 2 lw fw lm fm n ls f) true false) (cond (Nat.ble lw 1000) (cond (Nat.ble lm 1000) (cond (Nat.ble n 1000) (shortB n ls) false) false) false) false)=true∧((not (iEq (tabE lw fw lm fm n ls f) (0)))=true∧(((tabE lw fw lm fm n ls f):Int)=(tabE lw fw lm fm n ls f)))))
theorem ck2 (r:Int) (nc:Nat) (fc:Nat→Nat→Int) (s1:lw≤1000) (s2:lm≤1000) (s3:n≤1000) (s4:shortB n ls=true) (h:tabE lw fw lm fm n ls f=0) (h2:¬ nc≤6) (h3:nc≤1000):VC (runD0 Tryz.prog XCs 300 35 (enc [.st [.sl 1 lw fw,.sl 1 lm fm,.rr 1 n ls f,.i .i64 r,.sl 5 nc fc]] 0) 4 (fun v=>valP v (.int .i64 3))) (.go 89 .nil):=VC_of (((cond (cond (okTb 2 lw fw lm fm n ls f) true false) (cond (Nat.ble lw 1000) (cond (Nat.ble lm 1000) (cond (Nat.ble n 1000) (shortB n ls) false) false) false) false)=true∧((not (iEq (tabE lw fw lm fm n ls f) (0)))=false∧((not (iLe ((nc:Nat):Int) (6)))=true∧(((3):Int)=(3))))))
theorem ck3 (r:Int) (nc:Nat) (fc:Nat→Nat→Int) (s1:lw≤1000) (s2:lm≤1000) (s3:n≤1000) (s4:shortB n ls=true) (t1:2≤lw) (t2:lw≤5) (t3:2≤lm) (t4:lm≤5) (h:tabE lw fw lm fm n ls f=0) (h2:nc≤6) (h3:¬ (0≤r∧r≤200)):VC (runD0 Tryz.prog XCs 300 35 (enc [.st [.sl 1 lw fw,.sl 1 lm fm,.rr 1 n ls f,.i .i64 r,.sl 5 nc fc]] 0) 4 (fun v=>valP v (.int .i64 1))) (.go 105 (.sp (.go 1536 .nil) .nil)):=VC_of (((cond (cond (okTb 2 lw fw lm fm n ls f) true false) (cond (Nat.ble lw 1000) (cond (Nat.ble lm 1000) (cond (Nat.ble n 1000) (shortB n ls) false) false) false) false)=true∧((not (iEq (tabE lw fw lm fm n ls f) (0)))=false∧((not (iLe ((nc:Nat):Int) (6)))=false∧(((iLe (0) r)=true→((iLe r (200))=false∧(((1):Int)=(1)))) ∧
  ((iLe (0) r)=false→(((1):Int)=(1))))))))
theorem ck5 (r:Int) (nc:Nat) (fc:Nat→Nat→Int) (s1:lw≤1000) (s2:lm≤1000) (s3:n≤1000) (s4:shortB n ls=true) (t1:2≤lw) (t2:lw≤5) (t3:2≤lm) (t4:lm≤5) (h:tabE lw fw lm fm n ls f=0) (h2:nc≤6) (h3:0≤r) (h4:r≤200) (h5:acB lw fw lm fm fc nc=false):VC (runD0 Tryz.prog XCs 300 35 (enc [.st [.sl 1 lw fw,.sl 1 lm fm,.rr 1 n ls f,.i .i64 r,.sl 5 nc fc]] 0) 4 (fun v=>valP v (.int .i64 1))) (.go 1359020137 .nil):=VC_of (((cond (cond (okTb 2 lw fw lm fm n ls f) true false) (cond (Nat.ble lw 1000) (cond (Nat.ble lm 1000) (cond (Nat.ble n 1000) (shortB n ls) false) false) false) false)=true∧((not (iEq (tabE lw fw lm fm n ls f) (0)))=false∧((not (iLe ((nc:Nat):Int) (6)))=false∧((iLe (0) r)=true∧((iLe r (200))=true∧((cond (cond (allI .i64 (cellsI .i64 fc) nc 5) (cond (cond (allI .i64 (cellsI .i64 fw) lw 1) (cond (allI .i64 (cellsI .i64 fm) lm 1) (cond (cond true (allR 2 (rowsI 2 1 ls f) n 1) false) (cond (allI .i64 (cellsI .i64 fc) nc 5) true false) false) false) false) true false) false) (cond (cond (Nat.ble 2 lw) (cond (Nat.ble lw 5) (cond (Nat.ble 2 lm) (Nat.ble lm 5) false) false) false) (Nat.ble nc 1000000) false) false)=true∧((not (acB lw fw lm fm fc nc))=true∧(((1):Int)=(1))))))))))
theorem ck4 (r:Int) (nc:Nat) (fc:Nat→Nat→Int) (s1:lw≤1000) (s2:lm≤1000) (s3:n≤1000) (s4:shortB n ls=true) (t1:2≤lw) (t2:lw≤5) (t3:2≤lm) (t4:lm≤5) (h:tabE lw fw lm fm n ls f=0) (h2:nc≤6) (h3:0≤r) (h4:r≤200) (h5:acB lw fw lm fm fc nc=true):VC (runD0 Tryz.prog XCs 300 35 (enc [.st [.sl 1 lw fw,.sl 1 lm fm,.rr 1 n ls f,.i .i64 r,.sl 5 nc fc]] 0) 4 (fun v=>valP v (.int .i64 0))) (.go 1627455593 .nil):=VC_of (((cond (cond (okTb 2 lw fw lm fm n ls f) true false) (cond (Nat.ble lw 1000) (cond (Nat.ble lm 1000) (cond (Nat.ble n 1000) (shortB n ls) false) false) false) false)=true∧((not (iEq (tabE lw fw lm fm n ls f) (0)))=false∧((not (iLe ((nc:Nat):Int) (6)))=false∧((iLe (0) r)=true∧((iLe r (200))=true∧((cond (cond (allI .i64 (cellsI .i64 fc) nc 5) (cond (cond (allI .i64 (cellsI .i64 fw) lw 1) (cond (allI .i64 (cellsI .i64 fm) lm 1) (cond (cond true (allR 2 (rowsI 2 1 ls f) n 1) false) (cond (allI .i64 (cellsI .i64 fc) nc 5) true false) false) false) false) true false) false) (cond (cond (Nat.ble 2 lw) (cond (Nat.ble lw 5) (cond (Nat.ble 2 lm) (Nat.ble lm 5) false) false) false) (Nat.ble nc 1000000) false) false)=true∧((not (acB lw fw lm fm fc nc))=false∧(((0):Int)=(0))))))))))
def valCs:Val:=fun das=>match das with | [.st [.sl 1 lw fw,.sl 1 lm fm,.rr 1 n ls f,.i .i64 r,.sl 5 nc fc]]=>some (cond (smB lw lm n ls) (Nat.ble nc 1000) false,.int .i64 (ckE lw fw lm fm n ls f r nc fc)) | _=>none
structure StOk (lw:Nat) (fw:Nat→Nat→Int) (lm:Nat) (fm:Nat→Nat→Int) (n:Nat) (ls:Nat→Nat) (f:Nat→Nat→Nat→Int) (r:Int) (nc:Nat) (fc:Nat→Nat→Int):Prop where
  tab:tabE lw fw lm fm n ls f=0
  ok:TabOk lw fw lm fm n ls f
  six:nc≤6
  rate:0≤r∧r≤200
  cask:∀ i,i<nc→(1≤fc i 0∧fc i 0≤99)∧rgB lw fw (fc i 1) (fc i 2)∧rgB lm fm (fc i 3) (fc i 4)
theorem ckE_cases (lw:Nat) (fw:Nat→Nat→Int) (lm:Nat) (fm:Nat→Nat→Int) (n:Nat) (ls:Nat→Nat) (f:Nat→Nat→Nat→Int) (r:Int) (nc:Nat) (fc:Nat→Nat→Int):(¬ tabE lw fw lm fm n ls f=0∧ckE lw fw lm fm n ls f r nc fc=tabE lw fw lm fm n ls f)∨(tabE lw fw lm fm n ls f=0∧¬ nc≤6∧ckE lw fw lm fm n ls f r nc fc=3) ∨
    (tabE lw fw lm fm n ls f=0∧nc≤6∧¬ (0≤r∧r≤200∧acB lw fw lm fm fc nc=true)∧ckE lw fw lm fm n ls f r nc fc=1)∨(tabE lw fw lm fm n ls f=0∧nc≤6∧(0≤r∧r≤200∧acB lw fw lm fm fc nc=true)∧ckE lw fw lm fm n ls f r nc fc=0):=by
  unfold ckE
  by_cases h:tabE lw fw lm fm n ls f=0
  · rw [(iEq_t _ _).mpr h]
    by_cases h2:nc≤6
    · rw [ble_mk h2]
      by_cases h3:0≤r∧r≤200
      · rw [raB_t.mpr h3]
        cases ha:acB lw fw lm fm fc nc with
        | true=>exact .inr (.inr (.inr ⟨h,h2,⟨h3.1,h3.2,rfl⟩,rfl⟩))
        | false=>exact .inr (.inr (.inl ⟨h,h2,fun q=>(by cases q.2.2),rfl⟩))
      · have e:raB r=false:=by
          cases q:raB r with
          | false=>rfl
          | true=>exact absurd (raB_t.mp q) h3
        rw [e]
        exact .inr (.inr (.inl ⟨h,h2,fun q=>h3 ⟨q.1,q.2.1⟩,rfl⟩))
    · have e:Nat.ble nc 6=false:=(ble_f _ _).mpr (by omega)
      rw [e]
      exact .inr (.inl ⟨h,h2,rfl⟩)
  · rw [(iEq_f _ _).mpr h]
    exact .inl ⟨h,rfl⟩
theorem ckE_get (lw:Nat) (fw:Nat→Nat→Int) (lm:Nat) (fm:Nat→Nat→Int) (n:Nat) (ls:Nat→Nat) (f:Nat→Nat→Nat→Int) (r:Int) (nc:Nat) (fc:Nat→Nat→Int) (h:ckE lw fw lm fm n ls f r nc fc=0):StOk lw fw lm fm n ls f r nc fc:=by
  rcases ckE_cases lw fw lm fm n ls f r nc fc with ⟨h1,h2⟩ | ⟨_,_,h3⟩ | ⟨_,_,_,h3⟩ | ⟨h1,h2,h3,_⟩
  · rw [h2] at h;exact absurd h h1
  · rw [h3] at h;cases h
  · rw [h3] at h;cases h
  · exact ⟨h1,tabE_get h1,h2,⟨h3.1,h3.2.1⟩,fun i hi=>soB_t.mp (allN_get h3.2.2 i hi)⟩
theorem conCs:Con Tryz.prog 35 valCs:=by
  intro das v hv
  unfold valCs at hv
  split at hv
  · rename_i lw fw lm fm n ls f r nc fc
    have hb:=congrArg Prod.fst (Option.some.inj hv)
    have hv:=congrArg Prod.snd (Option.some.inj hv)
    subst hv
    obtain ⟨hb,hn⟩:=cond_tt hb
    have hn:=Nat.le_of_ble_eq_true hn
    obtain ⟨s1,s2,s3,s4⟩:=smB_get hb
    rcases ckE_cases lw fw lm fm n ls f r nc fc with ⟨h1,h2⟩ | ⟨h1,h2,h3⟩ | ⟨h1,h2,h3,h4⟩ | ⟨h1,h2,h3,h4⟩
    · rw [h2];exact con_runV drawnC XCs_ok rfl (das:=[.st [.sl 1 lw fw,.sl 1 lm fm,.rr 1 n ls f,.i .i64 r,.sl 5 nc fc]]) (ck1 lw fw lm fm n ls f r nc fc s1 s2 s3 s4 h1)
    · rw [h3];exact con_runV drawnC XCs_ok rfl (das:=[.st [.sl 1 lw fw,.sl 1 lm fm,.rr 1 n ls f,.i .i64 r,.sl 5 nc fc]]) (ck2 lw fw lm fm n ls f r nc fc s1 s2 s3 s4 h1 h2 hn)
    · rw [h4]
      have ok:=tabE_get h1
      by_cases hr:0≤r∧r≤200
      · have ha:acB lw fw lm fm fc nc=false:=by
          cases ha:acB lw fw lm fm fc nc with
          | false=>rfl
          | true=>exact absurd ⟨hr.1,hr.2,ha⟩ h3
        exact con_runV drawnC XCs_ok rfl (das:=[.st [.sl 1 lw fw,.sl 1 lm fm,.rr 1 n ls f,.i .i64 r,.sl 5 nc fc]]) (ck5 lw fw lm fm n ls f r nc fc s1 s2 s3 s4 ok.w.two ok.w.five ok.m.two ok.m.five h1 h2 hr.1 hr.2 ha)
      · exact con_runV drawnC XCs_ok rfl (das:=[.st [.sl 1 lw fw,.sl 1 lm fm,.rr 1 n ls f,.i .i64 r,.sl 5 nc fc]]) (ck3 lw fw lm fm n ls f r nc fc s1 s2 s3 s4 ok.w.two ok.w.five ok.m.two ok.m.five h1 h2 hr)
    · rw [h4]
      have ok:=tabE_get h1
      exact con_runV drawnC XCs_ok rfl (das:=[.st [.sl 1 lw fw,.sl 1 lm fm,.rr 1 n ls f,.i .i64 r,.sl 5 nc fc]]) (ck4 lw fw lm fm n ls f r nc fc s1 s2 s3 s4 ok.w.two ok.w.five ok.m.two ok.m.five h1 h2 h3.1 h3.2.1 h3.2.2)
  · cases hv
end
end Go.Proofs.YtclagbonpachfaaGreat
