/- Casks: the fewest casks of a blend that is surely in a range: the contracts. -/
import Derived.Test.YtiplgejpopellaaGreatYPrE4
set_option linter.all false
set_option linter.unusedSimpArgs false
set_option linter.unusedVariables false
namespace Go.Proofs.YtiplgejpopellaaGreat
namespace BL
open Go Go.Ev
set_option maxRecDepth 1000000
set_option maxHeartbeats 0
noncomputable section
variable (A:Nat) (B:Nat→Nat→Int) (I:Nat) (J:Nat→Nat→Int) (n:Nat) (M:Nat→Nat) (f:Nat→Nat→Nat→Int)
def aN (a b c d:Int):Bool:=decide (a≤b∧(c≤a∧a≤d)∧(c≤b∧b≤d))
theorem ip1 (a b c d:Int) (h:a≤b∧(c≤a∧a≤d)∧(c≤b∧b≤d)):VC (dh Tryz.prog az 300 45 (enc [.st [.i .i64 a,.i .i64 b],.st [.i .i64 c,.i .i64 d]] 0) 0 (fun v=>dB v (.bool true))) (.go 1343226113 .nil):=ai (((not (not (ak a b)))=true∧((ak c a)=true∧((ak a d)=true∧((ak c b)=true∧((ak b d)=true))))))
theorem ip2 (a b c d:Int) (h:¬ (a≤b∧(c≤a∧a≤d)∧(c≤b∧b≤d))):VC (dh Tryz.prog az 300 45 (enc [.st [.i .i64 a,.i .i64 b],.st [.i .i64 c,.i .i64 d]] 0) 0 (fun v=>dB v (.bool false))) (.sp (.go 64 (.sp (.go 1024 (.sp (.go 320 .nil) .nil)) .nil)) .nil):=ai ((((not (not (ak a b)))=true→(((ak c a)=true→(((ak a d)=true→((ak c b)=true∧((ak b d)=false))) ∧
 ((ak a d)=false→(false=false)))) ∧
 ((ak c a)=false→(false=false)))) ∧
 ((not (not (ak a b)))=false→(false=false))))
def SE:Val:=fun das=>match das with | [.st [.i .i64 a,.i .i64 b],.st [.i .i64 c,.i .i64 d]]=>some (true,.bool (aN a b c d)) | _=>none
theorem aaX:qi Tryz.prog 45 SE:=by
 intro das v hv
 unfold SE at hv
 split at hv
 ·rename_i a b c d
  have hv:=congrArg Prod.snd (Option.some.inj hv)
  subst hv
  by_cases h:a≤b∧(c≤a∧a≤d)∧(c≤b∧b≤d)
  ·rw [show aN a b c d=true from decide_eq_true h]
   exact bn aj aG rfl (das:=[.st [.i .i64 a,.i .i64 b],.st [.i .i64 c,.i .i64 d]]) (ip1 a b c d h)
  ·rw [show aN a b c d=false from decide_eq_false h]
   exact bn aj aG rfl (das:=[.st [.i .i64 a,.i .i64 b],.st [.i .i64 c,.i .i64 d]]) (ip2 a b c d h)
 ·cases hv
def yz (g:Nat→Nat→Int) (k:Nat):Nat:=Nat.rec 0 (fun i a=>Nat.add a (Nat.pow 2 (Int.toNat (g i 0)))) k
def inL (O k:Nat) (g:Nat→Nat→Int):Bool:=cond (Nat.blt 0 (yz g k)) (cond (Nat.blt (yz g k) (Nat.pow 2 O)) (cond (Nat.beq (Rw (biL (yz g k))) k) (eX (fun i=>bY (g i 0) (Xq (biL (yz g k)) i)) k) false) false) false
def QOk (O:Nat) (E:Nat→Nat→Int) (l0 l1 l2 l3 l4 l5 h0 h1 h2 h3 h4 h5:Int) (lo hi:Nat→Int):Prop:=∀ x,0<x→x<Nat.pow 2 O→blB O E (aC (Int.ofNat x)) (aH (Int.ofNat x)) 0 l0 l1 l2 l3 l4 l5=true∧blB O E (aC (Int.ofNat x)) (aH (Int.ofNat x)) 0 h0 h1 h2 h3 h4 h5=true∧blV E (aH (Int.ofNat x)) 0 l0 l1 l2 l3 l4 l5 (aC (Int.ofNat x))=lo x∧blV E (aH (Int.ofNat x)) 0 h0 h1 h2 h3 h4 h5 (aC (Int.ofNat x))=hi x
def okQ (O:Nat) (E:Nat→Nat→Int) (l0 l1 l2 l3 l4 l5 h0 h1 h2 h3 h4 h5:Int) (lo hi:Nat→Int):Bool:=@decide (QOk O E l0 l1 l2 l3 l4 l5 h0 h1 h2 h3 h4 h5 lo hi) (Classical.propDecidable _)
def QY (lo hi:Nat→Int):Val:=fun das=>match das with | [.st [.sl 1 A B,.sl 1 I J,.rr 1 n M f,.i .i64 r,.sl 5 O E,.i .i64 l0,.i .i64 l1,.i .i64 l2,.i .i64 l3,.i .i64 l4,.i .i64 l5,.i .i64 h0,.i .i64 h1,.i .i64 h2,.i .i64 h3,.i .i64 h4,.i .i64 h5],.one (.sl 1 k g),.one (.i .i64 w)]=>some (cond (bY w 0) (cond (inL O k g) (okQ O E l0 l1 l2 l3 l4 l5 h0 h1 h2 h3 h4 h5 lo hi) false) false,.agg 2 (T.setL .lf 0 [.int .i64 (lo (yz g k)),.int .i64 (hi (yz g k))])) | _=>none
theorem Yp {E g g':Nat→Nat→Int} {w:Int} {k:Nat} (h:∀ i,i<k→g i 0=g' i 0):lD E g w k=lD E g' w k:=by
 induction k with
 | zero=>rfl
 | succ k ih=>rw [xE,xE,ih (fun i hi=>h i (by omega)),h k (by omega)]
theorem aa6 {E g g':Nat→Nat→Int} {t0 t1 t2 t3 t4 t5:Int} {k:Nat} (h:∀ i,i<k→g i 0=g' i 0):xY E g t0 t1 t2 t3 t4 t5 k=xY E g' t0 t1 t2 t3 t4 t5 k:=by
 induction k with
 | zero=>rfl
 | succ k ih=>rw [IV,IV,ih (fun i hi=>h i (by omega)),h k (by omega)]
theorem aaR {E g g':Nat→Nat→Int} {w t0 t1 t2 t3 t4 t5:Int} {k:Nat} (h:∀ i,i<k→g i 0=g' i 0):blV E g w t0 t1 t2 t3 t4 t5 k=blV E g' w t0 t1 t2 t3 t4 t5 k:=by
 unfold blV;rw [Yp h,aa6 h]
theorem Yn {O:Nat} {E g g':Nat→Nat→Int} {w t0 t1 t2 t3 t4 t5:Int} {k:Nat} (h:∀ i,i<k→g i 0=g' i 0) (hb:blB O E k g' w t0 t1 t2 t3 t4 t5=true):blB O E k g w t0 t1 t2 t3 t4 t5=true:=by
 obtain ⟨b1,hb⟩:=ah hb
 obtain ⟨b2,hb⟩:=ah hb
 obtain ⟨b3,hb⟩:=ah hb
 obtain ⟨b4,hb⟩:=ah hb
 obtain ⟨b5,b6⟩:=ah hb
 exact aI b1 (aI b2 (aI b3 (aI b4 (aI (bW fun i hi=>by rw [h i hi];exact aX b5 i hi) (by rw [Yp h];exact b6)))))
theorem WS {O k:Nat} {g:Nat→Nat→Int} (h:inL O k g=true):0<yz g k∧yz g k<Nat.pow 2 O∧aC (Int.ofNat (yz g k))=k∧∀ i,i<k→g i 0=aH (Int.ofNat (yz g k)) i 0:=by
 obtain ⟨h1,h⟩:=ah h
 obtain ⟨h2,h⟩:=ah h
 obtain ⟨h3,h4⟩:=ah h
 exact ⟨bZ h1,bZ h2,nb h3,fun i hi=>(dQ _ _).mp (aX h4 i hi)⟩
theorem aaH (lo hi:Nat→Int):qi Tryz.prog 44 (QY lo hi):=by
 intro das v hv
 unfold QY at hv
 split at hv
 ·rename_i A B I J n M f r O E l0 l1 l2 l3 l4 l5 h0 h1 h2 h3 h4 h5 k g w
  have hb:=congrArg Prod.fst (Option.some.inj hv)
  have hvv:V.agg 2 (T.setL .lf 0 [.int .i64 (lo (yz g k)),.int .i64 (hi (yz g k))])=v:=congrArg Prod.snd (Option.some.inj hv)
  obtain ⟨w0,hb⟩:=ah hb
  obtain ⟨hl,hq⟩:=ah hb
  rw [dQ] at w0
  subst w0
  have hq:QOk O E l0 l1 l2 l3 l4 l5 h0 h1 h2 h3 h4 h5 lo hi:=@of_decide_eq_true _ (Classical.propDecidable _) hq
  obtain ⟨x0,x1,xn,xg⟩:=WS hl
  obtain ⟨b1,b2,e1,e2⟩:=hq _ x0 x1
  rw [xn] at b1 b2 e1 e2
  have b1:=Yn xg b1
  have b2:=Yn xg b2
  rw [← aaR xg] at e1 e2
  have:=aaQ [.st [.sl 1 A B,.sl 1 I J,.rr 1 n M f,.i .i64 r,.sl 5 O E,.i .i64 l0,.i .i64 l1,.i .i64 l2,.i .i64 l3,.i .i64 l4,.i .i64 l5,.i .i64 h0,.i .i64 h1,.i .i64 h2,.i .i64 h3,.i .i64 h4,.i .i64 h5],.one (.sl 1 k g),.one (.i .i64 0)] (.agg 2 (T.setL .lf 0 [.int .i64 (blV E g 0 l0 l1 l2 l3 l4 l5 k),.int .i64 (blV E g 0 h0 h1 h2 h3 h4 h5 k)])) (by
   show some (cond (blB O E k g 0 l0 l1 l2 l3 l4 l5) (blB O E k g 0 h0 h1 h2 h3 h4 h5) false,_)=some (true,_)
   rw [b1,b2]
   rfl)
  rw [e1,e2,hvv] at this
  exact this
 ·cases hv
def y9 (p:Nat→Bool) (l:List Nat):Nat:=List.rec (motive:=fun _=>Nat) 0 (fun x _ ih=>cond (p x) x ih) l
def kN:Nat→List Nat
 | 1=>[1]
 | 2=>[1,2,3]
 | 3=>[1,2,4,3,5,6,7]
 | 4=>[1,2,4,8,3,5,9,6,10,12,7,11,13,14,15]
 | 5=>[1,2,4,8,16,3,5,9,17,6,10,18,12,20,24,7,11,19,13,21,25,14,22,26,28,15,23,27,29,30,31]
 | 6=>[1,2,4,8,16,32,3,5,9,17,33,6,10,18,34,12,20,36,24,40,48,7,11,19,35,13,21,37,25,41,49,14,22,38,26,42,50,28,44,52,56,15,23,39,27,43,51,29,45,53,57,30,46,54,58,60,31,47,55,59,61,62,63]
 | _=>[]
def uu (O:Nat) (lo hi:Nat→Int) (a b:Int):Nat:=y9 (fun x=>aN (lo x) (hi x) a b) (kN O)
def dL (O:Nat) (lo hi:Nat→Int) (a b:Int):Int:=cond (Nat.beq (uu O lo hi a b) 0) 7 0
def fwS (O:Nat) (lo hi:Nat→Int) (a b:Int):SV := .tup [.one (.new (.sl 1 (aC (Int.ofNat (uu O lo hi a b))) (aH (Int.ofNat (uu O lo hi a b))))),.one (.new (.i .i64 (dL O lo hi a b)))]
theorem acV (lo hi:Nat→Int) (a b:Int):uu 1 lo hi a b=cond (aN (lo 1) (hi 1) a b) 1 (0):=by kernel_rfl
theorem ad5 (lo hi:Nat→Int) (a b:Int):uu 2 lo hi a b=cond (aN (lo 1) (hi 1) a b) 1 (cond (aN (lo 2) (hi 2) a b) 2 (cond (aN (lo 3) (hi 3) a b) 3 (0))):=by kernel_rfl
theorem ado (lo hi:Nat→Int) (a b:Int):uu 3 lo hi a b=cond (aN (lo 1) (hi 1) a b) 1 (cond (aN (lo 2) (hi 2) a b) 2 (cond (aN (lo 4) (hi 4) a b) 4 (cond (aN (lo 3) (hi 3) a b) 3 (cond (aN (lo 5) (hi 5) a b) 5 (cond (aN (lo 6) (hi 6) a b) 6 (cond (aN (lo 7) (hi 7) a b) 7 (0))))))):=by kernel_rfl
theorem acu (lo hi:Nat→Int) (a b:Int):uu 4 lo hi a b=cond (aN (lo 1) (hi 1) a b) 1 (cond (aN (lo 2) (hi 2) a b) 2 (cond (aN (lo 4) (hi 4) a b) 4 (cond (aN (lo 8) (hi 8) a b) 8 (cond (aN (lo 3) (hi 3) a b) 3 (cond (aN (lo 5) (hi 5) a b) 5 (cond (aN (lo 9) (hi 9) a b) 9 (cond (aN (lo 6) (hi 6) a b) 6 (cond (aN (lo 10) (hi 10) a b) 10 (cond (aN (lo 12) (hi 12) a b) 12 (cond (aN (lo 7) (hi 7) a b) 7 (cond (aN (lo 11) (hi 11) a b) 11 (cond (aN (lo 13) (hi 13) a b) 13 (cond (aN (lo 14) (hi 14) a b) 14 (cond (aN (lo 15) (hi 15) a b) 15 (0))))))))))))))):=by kernel_rfl
theorem adw (lo hi:Nat→Int) (a b:Int):uu 5 lo hi a b=cond (aN (lo 1) (hi 1) a b) 1 (cond (aN (lo 2) (hi 2) a b) 2 (cond (aN (lo 4) (hi 4) a b) 4 (cond (aN (lo 8) (hi 8) a b) 8 (cond (aN (lo 16) (hi 16) a b) 16 (cond (aN (lo 3) (hi 3) a b) 3 (cond (aN (lo 5) (hi 5) a b) 5 (cond (aN (lo 9) (hi 9) a b) 9 (cond (aN (lo 17) (hi 17) a b) 17 (cond (aN (lo 6) (hi 6) a b) 6 (cond (aN (lo 10) (hi 10) a b) 10 (cond (aN (lo 18) (hi 18) a b) 18 (cond (aN (lo 12) (hi 12) a b) 12 (cond (aN (lo 20) (hi 20) a b) 20 (cond (aN (lo 24) (hi 24) a b) 24 (cond (aN (lo 7) (hi 7) a b) 7 (cond (aN (lo 11) (hi 11) a b) 11 (cond (aN (lo 19) (hi 19) a b) 19 (cond (aN (lo 13) (hi 13) a b) 13 (cond (aN (lo 21) (hi 21) a b) 21 (cond (aN (lo 25) (hi 25) a b) 25 (cond (aN (lo 14) (hi 14) a b) 14 (cond (aN (lo 22) (hi 22) a b) 22 (cond (aN (lo 26) (hi 26) a b) 26 (cond (aN (lo 28) (hi 28) a b) 28 (cond (aN (lo 15) (hi 15) a b) 15 (cond (aN (lo 23) (hi 23) a b) 23 (cond (aN (lo 27) (hi 27) a b) 27 (cond (aN (lo 29) (hi 29) a b) 29 (cond (aN (lo 30) (hi 30) a b) 30 (cond (aN (lo 31) (hi 31) a b) 31 (0))))))))))))))))))))))))))))))):=by kernel_rfl
theorem ab8 (lo hi:Nat→Int) (a b:Int):uu 6 lo hi a b=cond (aN (lo 1) (hi 1) a b) 1 (cond (aN (lo 2) (hi 2) a b) 2 (cond (aN (lo 4) (hi 4) a b) 4 (cond (aN (lo 8) (hi 8) a b) 8 (cond (aN (lo 16) (hi 16) a b) 16 (cond (aN (lo 32) (hi 32) a b) 32 (cond (aN (lo 3) (hi 3) a b) 3 (cond (aN (lo 5) (hi 5) a b) 5 (cond (aN (lo 9) (hi 9) a b) 9 (cond (aN (lo 17) (hi 17) a b) 17 (cond (aN (lo 33) (hi 33) a b) 33 (cond (aN (lo 6) (hi 6) a b) 6 (cond (aN (lo 10) (hi 10) a b) 10 (cond (aN (lo 18) (hi 18) a b) 18 (cond (aN (lo 34) (hi 34) a b) 34 (cond (aN (lo 12) (hi 12) a b) 12 (cond (aN (lo 20) (hi 20) a b) 20 (cond (aN (lo 36) (hi 36) a b) 36 (cond (aN (lo 24) (hi 24) a b) 24 (cond (aN (lo 40) (hi 40) a b) 40 (cond (aN (lo 48) (hi 48) a b) 48 (cond (aN (lo 7) (hi 7) a b) 7 (cond (aN (lo 11) (hi 11) a b) 11 (cond (aN (lo 19) (hi 19) a b) 19 (cond (aN (lo 35) (hi 35) a b) 35 (cond (aN (lo 13) (hi 13) a b) 13 (cond (aN (lo 21) (hi 21) a b) 21 (cond (aN (lo 37) (hi 37) a b) 37 (cond (aN (lo 25) (hi 25) a b) 25 (cond (aN (lo 41) (hi 41) a b) 41 (cond (aN (lo 49) (hi 49) a b) 49 (cond (aN (lo 14) (hi 14) a b) 14 (cond (aN (lo 22) (hi 22) a b) 22 (cond (aN (lo 38) (hi 38) a b) 38 (cond (aN (lo 26) (hi 26) a b) 26 (cond (aN (lo 42) (hi 42) a b) 42 (cond (aN (lo 50) (hi 50) a b) 50 (cond (aN (lo 28) (hi 28) a b) 28 (cond (aN (lo 44) (hi 44) a b) 44 (cond (aN (lo 52) (hi 52) a b) 52 (cond (aN (lo 56) (hi 56) a b) 56 (cond (aN (lo 15) (hi 15) a b) 15 (cond (aN (lo 23) (hi 23) a b) 23 (cond (aN (lo 39) (hi 39) a b) 39 (cond (aN (lo 27) (hi 27) a b) 27 (cond (aN (lo 43) (hi 43) a b) 43 (cond (aN (lo 51) (hi 51) a b) 51 (cond (aN (lo 29) (hi 29) a b) 29 (cond (aN (lo 45) (hi 45) a b) 45 (cond (aN (lo 53) (hi 53) a b) 53 (cond (aN (lo 57) (hi 57) a b) 57 (cond (aN (lo 30) (hi 30) a b) 30 (cond (aN (lo 46) (hi 46) a b) 46 (cond (aN (lo 54) (hi 54) a b) 54 (cond (aN (lo 58) (hi 58) a b) 58 (cond (aN (lo 60) (hi 60) a b) 60 (cond (aN (lo 31) (hi 31) a b) 31 (cond (aN (lo 47) (hi 47) a b) 47 (cond (aN (lo 55) (hi 55) a b) 55 (cond (aN (lo 59) (hi 59) a b) 59 (cond (aN (lo 61) (hi 61) a b) 61 (cond (aN (lo 62) (hi 62) a b) 62 (cond (aN (lo 63) (hi 63) a b) 63 (0))))))))))))))))))))))))))))))))))))))))))))))))))))))))))))))):=by kernel_rfl
def kQ (O:Nat) (A:Nat) (B:Nat→Nat→Int) (I:Nat) (J:Nat→Nat→Int) (f:Nat→Nat→Nat→Int) (E:Nat→Nat→Int) (lo hi:Nat→Int):Bool:=okQ O E (jG A B I J f O E 0) (jG A B I J f O E 1) (jG A B I J f O E 2) (jG A B I J f O E 3) (jG A B I J f O E 4) (jG A B I J f O E 5) (jo A B I J f O E 0) (jo A B I J f O E 1) (jo A B I J f O E 2) (jo A B I J f O E 3) (jo A B I J f O E 4) (jo A B I J f O E 5) lo hi
def fB (O:Nat) (lo hi:Nat→Int) (a b:Int) (i:Nat):Int:=aH (((uu O lo hi a b):Nat):Int) i 0
def fM (O:Nat) (lo hi:Nat→Int) (a b:Int):Int:=(((aC (((uu O lo hi a b):Nat):Int)):Nat):Int)
def qq (q:Nat) (A:Nat) (B:Nat→Nat→Int) (I:Nat) (J:Nat→Nat→Int) (n:Nat) (M:Nat→Nat) (f:Nat→Nat→Nat→Int) (x:Bool):Bool:=cond true (cond (cond (aZ q A B I J n M f) true false) (cond true (cond true x false) false) false) false
theorem QH {q:Nat} {A:Nat} {B:Nat→Nat→Int} {I:Nat} {J:Nat→Nat→Int} {n:Nat} {M:Nat→Nat} {f:Nat→Nat→Nat→Int} {x:Bool} (h:x=true):qq q A B I J n M f x=true:=by
 unfold qq;rw [zi,h];rfl
def XFw (lo hi:Nat→Int):Ext:=jO [(30,cf Ee),(32,cfS Jq),(44,cfM (QY lo hi)),(45,cf SE)] false
theorem wO (lo hi:Nat→Int):dM Tryz.prog (XFw lo hi):=dW (aA (dR SH)<|aA (oW YA)<|aA (vV (aaH lo hi))<|aA (dR aaX) bK)
theorem fw1 (r:Int) (E:Nat→Nat→Int) (lo hi:Nat→Int) (a b:Int) (s:oQ A I n M=true) (h:gW A B I J n M f r 1 E=0) (h1:aT A B I J n M f=0) (h3:kC A B I J E 1=true) (hab:a≤b) (hq:kQ 1 A B I J f E lo hi=true):VC (aJ Tryz.prog (XFw lo hi) 3000 8 (enc [.st [.sl 1 A B,.sl 1 I J,.rr 1 n M f,.i .i64 r,.sl 5 1 E],.st [.i .i64 a,.i .i64 b]] 0) 4 (fun v H=>fV 4 H v (fwS 1 lo hi a b))) (.go 71303273 (.sp .nil .nil)):=ai (((cond (cond (aZ 2 A B I J n M f) true false) (cond (oQ A I n M) true false) false)=true∧((not (bY (gW A B I J n M f r 1 E) 0))=false∧((not (ak a b))=false∧((cond (cond (aZ 2 A B I J n M f) true false) (cond (bY (aT A B I J n M f) 0) (cond true (kC A B I J E 1) false) false) false)=true∧((qq 23 A B I J n M f (kQ 1 A B I J f E lo hi))=true∧(((aN (lo 1) (hi 1) a b)=true→((((((1:Nat):Int):Int)=(fM 1 lo hi a b))∧(((((0):Int)=(fB 1 lo hi a b 0))∧True)∧True))∧((((0):Int)=(dL 1 lo hi a b))∧True))) ∧
 ((aN (lo 1) (hi 1) a b)=false→((((0):Int)=(fM 1 lo hi a b))∧((((7):Int)=(dL 1 lo hi a b))∧True)))))))))) (q:=by
 (repeat' (first | exact True.intro | (with_reducible assumption) | refine And.intro ?_ ?_ | refine aI ?_ ?_ | intro _));all_goals (first | (with_reducible assumption) | exact QH hq | omega | ((try simp only [dG,dF,Bool.not_eq_true] at *);simp only [*,fB,fM,dL,acV,cond_true,cond_false];first | done | rfl | kernel_rfl) | (try simp only [aW,dY,dQ,fD,eQ,fF,oC,oN,jF,jD,dG,dF,iF,gZ,iT,iY,ig,dX,gp,jy,bD,dD,cond_true,cond_false,true_and,and_true,eq_self]);(repeat' (first | exact True.intro | (with_reducible assumption) | refine And.intro ?_ ?_ | refine aI ?_ ?_ | intro _));all_goals (first | (with_reducible assumption) | (with_reducible rfl) | omega | rfl | (simp only [aW,dY,dQ,fD,eQ,fF,oC,oN,jF,jD,dG,dF,iF,gZ,iT,iY,ig,dX,gp,jy,bD,dD,cond_true,cond_false,true_and,and_true,eq_self];first | done | omega | (with_reducible assumption) | rfl))))
theorem fw2 (r:Int) (E:Nat→Nat→Int) (lo hi:Nat→Int) (a b:Int) (s:oQ A I n M=true) (h:gW A B I J n M f r 2 E=0) (h1:aT A B I J n M f=0) (h3:kC A B I J E 2=true) (hab:a≤b) (hq:kQ 2 A B I J f E lo hi=true):VC (aJ Tryz.prog (XFw lo hi) 3000 8 (enc [.st [.sl 1 A B,.sl 1 I J,.rr 1 n M f,.i .i64 r,.sl 5 2 E],.st [.i .i64 a,.i .i64 b]] 0) 4 (fun v H=>fV 4 H v (fwS 2 lo hi a b))) (.go 71303273 (.sp .nil (.go 69632 (.sp .nil (.go 73014444032 (.sp .nil .nil)))))):=ai (((cond (cond (aZ 2 A B I J n M f) true false) (cond (oQ A I n M) true false) false)=true∧((not (bY (gW A B I J n M f r 2 E) 0))=false∧((not (ak a b))=false∧((cond (cond (aZ 2 A B I J n M f) true false) (cond (bY (aT A B I J n M f) 0) (cond true (kC A B I J E 2) false) false) false)=true∧((qq 23 A B I J n M f (kQ 2 A B I J f E lo hi))=true∧(((aN (lo 1) (hi 1) a b)=true→((((((1:Nat):Int):Int)=(fM 2 lo hi a b))∧(((((0):Int)=(fB 2 lo hi a b 0))∧True)∧True))∧((((0):Int)=(dL 2 lo hi a b))∧True))) ∧
 ((aN (lo 1) (hi 1) a b)=false→((qq 29 A B I J n M f (kQ 2 A B I J f E lo hi))=true∧(((aN (lo 2) (hi 2) a b)=true→((((((1:Nat):Int):Int)=(fM 2 lo hi a b))∧(((((1):Int)=(fB 2 lo hi a b 0))∧True)∧True))∧((((0):Int)=(dL 2 lo hi a b))∧True))) ∧
 ((aN (lo 2) (hi 2) a b)=false→((qq 43 A B I J n M f (kQ 2 A B I J f E lo hi))=true∧(((aN (lo 3) (hi 3) a b)=true→((((((2:Nat):Int):Int)=(fM 2 lo hi a b))∧(((((0):Int)=(fB 2 lo hi a b 0))∧True)∧(((((1):Int)=(fB 2 lo hi a b 1))∧True)∧True)))∧((((0):Int)=(dL 2 lo hi a b))∧True))) ∧
 ((aN (lo 3) (hi 3) a b)=false→((((0):Int)=(fM 2 lo hi a b))∧((((7):Int)=(dL 2 lo hi a b))∧True)))))))))))))))) (q:=by
 (repeat' (first | exact True.intro | (with_reducible assumption) | refine And.intro ?_ ?_ | refine aI ?_ ?_ | intro _));all_goals (first | (with_reducible assumption) | exact QH hq | omega | ((try simp only [dG,dF,Bool.not_eq_true] at *);simp only [*,fB,fM,dL,ad5,cond_true,cond_false];first | done | rfl | kernel_rfl) | (try simp only [aW,dY,dQ,fD,eQ,fF,oC,oN,jF,jD,dG,dF,iF,gZ,iT,iY,ig,dX,gp,jy,bD,dD,cond_true,cond_false,true_and,and_true,eq_self]);(repeat' (first | exact True.intro | (with_reducible assumption) | refine And.intro ?_ ?_ | refine aI ?_ ?_ | intro _));all_goals (first | (with_reducible assumption) | (with_reducible rfl) | omega | rfl | (simp only [aW,dY,dQ,fD,eQ,fF,oC,oN,jF,jD,dG,dF,iF,gZ,iT,iY,ig,dX,gp,jy,bD,dD,cond_true,cond_false,true_and,and_true,eq_self];first | done | omega | (with_reducible assumption) | rfl))))
theorem fw3 (r:Int) (E:Nat→Nat→Int) (lo hi:Nat→Int) (a b:Int) (s:oQ A I n M=true) (h:gW A B I J n M f r 3 E=0) (h1:aT A B I J n M f=0) (h3:kC A B I J E 3=true) (hab:a≤b) (hq:kQ 3 A B I J f E lo hi=true):VC (aJ Tryz.prog (XFw lo hi) 3000 8 (enc [.st [.sl 1 A B,.sl 1 I J,.rr 1 n M f,.i .i64 r,.sl 5 3 E],.st [.i .i64 a,.i .i64 b]] 0) 4 (fun v H=>fV 4 H v (fwS 3 lo hi a b))) (.go 71303273 (.sp .nil (.go 69632 (.sp .nil (.go 69632 (.sp .nil (.go 73014444032 (.sp .nil (.go 1114112 (.sp .nil (.go 4563402752 (.sp .nil (.go 19599665578316398592 (.sp .nil .nil)))))))))))))):=ai (((cond (cond (aZ 2 A B I J n M f) true false) (cond (oQ A I n M) true false) false)=true∧((not (bY (gW A B I J n M f r 3 E) 0))=false∧((not (ak a b))=false∧((cond (cond (aZ 2 A B I J n M f) true false) (cond (bY (aT A B I J n M f) 0) (cond true (kC A B I J E 3) false) false) false)=true∧((qq 23 A B I J n M f (kQ 3 A B I J f E lo hi))=true∧(((aN (lo 1) (hi 1) a b)=true→((((((1:Nat):Int):Int)=(fM 3 lo hi a b))∧(((((0):Int)=(fB 3 lo hi a b 0))∧True)∧True))∧((((0):Int)=(dL 3 lo hi a b))∧True))) ∧
 ((aN (lo 1) (hi 1) a b)=false→((qq 29 A B I J n M f (kQ 3 A B I J f E lo hi))=true∧(((aN (lo 2) (hi 2) a b)=true→((((((1:Nat):Int):Int)=(fM 3 lo hi a b))∧(((((1):Int)=(fB 3 lo hi a b 0))∧True)∧True))∧((((0):Int)=(dL 3 lo hi a b))∧True))) ∧
 ((aN (lo 2) (hi 2) a b)=false→((qq 35 A B I J n M f (kQ 3 A B I J f E lo hi))=true∧(((aN (lo 4) (hi 4) a b)=true→((((((1:Nat):Int):Int)=(fM 3 lo hi a b))∧(((((2):Int)=(fB 3 lo hi a b 0))∧True)∧True))∧((((0):Int)=(dL 3 lo hi a b))∧True))) ∧
 ((aN (lo 4) (hi 4) a b)=false→((qq 49 A B I J n M f (kQ 3 A B I J f E lo hi))=true∧(((aN (lo 3) (hi 3) a b)=true→((((((2:Nat):Int):Int)=(fM 3 lo hi a b))∧(((((0):Int)=(fB 3 lo hi a b 0))∧True)∧(((((1):Int)=(fB 3 lo hi a b 1))∧True)∧True)))∧((((0):Int)=(dL 3 lo hi a b))∧True))) ∧
 ((aN (lo 3) (hi 3) a b)=false→((qq 55 A B I J n M f (kQ 3 A B I J f E lo hi))=true∧(((aN (lo 5) (hi 5) a b)=true→((((((2:Nat):Int):Int)=(fM 3 lo hi a b))∧(((((0):Int)=(fB 3 lo hi a b 0))∧True)∧(((((2):Int)=(fB 3 lo hi a b 1))∧True)∧True)))∧((((0):Int)=(dL 3 lo hi a b))∧True))) ∧
 ((aN (lo 5) (hi 5) a b)=false→((qq 63 A B I J n M f (kQ 3 A B I J f E lo hi))=true∧(((aN (lo 6) (hi 6) a b)=true→((((((2:Nat):Int):Int)=(fM 3 lo hi a b))∧(((((1):Int)=(fB 3 lo hi a b 0))∧True)∧(((((2):Int)=(fB 3 lo hi a b 1))∧True)∧True)))∧((((0):Int)=(dL 3 lo hi a b))∧True))) ∧
 ((aN (lo 6) (hi 6) a b)=false→((qq 81 A B I J n M f (kQ 3 A B I J f E lo hi))=true∧(((aN (lo 7) (hi 7) a b)=true→((((((3:Nat):Int):Int)=(fM 3 lo hi a b))∧(((((0):Int)=(fB 3 lo hi a b 0))∧True)∧(((((1):Int)=(fB 3 lo hi a b 1))∧True)∧(((((2):Int)=(fB 3 lo hi a b 2))∧True)∧True))))∧((((0):Int)=(dL 3 lo hi a b))∧True))) ∧
 ((aN (lo 7) (hi 7) a b)=false→((((0):Int)=(fM 3 lo hi a b))∧((((7):Int)=(dL 3 lo hi a b))∧True)))))))))))))))))))))))))))) (q:=by
 (repeat' (first | exact True.intro | (with_reducible assumption) | refine And.intro ?_ ?_ | refine aI ?_ ?_ | intro _));all_goals (first | (with_reducible assumption) | exact QH hq | omega | ((try simp only [dG,dF,Bool.not_eq_true] at *);simp only [*,fB,fM,dL,ado,cond_true,cond_false];first | done | rfl | kernel_rfl) | (try simp only [aW,dY,dQ,fD,eQ,fF,oC,oN,jF,jD,dG,dF,iF,gZ,iT,iY,ig,dX,gp,jy,bD,dD,cond_true,cond_false,true_and,and_true,eq_self]);(repeat' (first | exact True.intro | (with_reducible assumption) | refine And.intro ?_ ?_ | refine aI ?_ ?_ | intro _));all_goals (first | (with_reducible assumption) | (with_reducible rfl) | omega | rfl | (simp only [aW,dY,dQ,fD,eQ,fF,oC,oN,jF,jD,dG,dF,iF,gZ,iT,iY,ig,dX,gp,jy,bD,dD,cond_true,cond_false,true_and,and_true,eq_self];first | done | omega | (with_reducible assumption) | rfl))))
theorem fw4 (r:Int) (E:Nat→Nat→Int) (lo hi:Nat→Int) (a b:Int) (s:oQ A I n M=true) (h:gW A B I J n M f r 4 E=0) (h1:aT A B I J n M f=0) (h3:kC A B I J E 4=true) (hab:a≤b) (hq:kQ 4 A B I J f E lo hi=true):VC (aJ Tryz.prog (XFw lo hi) 3000 8 (enc [.st [.sl 1 A B,.sl 1 I J,.rr 1 n M f,.i .i64 r,.sl 5 4 E],.st [.i .i64 a,.i .i64 b]] 0) 4 (fun v H=>fV 4 H v (fwS 4 lo hi a b))) (.go 71303273 (.sp .nil (.go 69632 (.sp .nil (.go 69632 (.sp .nil (.go 69632 (.sp .nil (.go 73014444032 (.sp .nil (.go 1114112 (.sp .nil (.go 1114112 (.sp .nil (.go 4563402752 (.sp .nil (.go 1114112 (.sp .nil (.go 4563402752 (.sp .nil (.go 19599665578316398592 (.sp .nil (.go 1114112 (.sp .nil (.go 73014444032 (.sp .nil (.go 19599665578316398592 (.sp .nil (.go 22596875928343569839364720024765857792 (.sp .nil .nil)))))))))))))))))))))))))))))):=ai (((cond (cond (aZ 2 A B I J n M f) true false) (cond (oQ A I n M) true false) false)=true∧((not (bY (gW A B I J n M f r 4 E) 0))=false∧((not (ak a b))=false∧((cond (cond (aZ 2 A B I J n M f) true false) (cond (bY (aT A B I J n M f) 0) (cond true (kC A B I J E 4) false) false) false)=true∧((qq 23 A B I J n M f (kQ 4 A B I J f E lo hi))=true∧(((aN (lo 1) (hi 1) a b)=true→((((((1:Nat):Int):Int)=(fM 4 lo hi a b))∧(((((0):Int)=(fB 4 lo hi a b 0))∧True)∧True))∧((((0):Int)=(dL 4 lo hi a b))∧True))) ∧
 ((aN (lo 1) (hi 1) a b)=false→((qq 29 A B I J n M f (kQ 4 A B I J f E lo hi))=true∧(((aN (lo 2) (hi 2) a b)=true→((((((1:Nat):Int):Int)=(fM 4 lo hi a b))∧(((((1):Int)=(fB 4 lo hi a b 0))∧True)∧True))∧((((0):Int)=(dL 4 lo hi a b))∧True))) ∧
 ((aN (lo 2) (hi 2) a b)=false→((qq 35 A B I J n M f (kQ 4 A B I J f E lo hi))=true∧(((aN (lo 4) (hi 4) a b)=true→((((((1:Nat):Int):Int)=(fM 4 lo hi a b))∧(((((2):Int)=(fB 4 lo hi a b 0))∧True)∧True))∧((((0):Int)=(dL 4 lo hi a b))∧True))) ∧
 ((aN (lo 4) (hi 4) a b)=false→((qq 41 A B I J n M f (kQ 4 A B I J f E lo hi))=true∧(((aN (lo 8) (hi 8) a b)=true→((((((1:Nat):Int):Int)=(fM 4 lo hi a b))∧(((((3):Int)=(fB 4 lo hi a b 0))∧True)∧True))∧((((0):Int)=(dL 4 lo hi a b))∧True))) ∧
 ((aN (lo 8) (hi 8) a b)=false→((qq 55 A B I J n M f (kQ 4 A B I J f E lo hi))=true∧(((aN (lo 3) (hi 3) a b)=true→((((((2:Nat):Int):Int)=(fM 4 lo hi a b))∧(((((0):Int)=(fB 4 lo hi a b 0))∧True)∧(((((1):Int)=(fB 4 lo hi a b 1))∧True)∧True)))∧((((0):Int)=(dL 4 lo hi a b))∧True))) ∧
 ((aN (lo 3) (hi 3) a b)=false→((qq 61 A B I J n M f (kQ 4 A B I J f E lo hi))=true∧(((aN (lo 5) (hi 5) a b)=true→((((((2:Nat):Int):Int)=(fM 4 lo hi a b))∧(((((0):Int)=(fB 4 lo hi a b 0))∧True)∧(((((2):Int)=(fB 4 lo hi a b 1))∧True)∧True)))∧((((0):Int)=(dL 4 lo hi a b))∧True))) ∧
 ((aN (lo 5) (hi 5) a b)=false→((qq 67 A B I J n M f (kQ 4 A B I J f E lo hi))=true∧(((aN (lo 9) (hi 9) a b)=true→((((((2:Nat):Int):Int)=(fM 4 lo hi a b))∧(((((0):Int)=(fB 4 lo hi a b 0))∧True)∧(((((3):Int)=(fB 4 lo hi a b 1))∧True)∧True)))∧((((0):Int)=(dL 4 lo hi a b))∧True))) ∧
 ((aN (lo 9) (hi 9) a b)=false→((qq 75 A B I J n M f (kQ 4 A B I J f E lo hi))=true∧(((aN (lo 6) (hi 6) a b)=true→((((((2:Nat):Int):Int)=(fM 4 lo hi a b))∧(((((1):Int)=(fB 4 lo hi a b 0))∧True)∧(((((2):Int)=(fB 4 lo hi a b 1))∧True)∧True)))∧((((0):Int)=(dL 4 lo hi a b))∧True))) ∧
 ((aN (lo 6) (hi 6) a b)=false→((qq 81 A B I J n M f (kQ 4 A B I J f E lo hi))=true∧(((aN (lo 10) (hi 10) a b)=true→((((((2:Nat):Int):Int)=(fM 4 lo hi a b))∧(((((1):Int)=(fB 4 lo hi a b 0))∧True)∧(((((3):Int)=(fB 4 lo hi a b 1))∧True)∧True)))∧((((0):Int)=(dL 4 lo hi a b))∧True))) ∧
 ((aN (lo 10) (hi 10) a b)=false→((qq 89 A B I J n M f (kQ 4 A B I J f E lo hi))=true∧(((aN (lo 12) (hi 12) a b)=true→((((((2:Nat):Int):Int)=(fM 4 lo hi a b))∧(((((2):Int)=(fB 4 lo hi a b 0))∧True)∧(((((3):Int)=(fB 4 lo hi a b 1))∧True)∧True)))∧((((0):Int)=(dL 4 lo hi a b))∧True))) ∧
 ((aN (lo 12) (hi 12) a b)=false→((qq 107 A B I J n M f (kQ 4 A B I J f E lo hi))=true∧(((aN (lo 7) (hi 7) a b)=true→((((((3:Nat):Int):Int)=(fM 4 lo hi a b))∧(((((0):Int)=(fB 4 lo hi a b 0))∧True)∧(((((1):Int)=(fB 4 lo hi a b 1))∧True)∧(((((2):Int)=(fB 4 lo hi a b 2))∧True)∧True))))∧((((0):Int)=(dL 4 lo hi a b))∧True))) ∧
 ((aN (lo 7) (hi 7) a b)=false→((qq 113 A B I J n M f (kQ 4 A B I J f E lo hi))=true∧(((aN (lo 11) (hi 11) a b)=true→((((((3:Nat):Int):Int)=(fM 4 lo hi a b))∧(((((0):Int)=(fB 4 lo hi a b 0))∧True)∧(((((1):Int)=(fB 4 lo hi a b 1))∧True)∧(((((3):Int)=(fB 4 lo hi a b 2))∧True)∧True))))∧((((0):Int)=(dL 4 lo hi a b))∧True))) ∧
 ((aN (lo 11) (hi 11) a b)=false→((qq 121 A B I J n M f (kQ 4 A B I J f E lo hi))=true∧(((aN (lo 13) (hi 13) a b)=true→((((((3:Nat):Int):Int)=(fM 4 lo hi a b))∧(((((0):Int)=(fB 4 lo hi a b 0))∧True)∧(((((2):Int)=(fB 4 lo hi a b 1))∧True)∧(((((3):Int)=(fB 4 lo hi a b 2))∧True)∧True))))∧((((0):Int)=(dL 4 lo hi a b))∧True))) ∧
 ((aN (lo 13) (hi 13) a b)=false→((qq 133 A B I J n M f (kQ 4 A B I J f E lo hi))=true∧(((aN (lo 14) (hi 14) a b)=true→((((((3:Nat):Int):Int)=(fM 4 lo hi a b))∧(((((1):Int)=(fB 4 lo hi a b 0))∧True)∧(((((2):Int)=(fB 4 lo hi a b 1))∧True)∧(((((3):Int)=(fB 4 lo hi a b 2))∧True)∧True))))∧((((0):Int)=(dL 4 lo hi a b))∧True))) ∧
 ((aN (lo 14) (hi 14) a b)=false→((qq 159 A B I J n M f (kQ 4 A B I J f E lo hi))=true∧(((aN (lo 15) (hi 15) a b)=true→((((((4:Nat):Int):Int)=(fM 4 lo hi a b))∧(((((0):Int)=(fB 4 lo hi a b 0))∧True)∧(((((1):Int)=(fB 4 lo hi a b 1))∧True)∧(((((2):Int)=(fB 4 lo hi a b 2))∧True)∧(((((3):Int)=(fB 4 lo hi a b 3))∧True)∧True)))))∧((((0):Int)=(dL 4 lo hi a b))∧True))) ∧
 ((aN (lo 15) (hi 15) a b)=false→((((0):Int)=(fM 4 lo hi a b))∧((((7):Int)=(dL 4 lo hi a b))∧True)))))))))))))))))))))))))))))))))))))))))))))))))))) (q:=by
 (repeat' (first | exact True.intro | (with_reducible assumption) | refine And.intro ?_ ?_ | refine aI ?_ ?_ | intro _));all_goals (first | (with_reducible assumption) | exact QH hq | omega | ((try simp only [dG,dF,Bool.not_eq_true] at *);simp only [*,fB,fM,dL,acu,cond_true,cond_false];first | done | rfl | kernel_rfl) | (try simp only [aW,dY,dQ,fD,eQ,fF,oC,oN,jF,jD,dG,dF,iF,gZ,iT,iY,ig,dX,gp,jy,bD,dD,cond_true,cond_false,true_and,and_true,eq_self]);(repeat' (first | exact True.intro | (with_reducible assumption) | refine And.intro ?_ ?_ | refine aI ?_ ?_ | intro _));all_goals (first | (with_reducible assumption) | (with_reducible rfl) | omega | rfl | (simp only [aW,dY,dQ,fD,eQ,fF,oC,oN,jF,jD,dG,dF,iF,gZ,iT,iY,ig,dX,gp,jy,bD,dD,cond_true,cond_false,true_and,and_true,eq_self];first | done | omega | (with_reducible assumption) | rfl))))
end
end BL
end Go.Proofs.YtiplgejpopellaaGreat
