/- Tables: contracts: all numbers of a row are in a range; a row rises. -/
import Derived.Test.YtiplgejpopellaaGreatYTb
set_option linter.all false
set_option linter.unusedSimpArgs false
set_option linter.unusedVariables false
namespace Go.Proofs.YtiplgejpopellaaGreat
open Go Go.Ev
set_option maxRecDepth 1000000
noncomputable section
def inB (lo hi:Int) (f:Nat→Nat→Int) (i:Nat):Bool:=decide (lo≤f i 0∧f i 0≤hi)
def allIn (lo hi:Int) (f:Nat→Nat→Int) (len:Nat):Bool:=eX (inB lo hi f) len
def upB (f:Nat→Nat→Int) (i:Nat):Bool:=decide (f i 0<f (i+1) 0)
def eP (f:Nat→Nat→Int) (len:Nat):Bool:=eX (upB f) (len-1)
def clH (lo hi:Int):V := .func 102 [.agg 2 (T.setL .lf 0 [.int .i64 lo,.int .i64 hi])] []
def ltA:LT:=⟨[1,7,8,9],[],[4],2⟩
def sA (lo hi:Int) (len:Nat) (f:Nat→Nat→Int) (k:Nat):LS:=⟨[clH lo hi,.fz true 0 (ae .i64 f) len 1,.int .i64 len,.int .i64 k],[]⟩
def YW (lo hi:Int) (len:Nat) (f:Nat→Nat→Int):List DA:=[.one (.sl 1 len f),.cl 102 [.i .i64 lo,.i .i64 hi]]
def bA:Code:=sub [1,0,1,0,0] (cZ Tryz.prog 110)
def ltU:LT:=⟨[0,1,5],[],[4],2⟩
def sU (len:Nat) (f:Nat→Nat→Int) (k:Nat):LS:=⟨[.fz true 0 (ae .i64 f) len 1,.func 112 [] [],.int .i64 ((k:Int)+1)],[]⟩
def Zo (len:Nat) (f:Nat→Nat→Int):List DA:=[.one (.sl 1 len f),.fn 112]
def bU:Code:=sub [1,0,1,0,0] (cZ Tryz.prog 113)
theorem eA (lo hi:Int) (len:Nat) (f:Nat→Nat→Int):VC (ql Tryz.prog az 300 110 [1,0,1,0] (YW lo hi len f) (aU 2) ltA 18 60 (sA lo hi len f 0)) .nil:=ai ((True∧((((V.func 102
 [V.agg (jm [D0.i IntKind.i64 lo,D0.i IntKind.i64 hi])
  (T.lf.setL 0 (mX [D0.i IntKind.i64 lo,D0.i IntKind.i64 hi] (nxD (DA.one (D0.sl 1 len f)) 0)))]
 []:V)=V.func 102 [V.agg 2 (T.lf.setL 0 [V.int IntKind.i64 lo,V.int IntKind.i64 hi])] [])∧((((V.fz true 0 (ae .i64 f) len 1):V)=(V.fz true 0 (ae .i64 f) len 1))∧(((((len:Nat):Int):Int)=((len:Nat):Int))∧((((0):Int)=((0:Nat):Int))∧True))))∧True)))
theorem rA1 (lo hi:Int) (len k:Nat) (f:Nat→Nat→Int) (h1:k<len) (h2:len≤1000000) (h3:lo≤f k 0) (h4:f k 0≤hi):VC (bM Tryz.prog az 300 bA (aU 2) ltA 18 60 (sA lo hi len f k) (.next (sA lo hi len f (k+1)))) (.go 360469 .nil):=ai (((not (ak (len:Int) (k:Int)))=true∧((Nat.blt k len)=true∧((ak lo (f k 0))=true∧((not (ak (f k 0) hi))=false∧((small ((k:Int)+1))=true∧((((V.func 102 [V.agg 2 (T.lf.setL 0 [V.int IntKind.i64 lo,V.int IntKind.i64 hi])] []:V)=V.func 102 [V.agg 2 (T.lf.setL 0 [V.int IntKind.i64 lo,V.int IntKind.i64 hi])] [])∧((((V.fz true 0 (ae .i64 f) len 1):V)=(V.fz true 0 (ae .i64 f) len 1))∧((((len:Int):Int)=(len:Int))∧(((((k:Int)+1):Int)=(((k+1):Nat):Int))∧True))))∧True)))))))
theorem rA2 (lo hi:Int) (len k:Nat) (f:Nat→Nat→Int) (h1:k<len) (h2:len≤1000000) (h3:¬ (lo≤f k 0∧f k 0≤hi)):VC (bM Tryz.prog az 300 bA (aU 2) ltA 18 60 (sA lo hi len f k) (.ret ⟨[.bool false],[]⟩)) (.go 21 (.sp (.go 1280 .nil) .nil)):=ai (((not (ak (len:Int) (k:Int)))=true∧((Nat.blt k len)=true∧(((ak lo (f k 0))=true→((not (ak (f k 0) hi))=true∧(((false=false)∧True)∧True))) ∧
 ((ak lo (f k 0))=false→(((false=false)∧True)∧True))))))
theorem rA3 (lo hi:Int) (len k:Nat) (f:Nat→Nat→Int) (h1:¬ k<len):VC (bM Tryz.prog az 300 bA (aU 2) ltA 18 60 (sA lo hi len f k) (.exit 0 ⟨[],[]⟩)) (.go 6 .nil):=ai (((not (ak (len:Int) (k:Int)))=false∧(True∧True)))
theorem fA1  : VC (fromD Tryz.prog az 300 110 [1,0,1,0] (Lv.res ltA 18 (iw (aU 2) ltA 60 (.exit 0 ⟨[],[]⟩)) (.exit 0 ⟨[],[]⟩)) (.bool true)) .nil:=ai ((true=true))
theorem fA2  : VC (fromD Tryz.prog az 300 110 [1,0,1,0] (Lv.res ltA 18 (iw (aU 2) ltA 60 (.ret ⟨[.bool false],[]⟩)) (.ret ⟨[.bool false],[]⟩)) (.bool false)) .nil:=ai ((false=false))
theorem eU (len:Nat) (f:Nat→Nat→Int):VC (ql Tryz.prog az 300 113 [1,0,1,0] (Zo len f) (aU 2) ltU 24 60 (sU len f 0)) .nil:=ai ((True∧(((((V.fz true 0 (ae .i64 f) len 1):V)=(V.fz true 0 (ae .i64 f) len 1))∧(((V.func 112 [] []:V)=V.func 112 [] [])∧((((1):Int)=(((0:Nat):Int)+1))∧True)))∧True)))
theorem rU1 (len k:Nat) (f:Nat→Nat→Int) (h1:k+1<len) (h2:len≤1000000) (h3:f (Int.toNat ((k:Int)+1-1)) 0<f (k+1) 0):VC (bM Tryz.prog az 300 bU (aU 2) ltU 24 60 (sU len f k) (.next (sU len f (k+1)))) (.go 5717 .nil):=ai (((not (ak (len:Int) ((k:Int)+1)))=true∧((small (((k:Int)+1)-(1)))=true∧((kE (((k:Int)+1)-(1)) len)=true∧((Nat.blt (k+1) len)=true∧((not (not (ak (f (k+1) 0) (f (Int.toNat (((k:Int)+1)-(1))) 0))))=false∧((small (((k:Int)+1)+1))=true∧(((((V.fz true 0 (ae .i64 f) len 1):V)=(V.fz true 0 (ae .i64 f) len 1))∧(((V.func 112 [] []:V)=V.func 112 [] [])∧((((((k:Int)+1)+1):Int)=((((k+1):Nat):Int)+1))∧True)))∧True))))))))
theorem rU2 (len k:Nat) (f:Nat→Nat→Int) (h1:k+1<len) (h2:len≤1000000) (h3:¬ (f (Int.toNat ((k:Int)+1-1)) 0<f (k+1) 0)):VC (bM Tryz.prog az 300 bU (aU 2) ltU 24 60 (sU len f k) (.ret ⟨[.bool false],[]⟩)) (.go 1365 .nil):=ai (((not (ak (len:Int) ((k:Int)+1)))=true∧((small (((k:Int)+1)-(1)))=true∧((kE (((k:Int)+1)-(1)) len)=true∧((Nat.blt (k+1) len)=true∧((not (not (ak (f (k+1) 0) (f (Int.toNat (((k:Int)+1)-(1))) 0))))=true∧(((false=false)∧True)∧True)))))))
theorem rU3 (len k:Nat) (f:Nat→Nat→Int) (h1:¬ k+1<len):VC (bM Tryz.prog az 300 bU (aU 2) ltU 24 60 (sU len f k) (.exit 0 ⟨[],[]⟩)) (.go 6 .nil):=ai (((not (ak (len:Int) ((k:Int)+1)))=false∧(True∧True)))
theorem fU1  : VC (fromD Tryz.prog az 300 113 [1,0,1,0] (Lv.res ltU 24 (iw (aU 2) ltU 60 (.exit 0 ⟨[],[]⟩)) (.exit 0 ⟨[],[]⟩)) (.bool true)) .nil:=ai ((true=true))
theorem fU2  : VC (fromD Tryz.prog az 300 113 [1,0,1,0] (Lv.res ltU 24 (iw (aU 2) ltU 60 (.ret ⟨[.bool false],[]⟩)) (.ret ⟨[.bool false],[]⟩)) (.bool false)) .nil:=ai ((false=false))
def FV:Val:=fun das=>match das with | [.one (.sl 1 len f),.cl 102 [.i .i64 lo,.i .i64 hi]]=>some (Nat.ble len 1000000,.bool (allIn lo hi f len)) | _=>none
def Es:Val:=fun das=>match das with | [.one (.sl 1 len f),.fn 112]=>some (Nat.ble len 1000000,.bool (eP f len)) | _=>none
theorem Ux:qi Tryz.prog 110 FV:=by
 intro das v hv
 unfold FV at hv
 split at hv
 ·rename_i len f lo hi
  have hb:=Nat.le_of_ble_eq_true (congrArg Prod.fst (Option.some.inj hv))
  have hv:=congrArg Prod.snd (Option.some.inj hv)
  subst hv
  refine ⟨rfl,?_⟩
  rcases gu (inB lo hi f) len with h | ⟨N,h1,h2,h3⟩
  ·have e:allIn lo hi f len=true:=bW h
   show ∃ v' H',SpecCall _ _ _ _ v' H'∧dB v' (.bool (allIn lo hi f len))
   rw [e]
   exact bV aj aG (das:=YW lo hi len f) (lv := .exit 0 ⟨[],[]⟩) (by kernel_rfl) (by kernel_rfl) (eA lo hi len f).ok (bz (body:=bA) (fun _ e=>by cases e) len (sA lo hi len f) (fun k hk=>by
    have:=h k hk
    simp only [inB,decide_eq_true_eq] at this
    exact aP aj aG (rA1 lo hi len k f hk hb this.1 this.2).ok (by kernel_rfl) (by kernel_rfl)) (aP aj aG (rA3 lo hi len len f (by omega)).ok (by kernel_rfl) (by kernel_rfl))) fA1.ok
  ·have e:allIn lo hi f len=false:=gK h1 h3
   show ∃ v' H',SpecCall _ _ _ _ v' H'∧dB v' (.bool (allIn lo hi f len))
   rw [e]
   exact bV aj aG (das:=YW lo hi len f) (lv := .ret ⟨[.bool false],[]⟩) (by kernel_rfl) (by kernel_rfl) (eA lo hi len f).ok (bz (body:=bA) (fun _ e=>by cases e) N (sA lo hi len f) (fun k hk=>by
    have:=h2 k hk
    simp only [inB,decide_eq_true_eq] at this
    exact aP aj aG (rA1 lo hi len k f (by omega) hb this.1 this.2).ok (by kernel_rfl) (by kernel_rfl)) (by
    simp only [inB,decide_eq_false_iff_not] at h3
    exact aP aj aG (rA2 lo hi len N f h1 hb h3).ok (by kernel_rfl) (by kernel_rfl))) fA2.ok
 ·cases hv
theorem Tz:qi Tryz.prog 113 Es:=by
 intro das v hv
 unfold Es at hv
 split at hv
 ·rename_i len f
  have hb:=Nat.le_of_ble_eq_true (congrArg Prod.fst (Option.some.inj hv))
  have hv:=congrArg Prod.snd (Option.some.inj hv)
  subst hv
  refine ⟨rfl,?_⟩
  rcases gu (upB f) (len-1) with h | ⟨N,h1,h2,h3⟩
  ·have e:eP f len=true:=bW h
   show ∃ v' H',SpecCall _ _ _ _ v' H'∧dB v' (.bool (eP f len))
   rw [e]
   exact bV aj aG (das:=Zo len f) (lv := .exit 0 ⟨[],[]⟩) (by kernel_rfl) (by kernel_rfl) (eU len f).ok (bz (body:=bU) (fun _ e=>by cases e) (len-1) (sU len f) (fun k hk=>by
    have:=h k hk
    simp only [upB,decide_eq_true_eq] at this
    exact aP aj aG (rU1 len k f (by omega) hb (by rw [show Int.toNat (((k:Nat):Int)+1-1)=k by omega];exact this)).ok (by kernel_rfl) (by kernel_rfl)) (aP aj aG (rU3 len (len-1) f (by omega)).ok (by kernel_rfl) (by kernel_rfl))) fU1.ok
  ·have e:eP f len=false:=gK h1 h3
   show ∃ v' H',SpecCall _ _ _ _ v' H'∧dB v' (.bool (eP f len))
   rw [e]
   exact bV aj aG (das:=Zo len f) (lv := .ret ⟨[.bool false],[]⟩) (by kernel_rfl) (by kernel_rfl) (eU len f).ok (bz (body:=bU) (fun _ e=>by cases e) N (sU len f) (fun k hk=>by
    have:=h2 k hk
    simp only [upB,decide_eq_true_eq] at this
    exact aP aj aG (rU1 len k f (by omega) hb (by rw [show Int.toNat (((k:Nat):Int)+1-1)=k by omega];exact this)).ok (by kernel_rfl) (by kernel_rfl)) (by
    simp only [upB,decide_eq_false_iff_not] at h3
    exact aP aj aG (rU2 len N f (by omega) hb (by rw [show Int.toNat (((N:Nat):Int)+1-1)=N by omega];exact h3)).ok (by kernel_rfl) (by kernel_rfl))) fU2.ok
 ·cases hv
end
end Go.Proofs.YtiplgejpopellaaGreat
/- Tables: contracts: what is valid. -/
namespace Go.Proofs.YtiplgejpopellaaGreat
open Go Go.Ev
set_option maxRecDepth 1000000
noncomputable section
variable (A:Nat) (B:Nat→Nat→Int) (I:Nat) (J:Nat→Nat→Int) (n:Nat) (M:Nat→Nat) (f:Nat→Nat→Nat→Int)
def XV1:Ext:=jO [(110,cf FV),(113,cf Es)] false
theorem TB:dM Tryz.prog XV1:=dW (aA (dR Ux)<|aA (dR Tz) bK)
def rowB (I k:Nat) (g:Nat→Nat→Int):Bool:=cond (bY (k:Int) I) (allIn 0 2000 g k) false
theorem ad6 (k:Nat) (g:Nat→Nat→Int) (hk:k≤1000) (h:(k:Int)=I):VC (dh Tryz.prog XV1 300 97 (enc [.st [.sl 1 A B,.sl 1 I J,.rr 1 n M f],.one (.sl 1 k g)] 0) 4 (fun v=>dB v (.bool (rowB I k g)))) (.go 1281 .nil):=ai (((bY (k:Int) (I:Int))=true∧((cond (cond (ay .i64 (ae .i64 g) k 1) true false) (Nat.ble k 1000000) false)=true∧((allIn 0 2000 g k)=(cond (bY (k:Int) (I:Int)) (allIn 0 2000 g k) false))))) (q:=by
 have e:=(dQ (k:Int) I).mpr h;simp only [e,cond_true];(try simp only [aW,dY,dQ,fD,eQ,fF,oC,oN,jF,jD,dG,dF,iF,gZ,iT,iY,ig,dX,gp,jy,bD,dD,cond_true,cond_false,true_and,and_true,eq_self]);(repeat' (first | exact True.intro | (with_reducible assumption) | refine And.intro ?_ ?_ | refine aI ?_ ?_ | intro _));all_goals (first | (with_reducible assumption) | (with_reducible rfl) | omega | rfl | (simp only [aW,dY,dQ,fD,eQ,fF,oC,oN,jF,jD,dG,dF,iF,gZ,iT,iY,ig,dX,gp,jy,bD,dD,cond_true,cond_false,true_and,and_true,eq_self];first | done | omega | (with_reducible assumption) | rfl)))
theorem acL (k:Nat) (g:Nat→Nat→Int) (hk:k≤1000) (h:¬ (k:Int)=I):VC (dh Tryz.prog XV1 300 97 (enc [.st [.sl 1 A B,.sl 1 I J,.rr 1 n M f],.one (.sl 1 k g)] 0) 4 (fun v=>dB v (.bool (rowB I k g)))) (.go 6 .nil):=ai (((bY (k:Int) (I:Int))=false∧(false=(cond (bY (k:Int) (I:Int)) (allIn 0 2000 g k) false)))) (q:=by
 have e:=(fD (k:Int) I).mpr h;simp only [e,cond_false];(try simp only [aW,dY,dQ,fD,eQ,fF,oC,oN,jF,jD,dG,dF,iF,gZ,iT,iY,ig,dX,gp,jy,bD,dD,cond_true,cond_false,true_and,and_true,eq_self]);(repeat' (first | exact True.intro | (with_reducible assumption) | refine And.intro ?_ ?_ | refine aI ?_ ?_ | intro _));all_goals (first | (with_reducible assumption) | (with_reducible rfl) | omega | rfl | (simp only [aW,dY,dQ,fD,eQ,fF,oC,oN,jF,jD,dG,dF,iF,gZ,iT,iY,ig,dX,gp,jy,bD,dD,cond_true,cond_false,true_and,and_true,eq_self];first | done | omega | (with_reducible assumption) | rfl)))
def Us:Val:=fun das=>match das with | [.st [.sl 1 A B,.sl 1 I J,.rr 1 n M f],.one (.sl 1 k g)]=>some (Nat.ble k 1000,.bool (rowB I k g)) | _=>none
theorem aa9:qi Tryz.prog 97 Us:=by
 intro das v hv
 unfold Us at hv
 split at hv
 ·rename_i A B I J n M f k g
  have hb:=Nat.le_of_ble_eq_true (congrArg Prod.fst (Option.some.inj hv))
  have hv:=congrArg Prod.snd (Option.some.inj hv)
  subst hv
  by_cases h:(k:Int)=I
  ·exact bn aj TB rfl (das:=[.st [.sl 1 A B,.sl 1 I J,.rr 1 n M f],.one (.sl 1 k g)]) (ad6 A B I J n M f k g hb h)
  ·exact bn aj TB rfl (das:=[.st [.sl 1 A B,.sl 1 I J,.rr 1 n M f],.one (.sl 1 k g)]) (acL A B I J n M f k g hb h)
 ·cases hv
def dU (I n:Nat) (M:Nat→Nat) (f:Nat→Nat→Nat→Int):Bool:=eX (fun i=>rowB I (M i) (f i)) n
def fU (n:Nat) (M:Nat→Nat):Bool:=eX (fun i=>Nat.ble (M i) 1000) n
def XV2:Ext:=jO [(97,cf Us)] false
theorem wP:dM Tryz.prog XV2:=dW (aA (dR aa9) bK)
def wV (A:Nat) (B:Nat→Nat→Int) (I:Nat) (J:Nat→Nat→Int) (n:Nat) (M:Nat→Nat) (f:Nat→Nat→Nat→Int) (n2:Nat) (qw:Nat→Nat) (f2:Nat→Nat→Nat→Int) (a:Nat):V := .agg 3 (T.setL .lf 0 (mX [.sl 1 A B,.sl 1 I J,.rr 1 n2 qw f2] a))
def ZB (A:Nat) (B:Nat→Nat→Int) (I:Nat) (J:Nat→Nat→Int) (n:Nat) (M:Nat→Nat) (f:Nat→Nat→Nat→Int) (n2:Nat) (qw:Nat→Nat) (f2:Nat→Nat→Nat→Int):List DA:=[.one (.rr 1 n M f),.cl 97 [.sl 1 A B,.sl 1 I J,.rr 1 n2 qw f2]]
def iC:LT:=⟨[1,7,8,9],[],[4],5⟩
def sR (A:Nat) (B:Nat→Nat→Int) (I:Nat) (J:Nat→Nat→Int) (n:Nat) (M:Nat→Nat) (f:Nat→Nat→Nat→Int) (n2:Nat) (qw:Nat→Nat) (f2:Nat→Nat→Nat→Int) (k:Nat):LS:=⟨[.func 97 [wV A B I J n M f n2 qw f2 1] [],.fz true 0 (aQ 0 1 M f) n 1,.int .i64 n,.int .i64 k],[]⟩
def bR:Code:=sub [1,0,1,0,0] (cZ Tryz.prog 99)
theorem eR (n2:Nat) (qw:Nat→Nat) (f2:Nat→Nat→Nat→Int):VC (ql Tryz.prog XV2 300 99 [1,0,1,0] (ZB A B I J n M f n2 qw f2) (aU 5) iC 18 90 (sR A B I J n M f n2 qw f2 0)) .nil:=ai ((True∧((((V.func 97
 [V.agg (jm [D0.sl 1 A B,D0.sl 1 I J,D0.rr 1 n2 qw f2])
  (T.lf.setL 0 (mX [D0.sl 1 A B,D0.sl 1 I J,D0.rr 1 n2 qw f2] (nxD (DA.one (D0.rr 1 n M f)) 0)))]
 []:V)=V.func 97 [wV A B I J n M f n2 qw f2 1] [])∧((((V.fz true 0 (fun i x=>V.fz true 0 (ae .i64 (f i)) (M i) 1) n 1):V)=(V.fz true 0 (fun i x=>V.fz true 0 (ae .i64 (f i)) (M i) 1) n 1))∧(((((n:Nat):Int):Int)=((n:Nat):Int))∧((((0):Int)=((0:Nat):Int))∧True))))∧True)))
theorem rR1 (n2:Nat) (qw:Nat→Nat) (f2:Nat→Nat→Nat→Int) (k:Nat) (h1:k<n) (h2:n≤1000) (h3:M k≤1000) (h4:rowB I (M k) (f k)=true):VC (bM Tryz.prog XV2 300 bR (aU 5) iC 18 90 (sR A B I J n M f n2 qw f2 k) (.next (sR A B I J n M f n2 qw f2 (k+1)))) (.go 1429 .nil):=ai (((not (ak (n:Int) (k:Int)))=true∧((Nat.blt k n)=true∧((cond (cond (aZ 3 A B I J n2 qw f2) (cond (ay .i64 (ae .i64 (f k)) (M k) 1) true false) false) (Nat.ble (M k) 1000) false)=true∧((not (rowB I (M k) (f k)))=false∧((small ((k:Int)+1))=true∧((((V.func 97 [wV A B I J n M f n2 qw f2 1] []:V)=V.func 97 [wV A B I J n M f n2 qw f2 1] [])∧((((V.fz true 0 (fun i x=>V.fz true 0 (ae .i64 (f i)) (M i) 1) n 1):V)=(V.fz true 0 (fun i x=>V.fz true 0 (ae .i64 (f i)) (M i) 1) n 1))∧((((n:Int):Int)=(n:Int))∧(((((k:Int)+1):Int)=(((k+1):Nat):Int))∧True))))∧True)))))))
theorem rR2 (n2:Nat) (qw:Nat→Nat) (f2:Nat→Nat→Nat→Int) (k:Nat) (h1:k<n) (h2:n≤1000) (h3:M k≤1000) (h4:rowB I (M k) (f k)=false):VC (bM Tryz.prog XV2 300 bR (aU 5) iC 18 90 (sR A B I J n M f n2 qw f2 k) (.ret ⟨[.bool false],[]⟩)) (.go 341 .nil):=ai (((not (ak (n:Int) (k:Int)))=true∧((Nat.blt k n)=true∧((cond (cond (aZ 3 A B I J n2 qw f2) (cond (ay .i64 (ae .i64 (f k)) (M k) 1) true false) false) (Nat.ble (M k) 1000) false)=true∧((not (rowB I (M k) (f k)))=true∧(((false=false)∧True)∧True))))))
theorem rR3 (n2:Nat) (qw:Nat→Nat) (f2:Nat→Nat→Nat→Int) (k:Nat) (h1:¬ k<n):VC (bM Tryz.prog XV2 300 bR (aU 5) iC 18 90 (sR A B I J n M f n2 qw f2 k) (.exit 0 ⟨[],[]⟩)) (.go 6 .nil):=ai (((not (ak (n:Int) (k:Int)))=false∧(True∧True)))
theorem fR1  : VC (fromD Tryz.prog XV2 300 99 [1,0,1,0] (Lv.res iC 18 (iw (aU 5) iC 90 (.exit 0 ⟨[],[]⟩)) (.exit 0 ⟨[],[]⟩)) (.bool true)) .nil:=ai ((true=true))
theorem fR2  : VC (fromD Tryz.prog XV2 300 99 [1,0,1,0] (Lv.res iC 18 (iw (aU 5) iC 90 (.ret ⟨[.bool false],[]⟩)) (.ret ⟨[.bool false],[]⟩)) (.bool false)) .nil:=ai ((false=false))
def Um:Val:=fun das=>match das with | [.one (.rr 1 n M f),.cl 97 [.sl 1 A B,.sl 1 I J,.rr 1 n2 qw f2]]=>some (cond (Nat.ble n 1000) (fU n M) false,.bool (dU I n M f)) | _=>none
theorem aaY:qi Tryz.prog 99 Um:=by
 intro das v hv
 unfold Um at hv
 split at hv
 ·rename_i n M f A B I J n2 qw f2
  have hb:=congrArg Prod.fst (Option.some.inj hv)
  have hv:=congrArg Prod.snd (Option.some.inj hv)
  subst hv
  obtain ⟨hb,hs⟩:=ah hb
  have hb:=Nat.le_of_ble_eq_true hb
  have hl:∀ k,k<n→M k≤1000:=fun k hk=>Nat.le_of_ble_eq_true (aX hs k hk)
  refine ⟨rfl,?_⟩
  rcases gu (fun i=>rowB I (M i) (f i)) n with h | ⟨N,h1,h2,h3⟩
  ·have e:dU I n M f=true:=bW h
   show ∃ v' H',SpecCall _ _ _ _ v' H'∧dB v' (.bool (dU I n M f))
   rw [e]
   exact bV aj wP (das:=ZB A B I J n M f n2 qw f2) (lv := .exit 0 ⟨[],[]⟩) (by kernel_rfl) (by kernel_rfl) (eR A B I J n M f n2 qw f2).ok (bz (body:=bR) (fun _ e=>by cases e) n (sR A B I J n M f n2 qw f2) (fun k hk =>
    aP aj wP (rR1 A B I J n M f n2 qw f2 k hk hb (hl k hk) (h k hk)).ok (by kernel_rfl) (by kernel_rfl)) (aP aj wP (rR3 A B I J n M f n2 qw f2 n (by omega)).ok (by kernel_rfl) (by kernel_rfl))) fR1.ok
  ·have e:dU I n M f=false:=gK h1 h3
   show ∃ v' H',SpecCall _ _ _ _ v' H'∧dB v' (.bool (dU I n M f))
   rw [e]
   exact bV aj wP (das:=ZB A B I J n M f n2 qw f2) (lv := .ret ⟨[.bool false],[]⟩) (by kernel_rfl) (by kernel_rfl) (eR A B I J n M f n2 qw f2).ok (bz (body:=bR) (fun _ e=>by cases e) N (sR A B I J n M f n2 qw f2) (fun k hk =>
    aP aj wP (rR1 A B I J n M f n2 qw f2 k (by omega) hb (hl k (by omega)) (h2 k hk)).ok (by kernel_rfl) (by kernel_rfl)) (aP aj wP (rR2 A B I J n M f n2 qw f2 N h1 hb (hl N h1) h3).ok (by kernel_rfl) (by kernel_rfl))) fR2.ok
 ·cases hv
end
end Go.Proofs.YtiplgejpopellaaGreat
/- Tables: contracts: what is valid: the whole table. -/
namespace Go.Proofs.YtiplgejpopellaaGreat
open Go Go.Ev
set_option maxRecDepth 1000000
noncomputable section
def XV3:Ext:=jO [(110,cf FV),(113,cf Es),(99,cf Um)] false
theorem Y3:dM Tryz.prog XV3:=dW (aA (dR Ux)<|aA (dR Tz)<|aA (dR aaY) bK)
def OV (len:Nat) (g:Nat→Nat→Int) (m:Int):Bool:=cond (ak 2 (len:Int)) (cond (allIn 0 m g len) (eP g len) false) false
def QK (A:Nat) (B:Nat→Nat→Int) (I:Nat) (J:Nat→Nat→Int) (n:Nat) (M:Nat→Nat) (f:Nat→Nat→Nat→Int):Bool:=cond (OV A B 40) (cond (OV I J 60) (cond (bY (n:Int) (A:Int)) (dU I n M f) false) false) false
def aT (A:Nat) (B:Nat→Nat→Int) (I:Nat) (J:Nat→Nat→Int) (n:Nat) (M:Nat→Nat) (f:Nat→Nat→Nat→Int):Int:=cond (ak (A:Int) 5) (cond (ak (I:Int) 5) (cond (ak (n:Int) 5) (cond (QK A B I J n M f) 0 1) 3) 3) 3
theorem rCk (A:Nat) (B:Nat→Nat→Int) (I:Nat) (J:Nat→Nat→Int) (n:Nat) (M:Nat→Nat) (f:Nat→Nat→Nat→Int) (h1:A≤1000) (h2:I≤1000) (h3:n≤1000) (h4:fU n M=true):VC (dh Tryz.prog XV3 400 56 (enc [.st [.sl 1 A B,.sl 1 I J,.rr 1 n M f]] 0) 3 (fun v=>dB v (.int .i64 (aT A B I J n M f)))) (.go 16 (.sp .nil (.go 16 (.cs 1 (.sp .nil (.go 65536 (.sp .nil (.go 16 (.sp (.go 4352 (.sp (.go 1088 (.sp .nil (.go 16 (.cs 1 (.sp (.go 4352 (.sp (.go 1088 (.sp .nil (.go 16777216 (.sp (.go 4352 (.sp .nil .nil)) .nil)))) .nil)) .nil) .nil)))) .nil)) .nil))))) .nil)))):=ai ((((not (ak (A:Int) 5))=true→(((3):Int)=(cond (ak (A:Int) 5) (cond (ak (I:Int) 5) (cond (ak (n:Int) 5) (cond (cond (cond (ak 2 (A:Int)) (cond (allIn 0 40 B A) (eP B A) false) false) (cond (cond (ak 2 (I:Int)) (cond (allIn 0 60 J I) (eP J I) false) false) (cond (bY (n:Int) (A:Int)) (dU I n M f) false) false) false) 0 1) 3) 3) 3))) ∧
 ((not (ak ((A:Nat):Int) (5)))=false→(((((0)+(1)):Int)=(1)∨False)∧(((((0)+(1)):Int)=(1)→(((not (ak ((I:Nat):Int) (5)))=true→(((3):Int)=(cond (ak ((A:Nat):Int) (5)) (cond (ak ((I:Nat):Int) (5)) (cond (ak ((n:Nat):Int) (5)) (cond (cond (cond (ak (2) ((A:Nat):Int)) (cond (allIn (0) (40) B A) (eP B A) false) false) (cond (cond (ak (2) ((I:Nat):Int)) (cond (allIn (0) (60) J I) (eP J I) false) false) (cond (bY ((n:Nat):Int) ((A:Nat):Int)) (dU I n M f) false) false) false) (0) (1)) (3)) (3)) (3)))) ∧
 ((not (ak ((I:Nat):Int) (5)))=false→(((not (ak ((n:Nat):Int) (5)))=true→(((3):Int)=(cond (ak ((A:Nat):Int) (5)) (cond (ak ((I:Nat):Int) (5)) (cond (ak ((n:Nat):Int) (5)) (cond (cond (cond (ak (2) ((A:Nat):Int)) (cond (allIn (0) (40) B A) (eP B A) false) false) (cond (cond (ak (2) ((I:Nat):Int)) (cond (allIn (0) (60) J I) (eP J I) false) false) (cond (bY ((n:Nat):Int) ((A:Nat):Int)) (dU I n M f) false) false) false) (0) (1)) (3)) (3)) (3)))) ∧
 ((not (ak ((n:Nat):Int) (5)))=false→(((ak (2) ((A:Nat):Int))=true→((cond (cond (ay .i64 (ae .i64 B) A 1) true false) (Nat.ble A 1000000) false)=true∧(((allIn (0) (40) B A)=true→((cond (cond (ay .i64 (ae .i64 B) A 1) true false) (Nat.ble A 1000000) false)=true∧(((not (eP B A))=true→(((1):Int)=(cond (ak ((A:Nat):Int) (5)) (cond (ak ((I:Nat):Int) (5)) (cond (ak ((n:Nat):Int) (5)) (cond (cond (cond (ak (2) ((A:Nat):Int)) (cond (allIn (0) (40) B A) (eP B A) false) false) (cond (cond (ak (2) ((I:Nat):Int)) (cond (allIn (0) (60) J I) (eP J I) false) false) (cond (bY ((n:Nat):Int) ((A:Nat):Int)) (dU I n M f) false) false) false) (0) (1)) (3)) (3)) (3)))) ∧
 ((not (eP B A))=false→(((((0)+(1)):Int)=(1)∨False)∧(((((0)+(1)):Int)=(1)→(((ak (2) ((I:Nat):Int))=true→((cond (cond (ay .i64 (ae .i64 J) I 1) true false) (Nat.ble I 1000000) false)=true∧(((allIn (0) (60) J I)=true→((cond (cond (ay .i64 (ae .i64 J) I 1) true false) (Nat.ble I 1000000) false)=true∧(((not (eP J I))=true→(((1):Int)=(cond (ak ((A:Nat):Int) (5)) (cond (ak ((I:Nat):Int) (5)) (cond (ak ((n:Nat):Int) (5)) (cond (cond (cond (ak (2) ((A:Nat):Int)) (cond (allIn (0) (40) B A) (eP B A) false) false) (cond (cond (ak (2) ((I:Nat):Int)) (cond (allIn (0) (60) J I) (eP J I) false) false) (cond (bY ((n:Nat):Int) ((A:Nat):Int)) (dU I n M f) false) false) false) (0) (1)) (3)) (3)) (3)))) ∧
 ((not (eP J I))=false→(((bY ((n:Nat):Int) ((A:Nat):Int))=true→((cond (cond (cond true (fZ 2 (aQ 2 1 M f) n 1) false) (cond (aZ 2 A B I J n M f) true false) false) (cond (Nat.ble n 1000) (fU n M) false) false)=true∧(((not (dU I n M f))=true→(((1):Int)=(cond (ak ((A:Nat):Int) (5)) (cond (ak ((I:Nat):Int) (5)) (cond (ak ((n:Nat):Int) (5)) (cond (cond (cond (ak (2) ((A:Nat):Int)) (cond (allIn (0) (40) B A) (eP B A) false) false) (cond (cond (ak (2) ((I:Nat):Int)) (cond (allIn (0) (60) J I) (eP J I) false) false) (cond (bY ((n:Nat):Int) ((A:Nat):Int)) (dU I n M f) false) false) false) (0) (1)) (3)) (3)) (3)))) ∧
 ((not (dU I n M f))=false→(((0):Int)=(cond (ak ((A:Nat):Int) (5)) (cond (ak ((I:Nat):Int) (5)) (cond (ak ((n:Nat):Int) (5)) (cond (cond (cond (ak (2) ((A:Nat):Int)) (cond (allIn (0) (40) B A) (eP B A) false) false) (cond (cond (ak (2) ((I:Nat):Int)) (cond (allIn (0) (60) J I) (eP J I) false) false) (cond (bY ((n:Nat):Int) ((A:Nat):Int)) (dU I n M f) false) false) false) (0) (1)) (3)) (3)) (3))))))) ∧
 ((bY ((n:Nat):Int) ((A:Nat):Int))=false→(((1):Int)=(cond (ak ((A:Nat):Int) (5)) (cond (ak ((I:Nat):Int) (5)) (cond (ak ((n:Nat):Int) (5)) (cond (cond (cond (ak (2) ((A:Nat):Int)) (cond (allIn (0) (40) B A) (eP B A) false) false) (cond (cond (ak (2) ((I:Nat):Int)) (cond (allIn (0) (60) J I) (eP J I) false) false) (cond (bY ((n:Nat):Int) ((A:Nat):Int)) (dU I n M f) false) false) false) (0) (1)) (3)) (3)) (3))))))))) ∧
 ((allIn (0) (60) J I)=false→(((1):Int)=(cond (ak ((A:Nat):Int) (5)) (cond (ak ((I:Nat):Int) (5)) (cond (ak ((n:Nat):Int) (5)) (cond (cond (cond (ak (2) ((A:Nat):Int)) (cond (allIn (0) (40) B A) (eP B A) false) false) (cond (cond (ak (2) ((I:Nat):Int)) (cond (allIn (0) (60) J I) (eP J I) false) false) (cond (bY ((n:Nat):Int) ((A:Nat):Int)) (dU I n M f) false) false) false) (0) (1)) (3)) (3)) (3))))))) ∧
 ((ak (2) ((I:Nat):Int))=false→(((1):Int)=(cond (ak ((A:Nat):Int) (5)) (cond (ak ((I:Nat):Int) (5)) (cond (ak ((n:Nat):Int) (5)) (cond (cond (cond (ak (2) ((A:Nat):Int)) (cond (allIn (0) (40) B A) (eP B A) false) false) (cond (cond (ak (2) ((I:Nat):Int)) (cond (allIn (0) (60) J I) (eP J I) false) false) (cond (bY ((n:Nat):Int) ((A:Nat):Int)) (dU I n M f) false) false) false) (0) (1)) (3)) (3)) (3))))))∧True)))))) ∧
 ((allIn (0) (40) B A)=false→(((1):Int)=(cond (ak ((A:Nat):Int) (5)) (cond (ak ((I:Nat):Int) (5)) (cond (ak ((n:Nat):Int) (5)) (cond (cond (cond (ak (2) ((A:Nat):Int)) (cond (allIn (0) (40) B A) (eP B A) false) false) (cond (cond (ak (2) ((I:Nat):Int)) (cond (allIn (0) (60) J I) (eP J I) false) false) (cond (bY ((n:Nat):Int) ((A:Nat):Int)) (dU I n M f) false) false) false) (0) (1)) (3)) (3)) (3))))))) ∧
 ((ak (2) ((A:Nat):Int))=false→(((1):Int)=(cond (ak ((A:Nat):Int) (5)) (cond (ak ((I:Nat):Int) (5)) (cond (ak ((n:Nat):Int) (5)) (cond (cond (cond (ak (2) ((A:Nat):Int)) (cond (allIn (0) (40) B A) (eP B A) false) false) (cond (cond (ak (2) ((I:Nat):Int)) (cond (allIn (0) (60) J I) (eP J I) false) false) (cond (bY ((n:Nat):Int) ((A:Nat):Int)) (dU I n M f) false) false) false) (0) (1)) (3)) (3)) (3))))))))))∧True))))) (q:=by
 (repeat' (first | exact True.intro | exact Or.inl rfl | refine And.intro ?_ ?_ | (intro hh;(try simp only [Bool.not_eq_true',Bool.not_eq_false'] at hh))));all_goals (first | (with_reducible assumption) | (with_reducible rfl) | (simp only [*,cond_true,cond_false];done) | (exact Pz)))
def HY:Val:=fun das=>match das with | [.st [.sl 1 A B,.sl 1 I J,.rr 1 n M f]]=>some (cond (Nat.ble A 1000) (cond (Nat.ble I 1000) (cond (Nat.ble n 1000) (fU n M) false) false) false,.int .i64 (aT A B I J n M f)) | _=>none
theorem Td:qi Tryz.prog 56 HY:=by
 intro das v hv
 unfold HY at hv
 split at hv
 ·rename_i A B I J n M f
  have hb:=congrArg Prod.fst (Option.some.inj hv)
  have hv:=congrArg Prod.snd (Option.some.inj hv)
  subst hv
  obtain ⟨h1,hb⟩:=ah hb
  obtain ⟨h2,hb⟩:=ah hb
  obtain ⟨h3,h4⟩:=ah hb
  exact bn aj Y3 rfl (das:=[.st [.sl 1 A B,.sl 1 I J,.rr 1 n M f]]) (rCk A B I J n M f (Nat.le_of_ble_eq_true h1) (Nat.le_of_ble_eq_true h2) (Nat.le_of_ble_eq_true h3) h4)
 ·cases hv
end
end Go.Proofs.YtiplgejpopellaaGreat
/- Tables: what is valid, in words; where a point is; the strength at it. -/
namespace Go.Proofs.YtiplgejpopellaaGreat
open Go Go.Ev
set_option maxRecDepth 1000000
noncomputable section
structure LinesOk (len:Nat) (g:Nat→Nat→Int) (m:Int):Prop where
 two:2≤len
 five:len≤5
 inn:∀ i,i<len→0≤g i 0∧g i 0≤m
 up:∀ i,i+1<len→g i 0<g (i+1) 0
structure TabOk (A:Nat) (B:Nat→Nat→Int) (I:Nat) (J:Nat→Nat→Int) (n:Nat) (M:Nat→Nat) (f:Nat→Nat→Nat→Int):Prop where
 w:LinesOk A B 40
 m:LinesOk I J 60
 n:n=A
 l:∀ i,i<A→M i=I
 v:∀ i j,i<A→j<I→0≤f i j 0∧f i j 0≤2000
theorem yU {a b:Bool} {x y:Int} (h:cond a x y=0) (hy:¬ y=0):a=true:=by
 cases a with
 | true=>rfl
 | false=>exact absurd h hy
theorem I7 {len:Nat} {g:Nat→Nat→Int} {m:Int} (h5:len≤5) (h:OV len g m=true):LinesOk len g m:=by
 obtain ⟨h1,h⟩:=ah h
 obtain ⟨h2,h3⟩:=ah h
 rw [aW] at h1
 refine ⟨by omega,h5,fun i hi=>?_,fun i hi=>?_⟩
 ·have:=aX h2 i hi
  simpa only [inB,decide_eq_true_eq] using this
 ·have:=aX h3 i (by omega)
  simpa only [upB,decide_eq_true_eq] using this
theorem lq {A:Nat} {B:Nat→Nat→Int} {I:Nat} {J:Nat→Nat→Int} {n:Nat} {M:Nat→Nat} {f:Nat→Nat→Nat→Int} (h:aT A B I J n M f=0):TabOk A B I J n M f:=by
 unfold aT at h
 have h1:=yU (b:=true) h (by decide)
 rw [h1] at h
 have h:cond (ak (I:Int) 5) (cond (ak (n:Int) 5) (cond (QK A B I J n M f) 0 1) 3) 3=(0:Int):=h
 have h2:=yU (b:=true) h (by decide)
 rw [h2] at h
 have h:cond (ak (n:Int) 5) (cond (QK A B I J n M f) 0 1) 3=(0:Int):=h
 have h3:=yU (b:=true) h (by decide)
 rw [h3] at h
 have h:cond (QK A B I J n M f) 0 1=(0:Int):=h
 have h4:=yU (b:=true) h (by decide)
 rw [aW] at h1 h2 h3
 obtain ⟨k1,h4⟩:=ah h4
 obtain ⟨k2,h4⟩:=ah h4
 obtain ⟨k3,k4⟩:=ah h4
 have e:(n:Int)=A:=(dQ _ _).mp k3
 have en:n=A:=by omega
 have kr:∀ i,i<A→rowB I (M i) (f i)=true:=fun i hi=>aX k4 i (by omega)
 refine ⟨I7 (by omega) k1,I7 (by omega) k2,en,fun i hi=>?_,fun i j hi hj=>?_⟩
 ·have:=(dQ _ _).mp (ah (kr i hi)).1
  omega
 ·have e1:=(dQ _ _).mp (ah (kr i hi)).1
  have:=aX (ah (kr i hi)).2 j (by omega)
  simpa only [inB,decide_eq_true_eq] using this
theorem oI {len:Nat} {g:Nat→Nat→Int} {m:Int} (h:LinesOk len g m):∀ {i j:Nat},i≤j→j<len→g i 0≤g j 0:=by
 intro i j hij hj
 induction j with
 | zero=>rw [show i=0 by omega];exact Int.le_refl _
 | succ j ih =>
  by_cases e:i=j+1
  ·rw [e];exact Int.le_refl _
  ·have h1:=ih (by omega) (by omega)
   have h2:=h.up j hj
   omega
theorem OZ {len:Nat} {g:Nat→Nat→Int} {m x:Int} (h:LinesOk len g m) (h0:g 0 0≤x) (h9:x≤g (len-1) 0):∃ i:Nat,ax len g x=(i:Int)∧i+2≤len∧g i 0≤x∧x≤g (i+1) 0∧(i+2=len∨x<g (i+1) 0):=by
 have h2:=h.two
 have h5:=h.five
 have hu:=h.up
 have:len=2∨len=3∨len=4∨len=5:=by omega
 rcases this with rfl | rfl | rfl | rfl
 ·exact ⟨0,rfl,by omega,h0,h9,.inl rfl⟩
 ·by_cases q1:g 1 0≤x
  ·exact ⟨1,by show cond (ak (g 1 0) x) 1 0=_;rw [(aW _ _).mpr q1];rfl,by omega,q1,h9,.inl rfl⟩
  ·exact ⟨0,by show cond (ak (g 1 0) x) 1 0=_;rw [(dY _ _).mpr (by omega)];rfl,by omega,h0,by show x≤g 1 0;omega,.inr (by show x<g 1 0;omega)⟩
 ·by_cases q1:g 1 0≤x
  ·by_cases q2:g 2 0≤x
   ·exact ⟨2,by show cond (ak (g 1 0) x) (cond (ak (g 2 0) x) 2 1) 0=_;rw [(aW _ _).mpr q1,(aW _ _).mpr q2];rfl,by omega,q2,h9,.inl rfl⟩
   ·exact ⟨1,by show cond (ak (g 1 0) x) (cond (ak (g 2 0) x) 2 1) 0=_;rw [(aW _ _).mpr q1,(dY _ _).mpr (by omega)];rfl,by omega,q1,by show x≤g 2 0;omega,.inr (by show x<g 2 0;omega)⟩
  ·exact ⟨0,by show cond (ak (g 1 0) x) (cond (ak (g 2 0) x) 2 1) 0=_;rw [(dY _ _).mpr (by omega)];rfl,by omega,h0,by show x≤g 1 0;omega,.inr (by show x<g 1 0;omega)⟩
 ·by_cases q1:g 1 0≤x
  ·by_cases q2:g 2 0≤x
   ·by_cases q3:g 3 0≤x
    ·exact ⟨3,by show cond (ak (g 1 0) x) (cond (ak (g 2 0) x) (cond (ak (g 3 0) x) 3 2) 1) 0=_;rw [(aW _ _).mpr q1,(aW _ _).mpr q2,(aW _ _).mpr q3];rfl,by omega,q3,h9,.inl rfl⟩
    ·exact ⟨2,by show cond (ak (g 1 0) x) (cond (ak (g 2 0) x) (cond (ak (g 3 0) x) 3 2) 1) 0=_;rw [(aW _ _).mpr q1,(aW _ _).mpr q2,(dY _ _).mpr (by omega)];rfl,by omega,q2,by show x≤g 3 0;omega,.inr (by show x<g 3 0;omega)⟩
   ·exact ⟨1,by show cond (ak (g 1 0) x) (cond (ak (g 2 0) x) (cond (ak (g 3 0) x) 3 2) 1) 0=_;rw [(aW _ _).mpr q1,(dY _ _).mpr (by omega)];rfl,by omega,q1,by show x≤g 2 0;omega,.inr (by show x<g 2 0;omega)⟩
  ·exact ⟨0,by show cond (ak (g 1 0) x) (cond (ak (g 2 0) x) (cond (ak (g 3 0) x) 3 2) 1) 0=_;rw [(dY _ _).mpr (by omega)];rfl,by omega,h0,by show x≤g 1 0;omega,.inr (by show x<g 1 0;omega)⟩
def Aw (len:Nat) (g:Nat→Nat→Int) (x:Int):Prop:=g 0 0≤x∧x≤g (len-1) 0
theorem uk {a b c:Int} (h1:a≤b) (h2:b≤c):leB a b c=true:=aI ((aW _ _).mpr h1) ((aW _ _).mpr h2)
theorem Ny {a0 a1 x m:Int} (h0:0≤a0) (h1:a0≤x) (h2:x≤a1) (h3:a1≤m) (h4:a0<a1):SB a0 a1 x m=true:=by
 unfold SB
 rw [(aW _ _).mpr h0,uk h1 h2,(aW _ _).mpr h3,(dY _ _).mpr h4];rfl
theorem dV {a b:Nat} (h:a≤b):Nat.ble a b=true:=Nat.ble_eq_true_of_le h
theorem MV {a b:Nat} (h:a=b):Nat.beq a b=true:=by rw [h];exact iO b
section
variable {A:Nat} {B:Nat→Nat→Int} {I:Nat} {J:Nat→Nat→Int} {n:Nat} {M:Nat→Nat} {f:Nat→Nat→Nat→Int} {x y:Int}
theorem abj (h:TabOk A B I J n M f) (hx:Aw A B x) (hy:Aw I J y):pU A B I J n M f x y=true:=by
 obtain ⟨i,e1,i2,i3,i4,i5⟩:=OZ h.w hx.1 hx.2
 obtain ⟨k,e2,k2,k3,k4,k5⟩:=OZ h.m hy.1 hy.2
 have w2:=h.w.two
 have w5:=h.w.five
 have m2:=h.m.two
 have m5:=h.m.five
 have a0:=h.w.inn i (by omega)
 have a1:=h.w.inn (i+1) (by omega)
 have au:=h.w.up i (by omega)
 have b0:=h.m.inn k (by omega)
 have b1:=h.m.inn (k+1) (by omega)
 have bu:=h.m.up k (by omega)
 have v00:=h.v i k (by omega) (by omega)
 have v10:=h.v (i+1) k (by omega) (by omega)
 have v01:=h.v i (k+1) (by omega) (by omega)
 have v11:=h.v (i+1) (k+1) (by omega) (by omega)
 have l0:=h.l i (by omega)
 have l1:=h.l (i+1) (by omega)
 unfold pU
 rw [e1,e2]
 have ti:Int.toNat ((i:Nat):Int)=i:=by omega
 have ti1:Int.toNat (((i:Nat):Int)+1)=i+1:=by omega
 have tk:Int.toNat ((k:Nat):Int)=k:=by omega
 have tk1:Int.toNat (((k:Nat):Int)+1)=k+1:=by omega
 rw [ti,ti1,tk,tk1]
 have s1:Int.sub (A:Int) 2=(A:Int)-2:=rfl
 have s2:Int.sub (I:Int) 2=(I:Int)-2:=rfl
 rw [s1,s2]
 exact aI (dV w2)<|aI (dV w5)<|aI (dV m2)<|aI (dV m5)<|aI (MV h.n)<|aI (uk (by omega) (by omega))<|aI (uk (by omega) (by omega))<|aI (MV l0)<|aI (MV l1) <|
  aI (Ny a0.1 i3 i4 a1.2 au)<|aI (Ny b0.1 k3 k4 b1.2 bu)<|aI (uk v00.1 v00.2)<|aI (uk v10.1 v10.2)<|aI (uk v01.1 v01.2) (uk v11.1 v11.2)
theorem L6 (h:TabOk A B I J n M f) (hx:Aw A B x) (hy:Aw I J y):∃ i k:Nat,i+2≤A∧k+2≤I∧(B i 0≤x∧x≤B (i+1) 0)∧(J k 0≤y∧y≤J (k+1) 0)∧(i+2=A∨x<B (i+1) 0)∧(k+2=I∨y<J (k+1) 0) ∧
 iy A B I J f x y=stI (B i 0) (B (i+1) 0) (J k 0) (J (k+1) 0) (f i k 0) (f (i+1) k 0) (f i (k+1) 0) (f (i+1) (k+1) 0) x y:=by
 obtain ⟨i,e1,i2,i3,i4,i5⟩:=OZ h.w hx.1 hx.2
 obtain ⟨k,e2,k2,k3,k4,k5⟩:=OZ h.m hy.1 hy.2
 refine ⟨i,k,i2,k2,⟨i3,i4⟩,⟨k3,k4⟩,i5,k5,?_⟩
 unfold iy
 rw [e1,e2]
 have ti:Int.toNat ((i:Nat):Int)=i:=by omega
 have ti1:Int.toNat (((i:Nat):Int)+1)=i+1:=by omega
 have tk:Int.toNat ((k:Nat):Int)=k:=by omega
 have tk1:Int.toNat (((k:Nat):Int)+1)=k+1:=by omega
 rw [ti,ti1,tk,tk1]
end
end
end Go.Proofs.YtiplgejpopellaaGreat
/- Tables: the strength at a point, as a number between four values. -/
namespace Go.Proofs.YtiplgejpopellaaGreat
open Go Go.Ev
set_option maxRecDepth 1000000
noncomputable section
theorem XU {n d:Int} (hn:0≤n) (hd:1≤d):Int.tdiv (2*n+d) (2*d)=(if d≤2*(n-Int.tdiv n d*d) then Int.tdiv n d+1 else Int.tdiv n d):=by
 rw [Int.tdiv_eq_ediv_of_nonneg (by omega),Int.tdiv_eq_ediv_of_nonneg hn]
 have e:=Int.mul_ediv_add_emod n d
 have r0:=Int.emod_nonneg n (show d≠0 by omega)
 have r1:=Int.emod_lt_of_pos n (show 0<d by omega)
 generalize n/d=q at *
 generalize n%d=r at *
 have c:q*d=d*q:=Int.mul_comm _ _
 rw [c]
 have e2:(2*d)*q=2*(d*q):=Int.mul_assoc _ _ _
 have e3:(2*d)*(q+1)=2*(d*q)+2*d:=by rw [Int.mul_add,e2];omega
 split
 ·exact ((Int.ediv_emod_unique (show 0<2*d by omega)).2 (show 2*r-d+(2*d)*(q+1)=2*n+d∧0≤2*r-d∧2*r-d<2*d from ⟨by rw [e3];omega,by omega,by omega⟩)).1
 ·exact ((Int.ediv_emod_unique (show 0<2*d by omega)).2 (show 2*r+d+(2*d)*q=2*n+d∧0≤2*r+d∧2*r+d<2*d from ⟨by rw [e2];omega,by omega,by omega⟩)).1
theorem Om {a v L:Int} (h:L≤v) (ha:0≤a):L*a≤v*a:=Int.mul_le_mul_of_nonneg_right h ha
theorem OJ {a v L U:Int} (h:a=0∨(L≤v∧v≤U)) (ha:0≤a):L*a≤v*a∧v*a≤U*a:=by
 rcases h with h | h
 ·rw [h];simp only [Int.mul_zero];omega
 ·exact ⟨Om h.1 ha,Om h.2 ha⟩
theorem Gi {a b:Int} {Q:Prop} (h:a=0∨b=0∨Q):a*b=0∨Q:=by
 rcases h with h | h | h
 ·rw [h];exact .inl (Int.zero_mul _)
 ·rw [h];exact .inl (Int.mul_zero _)
 ·exact .inr h
theorem parts {a0 a1 b0 b1 x y v00 v10 v01 v11:Int}:v00*((a1-a0)-(x-a0))*((b1-b0)-(y-b0))=v00*((a1-x)*(b1-y))∧v10*(x-a0)*((b1-b0)-(y-b0))=v10*((x-a0)*(b1-y))∧v01*((a1-a0)-(x-a0))*(y-b0)=v01*((a1-x)*(y-b0))∧v11*(x-a0)*(y-b0)=v11*((x-a0)*(y-b0)):=by
 rw [show (a1-a0)-(x-a0)=a1-x by omega,show (b1-b0)-(y-b0)=b1-y by omega]
 exact ⟨Int.mul_assoc _ _ _,Int.mul_assoc _ _ _,Int.mul_assoc _ _ _,Int.mul_assoc _ _ _⟩
theorem area {a0 a1 b0 b1 x y:Int}:(a1-a0)*(b1-b0)=(a1-x)*(b1-y)+(x-a0)*(b1-y)+(a1-x)*(y-b0)+(x-a0)*(y-b0):=by
 rw [show a1-a0=(a1-x)+(x-a0) by omega,show b1-b0=(b1-y)+(y-b0) by omega,Int.add_mul,Int.mul_add,Int.mul_add];omega
theorem nK {a0 a1 b0 b1 x y v00 v10 v01 v11 L U:Int} (ha:a0≤x∧x≤a1∧a0<a1) (hb:b0≤y∧y≤b1∧b0<b1) (hL:0≤L) (h00:a1-x=0∨b1-y=0∨(L≤v00∧v00≤U)) (h10:x-a0=0∨b1-y=0∨(L≤v10∧v10≤U)) (h01:a1-x=0∨y-b0=0∨(L≤v01∧v01≤U)) (h11:x-a0=0∨y-b0=0∨(L≤v11∧v11≤U)) :
 L≤stI a0 a1 b0 b1 v00 v10 v01 v11 x y∧stI a0 a1 b0 b1 v00 v10 v01 v11 x y≤U:=by
 unfold stI
 obtain ⟨p1,p2,p3,p4⟩:=parts (a0:=a0) (a1:=a1) (b0:=b0) (b1:=b1) (x:=x) (y:=y) (v00:=v00) (v10:=v10) (v01:=v01) (v11:=v11)
 rw [p1,p2,p3,p4]
 have q1:=Int.mul_nonneg (show 0≤a1-x by omega) (show 0≤b1-y by omega)
 have q2:=Int.mul_nonneg (show 0≤x-a0 by omega) (show 0≤b1-y by omega)
 have q3:=Int.mul_nonneg (show 0≤a1-x by omega) (show 0≤y-b0 by omega)
 have q4:=Int.mul_nonneg (show 0≤x-a0 by omega) (show 0≤y-b0 by omega)
 have d1:=Int.mul_le_mul (show 1≤a1-a0 by omega) (show 1≤b1-b0 by omega) (by omega) (by omega)
 have ar:=area (a0:=a0) (a1:=a1) (b0:=b0) (b1:=b1) (x:=x) (y:=y)
 have h00:=Gi h00
 have h10:=Gi h10
 have h01:=Gi h01
 have h11:=Gi h11
 generalize (a1-a0)*(b1-b0)=D at *
 generalize (a1-x)*(b1-y)=c00 at *
 generalize (x-a0)*(b1-y)=c10 at *
 generalize (a1-x)*(y-b0)=c01 at *
 generalize (x-a0)*(y-b0)=c11 at *
 have l1:=OJ h00 q1
 have l2:=OJ h10 q2
 have l3:=OJ h01 q3
 have l4:=OJ h11 q4
 have eL:L*D=L*c00+L*c10+L*c01+L*c11:=by rw [ar,Int.mul_add,Int.mul_add,Int.mul_add]
 have eU:U*D=U*c00+U*c10+U*c01+U*c11:=by rw [ar,Int.mul_add,Int.mul_add,Int.mul_add]
 have LD:=Int.mul_nonneg hL (show 0≤D by omega)
 generalize v00*c00=w1 at *
 generalize v10*c10=w2 at *
 generalize v01*c01=w3 at *
 generalize v11*c11=w4 at *
 have hN:L*D≤w1+w2+w3+w4∧w1+w2+w3+w4≤U*D:=by omega
 generalize w1+w2+w3+w4=N at *
 rw [Int.tdiv_eq_ediv_of_nonneg (by omega)]
 constructor
 ·refine Int.le_ediv_of_mul_le (by omega) ?_
  have:L*(2*D)=2*(L*D):=by rw [Int.mul_left_comm]
  omega
 ·have:(U+1)*(2*D)=2*(U*D)+2*D:=by rw [Int.add_mul,Int.mul_left_comm];omega
  have h2:(2*N+D)/(2*D)<U+1:=Int.ediv_lt_of_lt_mul (by omega) (by omega)
  omega
theorem KN {a0 a1 b0 b1 x y v00 v10 v01 v11 L U:Int} (ha:a0≤x∧x≤a1∧a0<a1) (hb:b0≤y∧y≤b1∧b0<b1) (hL:0≤L) (h00:L≤v00∧v00≤U) (h10:L≤v10∧v10≤U) (h01:L≤v01∧v01≤U) (h11:L≤v11∧v11≤U) :
 L≤stI a0 a1 b0 b1 v00 v10 v01 v11 x y∧stI a0 a1 b0 b1 v00 v10 v01 v11 x y≤U:=nK ha hb hL (.inr (.inr h00)) (.inr (.inr h10)) (.inr (.inr h01)) (.inr (.inr h11))
end
end Go.Proofs.YtiplgejpopellaaGreat
/- Tables: the strength at printed points, and between them. -/
namespace Go.Proofs.YtiplgejpopellaaGreat
open Go Go.Ev
set_option maxRecDepth 1000000
noncomputable section
theorem Vg {len:Nat} {g:Nat→Nat→Int} {m:Int} (h:LinesOk len g m) {i j:Nat} (hij:i<j) (hj:j<len):g i 0<g j 0:=by
 have h1:=oI h (show i+1≤j by omega) hj
 have h2:=h.up i (by omega)
 omega
theorem cell_of {len:Nat} {g:Nat→Nat→Int} {m x:Int} (h:LinesOk len g m) {i i':Nat} (hi:i+2≤len) (h1:g i 0≤x) (h2:x≤g (i+1) 0) (hi':i'+2≤len) (k1:g i' 0≤x) (k2:x≤g (i'+1) 0) (k3:i'+2=len∨x<g (i'+1) 0):i'=i∨(i'=i+1∧x-g i' 0=0):=by
 by_cases c1:i'<i
 ·have:=oI h (show i'+1≤i by omega) (by omega)
  rcases k3 with k3 | k3
  ·omega
  ·omega
 ·by_cases c2:i+1<i'
  ·have:=Vg h c2 (by omega)
   omega
  ·by_cases c3:i'=i
   ·exact .inl c3
   ·have e:i'=i+1:=by omega
    refine .inr ⟨e,?_⟩
    rw [e] at k1 ⊢
    omega
section
variable {A:Nat} {B:Nat→Nat→Int} {I:Nat} {J:Nat→Nat→Int} {n:Nat} {M:Nat→Nat} {f:Nat→Nat→Nat→Int} {x y:Int}
theorem YF {len:Nat} {g:Nat→Nat→Int} {m x:Int} (h:LinesOk len g m) {i:Nat} (hi:i+2≤len) (h1:g i 0≤x) (h2:x≤g (i+1) 0):Aw len g x:=by
 have:=oI h (show 0≤i by omega) (by omega)
 have:=oI h (show i+1≤len-1 by omega) (by omega)
 exact ⟨by omega,by omega⟩
theorem U1 (h:TabOk A B I J n M f) {i k:Nat} (hi:i+2≤A) (hk:k+2≤I) (hx:B i 0≤x∧x≤B (i+1) 0) (hy:J k 0≤y∧y≤J (k+1) 0) {L U:Int} (hL:0≤L)
 (q00:L≤f i k 0∧f i k 0≤U) (q10:L≤f (i+1) k 0∧f (i+1) k 0≤U) (q01:L≤f i (k+1) 0∧f i (k+1) 0≤U) (q11:L≤f (i+1) (k+1) 0∧f (i+1) (k+1) 0≤U):L≤iy A B I J f x y∧iy A B I J f x y≤U:=by
 obtain ⟨i',k',i2,k2,x1,y1,x2,y2,e⟩:=L6 h (YF h.w hi hx.1 hx.2) (YF h.m hk hy.1 hy.2)
 rw [e]
 have wa:=h.w.up i' (by omega)
 have wb:=h.m.up k' (by omega)
 rcases cell_of h.w hi hx.1 hx.2 i2 x1.1 x1.2 x2 with c1 | ⟨c1,c3⟩<;>rcases cell_of h.m hk hy.1 hy.2 k2 y1.1 y1.2 y2 with c2 | ⟨c2,c4⟩<;>subst c1<;>subst c2
 ·exact KN ⟨x1.1,x1.2,wa⟩ ⟨y1.1,y1.2,wb⟩ hL q00 q10 q01 q11
 ·exact nK ⟨x1.1,x1.2,wa⟩ ⟨y1.1,y1.2,wb⟩ hL (.inr (.inr q01)) (.inr (.inr q11)) (.inr (.inl c4)) (.inr (.inl c4))
 ·exact nK ⟨x1.1,x1.2,wa⟩ ⟨y1.1,y1.2,wb⟩ hL (.inr (.inr q10)) (.inl c3) (.inr (.inr q11)) (.inl c3)
 ·exact nK ⟨x1.1,x1.2,wa⟩ ⟨y1.1,y1.2,wb⟩ hL (.inr (.inr q11)) (.inl c3) (.inr (.inl c4)) (.inl c3)
theorem JS (h:TabOk A B I J n M f) (hx:Aw A B x) (hy:Aw I J y):0≤iy A B I J f x y∧iy A B I J f x y≤2000:=by
 obtain ⟨i,k,i2,k2,x1,y1,x2,y2,e⟩:=L6 h hx hy
 exact U1 h i2 k2 x1 y1 (Int.le_refl 0) (h.v i k (by omega) (by omega)) (h.v (i+1) k (by omega) (by omega)) (h.v i (k+1) (by omega) (by omega)) (h.v (i+1) (k+1) (by omega) (by omega))
end
end
end Go.Proofs.YtiplgejpopellaaGreat
