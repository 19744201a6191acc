/- Casks: a truth by words, as a contract. -/
import Derived.Test.YtpfcfonplmhmiaaGreatYPrE2
import Derived.Test.YtpfcfonplmhmiaaGreatYPrL2b
set_option linter.all false
set_option linter.unusedSimpArgs false
set_option linter.unusedVariables false
namespace Go.Proofs.YtpfcfonplmhmiaaGreat
namespace BL
open Go Go.Ev
set_option maxRecDepth 1000000
set_option maxHeartbeats 0
noncomputable section
variable (A:Nat) (B:Nat→Nat→Int) (I:Nat) (J:Nat→Nat→Int) (n:Nat) (M:Nat→Nat) (f:Nat→Nat→Nat→Int)
def pkZ (g:Nat→Nat→Int) (i _:Nat):Int:=g i 0+0
def pkP (g:Nat→Nat→Int) (k:Nat) (t:Nat→Nat→Int) (i _:Nat):Int:=g i 0+Int.tmod (t (Int.toNat (Int.tmod ((i:Nat):Int) ((k:Nat):Int))) 0) (g i 1-g i 0+1)
def pkF (g:Nat→Nat→Int) (k:Nat) (t:Nat→Nat→Int):Nat→Nat→Int:=cond (Nat.beq k 0) (pkZ g) (pkP g k t)
def eqC (c:Nat→Nat→V) (g:Nat→Nat→Int):Bool:=@decide (c=ae .i64 g) (Classical.propDecidable _)
def Y4 (g:Nat→Nat→Int) (r:Option (Bool×V)):Option (Bool×V):=match r with | some (b,.fz q a c n e)=>some (cond b (eqC c g) false,.fz q a (ae .i64 g) n e) | _=>none
def eqX (g:Nat→Nat→Int) (h:CF):CF:=fun args H=>Y4 g (h args H)
def YH (g:Nat→Nat→Int) (r:Option (Bool×V)):Option (Bool×V):=match r with | some (b,.tup [.fz q a c n e,y])=>some (cond b (eqC c g) false,.tup [.fz q a (ae .i64 g) n e,y]) | _=>none
def eqY (g:Nat→Nat→Int) (h:CF):CF:=fun args H=>YH g (h args H)
def XPk (g:Nat→Nat→Int):Ext:=jy [(48,eqX g (cfS Go.Proofs.YtpfcfonplmhmiaaGreat.valRs))] false
theorem dL (g:Nat→Nat→Int):eqC (ae .i64 g) g=true:=@decide_eq_true _ (Classical.propDecidable _) rfl
theorem Me {c:Nat→Nat→V} {g:Nat→Nat→Int} (h:eqC c g=true):c=ae .i64 g:=@of_decide_eq_true _ (Classical.propDecidable _) h
theorem Sz {P:Program} {f:FuncId} {h:CF} (g:Nat→Nat→Int) (k:jl P (f,h)):jl P (f,eqX g h):=fun args H v hv=>by
 have hv:Y4 g (h args H)=some (true,v):=hv
 unfold Y4 at hv
 split at hv
 ·rename_i b q a c n e hr
  have hb:=congrArg Prod.fst (Option.some.inj hv)
  have hw:=congrArg Prod.snd (Option.some.inj hv)
  obtain ⟨b1,b2⟩:=ah hb
  have:=Me b2
  subst this
  subst b1
  exact k args H v (hr.trans (congrArg (fun z=>some (true,z)) hw))
 ·cases hv
theorem X4 {P:Program} {f:FuncId} {h:CF} (g:Nat→Nat→Int) (k:jl P (f,h)):jl P (f,eqY g h):=fun args H v hv=>by
 have hv:YH g (h args H)=some (true,v):=hv
 unfold YH at hv
 split at hv
 ·rename_i b q a c n e y hr
  have hb:=congrArg Prod.fst (Option.some.inj hv)
  have hw:=congrArg Prod.snd (Option.some.inj hv)
  obtain ⟨b1,b2⟩:=ah hb
  have:=Me b2
  subst this
  subst b1
  exact k args H v (hr.trans (congrArg (fun z=>some (true,z)) hw))
 ·cases hv
theorem kG (g:Nat→Nat→Int):dE Tryz.prog (XPk g):=dG (ay (Sz g (kP Go.Proofs.YtpfcfonplmhmiaaGreat.conRs)) bn)
theorem pz1 (r:Int) (E:Nat→Nat→Int) (t g:Nat→Nat→Int) (h:dS A I n M=true) (h2:dO A B I J n M f r 1 E=0) (c1:aK A B I J n M f=0) (c3:gI A B I J E 1=true) (eg:eqC (ae .i64 (fC A B I J f E)) g=true) (s0:0≤g 0 0∧g 0 0≤g 0 1∧g 0 1≤2000):VC (aC Tryz.prog (XPk g) 900 18 [.agg 5 (T.setL .lf 0 (eY [.sl 1 A B,.sl 1 I J,.rr 1 n M f,.i .i64 r,.sl 5 1 E] 0)),.fz true 4 (ae .u16 t) 0 1] 5 (fun v H=>bY 5 H v 1 1 (pkZ g))) (.go 1281 .nil):=ai (((cond (cond (cond (aN 2 A B I J n M f) true false) (cond (aP (aK A B I J n M f) 0) (cond true (gI A B I J E 1) false) false) false) (BL.eqC (ae .i64 (fC A B I J f E)) g) false)=true∧((small ((g 0 0)+0))=true∧(((((1:Nat):Int):Int)=1)∧((((((g 0 0)+0):Int)=((g 0 0)+0))∧True)∧True)))))
theorem pp1 (r:Int) (E:Nat→Nat→Int) (k:Nat) (t g:Nat→Nat→Int) (h:dS A I n M=true) (h2:dO A B I J n M f r 1 E=0) (c1:aK A B I J n M f=0) (c3:gI A B I J E 1=true) (eg:eqC (ae .i64 (fC A B I J f E)) g=true) (k0:0<k) (z0:0%k<k) (s0:0≤g 0 0∧g 0 0≤g 0 1∧g 0 1≤2000) (j0:(0≤(0:Int)∧(0:Int)<k)∧(0≤(t 0 0)∧(t 0 0)≤65535)∧0≤Int.tmod (t 0 0) (g 0 1-g 0 0+1)∧Int.tmod (t 0 0) (g 0 1-g 0 0+1)≤2000):VC (aC Tryz.prog (XPk g) 900 18 [.agg 5 (T.setL .lf 0 (eY [.sl 1 A B,.sl 1 I J,.rr 1 n M f,.i .i64 r,.sl 5 1 E] 0)),.fz true 4 (ae .u16 t) k 1] 5 (fun v H=>bY 5 H v 1 1 (pkP g k t))) (.go 86312337 .nil):=ai (((cond (cond (cond (aN 2 A B I J n M f) true false) (cond (aP (aK A B I J n M f) 0) (cond true (gI A B I J E 1) false) false) false) (BL.eqC (ae .i64 (fC A B I J f E)) g) false)=true∧((not (ak (k:Int) 0))=true∧((aP (k:Int) 0)=false∧((Nat.blt (0%k) k)=true∧((small (t 0 0))=true∧((small ((g 0 1)-(g 0 0)))=true∧((small (((g 0 1)-(g 0 0))+1))=true∧((aP (((g 0 1)-(g 0 0))+1) 0)=false∧((small ((g 0 0)+(Int.tmod (t 0 0) (((g 0 1)-(g 0 0))+1))))=true∧(((((1:Nat):Int):Int)=1)∧((((((g 0 0)+(Int.tmod (t 0 0) (((g 0 1)-(g 0 0))+1))):Int)=((g 0 0)+(Int.tmod (t 0 0) (((g 0 1)-(g 0 0))+1))))∧True)∧True))))))))))))
theorem pz2 (r:Int) (E:Nat→Nat→Int) (t g:Nat→Nat→Int) (h:dS A I n M=true) (h2:dO A B I J n M f r 2 E=0) (c1:aK A B I J n M f=0) (c3:gI A B I J E 2=true) (eg:eqC (ae .i64 (fC A B I J f E)) g=true) (s0:0≤g 0 0∧g 0 0≤g 0 1∧g 0 1≤2000) (s1:0≤g 1 0∧g 1 0≤g 1 1∧g 1 1≤2000):VC (aC Tryz.prog (XPk g) 900 18 [.agg 5 (T.setL .lf 0 (eY [.sl 1 A B,.sl 1 I J,.rr 1 n M f,.i .i64 r,.sl 5 2 E] 0)),.fz true 4 (ae .u16 t) 0 1] 5 (fun v H=>bY 5 H v 2 1 (pkZ g))) (.go 1310977 .nil):=ai (((cond (cond (cond (aN 2 A B I J n M f) true false) (cond (aP (aK A B I J n M f) 0) (cond true (gI A B I J E 2) false) false) false) (BL.eqC (ae .i64 (fC A B I J f E)) g) false)=true∧((small ((g 0 0)+0))=true∧((small ((g 1 0)+0))=true∧((((((1+1):Nat):Int):Int)=2)∧((((((g 0 0)+0):Int)=((g 0 0)+0))∧True)∧((((((g 1 0)+0):Int)=((g 1 0)+0))∧True)∧True)))))))
theorem pp2 (r:Int) (E:Nat→Nat→Int) (k:Nat) (t g:Nat→Nat→Int) (h:dS A I n M=true) (h2:dO A B I J n M f r 2 E=0) (c1:aK A B I J n M f=0) (c3:gI A B I J E 2=true) (eg:eqC (ae .i64 (fC A B I J f E)) g=true) (k0:0<k) (z0:0%k<k) (s0:0≤g 0 0∧g 0 0≤g 0 1∧g 0 1≤2000) (s1:0≤g 1 0∧g 1 0≤g 1 1∧g 1 1≤2000) (j0:(0≤(0:Int)∧(0:Int)<k)∧(0≤(t 0 0)∧(t 0 0)≤65535)∧0≤Int.tmod (t 0 0) (g 0 1-g 0 0+1)∧Int.tmod (t 0 0) (g 0 1-g 0 0+1)≤2000) (j1:(0≤((1%k:Nat):Int)∧((1%k:Nat):Int)<k)∧(0≤(t (1%k) 0)∧(t (1%k) 0)≤65535)∧0≤Int.tmod (t (1%k) 0) (g 1 1-g 1 0+1)∧Int.tmod (t (1%k) 0) (g 1 1-g 1 0+1)≤2000):VC (aC Tryz.prog (XPk g) 900 18 [.agg 5 (T.setL .lf 0 (eY [.sl 1 A B,.sl 1 I J,.rr 1 n M f,.i .i64 r,.sl 5 2 E] 0)),.fz true 4 (ae .u16 t) k 1] 5 (fun v H=>bY 5 H v 2 1 (pkP g k t))) (.go 5792322837349777 .nil):=ai (((cond (cond (cond (aN 2 A B I J n M f) true false) (cond (aP (aK A B I J n M f) 0) (cond true (gI A B I J E 2) false) false) false) (BL.eqC (ae .i64 (fC A B I J f E)) g) false)=true∧((not (ak (k:Int) 0))=true∧((aP (k:Int) 0)=false∧((Nat.blt (0%k) k)=true∧((small (t 0 0))=true∧((small ((g 0 1)-(g 0 0)))=true∧((small (((g 0 1)-(g 0 0))+1))=true∧((aP (((g 0 1)-(g 0 0))+1) 0)=false∧((small ((g 0 0)+(Int.tmod (t 0 0) (((g 0 1)-(g 0 0))+1))))=true∧((not (ak (k:Int) 0))=true∧((aP (k:Int) 0)=false∧((Nat.blt (1%k) k)=true∧((small (t (1%k) 0))=true∧((small ((g 1 1)-(g 1 0)))=true∧((small (((g 1 1)-(g 1 0))+1))=true∧((aP (((g 1 1)-(g 1 0))+1) 0)=false∧((small ((g 1 0)+(Int.tmod (t (1%k) 0) (((g 1 1)-(g 1 0))+1))))=true∧((((((1+1):Nat):Int):Int)=2)∧((((((g 0 0)+(Int.tmod (t 0 0) (((g 0 1)-(g 0 0))+1))):Int)=((g 0 0)+(Int.tmod (t 0 0) (((g 0 1)-(g 0 0))+1))))∧True)∧((((((g 1 0)+(Int.tmod (t (1%k) 0) (((g 1 1)-(g 1 0))+1))):Int)=((g 1 0)+(Int.tmod (t (1%k) 0) (((g 1 1)-(g 1 0))+1))))∧True)∧True)))))))))))))))))))))
theorem pz3 (r:Int) (E:Nat→Nat→Int) (t g:Nat→Nat→Int) (h:dS A I n M=true) (h2:dO A B I J n M f r 3 E=0) (c1:aK A B I J n M f=0) (c3:gI A B I J E 3=true) (eg:eqC (ae .i64 (fC A B I J f E)) g=true) (s0:0≤g 0 0∧g 0 0≤g 0 1∧g 0 1≤2000) (s1:0≤g 1 0∧g 1 0≤g 1 1∧g 1 1≤2000) (s2:0≤g 2 0∧g 2 0≤g 2 1∧g 2 1≤2000):VC (aC Tryz.prog (XPk g) 900 18 [.agg 5 (T.setL .lf 0 (eY [.sl 1 A B,.sl 1 I J,.rr 1 n M f,.i .i64 r,.sl 5 3 E] 0)),.fz true 4 (ae .u16 t) 0 1] 5 (fun v H=>bY 5 H v 3 1 (pkZ g))) (.go 21475098881 .nil):=ai (((cond (cond (cond (aN 2 A B I J n M f) true false) (cond (aP (aK A B I J n M f) 0) (cond true (gI A B I J E 3) false) false) false) (BL.eqC (ae .i64 (fC A B I J f E)) g) false)=true∧((small ((g 0 0)+0))=true∧((small ((g 1 0)+0))=true∧((small ((g 2 0)+0))=true∧(((((((1+1)+1):Nat):Int):Int)=3)∧((((((g 0 0)+0):Int)=((g 0 0)+0))∧True)∧((((((g 1 0)+0):Int)=((g 1 0)+0))∧True)∧((((((g 2 0)+0):Int)=((g 2 0)+0))∧True)∧True)))))))))
theorem pp3 (r:Int) (E:Nat→Nat→Int) (k:Nat) (t g:Nat→Nat→Int) (h:dS A I n M=true) (h2:dO A B I J n M f r 3 E=0) (c1:aK A B I J n M f=0) (c3:gI A B I J E 3=true) (eg:eqC (ae .i64 (fC A B I J f E)) g=true) (k0:0<k) (z0:0%k<k) (s0:0≤g 0 0∧g 0 0≤g 0 1∧g 0 1≤2000) (s1:0≤g 1 0∧g 1 0≤g 1 1∧g 1 1≤2000) (s2:0≤g 2 0∧g 2 0≤g 2 1∧g 2 1≤2000) (j0:(0≤(0:Int)∧(0:Int)<k)∧(0≤(t 0 0)∧(t 0 0)≤65535)∧0≤Int.tmod (t 0 0) (g 0 1-g 0 0+1)∧Int.tmod (t 0 0) (g 0 1-g 0 0+1)≤2000) (j1:(0≤((1%k:Nat):Int)∧((1%k:Nat):Int)<k)∧(0≤(t (1%k) 0)∧(t (1%k) 0)≤65535)∧0≤Int.tmod (t (1%k) 0) (g 1 1-g 1 0+1)∧Int.tmod (t (1%k) 0) (g 1 1-g 1 0+1)≤2000) (j2:(0≤((2%k:Nat):Int)∧((2%k:Nat):Int)<k)∧(0≤(t (2%k) 0)∧(t (2%k) 0)≤65535)∧0≤Int.tmod (t (2%k) 0) (g 2 1-g 2 0+1)∧Int.tmod (t (2%k) 0) (g 2 1-g 2 0+1)≤2000):VC (aC Tryz.prog (XPk g) 900 18 [.agg 5 (T.setL .lf 0 (eY [.sl 1 A B,.sl 1 I J,.rr 1 n M f,.i .i64 r,.sl 5 3 E] 0)),.fz true 4 (ae .u16 t) k 1] 5 (fun v H=>bY 5 H v 3 1 (pkP g k t))) (.go 6219459269241955965797777 .nil):=ai (((cond (cond (cond (aN 2 A B I J n M f) true false) (cond (aP (aK A B I J n M f) 0) (cond true (gI A B I J E 3) false) false) false) (BL.eqC (ae .i64 (fC A B I J f E)) g) false)=true∧((not (ak (k:Int) 0))=true∧((aP (k:Int) 0)=false∧((Nat.blt (0%k) k)=true∧((small (t 0 0))=true∧((small ((g 0 1)-(g 0 0)))=true∧((small (((g 0 1)-(g 0 0))+1))=true∧((aP (((g 0 1)-(g 0 0))+1) 0)=false∧((small ((g 0 0)+(Int.tmod (t 0 0) (((g 0 1)-(g 0 0))+1))))=true∧((not (ak (k:Int) 0))=true∧((aP (k:Int) 0)=false∧((Nat.blt (1%k) k)=true∧((small (t (1%k) 0))=true∧((small ((g 1 1)-(g 1 0)))=true∧((small (((g 1 1)-(g 1 0))+1))=true∧((aP (((g 1 1)-(g 1 0))+1) 0)=false∧((small ((g 1 0)+(Int.tmod (t (1%k) 0) (((g 1 1)-(g 1 0))+1))))=true∧((not (ak (k:Int) 0))=true∧((aP (k:Int) 0)=false∧((Nat.blt (2%k) k)=true∧((small (t (2%k) 0))=true∧((small ((g 2 1)-(g 2 0)))=true∧((small (((g 2 1)-(g 2 0))+1))=true∧((aP (((g 2 1)-(g 2 0))+1) 0)=false∧((small ((g 2 0)+(Int.tmod (t (2%k) 0) (((g 2 1)-(g 2 0))+1))))=true∧(((((((1+1)+1):Nat):Int):Int)=3)∧((((((g 0 0)+(Int.tmod (t 0 0) (((g 0 1)-(g 0 0))+1))):Int)=((g 0 0)+(Int.tmod (t 0 0) (((g 0 1)-(g 0 0))+1))))∧True)∧((((((g 1 0)+(Int.tmod (t (1%k) 0) (((g 1 1)-(g 1 0))+1))):Int)=((g 1 0)+(Int.tmod (t (1%k) 0) (((g 1 1)-(g 1 0))+1))))∧True)∧((((((g 2 0)+(Int.tmod (t (2%k) 0) (((g 2 1)-(g 2 0))+1))):Int)=((g 2 0)+(Int.tmod (t (2%k) 0) (((g 2 1)-(g 2 0))+1))))∧True)∧True))))))))))))))))))))))))))))))
theorem pz4 (r:Int) (E:Nat→Nat→Int) (t g:Nat→Nat→Int) (h:dS A I n M=true) (h2:dO A B I J n M f r 4 E=0) (c1:aK A B I J n M f=0) (c3:gI A B I J E 4=true) (eg:eqC (ae .i64 (fC A B I J f E)) g=true) (s0:0≤g 0 0∧g 0 0≤g 0 1∧g 0 1≤2000) (s1:0≤g 1 0∧g 1 0≤g 1 1∧g 1 1≤2000) (s2:0≤g 2 0∧g 2 0≤g 2 1∧g 2 1≤2000) (s3:0≤g 3 0∧g 3 0≤g 3 1∧g 3 1≤2000):VC (aC Tryz.prog (XPk g) 900 18 [.agg 5 (T.setL .lf 0 (eY [.sl 1 A B,.sl 1 I J,.rr 1 n M f,.i .i64 r,.sl 5 4 E] 0)),.fz true 4 (ae .u16 t) 0 1] 5 (fun v H=>bY 5 H v 4 1 (pkZ g))) (.go 351848016118017 .nil):=ai (((cond (cond (cond (aN 2 A B I J n M f) true false) (cond (aP (aK A B I J n M f) 0) (cond true (gI A B I J E 4) false) false) false) (BL.eqC (ae .i64 (fC A B I J f E)) g) false)=true∧((small ((g 0 0)+0))=true∧((small ((g 1 0)+0))=true∧((small ((g 2 0)+0))=true∧((small ((g 3 0)+0))=true∧((((((((1+1)+1)+1):Nat):Int):Int)=4)∧((((((g 0 0)+0):Int)=((g 0 0)+0))∧True)∧((((((g 1 0)+0):Int)=((g 1 0)+0))∧True)∧((((((g 2 0)+0):Int)=((g 2 0)+0))∧True)∧((((((g 3 0)+0):Int)=((g 3 0)+0))∧True)∧True)))))))))))
theorem pp4 (r:Int) (E:Nat→Nat→Int) (k:Nat) (t g:Nat→Nat→Int) (h:dS A I n M=true) (h2:dO A B I J n M f r 4 E=0) (c1:aK A B I J n M f=0) (c3:gI A B I J E 4=true) (eg:eqC (ae .i64 (fC A B I J f E)) g=true) (k0:0<k) (z0:0%k<k) (s0:0≤g 0 0∧g 0 0≤g 0 1∧g 0 1≤2000) (s1:0≤g 1 0∧g 1 0≤g 1 1∧g 1 1≤2000) (s2:0≤g 2 0∧g 2 0≤g 2 1∧g 2 1≤2000) (s3:0≤g 3 0∧g 3 0≤g 3 1∧g 3 1≤2000) (j0:(0≤(0:Int)∧(0:Int)<k)∧(0≤(t 0 0)∧(t 0 0)≤65535)∧0≤Int.tmod (t 0 0) (g 0 1-g 0 0+1)∧Int.tmod (t 0 0) (g 0 1-g 0 0+1)≤2000) (j1:(0≤((1%k:Nat):Int)∧((1%k:Nat):Int)<k)∧(0≤(t (1%k) 0)∧(t (1%k) 0)≤65535)∧0≤Int.tmod (t (1%k) 0) (g 1 1-g 1 0+1)∧Int.tmod (t (1%k) 0) (g 1 1-g 1 0+1)≤2000) (j2:(0≤((2%k:Nat):Int)∧((2%k:Nat):Int)<k)∧(0≤(t (2%k) 0)∧(t (2%k) 0)≤65535)∧0≤Int.tmod (t (2%k) 0) (g 2 1-g 2 0+1)∧Int.tmod (t (2%k) 0) (g 2 1-g 2 0+1)≤2000) (j3:(0≤((3%k:Nat):Int)∧((3%k:Nat):Int)<k)∧(0≤(t (3%k) 0)∧(t (3%k) 0)≤65535)∧0≤Int.tmod (t (3%k) 0) (g 3 1-g 3 0+1)∧Int.tmod (t (3%k) 0) (g 3 1-g 3 0+1)≤2000):VC (aC Tryz.prog (XPk g) 900 18 [.agg 5 (T.setL .lf 0 (eY [.sl 1 A B,.sl 1 I J,.rr 1 n M f,.i .i64 r,.sl 5 4 E] 0)),.fz true 4 (ae .u16 t) k 1] 5 (fun v H=>bY 5 H v 4 1 (pkP g k t))) (.go 6678093540049564876712537774949777 .nil):=ai (((cond (cond (cond (aN 2 A B I J n M f) true false) (cond (aP (aK A B I J n M f) 0) (cond true (gI A B I J E 4) false) false) false) (BL.eqC (ae .i64 (fC A B I J f E)) g) false)=true∧((not (ak (k:Int) 0))=true∧((aP (k:Int) 0)=false∧((Nat.blt (0%k) k)=true∧((small (t 0 0))=true∧((small ((g 0 1)-(g 0 0)))=true∧((small (((g 0 1)-(g 0 0))+1))=true∧((aP (((g 0 1)-(g 0 0))+1) 0)=false∧((small ((g 0 0)+(Int.tmod (t 0 0) (((g 0 1)-(g 0 0))+1))))=true∧((not (ak (k:Int) 0))=true∧((aP (k:Int) 0)=false∧((Nat.blt (1%k) k)=true∧((small (t (1%k) 0))=true∧((small ((g 1 1)-(g 1 0)))=true∧((small (((g 1 1)-(g 1 0))+1))=true∧((aP (((g 1 1)-(g 1 0))+1) 0)=false∧((small ((g 1 0)+(Int.tmod (t (1%k) 0) (((g 1 1)-(g 1 0))+1))))=true∧((not (ak (k:Int) 0))=true∧((aP (k:Int) 0)=false∧((Nat.blt (2%k) k)=true∧((small (t (2%k) 0))=true∧((small ((g 2 1)-(g 2 0)))=true∧((small (((g 2 1)-(g 2 0))+1))=true∧((aP (((g 2 1)-(g 2 0))+1) 0)=false∧((small ((g 2 0)+(Int.tmod (t (2%k) 0) (((g 2 1)-(g 2 0))+1))))=true∧((not (ak (k:Int) 0))=true∧((aP (k:Int) 0)=false∧((Nat.blt (3%k) k)=true∧((small (t (3%k) 0))=true∧((small ((g 3 1)-(g 3 0)))=true∧((small (((g 3 1)-(g 3 0))+1))=true∧((aP (((g 3 1)-(g 3 0))+1) 0)=false∧((small ((g 3 0)+(Int.tmod (t (3%k) 0) (((g 3 1)-(g 3 0))+1))))=true∧((((((((1+1)+1)+1):Nat):Int):Int)=4)∧((((((g 0 0)+(Int.tmod (t 0 0) (((g 0 1)-(g 0 0))+1))):Int)=((g 0 0)+(Int.tmod (t 0 0) (((g 0 1)-(g 0 0))+1))))∧True)∧((((((g 1 0)+(Int.tmod (t (1%k) 0) (((g 1 1)-(g 1 0))+1))):Int)=((g 1 0)+(Int.tmod (t (1%k) 0) (((g 1 1)-(g 1 0))+1))))∧True)∧((((((g 2 0)+(Int.tmod (t (2%k) 0) (((g 2 1)-(g 2 0))+1))):Int)=((g 2 0)+(Int.tmod (t (2%k) 0) (((g 2 1)-(g 2 0))+1))))∧True)∧((((((g 3 0)+(Int.tmod (t (3%k) 0) (((g 3 1)-(g 3 0))+1))):Int)=((g 3 0)+(Int.tmod (t (3%k) 0) (((g 3 1)-(g 3 0))+1))))∧True)∧True)))))))))))))))))))))))))))))))))))))))
theorem pz5 (r:Int) (E:Nat→Nat→Int) (t g:Nat→Nat→Int) (h:dS A I n M=true) (h2:dO A B I J n M f r 5 E=0) (c1:aK A B I J n M f=0) (c3:gI A B I J E 5=true) (eg:eqC (ae .i64 (fC A B I J f E)) g=true) (s0:0≤g 0 0∧g 0 0≤g 0 1∧g 0 1≤2000) (s1:0≤g 1 0∧g 1 0≤g 1 1∧g 1 1≤2000) (s2:0≤g 2 0∧g 2 0≤g 2 1∧g 2 1≤2000) (s3:0≤g 3 0∧g 3 0≤g 3 1∧g 3 1≤2000) (s4:0≤g 4 0∧g 4 0≤g 4 1∧g 4 1≤2000):VC (aC Tryz.prog (XPk g) 900 18 [.agg 5 (T.setL .lf 0 (eY [.sl 1 A B,.sl 1 I J,.rr 1 n M f,.i .i64 r,.sl 5 5 E] 0)),.fz true 4 (ae .u16 t) 0 1] 5 (fun v H=>bY 5 H v 5 1 (pkZ g))) (.go 5764677896073642241 .nil):=ai (((cond (cond (cond (aN 2 A B I J n M f) true false) (cond (aP (aK A B I J n M f) 0) (cond true (gI A B I J E 5) false) false) false) (BL.eqC (ae .i64 (fC A B I J f E)) g) false)=true∧((small ((g 0 0)+0))=true∧((small ((g 1 0)+0))=true∧((small ((g 2 0)+0))=true∧((small ((g 3 0)+0))=true∧((small ((g 4 0)+0))=true∧(((((((((1+1)+1)+1)+1):Nat):Int):Int)=5)∧((((((g 0 0)+0):Int)=((g 0 0)+0))∧True)∧((((((g 1 0)+0):Int)=((g 1 0)+0))∧True)∧((((((g 2 0)+0):Int)=((g 2 0)+0))∧True)∧((((((g 3 0)+0):Int)=((g 3 0)+0))∧True)∧((((((g 4 0)+0):Int)=((g 4 0)+0))∧True)∧True)))))))))))))
theorem pp5 (r:Int) (E:Nat→Nat→Int) (k:Nat) (t g:Nat→Nat→Int) (h:dS A I n M=true) (h2:dO A B I J n M f r 5 E=0) (c1:aK A B I J n M f=0) (c3:gI A B I J E 5=true) (eg:eqC (ae .i64 (fC A B I J f E)) g=true) (k0:0<k) (z0:0%k<k) (s0:0≤g 0 0∧g 0 0≤g 0 1∧g 0 1≤2000) (s1:0≤g 1 0∧g 1 0≤g 1 1∧g 1 1≤2000) (s2:0≤g 2 0∧g 2 0≤g 2 1∧g 2 1≤2000) (s3:0≤g 3 0∧g 3 0≤g 3 1∧g 3 1≤2000) (s4:0≤g 4 0∧g 4 0≤g 4 1∧g 4 1≤2000) (j0:(0≤(0:Int)∧(0:Int)<k)∧(0≤(t 0 0)∧(t 0 0)≤65535)∧0≤Int.tmod (t 0 0) (g 0 1-g 0 0+1)∧Int.tmod (t 0 0) (g 0 1-g 0 0+1)≤2000) (j1:(0≤((1%k:Nat):Int)∧((1%k:Nat):Int)<k)∧(0≤(t (1%k) 0)∧(t (1%k) 0)≤65535)∧0≤Int.tmod (t (1%k) 0) (g 1 1-g 1 0+1)∧Int.tmod (t (1%k) 0) (g 1 1-g 1 0+1)≤2000) (j2:(0≤((2%k:Nat):Int)∧((2%k:Nat):Int)<k)∧(0≤(t (2%k) 0)∧(t (2%k) 0)≤65535)∧0≤Int.tmod (t (2%k) 0) (g 2 1-g 2 0+1)∧Int.tmod (t (2%k) 0) (g 2 1-g 2 0+1)≤2000) (j3:(0≤((3%k:Nat):Int)∧((3%k:Nat):Int)<k)∧(0≤(t (3%k) 0)∧(t (3%k) 0)≤65535)∧0≤Int.tmod (t (3%k) 0) (g 3 1-g 3 0+1)∧Int.tmod (t (3%k) 0) (g 3 1-g 3 0+1)≤2000) (j4:(0≤((4%k:Nat):Int)∧((4%k:Nat):Int)<k)∧(0≤(t (4%k) 0)∧(t (4%k) 0)≤65535)∧0≤Int.tmod (t (4%k) 0) (g 4 1-g 4 0+1)∧Int.tmod (t (4%k) 0) (g 4 1-g 4 0+1)≤2000):VC (aC Tryz.prog (XPk g) 900 18 [.agg 5 (T.setL .lf 0 (eY [.sl 1 A B,.sl 1 I J,.rr 1 n M f,.i .i64 r,.sl 5 5 E] 0)),.fz true 4 (ae .u16 t) k 1] 5 (fun v H=>bY 5 H v 5 1 (pkP g k t))) (.go 7170548338535436841127655414812626148197777 .nil):=ai (((cond (cond (cond (aN 2 A B I J n M f) true false) (cond (aP (aK A B I J n M f) 0) (cond true (gI A B I J E 5) false) false) false) (BL.eqC (ae .i64 (fC A B I J f E)) g) false)=true∧((not (ak (k:Int) 0))=true∧((aP (k:Int) 0)=false∧((Nat.blt (0%k) k)=true∧((small (t 0 0))=true∧((small ((g 0 1)-(g 0 0)))=true∧((small (((g 0 1)-(g 0 0))+1))=true∧((aP (((g 0 1)-(g 0 0))+1) 0)=false∧((small ((g 0 0)+(Int.tmod (t 0 0) (((g 0 1)-(g 0 0))+1))))=true∧((not (ak (k:Int) 0))=true∧((aP (k:Int) 0)=false∧((Nat.blt (1%k) k)=true∧((small (t (1%k) 0))=true∧((small ((g 1 1)-(g 1 0)))=true∧((small (((g 1 1)-(g 1 0))+1))=true∧((aP (((g 1 1)-(g 1 0))+1) 0)=false∧((small ((g 1 0)+(Int.tmod (t (1%k) 0) (((g 1 1)-(g 1 0))+1))))=true∧((not (ak (k:Int) 0))=true∧((aP (k:Int) 0)=false∧((Nat.blt (2%k) k)=true∧((small (t (2%k) 0))=true∧((small ((g 2 1)-(g 2 0)))=true∧((small (((g 2 1)-(g 2 0))+1))=true∧((aP (((g 2 1)-(g 2 0))+1) 0)=false∧((small ((g 2 0)+(Int.tmod (t (2%k) 0) (((g 2 1)-(g 2 0))+1))))=true∧((not (ak (k:Int) 0))=true∧((aP (k:Int) 0)=false∧((Nat.blt (3%k) k)=true∧((small (t (3%k) 0))=true∧((small ((g 3 1)-(g 3 0)))=true∧((small (((g 3 1)-(g 3 0))+1))=true∧((aP (((g 3 1)-(g 3 0))+1) 0)=false∧((small ((g 3 0)+(Int.tmod (t (3%k) 0) (((g 3 1)-(g 3 0))+1))))=true∧((not (ak (k:Int) 0))=true∧((aP (k:Int) 0)=false∧((Nat.blt (4%k) k)=true∧((small (t (4%k) 0))=true∧((small ((g 4 1)-(g 4 0)))=true∧((small (((g 4 1)-(g 4 0))+1))=true∧((aP (((g 4 1)-(g 4 0))+1) 0)=false∧((small ((g 4 0)+(Int.tmod (t (4%k) 0) (((g 4 1)-(g 4 0))+1))))=true∧(((((((((1+1)+1)+1)+1):Nat):Int):Int)=5)∧((((((g 0 0)+(Int.tmod (t 0 0) (((g 0 1)-(g 0 0))+1))):Int)=((g 0 0)+(Int.tmod (t 0 0) (((g 0 1)-(g 0 0))+1))))∧True)∧((((((g 1 0)+(Int.tmod (t (1%k) 0) (((g 1 1)-(g 1 0))+1))):Int)=((g 1 0)+(Int.tmod (t (1%k) 0) (((g 1 1)-(g 1 0))+1))))∧True)∧((((((g 2 0)+(Int.tmod (t (2%k) 0) (((g 2 1)-(g 2 0))+1))):Int)=((g 2 0)+(Int.tmod (t (2%k) 0) (((g 2 1)-(g 2 0))+1))))∧True)∧((((((g 3 0)+(Int.tmod (t (3%k) 0) (((g 3 1)-(g 3 0))+1))):Int)=((g 3 0)+(Int.tmod (t (3%k) 0) (((g 3 1)-(g 3 0))+1))))∧True)∧((((((g 4 0)+(Int.tmod (t (4%k) 0) (((g 4 1)-(g 4 0))+1))):Int)=((g 4 0)+(Int.tmod (t (4%k) 0) (((g 4 1)-(g 4 0))+1))))∧True)∧True))))))))))))))))))))))))))))))))))))))))))))))))
theorem pz6 (r:Int) (E:Nat→Nat→Int) (t g:Nat→Nat→Int) (h:dS A I n M=true) (h2:dO A B I J n M f r 6 E=0) (c1:aK A B I J n M f=0) (c3:gI A B I J E 6=true) (eg:eqC (ae .i64 (fC A B I J f E)) g=true) (s0:0≤g 0 0∧g 0 0≤g 0 1∧g 0 1≤2000) (s1:0≤g 1 0∧g 1 0≤g 1 1∧g 1 1≤2000) (s2:0≤g 2 0∧g 2 0≤g 2 1∧g 2 1≤2000) (s3:0≤g 3 0∧g 3 0≤g 3 1∧g 3 1≤2000) (s4:0≤g 4 0∧g 4 0≤g 4 1∧g 4 1≤2000) (s5:0≤g 5 0∧g 5 0≤g 5 1∧g 5 1≤2000):VC (aC Tryz.prog (XPk g) 900 18 [.agg 5 (T.setL .lf 0 (eY [.sl 1 A B,.sl 1 I J,.rr 1 n M f,.i .i64 r,.sl 5 6 E] 0)),.fz true 4 (ae .u16 t) 0 1] 5 (fun v H=>bY 5 H v 6 1 (pkZ g))) (.go 94448482649270550528257 .nil):=ai (((cond (cond (cond (aN 2 A B I J n M f) true false) (cond (aP (aK A B I J n M f) 0) (cond true (gI A B I J E 6) false) false) false) (BL.eqC (ae .i64 (fC A B I J f E)) g) false)=true∧((small ((g 0 0)+0))=true∧((small ((g 1 0)+0))=true∧((small ((g 2 0)+0))=true∧((small ((g 3 0)+0))=true∧((small ((g 4 0)+0))=true∧((small ((g 5 0)+0))=true∧((((((((((1+1)+1)+1)+1)+1):Nat):Int):Int)=6)∧((((((g 0 0)+0):Int)=((g 0 0)+0))∧True)∧((((((g 1 0)+0):Int)=((g 1 0)+0))∧True)∧((((((g 2 0)+0):Int)=((g 2 0)+0))∧True)∧((((((g 3 0)+0):Int)=((g 3 0)+0))∧True)∧((((((g 4 0)+0):Int)=((g 4 0)+0))∧True)∧((((((g 5 0)+0):Int)=((g 5 0)+0))∧True)∧True)))))))))))))))
theorem pp6 (r:Int) (E:Nat→Nat→Int) (k:Nat) (t g:Nat→Nat→Int) (h:dS A I n M=true) (h2:dO A B I J n M f r 6 E=0) (c1:aK A B I J n M f=0) (c3:gI A B I J E 6=true) (eg:eqC (ae .i64 (fC A B I J f E)) g=true) (k0:0<k) (z0:0%k<k) (s0:0≤g 0 0∧g 0 0≤g 0 1∧g 0 1≤2000) (s1:0≤g 1 0∧g 1 0≤g 1 1∧g 1 1≤2000) (s2:0≤g 2 0∧g 2 0≤g 2 1∧g 2 1≤2000) (s3:0≤g 3 0∧g 3 0≤g 3 1∧g 3 1≤2000) (s4:0≤g 4 0∧g 4 0≤g 4 1∧g 4 1≤2000) (s5:0≤g 5 0∧g 5 0≤g 5 1∧g 5 1≤2000) (j0:(0≤(0:Int)∧(0:Int)<k)∧(0≤(t 0 0)∧(t 0 0)≤65535)∧0≤Int.tmod (t 0 0) (g 0 1-g 0 0+1)∧Int.tmod (t 0 0) (g 0 1-g 0 0+1)≤2000) (j1:(0≤((1%k:Nat):Int)∧((1%k:Nat):Int)<k)∧(0≤(t (1%k) 0)∧(t (1%k) 0)≤65535)∧0≤Int.tmod (t (1%k) 0) (g 1 1-g 1 0+1)∧Int.tmod (t (1%k) 0) (g 1 1-g 1 0+1)≤2000) (j2:(0≤((2%k:Nat):Int)∧((2%k:Nat):Int)<k)∧(0≤(t (2%k) 0)∧(t (2%k) 0)≤65535)∧0≤Int.tmod (t (2%k) 0) (g 2 1-g 2 0+1)∧Int.tmod (t (2%k) 0) (g 2 1-g 2 0+1)≤2000) (j3:(0≤((3%k:Nat):Int)∧((3%k:Nat):Int)<k)∧(0≤(t (3%k) 0)∧(t (3%k) 0)≤65535)∧0≤Int.tmod (t (3%k) 0) (g 3 1-g 3 0+1)∧Int.tmod (t (3%k) 0) (g 3 1-g 3 0+1)≤2000) (j4:(0≤((4%k:Nat):Int)∧((4%k:Nat):Int)<k)∧(0≤(t (4%k) 0)∧(t (4%k) 0)≤65535)∧0≤Int.tmod (t (4%k) 0) (g 4 1-g 4 0+1)∧Int.tmod (t (4%k) 0) (g 4 1-g 4 0+1)≤2000) (j5:(0≤((5%k:Nat):Int)∧((5%k:Nat):Int)<k)∧(0≤(t (5%k) 0)∧(t (5%k) 0)≤65535)∧0≤Int.tmod (t (5%k) 0) (g 5 1-g 5 0+1)∧Int.tmod (t (5%k) 0) (g 5 1-g 5 0+1)≤2000):VC (aC Tryz.prog (XPk g) 900 18 [.agg 5 (T.setL .lf 0 (eY [.sl 1 A B,.sl 1 I J,.rr 1 n M f,.i .i64 r,.sl 5 6 E] 0)),.fz true 4 (ae .u16 t) k 1] 5 (fun v H=>bY 5 H v 6 1 (pkP g k t))) (.go 7699317652099209442429206941944385799265126472549777 .nil):=ai (((cond (cond (cond (aN 2 A B I J n M f) true false) (cond (aP (aK A B I J n M f) 0) (cond true (gI A B I J E 6) false) false) false) (BL.eqC (ae .i64 (fC A B I J f E)) g) false)=true∧((not (ak (k:Int) 0))=true∧((aP (k:Int) 0)=false∧((Nat.blt (0%k) k)=true∧((small (t 0 0))=true∧((small ((g 0 1)-(g 0 0)))=true∧((small (((g 0 1)-(g 0 0))+1))=true∧((aP (((g 0 1)-(g 0 0))+1) 0)=false∧((small ((g 0 0)+(Int.tmod (t 0 0) (((g 0 1)-(g 0 0))+1))))=true∧((not (ak (k:Int) 0))=true∧((aP (k:Int) 0)=false∧((Nat.blt (1%k) k)=true∧((small (t (1%k) 0))=true∧((small ((g 1 1)-(g 1 0)))=true∧((small (((g 1 1)-(g 1 0))+1))=true∧((aP (((g 1 1)-(g 1 0))+1) 0)=false∧((small ((g 1 0)+(Int.tmod (t (1%k) 0) (((g 1 1)-(g 1 0))+1))))=true∧((not (ak (k:Int) 0))=true∧((aP (k:Int) 0)=false∧((Nat.blt (2%k) k)=true∧((small (t (2%k) 0))=true∧((small ((g 2 1)-(g 2 0)))=true∧((small (((g 2 1)-(g 2 0))+1))=true∧((aP (((g 2 1)-(g 2 0))+1) 0)=false∧((small ((g 2 0)+(Int.tmod (t (2%k) 0) (((g 2 1)-(g 2 0))+1))))=true∧((not (ak (k:Int) 0))=true∧((aP (k:Int) 0)=false∧((Nat.blt (3%k) k)=true∧((small (t (3%k) 0))=true∧((small ((g 3 1)-(g 3 0)))=true∧((small (((g 3 1)-(g 3 0))+1))=true∧((aP (((g 3 1)-(g 3 0))+1) 0)=false∧((small ((g 3 0)+(Int.tmod (t (3%k) 0) (((g 3 1)-(g 3 0))+1))))=true∧((not (ak (k:Int) 0))=true∧((aP (k:Int) 0)=false∧((Nat.blt (4%k) k)=true∧((small (t (4%k) 0))=true∧((small ((g 4 1)-(g 4 0)))=true∧((small (((g 4 1)-(g 4 0))+1))=true∧((aP (((g 4 1)-(g 4 0))+1) 0)=false∧((small ((g 4 0)+(Int.tmod (t (4%k) 0) (((g 4 1)-(g 4 0))+1))))=true∧((not (ak (k:Int) 0))=true∧((aP (k:Int) 0)=false∧((Nat.blt (5%k) k)=true∧((small (t (5%k) 0))=true∧((small ((g 5 1)-(g 5 0)))=true∧((small (((g 5 1)-(g 5 0))+1))=true∧((aP (((g 5 1)-(g 5 0))+1) 0)=false∧((small ((g 5 0)+(Int.tmod (t (5%k) 0) (((g 5 1)-(g 5 0))+1))))=true∧((((((((((1+1)+1)+1)+1)+1):Nat):Int):Int)=6)∧((((((g 0 0)+(Int.tmod (t 0 0) (((g 0 1)-(g 0 0))+1))):Int)=((g 0 0)+(Int.tmod (t 0 0) (((g 0 1)-(g 0 0))+1))))∧True)∧((((((g 1 0)+(Int.tmod (t (1%k) 0) (((g 1 1)-(g 1 0))+1))):Int)=((g 1 0)+(Int.tmod (t (1%k) 0) (((g 1 1)-(g 1 0))+1))))∧True)∧((((((g 2 0)+(Int.tmod (t (2%k) 0) (((g 2 1)-(g 2 0))+1))):Int)=((g 2 0)+(Int.tmod (t (2%k) 0) (((g 2 1)-(g 2 0))+1))))∧True)∧((((((g 3 0)+(Int.tmod (t (3%k) 0) (((g 3 1)-(g 3 0))+1))):Int)=((g 3 0)+(Int.tmod (t (3%k) 0) (((g 3 1)-(g 3 0))+1))))∧True)∧((((((g 4 0)+(Int.tmod (t (4%k) 0) (((g 4 1)-(g 4 0))+1))):Int)=((g 4 0)+(Int.tmod (t (4%k) 0) (((g 4 1)-(g 4 0))+1))))∧True)∧((((((g 5 0)+(Int.tmod (t (5%k) 0) (((g 5 1)-(g 5 0))+1))):Int)=((g 5 0)+(Int.tmod (t (5%k) 0) (((g 5 1)-(g 5 0))+1))))∧True)∧True)))))))))))))))))))))))))))))))))))))))))))))))))))))))))
def pkR (g:Nat→Nat→Int) (k:Nat) (c:Nat→Nat→V):Nat→Nat→Int:=pkF g k (fun i j=>bi (c i j))
def uV (v:V):Bool:=match v with | .int .u16 n=>cond (ak 0 n) (ak n 65535) false | _=>false
def uB (c:Nat→Nat→V) (k:Nat):Bool:=fH (fun i=>uV (c i 0)) k
def pk1 (o:Option (List DA)) (ok:Bool) (c:Nat→Nat→V) (k e new:Nat):Option (Bool×V):=match o with
 | some [.st [.sl 1 A B,.sl 1 I J,.rr 1 n M f,.i .i64 r,.sl 5 O E]]=>some (cond ok (cond (Nat.beq e 1) (cond (uB c k) (cond (dS A I n M) (cond (aP (dO A B I J n M f r O E) 0) (Nat.ble 1 O) false) false) false) false) false,.fz true new (ae .i64 (pkR (fC A B I J f E) k c)) O 1)
 | _=>none
def Wl:CF:=fun args H=>match args with | [s,.fz _ _ c k e]=>pk1 (dec [s]) (wG [s]) c k e H.next | _=>none
theorem SC {v:V} (h:uV v=true):∃ x,v = .int .u16 x∧0≤x∧x≤65535:=by
 unfold uV at h
 split at h
 ·rename_i x
  obtain ⟨z1,z2⟩:=ah h
  exact ⟨x,rfl,(aY _ _).mp z1,(aY _ _).mp z2⟩
 ·cases h
theorem X3 (A:Nat) (B:Nat→Nat→Int) (I:Nat) (J:Nat→Nat→Int) (n:Nat) (M:Nat→Nat) (f:Nat→Nat→Nat→Int) (r:Int) (O:Nat) (E:Nat→Nat→Int) (k:Nat) (t:Nat→Nat→Int) (h:dS A I n M=true) (hc:dO A B I J n M f r O E=0) (hn:1≤O) (hu:∀ i,i<k→0≤t i 0∧t i 0≤65535):∃ v H',SpecCall Tryz.prog 18 [.agg 5 (T.setL .lf 0 (eY [.sl 1 A B,.sl 1 I J,.rr 1 n M f,.i .i64 r,.sl 5 O E] 0)),.fz true 4 (ae .u16 t) k 1] (aW 6) v H'∧bY 5 H' v O 1 (pkF (fC A B I J f E) k t):=by
 have ok:=qC A B I J n M f r O E hc
 obtain ⟨c1,c2,c3⟩:=nG A B I J n M f r O E hc
 have s:∀ i,i<O→0≤(fC A B I J f E) i 0∧(fC A B I J f E) i 0≤(fC A B I J f E) i 1∧(fC A B I J f E) i 1≤2000:=fun i hi=>Dh A B I J n M f r O E ok hi
 have hnc:O=1∨O=2∨O=3∨O=4∨O=5∨O=6:=by omega
 by_cases k0:k=0
 ·subst k0
  rcases hnc with rfl | rfl | rfl | rfl | rfl | rfl
  ·exact aA aj (kG _) (pz1 A B I J n M f r E t (fC A B I J f E) h hc c1 c3 (dL _) (s 0 (by omega)))
  ·exact aA aj (kG _) (pz2 A B I J n M f r E t (fC A B I J f E) h hc c1 c3 (dL _) (s 0 (by omega)) (s 1 (by omega)))
  ·exact aA aj (kG _) (pz3 A B I J n M f r E t (fC A B I J f E) h hc c1 c3 (dL _) (s 0 (by omega)) (s 1 (by omega)) (s 2 (by omega)))
  ·exact aA aj (kG _) (pz4 A B I J n M f r E t (fC A B I J f E) h hc c1 c3 (dL _) (s 0 (by omega)) (s 1 (by omega)) (s 2 (by omega)) (s 3 (by omega)))
  ·exact aA aj (kG _) (pz5 A B I J n M f r E t (fC A B I J f E) h hc c1 c3 (dL _) (s 0 (by omega)) (s 1 (by omega)) (s 2 (by omega)) (s 3 (by omega)) (s 4 (by omega)))
  ·exact aA aj (kG _) (pz6 A B I J n M f r E t (fC A B I J f E) h hc c1 c3 (dL _) (s 0 (by omega)) (s 1 (by omega)) (s 2 (by omega)) (s 3 (by omega)) (s 4 (by omega)) (s 5 (by omega)))
 ·have e:pkF (fC A B I J f E) k t=pkP (fC A B I J f E) k t:=by unfold pkF;rw [(lu _ _).mpr k0];rfl
  rw [e]
  have kp:0<k:=by omega
  have jm:∀ i:Nat,0≤((i%k:Nat):Int)∧((i%k:Nat):Int)<(k:Int):=fun i=>⟨by omega,by have:=Nat.mod_lt i kp;omega⟩
  have um:∀ i:Nat,0≤t (i%k) 0∧t (i%k) 0≤65535:=fun i=>hu (i%k) (Nat.mod_lt i kp)
  have u0:=hu 0 kp
  have mm:∀ (i:Nat) (x:Int),i<O→0≤x→0≤Int.tmod x ((fC A B I J f E) i 1-(fC A B I J f E) i 0+1)∧Int.tmod x ((fC A B I J f E) i 1-(fC A B I J f E) i 0+1)≤2000:=fun i x hi hx=>by
   have q:=s i hi
   have z:=jA (p:=(fC A B I J f E) i 1-(fC A B I J f E) i 0+1) hx (by omega)
   omega
  rcases hnc with rfl | rfl | rfl | rfl | rfl | rfl
  ·exact aA aj (kG _) (pp1 A B I J n M f r E k t (fC A B I J f E) h hc c1 c3 (dL _) kp (Nat.mod_lt 0 kp) (s 0 (by omega)) ⟨by omega,u0,mm 0 _ (by omega) u0.1⟩)
  ·exact aA aj (kG _) (pp2 A B I J n M f r E k t (fC A B I J f E) h hc c1 c3 (dL _) kp (Nat.mod_lt 0 kp) (s 0 (by omega)) (s 1 (by omega)) ⟨by omega,u0,mm 0 _ (by omega) u0.1⟩ ⟨jm 1,um 1,mm 1 _ (by omega) (um 1).1⟩)
  ·exact aA aj (kG _) (pp3 A B I J n M f r E k t (fC A B I J f E) h hc c1 c3 (dL _) kp (Nat.mod_lt 0 kp) (s 0 (by omega)) (s 1 (by omega)) (s 2 (by omega)) ⟨by omega,u0,mm 0 _ (by omega) u0.1⟩ ⟨jm 1,um 1,mm 1 _ (by omega) (um 1).1⟩ ⟨jm 2,um 2,mm 2 _ (by omega) (um 2).1⟩)
  ·exact aA aj (kG _) (pp4 A B I J n M f r E k t (fC A B I J f E) h hc c1 c3 (dL _) kp (Nat.mod_lt 0 kp) (s 0 (by omega)) (s 1 (by omega)) (s 2 (by omega)) (s 3 (by omega)) ⟨by omega,u0,mm 0 _ (by omega) u0.1⟩ ⟨jm 1,um 1,mm 1 _ (by omega) (um 1).1⟩ ⟨jm 2,um 2,mm 2 _ (by omega) (um 2).1⟩ ⟨jm 3,um 3,mm 3 _ (by omega) (um 3).1⟩)
  ·exact aA aj (kG _) (pp5 A B I J n M f r E k t (fC A B I J f E) h hc c1 c3 (dL _) kp (Nat.mod_lt 0 kp) (s 0 (by omega)) (s 1 (by omega)) (s 2 (by omega)) (s 3 (by omega)) (s 4 (by omega)) ⟨by omega,u0,mm 0 _ (by omega) u0.1⟩ ⟨jm 1,um 1,mm 1 _ (by omega) (um 1).1⟩ ⟨jm 2,um 2,mm 2 _ (by omega) (um 2).1⟩ ⟨jm 3,um 3,mm 3 _ (by omega) (um 3).1⟩ ⟨jm 4,um 4,mm 4 _ (by omega) (um 4).1⟩)
  ·exact aA aj (kG _) (pp6 A B I J n M f r E k t (fC A B I J f E) h hc c1 c3 (dL _) kp (Nat.mod_lt 0 kp) (s 0 (by omega)) (s 1 (by omega)) (s 2 (by omega)) (s 3 (by omega)) (s 4 (by omega)) (s 5 (by omega)) ⟨by omega,u0,mm 0 _ (by omega) u0.1⟩ ⟨jm 1,um 1,mm 1 _ (by omega) (um 1).1⟩ ⟨jm 2,um 2,mm 2 _ (by omega) (um 2).1⟩ ⟨jm 3,um 3,mm 3 _ (by omega) (um 3).1⟩ ⟨jm 4,um 4,mm 4 _ (by omega) (um 4).1⟩ ⟨jm 5,um 5,mm 5 _ (by omega) (um 5).1⟩)
theorem ZQ:jl Tryz.prog (18,Wl):=fun args H v hv=>by
 have hv:Wl args H=some (true,v):=hv
 unfold Wl at hv
 split at hv
 ·rename_i x q a c k e hv0
  cases hdx:AZ x with
  | none=>rw [show dec [x]=none by show (match AZ x with | some d=>jC d (some []) | none=>none)=none;rw [hdx]] at hv;cases hv
  | some d =>
   rw [show dec [x]=some [d] by show (match AZ x with | some d=>jC d (some []) | none=>none)=_;rw [hdx];rfl] at hv
   unfold pk1 at hv
   split at hv
   ·rename_i A B I J n M f r O E hd
    injection hd with hd
    injection hd with hd _
    subst hd
    have hb:=congrArg Prod.fst (Option.some.inj hv)
    have hw:=congrArg Prod.snd (Option.some.inj hv)
    have hw:(V.fz true H.next (ae .i64 (pkR (fC A B I J f E) k c)) O 1)=v:=hw
    subst hw
    obtain ⟨o1,hb⟩:=ah hb
    obtain ⟨o2,hb⟩:=ah hb
    obtain ⟨o3,hb⟩:=ah hb
    obtain ⟨o4,hb⟩:=ah hb
    obtain ⟨o5,hb⟩:=ah hb
    have o6:=hb
    have:=nb o2
    subst this
    have hc:dO A B I J n M f r O E=0:=(eu _ _).mp o5
    have o6:=Nat.le_of_ble_eq_true o6
    have ox:okA x=true:=(ah (show cond (okA x) true false=true from o1)).1
    have hU:∀ i,i<k→∃ z,c i 0 = .int .u16 z∧0≤z∧z≤65535:=fun i hi=>SC (aZ (show fH (fun i=>uV (c i 0)) k=true from o3) i hi)
    obtain ⟨v1,H',hs,hrow⟩:=X3 A B I J n M f r O E k (fun i j=>bi (c i j)) o4 hc o6 (fun i hi=>by
     obtain ⟨z,e,z1,z2⟩:=hU i hi
     show 0≤bi (c i 0)∧bi (c i 0)≤65535
     rw [e];exact ⟨z1,z2⟩)
    refine nT (k:=5) hs (fun R w ys hr hf0 ha=>?_) (.one (.one (gJ hrow H.next)))
    have h0:=@vg R w (0+(yj x).length) 0 (fun i=>(yj x).getD i 0) _ _ hdx ox (fun i hi=>by simp) (Nat.le_refl _)
    have hl:(yj x).length=4:=by
     have z:nxD (.st [.sl 1 A B,.sl 1 I J,.rr 1 n M f,.i .i64 r,.sl 5 O E]) 0=0+(yj x).length:=h0.1
     have z2:nxD (.st [.sl 1 A B,.sl 1 I J,.rr 1 n M f,.i .i64 r,.sl 5 O E]) 0=4:=rfl
     omega
    have h1:=@vg R w 5 0 (fun i=>cond (Nat.beq i 4) a ((yj x).getD i 0)) _ _ hdx ox (fun i hi=>by
     rw [Nat.zero_add]
     show cond (Nat.beq i 4) a ((yj x).getD i 0)=_
     rw [(lu _ _).mpr (show ¬ i=4 by omega)];rfl) (by omega)
    refine ⟨jr R w 5 (fun i=>cond (Nat.beq i 4) a ((yj x).getD i 0)),fun b=>rfl,fun a' r' cs e=>?_,?_⟩
    ·rcases iw e with ⟨z,e⟩ | ⟨z,e⟩
     ·exact ⟨by omega,(hr.frz _ _ _ e).1⟩
     ·exact ⟨by omega,e⟩
    ·refine AL.cons_imp ha (fun y hy=>h1.2 hy) (fun ys' h'=>AL.cons_imp h' (fun y hy=>?_) (fun ys'' h''=>?_))
     ·refine hy.fz_as (fun r' cs hcz=>?_) (fun i j hi hj=>rfl) (fun i j hi hj => .int _ _) (fun i j hi hj y' hv'=>?_)
      ·rw [xX (by omega)];exact hcz
      ·have j0:j=0:=by omega
       subst j0
       obtain ⟨z,e,_⟩:=hU i hi
       rw [e] at hv'
       show VR _ (.int .u16 (bi (c i 0))) y'
       rw [e]
       cases hv';exact .int _ _
     ·exact AL.nil_imp h''
   ·cases hv
 ·cases hv
end
end BL
end Go.Proofs.YtpfcfonplmhmiaaGreat
