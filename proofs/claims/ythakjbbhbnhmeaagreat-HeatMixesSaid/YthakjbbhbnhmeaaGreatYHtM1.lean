/- Mixtures: the contracts of Mix, and of the reference. -/
import Derived.Test.YthakjbbhbnhmeaaGreatProg
import Derived.Test.YthakjbbhbnhmeaaGreatYEe
set_option linter.all false
set_option linter.unusedSimpArgs false
set_option linter.unusedVariables false
namespace Go.Proofs.YthakjbbhbnhmeaaGreat
namespace MX
open Go Go.Ev
set_option maxRecDepth 1000000
set_option maxHeartbeats 0
noncomputable section
theorem UW:Tryz.prog.follows .mixedOrders=true:=by kernel_rfl
theorem aT:ak Tryz.prog:=sS UW
def okP (g:Nat→Nat→Int) (k:Nat):Bool:=cond (dn 1 (g k 0)) (cond (dn (g k 0) 1000) (cond (dn 0 (g k 1)) (cond (dn (g k 1) (g k 2)) (dn (g k 2) 200) false) false) false) false
def allP (g:Nat→Nat→Int) (m:Nat):Bool:=jk (okP g) m
theorem okP_t {g:Nat→Nat→Int} {k:Nat}:okP g k=true↔1≤g k 0∧g k 0≤1000∧0≤g k 1∧g k 1≤g k 2∧g k 2≤200:=by
 unfold okP
 constructor
 ·intro h
  obtain ⟨h1,h⟩:=ae h
  obtain ⟨h2,h⟩:=ae h
  obtain ⟨h3,h⟩:=ae h
  obtain ⟨h4,h5⟩:=ae h
  exact ⟨(kU _ _).mp h1,(kU _ _).mp h2,(kU _ _).mp h3,(kU _ _).mp h4,(kU _ _).mp h5⟩
 ·rintro ⟨h1,h2,h3,h4,h5⟩
  rw [(kU _ _).mpr h1,(kU _ _).mpr h2,(kU _ _).mpr h3,(kU _ _).mpr h4,(kU _ _).mpr h5];rfl
theorem TB {g:Nat→Nat→Int} {k:Nat} (h:okP g k=false):¬ (1≤g k 0∧g k 0≤1000∧0≤g k 1∧g k 1≤g k 2∧g k 2≤200):=fun q=>by rw [okP_t.mpr q] at h;cases h
def ltA:LT:=⟨[1,7,8,9],[],[4],2⟩
def sA (m:Nat) (g:Nat→Nat→Int) (k:Nat):LS:=⟨[.func 20 [] [],.fz true 0 (ay .i64 g) m 3,.int .i64 m,.int .i64 k],[]⟩
def bA:Code:=sub [1,0,1,0,0] (kJ Tryz.prog 19)
theorem eA (m:Nat) (g:Nat→Nat→Int):VC (U4 Tryz.prog aZ 300 19 [1,0,1,0] [.one (.sl 3 m g),.fn 20] (aH 2) ltA 18 60 (sA m g 0)) .nil:=aP ((True∧((((V.func 20 [] []:V)=V.func 20 [] [])∧((((V.fz true 0 (ay .i64 g) m 3):V)=(V.fz true 0 (ay .i64 g) m 3))∧((((m:Int):Int)=(m:Int))∧((((0):Int)=0)∧True))))∧True)))
theorem rA1 (m:Nat) (g:Nat→Nat→Int) (k:Nat) (h1:k<m) (h2:m≤1000000) (h3:1≤g k 0∧g k 0≤1000∧0≤g k 1∧g k 1≤g k 2∧g k 2≤200):VC (oI Tryz.prog aZ 300 bA (aH 2) ltA 18 60 (sA m g k) (.next (sA m g (k+1)))) (.go 405829499920641441813 .nil):=aP (((not (dn (m:Int) (k:Int)))=true∧((Nat.blt k m)=true∧((dn 1 (g k 0))=true∧((dn (g k 0) 1000)=true∧((dn (g k 1) (g k 2))=true∧((dn 0 (g k 1))=true∧((dn (g k 1) 200)=true∧((dn 0 (g k 2))=true∧((not (dn (g k 2) 200))=false∧((small ((k:Int)+1))=true∧((((V.func 20 [] []:V)=V.func 20 [] [])∧((((V.fz true 0 (ay .i64 g) m 3):V)=(V.fz true 0 (ay .i64 g) m 3))∧((((m:Int):Int)=(m:Int))∧(((((k:Int)+1):Int)=(((k+1):Nat):Int))∧True))))∧True))))))))))))
theorem rA2 (m:Nat) (g:Nat→Nat→Int) (k:Nat) (h1:k<m) (h2:m≤1000000) (h3:¬ (1≤g k 0∧g k 0≤1000∧0≤g k 1∧g k 1≤g k 2∧g k 2≤200)):VC (oI Tryz.prog aZ 300 bA (aH 2) ltA 18 60 (sA m g k) (.ret ⟨[.bool false],[]⟩)) (.go 21 (.sp (.go 256 (.sp (.go 64 (.sp (.go 64 (.sp (.go 1024 (.sp (.go 5242944 .nil) .nil)) .nil)) .nil)) .nil)) .nil)):=aP (((not (dn (m:Int) (k:Int)))=true∧((Nat.blt k m)=true∧(((dn 1 (g k 0))=true→(((dn (g k 0) 1000)=true→(((dn (g k 1) (g k 2))=true→(((dn 0 (g k 1))=true→(((dn (g k 1) 200)=true→((dn 0 (g k 2))=true∧((not (dn (g k 2) 200))=true∧(((false=false)∧True)∧True)))) ∧
 ((dn (g k 1) (200))=false→(((false=false)∧True)∧True)))) ∧
 ((dn (0) (g k 1))=false→(((false=false)∧True)∧True)))) ∧
 ((dn (g k 1) (g k 2))=false→(((false=false)∧True)∧True)))) ∧
 ((dn (g k 0) (1000))=false→(((false=false)∧True)∧True)))) ∧
 ((dn (1) (g k 0))=false→(((false=false)∧True)∧True))))))
theorem rA3 (m:Nat) (g:Nat→Nat→Int) (k:Nat) (h1:¬ k<m):VC (oI Tryz.prog aZ 300 bA (aH 2) ltA 18 60 (sA m g k) (.exit 0 ⟨[],[]⟩)) (.go 6 .nil):=aP (((not (dn (m:Int) (k:Int)))=false∧(True∧True)))
theorem fA1  : VC (fromD Tryz.prog aZ 300 19 [1,0,1,0] (Lv.res ltA 18 (BM (aH 2) ltA 60 (.exit 0 ⟨[],[]⟩)) (.exit 0 ⟨[],[]⟩)) (.bool true)) .nil:=aP ((true=true))
theorem fA2  : VC (fromD Tryz.prog aZ 300 19 [1,0,1,0] (Lv.res ltA 18 (BM (aH 2) ltA 60 (.ret ⟨[.bool false],[]⟩)) (.ret ⟨[.bool false],[]⟩)) (.bool false)) .nil:=aP ((false=false))
def OJ:Val:=fun das=>match das with | [.one (.sl 3 m g),.fn f]=>some (cond (Nat.beq f 20) (Nat.ble m 1000000) false,.bool (allP g m)) | _=>none
theorem Wn:Con Tryz.prog 19 OJ:=by
 intro das v hv
 unfold OJ at hv
 split at hv
 ·rename_i m g f
  have hb:=congrArg Prod.fst (Option.some.inj hv)
  have hv:=congrArg Prod.snd (Option.some.inj hv)
  subst hv
  obtain ⟨hf,hb⟩:=ae hb
  have:=nb hf
  subst this
  have hb:=Nat.le_of_ble_eq_true hb
  refine ⟨rfl,?_⟩
  rcases yB (okP g) m with h | ⟨N,z1,z2,z3⟩
  ·have e:allP g m=true:=fP h
   show ∃ v' H',SpecCall _ _ _ _ v' H'∧bZ v' (.bool (allP g m))
   rw [e]
   exact jO aT aG (das:=[.one (.sl 3 m g),.fn 20]) (lv := .exit 0 ⟨[],[]⟩) (by kernel_rfl) (by kernel_rfl) (eA m g).ok (ni (body:=bA) (fun _ e=>by cases e) m (sA m g) (fun k hk =>
    gQ aT aG (rA1 m g k hk hb (okP_t.mp (h k hk))).ok (by kernel_rfl) (by kernel_rfl)) (gQ aT aG (rA3 m g m (by omega)).ok (by kernel_rfl) (by kernel_rfl))) fA1.ok
  ·have e:allP g m=false:=uS z1 z3
   show ∃ v' H',SpecCall _ _ _ _ v' H'∧bZ v' (.bool (allP g m))
   rw [e]
   exact jO aT aG (das:=[.one (.sl 3 m g),.fn 20]) (lv := .ret ⟨[.bool false],[]⟩) (by kernel_rfl) (by kernel_rfl) (eA m g).ok (ni (body:=bA) (fun _ e=>by cases e) N (sA m g) (fun k hk =>
    gQ aT aG (rA1 m g k (by omega) hb (okP_t.mp (z2 k hk))).ok (by kernel_rfl) (by kernel_rfl)) (gQ aT aG (rA2 m g N z1 hb (TB z3)).ok (by kernel_rfl) (by kernel_rfl))) fA2.ok
 ·cases hv
def XMx:Ext:=Q9 [(19,cf OJ)] false
theorem lQ:bM Tryz.prog XMx:=AA (bI (qO Wn) oG)
def smN (f:Nat→Int) (m:Nat):Int:=Nat.rec (motive:=fun _=>Int) 0 (fun i ih=>ih+f i) m
def mxE (g:Nat→Nat→Int) (m:Nat):Int:=cond (Nat.ble m 5) (cond (Nat.blt 0 m) (cond (allP g m) 0 1) 1) 3
def mxQ (g:Nat→Nat→Int) (m j:Nat):Int:=Int.tdiv (smN (fun i=>g i 0*g i j) m) (smN (fun i=>g i 0) m)
def mxL (g:Nat→Nat→Int) (m:Nat):Int:=cond (eu (mxE g m) 0) (mxQ g m 1) 0
def mxH (g:Nat→Nat→Int) (m:Nat):Int:=cond (eu (mxE g m) 0) (mxQ g m 2) 0
def rgV (a b:Int):V := .agg 2 (T.setL .lf 0 [.int .i64 a,.int .i64 b])
def mxV (a b e:Int):V := .tup [.agg 2 (T.setL .lf 0 [.int .i64 a,.int .i64 b]),.int .i64 e]
theorem mx0 (g:Nat→Nat→Int):VC (di Tryz.prog XMx 300 5 (enc [.one (.sl 3 0 g)] 0) 1 (fun v=>bZ v (mxV 0 0 1))) .nil:=aP ((((((0):Int)=0)∧((((0):Int)=0)∧True))∧((((1):Int)=1)∧True)))
theorem mx6 (m:Nat) (g:Nat→Nat→Int) (h:¬ m≤5):VC (di Tryz.prog XMx 300 5 (enc [.one (.sl 3 m g)] 0) 1 (fun v=>bZ v (mxV 0 0 3))) (.go 5 .nil):=aP (((not (dn (m:Int) 5))=true∧(((((0):Int)=0)∧((((0):Int)=0)∧True))∧((((3):Int)=3)∧True))))
theorem mxF (m:Nat) (g:Nat→Nat→Int) (h:m≤5) (h0:0<m) (h1:allP g m=false):VC (di Tryz.prog XMx 300 5 (enc [.one (.sl 3 m g)] 0) 1 (fun v=>bZ v (mxV 0 0 1))) (.go 20554 .nil):=aP (((not (dn (m:Int) 5))=false∧((eu (m:Int) 0)=false∧((cond (cond (gG .i64 (ay .i64 g) m 3) true false) (cond true (Nat.ble m 1000000) false) false)=true∧((not (MX.allP g m))=true∧(((((0):Int)=0)∧((((0):Int)=0)∧True))∧((((1):Int)=1)∧True)))))))
theorem Xc (g:Nat→Nat→Int) (h1:allP g 1=true) (q0:1≤g 0 0∧g 0 0≤1000) (a0:0≤g 0 0*g 0 1∧g 0 0*g 0 1≤200000) (b0:0≤g 0 0*g 0 2∧g 0 0*g 0 2≤200000) (cl:0≤Int.tdiv (0+g 0 0*g 0 1) (0+g 0 0)∧Int.tdiv (0+g 0 0*g 0 1) (0+g 0 0)≤200) (ch:0≤Int.tdiv (0+g 0 0*g 0 2) (0+g 0 0)∧Int.tdiv (0+g 0 0*g 0 2) (0+g 0 0)≤200):VC (di Tryz.prog XMx 300 5 (enc [.one (.sl 3 1 g)] 0) 1 (fun v=>bZ v (mxV (mxQ g 1 1) (mxQ g 1 2) 0))) (.go 1549557097046016 .nil):=aP (((not (MX.allP g 1))=false∧((small ((g 0 0)*(g 0 1)))=true∧((small (0+((g 0 0)*(g 0 1))))=true∧((small (0+(g 0 0)))=true∧((eu (0+(g 0 0)) 0)=false∧((small (Int.tdiv (0+((g 0 0)*(g 0 1))) (0+(g 0 0))))=true∧((small ((g 0 0)*(g 0 2)))=true∧((small (0+((g 0 0)*(g 0 2))))=true∧((small (0+(g 0 0)))=true∧((eu (0+(g 0 0)) 0)=false∧((small (Int.tdiv (0+((g 0 0)*(g 0 2))) (0+(g 0 0))))=true∧(((((Int.tdiv (0+((g 0 0)*(g 0 1))) (0+(g 0 0))):Int)=(Int.tdiv (0+((g 0 0)*(g 0 1))) (0+(g 0 0))))∧((((Int.tdiv (0+((g 0 0)*(g 0 2))) (0+(g 0 0))):Int)=(Int.tdiv (0+((g 0 0)*(g 0 2))) (0+(g 0 0))))∧True))∧((((0):Int)=0)∧True))))))))))))))
theorem W9 (g:Nat→Nat→Int) (h1:allP g 2=true) (q0:1≤g 0 0∧g 0 0≤1000) (a0:0≤g 0 0*g 0 1∧g 0 0*g 0 1≤200000) (b0:0≤g 0 0*g 0 2∧g 0 0*g 0 2≤200000) (q1:1≤g 1 0∧g 1 0≤1000) (a1:0≤g 1 0*g 1 1∧g 1 0*g 1 1≤200000) (b1:0≤g 1 0*g 1 2∧g 1 0*g 1 2≤200000) (cl:0≤Int.tdiv (0+g 0 0*g 0 1+g 1 0*g 1 1) (0+g 0 0+g 1 0)∧Int.tdiv (0+g 0 0*g 0 1+g 1 0*g 1 1) (0+g 0 0+g 1 0)≤200) (ch:0≤Int.tdiv (0+g 0 0*g 0 2+g 1 0*g 1 2) (0+g 0 0+g 1 0)∧Int.tdiv (0+g 0 0*g 0 2+g 1 0*g 1 2) (0+g 0 0+g 1 0)≤200):VC (di Tryz.prog XMx 300 5 (enc [.one (.sl 3 2 g)] 0) 1 (fun v=>bZ v (mxV (mxQ g 2 1) (mxQ g 2 2) 0))) (.go 25997232924973927243776 .nil):=aP (((not (MX.allP g 2))=false∧((small ((g 0 0)*(g 0 1)))=true∧((small (0+((g 0 0)*(g 0 1))))=true∧((small (0+(g 0 0)))=true∧((small ((g 1 0)*(g 1 1)))=true∧((small ((0+((g 0 0)*(g 0 1)))+((g 1 0)*(g 1 1))))=true∧((small ((0+(g 0 0))+(g 1 0)))=true∧((eu ((0+(g 0 0))+(g 1 0)) 0)=false∧((small (Int.tdiv ((0+((g 0 0)*(g 0 1)))+((g 1 0)*(g 1 1))) ((0+(g 0 0))+(g 1 0))))=true∧((small ((g 0 0)*(g 0 2)))=true∧((small (0+((g 0 0)*(g 0 2))))=true∧((small (0+(g 0 0)))=true∧((small ((g 1 0)*(g 1 2)))=true∧((small ((0+((g 0 0)*(g 0 2)))+((g 1 0)*(g 1 2))))=true∧((small ((0+(g 0 0))+(g 1 0)))=true∧((eu ((0+(g 0 0))+(g 1 0)) 0)=false∧((small (Int.tdiv ((0+((g 0 0)*(g 0 2)))+((g 1 0)*(g 1 2))) ((0+(g 0 0))+(g 1 0))))=true∧(((((Int.tdiv ((0+((g 0 0)*(g 0 1)))+((g 1 0)*(g 1 1))) ((0+(g 0 0))+(g 1 0))):Int)=(Int.tdiv ((0+((g 0 0)*(g 0 1)))+((g 1 0)*(g 1 1))) ((0+(g 0 0))+(g 1 0))))∧((((Int.tdiv ((0+((g 0 0)*(g 0 2)))+((g 1 0)*(g 1 2))) ((0+(g 0 0))+(g 1 0))):Int)=(Int.tdiv ((0+((g 0 0)*(g 0 2)))+((g 1 0)*(g 1 2))) ((0+(g 0 0))+(g 1 0))))∧True))∧((((0):Int)=0)∧True))))))))))))))))))))
theorem WX (g:Nat→Nat→Int) (h1:allP g 3=true) (q0:1≤g 0 0∧g 0 0≤1000) (a0:0≤g 0 0*g 0 1∧g 0 0*g 0 1≤200000) (b0:0≤g 0 0*g 0 2∧g 0 0*g 0 2≤200000) (q1:1≤g 1 0∧g 1 0≤1000) (a1:0≤g 1 0*g 1 1∧g 1 0*g 1 1≤200000) (b1:0≤g 1 0*g 1 2∧g 1 0*g 1 2≤200000) (q2:1≤g 2 0∧g 2 0≤1000) (a2:0≤g 2 0*g 2 1∧g 2 0*g 2 1≤200000) (b2:0≤g 2 0*g 2 2∧g 2 0*g 2 2≤200000) (cl:0≤Int.tdiv (0+g 0 0*g 0 1+g 1 0*g 1 1+g 2 0*g 2 1) (0+g 0 0+g 1 0+g 2 0)∧Int.tdiv (0+g 0 0*g 0 1+g 1 0*g 1 1+g 2 0*g 2 1) (0+g 0 0+g 1 0+g 2 0)≤200) (ch:0≤Int.tdiv (0+g 0 0*g 0 2+g 1 0*g 1 2+g 2 0*g 2 2) (0+g 0 0+g 1 0+g 2 0)∧Int.tdiv (0+g 0 0*g 0 2+g 1 0*g 1 2+g 2 0*g 2 2) (0+g 0 0+g 1 0+g 2 0)≤200):VC (di Tryz.prog XMx 300 5 (enc [.one (.sl 3 3 g)] 0) 1 (fun v=>bZ v (mxV (mxQ g 3 1) (mxQ g 3 2) 0))) (.go 436161192097778978005781323776 .nil):=aP (((not (MX.allP g 3))=false∧((small ((g 0 0)*(g 0 1)))=true∧((small (0+((g 0 0)*(g 0 1))))=true∧((small (0+(g 0 0)))=true∧((small ((g 1 0)*(g 1 1)))=true∧((small ((0+((g 0 0)*(g 0 1)))+((g 1 0)*(g 1 1))))=true∧((small ((0+(g 0 0))+(g 1 0)))=true∧((small ((g 2 0)*(g 2 1)))=true∧((small (((0+((g 0 0)*(g 0 1)))+((g 1 0)*(g 1 1)))+((g 2 0)*(g 2 1))))=true∧((small (((0+(g 0 0))+(g 1 0))+(g 2 0)))=true∧((eu (((0+(g 0 0))+(g 1 0))+(g 2 0)) 0)=false∧((small (Int.tdiv (((0+((g 0 0)*(g 0 1)))+((g 1 0)*(g 1 1)))+((g 2 0)*(g 2 1))) (((0+(g 0 0))+(g 1 0))+(g 2 0))))=true∧((small ((g 0 0)*(g 0 2)))=true∧((small (0+((g 0 0)*(g 0 2))))=true∧((small (0+(g 0 0)))=true∧((small ((g 1 0)*(g 1 2)))=true∧((small ((0+((g 0 0)*(g 0 2)))+((g 1 0)*(g 1 2))))=true∧((small ((0+(g 0 0))+(g 1 0)))=true∧((small ((g 2 0)*(g 2 2)))=true∧((small (((0+((g 0 0)*(g 0 2)))+((g 1 0)*(g 1 2)))+((g 2 0)*(g 2 2))))=true∧((small (((0+(g 0 0))+(g 1 0))+(g 2 0)))=true∧((eu (((0+(g 0 0))+(g 1 0))+(g 2 0)) 0)=false∧((small (Int.tdiv (((0+((g 0 0)*(g 0 2)))+((g 1 0)*(g 1 2)))+((g 2 0)*(g 2 2))) (((0+(g 0 0))+(g 1 0))+(g 2 0))))=true∧(((((Int.tdiv (((0+((g 0 0)*(g 0 1)))+((g 1 0)*(g 1 1)))+((g 2 0)*(g 2 1))) (((0+(g 0 0))+(g 1 0))+(g 2 0))):Int)=(Int.tdiv (((0+((g 0 0)*(g 0 1)))+((g 1 0)*(g 1 1)))+((g 2 0)*(g 2 1))) (((0+(g 0 0))+(g 1 0))+(g 2 0))))∧((((Int.tdiv (((0+((g 0 0)*(g 0 2)))+((g 1 0)*(g 1 2)))+((g 2 0)*(g 2 2))) (((0+(g 0 0))+(g 1 0))+(g 2 0))):Int)=(Int.tdiv (((0+((g 0 0)*(g 0 2)))+((g 1 0)*(g 1 2)))+((g 2 0)*(g 2 2))) (((0+(g 0 0))+(g 1 0))+(g 2 0))))∧True))∧((((0):Int)=0)∧True))))))))))))))))))))))))))
theorem Xr (g:Nat→Nat→Int) (h1:allP g 4=true) (q0:1≤g 0 0∧g 0 0≤1000) (a0:0≤g 0 0*g 0 1∧g 0 0*g 0 1≤200000) (b0:0≤g 0 0*g 0 2∧g 0 0*g 0 2≤200000) (q1:1≤g 1 0∧g 1 0≤1000) (a1:0≤g 1 0*g 1 1∧g 1 0*g 1 1≤200000) (b1:0≤g 1 0*g 1 2∧g 1 0*g 1 2≤200000) (q2:1≤g 2 0∧g 2 0≤1000) (a2:0≤g 2 0*g 2 1∧g 2 0*g 2 1≤200000) (b2:0≤g 2 0*g 2 2∧g 2 0*g 2 2≤200000) (q3:1≤g 3 0∧g 3 0≤1000) (a3:0≤g 3 0*g 3 1∧g 3 0*g 3 1≤200000) (b3:0≤g 3 0*g 3 2∧g 3 0*g 3 2≤200000) (cl:0≤Int.tdiv (0+g 0 0*g 0 1+g 1 0*g 1 1+g 2 0*g 2 1+g 3 0*g 3 1) (0+g 0 0+g 1 0+g 2 0+g 3 0)∧Int.tdiv (0+g 0 0*g 0 1+g 1 0*g 1 1+g 2 0*g 2 1+g 3 0*g 3 1) (0+g 0 0+g 1 0+g 2 0+g 3 0)≤200) (ch:0≤Int.tdiv (0+g 0 0*g 0 2+g 1 0*g 1 2+g 2 0*g 2 2+g 3 0*g 3 2) (0+g 0 0+g 1 0+g 2 0+g 3 0)∧Int.tdiv (0+g 0 0*g 0 2+g 1 0*g 1 2+g 2 0*g 2 2+g 3 0*g 3 2) (0+g 0 0+g 1 0+g 2 0+g 3 0)≤200):VC (di Tryz.prog XMx 300 5 (enc [.one (.sl 3 4 g)] 0) 1 (fun v=>bZ v (mxV (mxQ g 4 1) (mxQ g 4 2) 0))) (.go 7317570530641575417929989430134972416 .nil):=aP (((not (MX.allP g 4))=false∧((small ((g 0 0)*(g 0 1)))=true∧((small (0+((g 0 0)*(g 0 1))))=true∧((small (0+(g 0 0)))=true∧((small ((g 1 0)*(g 1 1)))=true∧((small ((0+((g 0 0)*(g 0 1)))+((g 1 0)*(g 1 1))))=true∧((small ((0+(g 0 0))+(g 1 0)))=true∧((small ((g 2 0)*(g 2 1)))=true∧((small (((0+((g 0 0)*(g 0 1)))+((g 1 0)*(g 1 1)))+((g 2 0)*(g 2 1))))=true∧((small (((0+(g 0 0))+(g 1 0))+(g 2 0)))=true∧((small ((g 3 0)*(g 3 1)))=true∧((small ((((0+((g 0 0)*(g 0 1)))+((g 1 0)*(g 1 1)))+((g 2 0)*(g 2 1)))+((g 3 0)*(g 3 1))))=true∧((small ((((0+(g 0 0))+(g 1 0))+(g 2 0))+(g 3 0)))=true∧((eu ((((0+(g 0 0))+(g 1 0))+(g 2 0))+(g 3 0)) 0)=false∧((small (Int.tdiv ((((0+((g 0 0)*(g 0 1)))+((g 1 0)*(g 1 1)))+((g 2 0)*(g 2 1)))+((g 3 0)*(g 3 1))) ((((0+(g 0 0))+(g 1 0))+(g 2 0))+(g 3 0))))=true∧((small ((g 0 0)*(g 0 2)))=true∧((small (0+((g 0 0)*(g 0 2))))=true∧((small (0+(g 0 0)))=true∧((small ((g 1 0)*(g 1 2)))=true∧((small ((0+((g 0 0)*(g 0 2)))+((g 1 0)*(g 1 2))))=true∧((small ((0+(g 0 0))+(g 1 0)))=true∧((small ((g 2 0)*(g 2 2)))=true∧((small (((0+((g 0 0)*(g 0 2)))+((g 1 0)*(g 1 2)))+((g 2 0)*(g 2 2))))=true∧((small (((0+(g 0 0))+(g 1 0))+(g 2 0)))=true∧((small ((g 3 0)*(g 3 2)))=true∧((small ((((0+((g 0 0)*(g 0 2)))+((g 1 0)*(g 1 2)))+((g 2 0)*(g 2 2)))+((g 3 0)*(g 3 2))))=true∧((small ((((0+(g 0 0))+(g 1 0))+(g 2 0))+(g 3 0)))=true∧((eu ((((0+(g 0 0))+(g 1 0))+(g 2 0))+(g 3 0)) 0)=false∧((small (Int.tdiv ((((0+((g 0 0)*(g 0 2)))+((g 1 0)*(g 1 2)))+((g 2 0)*(g 2 2)))+((g 3 0)*(g 3 2))) ((((0+(g 0 0))+(g 1 0))+(g 2 0))+(g 3 0))))=true∧(((((Int.tdiv ((((0+((g 0 0)*(g 0 1)))+((g 1 0)*(g 1 1)))+((g 2 0)*(g 2 1)))+((g 3 0)*(g 3 1))) ((((0+(g 0 0))+(g 1 0))+(g 2 0))+(g 3 0))):Int)=(Int.tdiv ((((0+((g 0 0)*(g 0 1)))+((g 1 0)*(g 1 1)))+((g 2 0)*(g 2 1)))+((g 3 0)*(g 3 1))) ((((0+(g 0 0))+(g 1 0))+(g 2 0))+(g 3 0))))∧((((Int.tdiv ((((0+((g 0 0)*(g 0 2)))+((g 1 0)*(g 1 2)))+((g 2 0)*(g 2 2)))+((g 3 0)*(g 3 2))) ((((0+(g 0 0))+(g 1 0))+(g 2 0))+(g 3 0))):Int)=(Int.tdiv ((((0+((g 0 0)*(g 0 2)))+((g 1 0)*(g 1 2)))+((g 2 0)*(g 2 2)))+((g 3 0)*(g 3 2))) ((((0+(g 0 0))+(g 1 0))+(g 2 0))+(g 3 0))))∧True))∧((((0):Int)=0)∧True))))))))))))))))))))))))))))))))
theorem WZ (g:Nat→Nat→Int) (h1:allP g 5=true) (q0:1≤g 0 0∧g 0 0≤1000) (a0:0≤g 0 0*g 0 1∧g 0 0*g 0 1≤200000) (b0:0≤g 0 0*g 0 2∧g 0 0*g 0 2≤200000) (q1:1≤g 1 0∧g 1 0≤1000) (a1:0≤g 1 0*g 1 1∧g 1 0*g 1 1≤200000) (b1:0≤g 1 0*g 1 2∧g 1 0*g 1 2≤200000) (q2:1≤g 2 0∧g 2 0≤1000) (a2:0≤g 2 0*g 2 1∧g 2 0*g 2 1≤200000) (b2:0≤g 2 0*g 2 2∧g 2 0*g 2 2≤200000) (q3:1≤g 3 0∧g 3 0≤1000) (a3:0≤g 3 0*g 3 1∧g 3 0*g 3 1≤200000) (b3:0≤g 3 0*g 3 2∧g 3 0*g 3 2≤200000) (q4:1≤g 4 0∧g 4 0≤1000) (a4:0≤g 4 0*g 4 1∧g 4 0*g 4 1≤200000) (b4:0≤g 4 0*g 4 2∧g 4 0*g 4 2≤200000) (cl:0≤Int.tdiv (0+g 0 0*g 0 1+g 1 0*g 1 1+g 2 0*g 2 1+g 3 0*g 3 1+g 4 0*g 4 1) (0+g 0 0+g 1 0+g 2 0+g 3 0+g 4 0)∧Int.tdiv (0+g 0 0*g 0 1+g 1 0*g 1 1+g 2 0*g 2 1+g 3 0*g 3 1+g 4 0*g 4 1) (0+g 0 0+g 1 0+g 2 0+g 3 0+g 4 0)≤200) (ch:0≤Int.tdiv (0+g 0 0*g 0 2+g 1 0*g 1 2+g 2 0*g 2 2+g 3 0*g 3 2+g 4 0*g 4 2) (0+g 0 0+g 1 0+g 2 0+g 3 0+g 4 0)∧Int.tdiv (0+g 0 0*g 0 2+g 1 0*g 1 2+g 2 0*g 2 2+g 3 0*g 3 2+g 4 0*g 4 2) (0+g 0 0+g 1 0+g 2 0+g 3 0+g 4 0)≤200):VC (di Tryz.prog XMx 300 5 (enc [.one (.sl 3 5 g)] 0) 1 (fun v=>bZ v (mxV (mxQ g 5 1) (mxQ g 5 2) 0))) (.go 122768461387808327910297208638914899618308096 .nil):=aP (((not (MX.allP g 5))=false∧((small ((g 0 0)*(g 0 1)))=true∧((small (0+((g 0 0)*(g 0 1))))=true∧((small (0+(g 0 0)))=true∧((small ((g 1 0)*(g 1 1)))=true∧((small ((0+((g 0 0)*(g 0 1)))+((g 1 0)*(g 1 1))))=true∧((small ((0+(g 0 0))+(g 1 0)))=true∧((small ((g 2 0)*(g 2 1)))=true∧((small (((0+((g 0 0)*(g 0 1)))+((g 1 0)*(g 1 1)))+((g 2 0)*(g 2 1))))=true∧((small (((0+(g 0 0))+(g 1 0))+(g 2 0)))=true∧((small ((g 3 0)*(g 3 1)))=true∧((small ((((0+((g 0 0)*(g 0 1)))+((g 1 0)*(g 1 1)))+((g 2 0)*(g 2 1)))+((g 3 0)*(g 3 1))))=true∧((small ((((0+(g 0 0))+(g 1 0))+(g 2 0))+(g 3 0)))=true∧((small ((g 4 0)*(g 4 1)))=true∧((small (((((0+((g 0 0)*(g 0 1)))+((g 1 0)*(g 1 1)))+((g 2 0)*(g 2 1)))+((g 3 0)*(g 3 1)))+((g 4 0)*(g 4 1))))=true∧((small (((((0+(g 0 0))+(g 1 0))+(g 2 0))+(g 3 0))+(g 4 0)))=true∧((eu (((((0+(g 0 0))+(g 1 0))+(g 2 0))+(g 3 0))+(g 4 0)) 0)=false∧((small (Int.tdiv (((((0+((g 0 0)*(g 0 1)))+((g 1 0)*(g 1 1)))+((g 2 0)*(g 2 1)))+((g 3 0)*(g 3 1)))+((g 4 0)*(g 4 1))) (((((0+(g 0 0))+(g 1 0))+(g 2 0))+(g 3 0))+(g 4 0))))=true∧((small ((g 0 0)*(g 0 2)))=true∧((small (0+((g 0 0)*(g 0 2))))=true∧((small (0+(g 0 0)))=true∧((small ((g 1 0)*(g 1 2)))=true∧((small ((0+((g 0 0)*(g 0 2)))+((g 1 0)*(g 1 2))))=true∧((small ((0+(g 0 0))+(g 1 0)))=true∧((small ((g 2 0)*(g 2 2)))=true∧((small (((0+((g 0 0)*(g 0 2)))+((g 1 0)*(g 1 2)))+((g 2 0)*(g 2 2))))=true∧((small (((0+(g 0 0))+(g 1 0))+(g 2 0)))=true∧((small ((g 3 0)*(g 3 2)))=true∧((small ((((0+((g 0 0)*(g 0 2)))+((g 1 0)*(g 1 2)))+((g 2 0)*(g 2 2)))+((g 3 0)*(g 3 2))))=true∧((small ((((0+(g 0 0))+(g 1 0))+(g 2 0))+(g 3 0)))=true∧((small ((g 4 0)*(g 4 2)))=true∧((small (((((0+((g 0 0)*(g 0 2)))+((g 1 0)*(g 1 2)))+((g 2 0)*(g 2 2)))+((g 3 0)*(g 3 2)))+((g 4 0)*(g 4 2))))=true∧((small (((((0+(g 0 0))+(g 1 0))+(g 2 0))+(g 3 0))+(g 4 0)))=true∧((eu (((((0+(g 0 0))+(g 1 0))+(g 2 0))+(g 3 0))+(g 4 0)) 0)=false∧((small (Int.tdiv (((((0+((g 0 0)*(g 0 2)))+((g 1 0)*(g 1 2)))+((g 2 0)*(g 2 2)))+((g 3 0)*(g 3 2)))+((g 4 0)*(g 4 2))) (((((0+(g 0 0))+(g 1 0))+(g 2 0))+(g 3 0))+(g 4 0))))=true∧(((((Int.tdiv (((((0+((g 0 0)*(g 0 1)))+((g 1 0)*(g 1 1)))+((g 2 0)*(g 2 1)))+((g 3 0)*(g 3 1)))+((g 4 0)*(g 4 1))) (((((0+(g 0 0))+(g 1 0))+(g 2 0))+(g 3 0))+(g 4 0))):Int)=(Int.tdiv (((((0+((g 0 0)*(g 0 1)))+((g 1 0)*(g 1 1)))+((g 2 0)*(g 2 1)))+((g 3 0)*(g 3 1)))+((g 4 0)*(g 4 1))) (((((0+(g 0 0))+(g 1 0))+(g 2 0))+(g 3 0))+(g 4 0))))∧((((Int.tdiv (((((0+((g 0 0)*(g 0 2)))+((g 1 0)*(g 1 2)))+((g 2 0)*(g 2 2)))+((g 3 0)*(g 3 2)))+((g 4 0)*(g 4 2))) (((((0+(g 0 0))+(g 1 0))+(g 2 0))+(g 3 0))+(g 4 0))):Int)=(Int.tdiv (((((0+((g 0 0)*(g 0 2)))+((g 1 0)*(g 1 2)))+((g 2 0)*(g 2 2)))+((g 3 0)*(g 3 2)))+((g 4 0)*(g 4 2))) (((((0+(g 0 0))+(g 1 0))+(g 2 0))+(g 3 0))+(g 4 0))))∧True))∧((((0):Int)=0)∧True))))))))))))))))))))))))))))))))))))))
theorem Tq (f:Nat→Int) (m:Nat):smN f (m+1)=smN f m+f m:=rfl
theorem DV {q x:Int} (h1:1≤q∧q≤1000) (h2:0≤x∧x≤200):0≤q*x∧q*x≤200*q∧q*x≤200000:=by
 have a:0≤q*x:=Int.mul_nonneg (by omega) h2.1
 have b:q*x≤q*200:=Int.mul_le_mul_of_nonneg_left h2.2 (by omega)
 omega
theorem Wh {g:Nat→Nat→Int} {j:Nat} (hj:j=1∨j=2):∀ {m:Nat},(∀ k,k<m→1≤g k 0∧g k 0≤1000∧0≤g k 1∧g k 1≤g k 2∧g k 2≤200)→0≤smN (fun i=>g i 0*g i j) m∧smN (fun i=>g i 0*g i j) m≤200*smN (fun i=>g i 0) m∧(m:Int)≤smN (fun i=>g i 0) m:=by
 intro m
 induction m with
 | zero=>intro _;exact ⟨Int.le_refl _,Int.le_refl _,Int.le_refl _⟩
 | succ m ih =>
  intro h
  have a:=ih fun k hk=>h k (by omega)
  have b:=h m (by omega)
  have c:=DV (q:=g m 0) (x:=g m j) ⟨b.1,b.2.1⟩ (by rcases hj with rfl | rfl<;>omega)
  rw [Tq,Tq]
  exact ⟨by omega,by omega,by push_cast;omega⟩
theorem Rx {g:Nat→Nat→Int} {j:Nat} (hj:j=1∨j=2) {m:Nat} (hm:0<m) (h:∀ k,k<m→1≤g k 0∧g k 0≤1000∧0≤g k 1∧g k 1≤g k 2∧g k 2≤200):0≤mxQ g m j∧mxQ g m j≤200:=by
 obtain ⟨a,b,c⟩:=Wh hj h
 unfold mxQ
 rw [Int.tdiv_eq_ediv_of_nonneg a]
 have hp:0<smN (fun i=>g i 0) m:=by omega
 exact ⟨Int.ediv_nonneg a (by omega),Int.ediv_le_of_le_mul hp b⟩
theorem CZ {g:Nat→Nat→Int} {m:Nat} (h:allP g m=true):∀ k,k<m→1≤g k 0∧g k 0≤1000∧0≤g k 1∧g k 1≤g k 2∧g k 2≤200:=fun k hk=>okP_t.mp (bi h k hk)
def O0:Val:=fun das=>match das with | [.one (.sl 3 m g)]=>some (true,mxV (mxL g m) (mxH g m) (mxE g m)) | _=>none
theorem jS (g:Nat→Nat→Int) (m:Nat):(mxE g m=3∧¬ m≤5)∨(mxE g m=1∧m≤5∧(m=0∨allP g m=false))∨(mxE g m=0∧m≤5∧0<m∧allP g m=true):=by
 unfold mxE
 by_cases h:m≤5
 ·rw [show Nat.ble m 5=true from Nat.ble_eq_true_of_le h]
  by_cases h0:0<m
  ·rw [show Nat.blt 0 m=true from Nat.ble_eq_true_of_le h0]
   cases ha:allP g m with
   | true=>exact .inr (.inr ⟨rfl,h,h0,rfl⟩)
   | false=>exact .inr (.inl ⟨rfl,h,.inr rfl⟩)
  ·have:m=0:=by omega
   subst this
   exact .inr (.inl ⟨rfl,h,.inl rfl⟩)
 ·rw [(Iz _ _).mpr (by omega)];exact .inl ⟨rfl,h⟩
theorem Vt:Con Tryz.prog 5 O0:=by
 intro das v hv
 unfold O0 at hv
 split at hv
 ·rename_i m g
  have hv:=congrArg Prod.snd (Option.some.inj hv)
  subst hv
  rcases jS g m with ⟨e,h⟩ | ⟨e,h,h0⟩ | ⟨e,h,h0,ha⟩
  ·have e1:mxL g m=0:=by unfold mxL;rw [(tq _ _).mpr (by omega)];rfl
   have e2:mxH g m=0:=by unfold mxH;rw [(tq _ _).mpr (by omega)];rfl
   rw [e1,e2,e]
   exact aY aT lQ rfl (das:=[.one (.sl 3 m g)]) (mx6 m g h)
  ·have e1:mxL g m=0:=by unfold mxL;rw [(tq _ _).mpr (by omega)];rfl
   have e2:mxH g m=0:=by unfold mxH;rw [(tq _ _).mpr (by omega)];rfl
   rw [e1,e2,e]
   by_cases hz:m=0
   ·subst hz
    exact aY aT lQ rfl (das:=[.one (.sl 3 0 g)]) (mx0 g)
   ·exact aY aT lQ rfl (das:=[.one (.sl 3 m g)]) (mxF m g h (by omega) (h0.resolve_left hz))
  ·have e1:mxL g m=mxQ g m 1:=by unfold mxL;rw [(yh _ _).mpr e];rfl
   have e2:mxH g m=mxQ g m 2:=by unfold mxH;rw [(yh _ _).mpr e];rfl
   rw [e1,e2,e]
   have hk:=CZ ha
   have hq:∀ i,i<m→1≤g i 0∧g i 0≤1000:=fun i hi=>⟨(hk i hi).1,(hk i hi).2.1⟩
   have hl:∀ i,i<m→0≤g i 0*g i 1∧g i 0*g i 1≤200000:=fun i hi=>by
    have b:=hk i hi
    have c:=DV (hq i hi) (x:=g i 1) (by omega)
    exact ⟨c.1,c.2.2⟩
   have hh:∀ i,i<m→0≤g i 0*g i 2∧g i 0*g i 2≤200000:=fun i hi=>by
    have b:=hk i hi
    have c:=DV (hq i hi) (x:=g i 2) (by omega)
    exact ⟨c.1,c.2.2⟩
   have cl:=Rx (j:=1) (.inl rfl) h0 hk
   have ch:=Rx (j:=2) (.inr rfl) h0 hk
   have:m=1∨m=2∨m=3∨m=4∨m=5:=by omega
   rcases this with rfl | rfl | rfl | rfl | rfl
   ·exact aY aT lQ rfl (das:=[.one (.sl 3 1 g)]) (Xc g ha (hq 0 (by omega)) (hl 0 (by omega)) (hh 0 (by omega)) cl ch)
   ·exact aY aT lQ rfl (das:=[.one (.sl 3 2 g)]) (W9 g ha (hq 0 (by omega)) (hl 0 (by omega)) (hh 0 (by omega)) (hq 1 (by omega)) (hl 1 (by omega)) (hh 1 (by omega)) cl ch)
   ·exact aY aT lQ rfl (das:=[.one (.sl 3 3 g)]) (WX g ha (hq 0 (by omega)) (hl 0 (by omega)) (hh 0 (by omega)) (hq 1 (by omega)) (hl 1 (by omega)) (hh 1 (by omega)) (hq 2 (by omega)) (hl 2 (by omega)) (hh 2 (by omega)) cl ch)
   ·exact aY aT lQ rfl (das:=[.one (.sl 3 4 g)]) (Xr g ha (hq 0 (by omega)) (hl 0 (by omega)) (hh 0 (by omega)) (hq 1 (by omega)) (hl 1 (by omega)) (hh 1 (by omega)) (hq 2 (by omega)) (hl 2 (by omega)) (hh 2 (by omega)) (hq 3 (by omega)) (hl 3 (by omega)) (hh 3 (by omega)) cl ch)
   ·exact aY aT lQ rfl (das:=[.one (.sl 3 5 g)]) (WZ g ha (hq 0 (by omega)) (hl 0 (by omega)) (hh 0 (by omega)) (hq 1 (by omega)) (hl 1 (by omega)) (hh 1 (by omega)) (hq 2 (by omega)) (hl 2 (by omega)) (hh 2 (by omega)) (hq 3 (by omega)) (hl 3 (by omega)) (hh 3 (by omega)) (hq 4 (by omega)) (hl 4 (by omega)) (hh 4 (by omega)) cl ch)
 ·cases hv
end
end MX
end Go.Proofs.YthakjbbhbnhmeaaGreat
