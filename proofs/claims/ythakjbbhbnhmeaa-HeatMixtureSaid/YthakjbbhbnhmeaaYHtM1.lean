/- Mixtures: the contracts of Mix, and of the reference. -/
import Derived.Test.YthakjbbhbnhmeaaProg
import Derived.Test.YthakjbbhbnhmeaaYEe
set_option linter.all false
set_option linter.unusedSimpArgs false
set_option linter.unusedVariables false
namespace Go.Proofs.Ythakjbbhbnhmeaa
namespace MX
open Go Go.Ev
set_option maxRecDepth 1000000
set_option maxHeartbeats 0
noncomputable section
theorem Vz:Try.prog.follows .mixedOrders=true:=by kernel_rfl
theorem az:aF Try.prog:=sU Vz
def okP (g:Nat→Nat→Int) (k:Nat):Bool:=cond (ae 1 (g k 0)) (cond (ae (g k 0) 1000) (cond (ae 0 (g k 1)) (cond (ae (g k 1) (g k 2)) (ae (g k 2) 200) false) false) false) false
def allP (g:Nat→Nat→Int) (m:Nat):Bool:=jF (okP g) m
theorem okP_t {g:Nat→Nat→Int} {k:Nat}:okP g k=true↔1≤g k 0∧g k 0≤1000∧0≤g k 1∧g k 1≤g k 2∧g k 2≤200:=by
 unfold okP
 constructor
 ·intro h
  obtain ⟨h1,h⟩:=ai h
  obtain ⟨h2,h⟩:=ai h
  obtain ⟨h3,h⟩:=ai h
  obtain ⟨h4,h5⟩:=ai h
  exact ⟨(lF _ _).mp h1,(lF _ _).mp h2,(lF _ _).mp h3,(lF _ _).mp h4,(lF _ _).mp h5⟩
 ·rintro ⟨h1,h2,h3,h4,h5⟩
  rw [(lF _ _).mpr h1,(lF _ _).mpr h2,(lF _ _).mpr h3,(lF _ _).mpr h4,(lF _ _).mpr h5];rfl
theorem Um {g:Nat→Nat→Int} {k:Nat} (h:okP g k=false):¬ (1≤g k 0∧g k 0≤1000∧0≤g k 1∧g k 1≤g k 2∧g k 2≤200):=fun q=>by rw [okP_t.mpr q] at h;cases h
def ltA:LT:=⟨[1,7,8,9],[],[4],2⟩
def sA (m:Nat) (g:Nat→Nat→Int) (k:Nat):LS:=⟨[.func 35 [] [],.fz true 0 (aj .i64 g) m 3,.int .i64 m,.int .i64 k],[]⟩
def bA:Code:=sub [1,0,1,0,0] (kJ Try.prog 34)
theorem eA (m:Nat) (g:Nat→Nat→Int):VC (Vl Try.prog bY 300 34 [1,0,1,0] [.one (.sl 3 m g),.fn 35] (aU 2) ltA 18 60 (sA m g 0)) .nil:=aB ((True∧((((V.func 35 [] []:V)=V.func 35 [] [])∧((((V.fz true 0 (aj .i64 g) m 3):V)=(V.fz true 0 (aj .i64 g) m 3))∧((((m:Int):Int)=(m:Int))∧((((0):Int)=0)∧True))))∧True)))
theorem rA1 (m:Nat) (g:Nat→Nat→Int) (k:Nat) (h1:k<m) (h2:m≤1000000) (h3:1≤g k 0∧g k 0≤1000∧0≤g k 1∧g k 1≤g k 2∧g k 2≤200):VC (oD Try.prog bY 300 bA (aU 2) ltA 18 60 (sA m g k) (.next (sA m g (k+1)))) (.go 405829499920641441813 .nil):=aB (((not (ae (m:Int) (k:Int)))=true∧((Nat.blt k m)=true∧((ae 1 (g k 0))=true∧((ae (g k 0) 1000)=true∧((ae (g k 1) (g k 2))=true∧((ae 0 (g k 1))=true∧((ae (g k 1) 200)=true∧((ae 0 (g k 2))=true∧((not (ae (g k 2) 200))=false∧((small ((k:Int)+1))=true∧((((V.func 35 [] []:V)=V.func 35 [] [])∧((((V.fz true 0 (aj .i64 g) m 3):V)=(V.fz true 0 (aj .i64 g) m 3))∧((((m:Int):Int)=(m:Int))∧(((((k:Int)+1):Int)=(((k+1):Nat):Int))∧True))))∧True))))))))))))
theorem rA2 (m:Nat) (g:Nat→Nat→Int) (k:Nat) (h1:k<m) (h2:m≤1000000) (h3:¬ (1≤g k 0∧g k 0≤1000∧0≤g k 1∧g k 1≤g k 2∧g k 2≤200)):VC (oD Try.prog bY 300 bA (aU 2) ltA 18 60 (sA m g k) (.ret ⟨[.bool false],[]⟩)) (.go 21 (.sp (.go 256 (.sp (.go 64 (.sp (.go 64 (.sp (.go 1024 (.sp (.go 5242944 .nil) .nil)) .nil)) .nil)) .nil)) .nil)):=aB (((not (ae (m:Int) (k:Int)))=true∧((Nat.blt k m)=true∧(((ae 1 (g k 0))=true→(((ae (g k 0) 1000)=true→(((ae (g k 1) (g k 2))=true→(((ae 0 (g k 1))=true→(((ae (g k 1) 200)=true→((ae 0 (g k 2))=true∧((not (ae (g k 2) 200))=true∧(((false=false)∧True)∧True)))) ∧
 ((ae (g k 1) (200))=false→(((false=false)∧True)∧True)))) ∧
 ((ae (0) (g k 1))=false→(((false=false)∧True)∧True)))) ∧
 ((ae (g k 1) (g k 2))=false→(((false=false)∧True)∧True)))) ∧
 ((ae (g k 0) (1000))=false→(((false=false)∧True)∧True)))) ∧
 ((ae (1) (g k 0))=false→(((false=false)∧True)∧True))))))
theorem rA3 (m:Nat) (g:Nat→Nat→Int) (k:Nat) (h1:¬ k<m):VC (oD Try.prog bY 300 bA (aU 2) ltA 18 60 (sA m g k) (.exit 0 ⟨[],[]⟩)) (.go 6 .nil):=aB (((not (ae (m:Int) (k:Int)))=false∧(True∧True)))
theorem fA1  : VC (fromD Try.prog bY 300 34 [1,0,1,0] (Lv.res ltA 18 (D8 (aU 2) ltA 60 (.exit 0 ⟨[],[]⟩)) (.exit 0 ⟨[],[]⟩)) (.bool true)) .nil:=aB ((true=true))
theorem fA2  : VC (fromD Try.prog bY 300 34 [1,0,1,0] (Lv.res ltA 18 (D8 (aU 2) ltA 60 (.ret ⟨[.bool false],[]⟩)) (.ret ⟨[.bool false],[]⟩)) (.bool false)) .nil:=aB ((false=false))
def Qd:Val:=fun das=>match das with | [.one (.sl 3 m g),.fn f]=>some (cond (Nat.beq f 35) (Nat.ble m 1000000) false,.bool (allP g m)) | _=>none
theorem WP:Con Try.prog 34 Qd:=by
 intro das v hv
 unfold Qd at hv
 split at hv
 ·rename_i m g f
  have hb:=congrArg Prod.fst (Option.some.inj hv)
  have hv:=congrArg Prod.snd (Option.some.inj hv)
  subst hv
  obtain ⟨hf,hb⟩:=ai hb
  have:=nb hf
  subst this
  have hb:=Nat.le_of_ble_eq_true hb
  refine ⟨rfl,?_⟩
  rcases yO (okP g) m with h | ⟨N,z1,z2,z3⟩
  ·have e:allP g m=true:=eQ h
   show ∃ v' H',SpecCall _ _ _ _ v' H'∧aP v' (.bool (allP g m))
   rw [e]
   exact jZ az bu (das:=[.one (.sl 3 m g),.fn 35]) (lv := .exit 0 ⟨[],[]⟩) (by kernel_rfl) (by kernel_rfl) (eA m g).ok (nO (body:=bA) (fun _ e=>by cases e) m (sA m g) (fun k hk =>
    iy az bu (rA1 m g k hk hb (okP_t.mp (h k hk))).ok (by kernel_rfl) (by kernel_rfl)) (iy az bu (rA3 m g m (by omega)).ok (by kernel_rfl) (by kernel_rfl))) fA1.ok
  ·have e:allP g m=false:=xe z1 z3
   show ∃ v' H',SpecCall _ _ _ _ v' H'∧aP v' (.bool (allP g m))
   rw [e]
   exact jZ az bu (das:=[.one (.sl 3 m g),.fn 35]) (lv := .ret ⟨[.bool false],[]⟩) (by kernel_rfl) (by kernel_rfl) (eA m g).ok (nO (body:=bA) (fun _ e=>by cases e) N (sA m g) (fun k hk =>
    iy az bu (rA1 m g k (by omega) hb (okP_t.mp (z2 k hk))).ok (by kernel_rfl) (by kernel_rfl)) (iy az bu (rA2 m g N z1 hb (Um z3)).ok (by kernel_rfl) (by kernel_rfl))) fA2.ok
 ·cases hv
def XMx:Ext:=Tt [(34,cf Qd)] false
theorem mg:cZ Try.prog XMx:=Ah (dA (wH WP) oK)
def uK (f:Nat→Int) (m:Nat):Int:=Nat.rec (motive:=fun _=>Int) 0 (fun i ih=>ih+f i) m
def mxE (g:Nat→Nat→Int) (m:Nat):Int:=cond (Nat.ble m 5) (cond (Nat.blt 0 m) (cond (allP g m) 0 1) 1) 3
def jC (g:Nat→Nat→Int) (m j:Nat):Int:=Int.tdiv (uK (fun i=>g i 0*g i j) m) (uK (fun i=>g i 0) m)
def mxL (g:Nat→Nat→Int) (m:Nat):Int:=cond (ah (mxE g m) 0) (jC g m 1) 0
def mxH (g:Nat→Nat→Int) (m:Nat):Int:=cond (ah (mxE g m) 0) (jC g m 2) 0
def mxV (a b e:Int):V := .tup [.agg 2 (T.setL .lf 0 [.int .i64 a,.int .i64 b]),.int .i64 e]
theorem mx0 (g:Nat→Nat→Int):VC (aC Try.prog XMx 300 15 (enc [.one (.sl 3 0 g)] 0) 1 (fun v=>aP v (mxV 0 0 1))) .nil:=aB ((((((0):Int)=0)∧((((0):Int)=0)∧True))∧((((1):Int)=1)∧True)))
theorem mx6 (m:Nat) (g:Nat→Nat→Int) (h:¬ m≤5):VC (aC Try.prog XMx 300 15 (enc [.one (.sl 3 m g)] 0) 1 (fun v=>aP v (mxV 0 0 3))) (.go 5 .nil):=aB (((not (ae (m:Int) 5))=true∧(((((0):Int)=0)∧((((0):Int)=0)∧True))∧((((3):Int)=3)∧True))))
theorem mxF (m:Nat) (g:Nat→Nat→Int) (h:m≤5) (h0:0<m) (h1:allP g m=false):VC (aC Try.prog XMx 300 15 (enc [.one (.sl 3 m g)] 0) 1 (fun v=>aP v (mxV 0 0 1))) (.go 20554 .nil):=aB (((not (ae (m:Int) 5))=false∧((ah (m:Int) 0)=false∧((cond (cond (je .i64 (aj .i64 g) m 3) true false) (cond true (Nat.ble m 1000000) false) false)=true∧((not (MX.allP g m))=true∧(((((0):Int)=0)∧((((0):Int)=0)∧True))∧((((1):Int)=1)∧True)))))))
theorem YR (g:Nat→Nat→Int) (h1:allP g 1=true) (q0:1≤g 0 0∧g 0 0≤1000) (a0:0≤g 0 0*g 0 1∧g 0 0*g 0 1≤200000) (b0:0≤g 0 0*g 0 2∧g 0 0*g 0 2≤200000) (cl:0≤Int.tdiv (0+g 0 0*g 0 1) (0+g 0 0)∧Int.tdiv (0+g 0 0*g 0 1) (0+g 0 0)≤200) (ch:0≤Int.tdiv (0+g 0 0*g 0 2) (0+g 0 0)∧Int.tdiv (0+g 0 0*g 0 2) (0+g 0 0)≤200):VC (aC Try.prog XMx 300 15 (enc [.one (.sl 3 1 g)] 0) 1 (fun v=>aP v (mxV (jC g 1 1) (jC g 1 2) 0))) (.go 1549557097046016 .nil):=aB (((not (MX.allP g 1))=false∧((small ((g 0 0)*(g 0 1)))=true∧((small (0+((g 0 0)*(g 0 1))))=true∧((small (0+(g 0 0)))=true∧((ah (0+(g 0 0)) 0)=false∧((small (Int.tdiv (0+((g 0 0)*(g 0 1))) (0+(g 0 0))))=true∧((small ((g 0 0)*(g 0 2)))=true∧((small (0+((g 0 0)*(g 0 2))))=true∧((small (0+(g 0 0)))=true∧((ah (0+(g 0 0)) 0)=false∧((small (Int.tdiv (0+((g 0 0)*(g 0 2))) (0+(g 0 0))))=true∧(((((Int.tdiv (0+((g 0 0)*(g 0 1))) (0+(g 0 0))):Int)=(Int.tdiv (0+((g 0 0)*(g 0 1))) (0+(g 0 0))))∧((((Int.tdiv (0+((g 0 0)*(g 0 2))) (0+(g 0 0))):Int)=(Int.tdiv (0+((g 0 0)*(g 0 2))) (0+(g 0 0))))∧True))∧((((0):Int)=0)∧True))))))))))))))
theorem Zv (g:Nat→Nat→Int) (h1:allP g 2=true) (q0:1≤g 0 0∧g 0 0≤1000) (a0:0≤g 0 0*g 0 1∧g 0 0*g 0 1≤200000) (b0:0≤g 0 0*g 0 2∧g 0 0*g 0 2≤200000) (q1:1≤g 1 0∧g 1 0≤1000) (a1:0≤g 1 0*g 1 1∧g 1 0*g 1 1≤200000) (b1:0≤g 1 0*g 1 2∧g 1 0*g 1 2≤200000) (cl:0≤Int.tdiv (0+g 0 0*g 0 1+g 1 0*g 1 1) (0+g 0 0+g 1 0)∧Int.tdiv (0+g 0 0*g 0 1+g 1 0*g 1 1) (0+g 0 0+g 1 0)≤200) (ch:0≤Int.tdiv (0+g 0 0*g 0 2+g 1 0*g 1 2) (0+g 0 0+g 1 0)∧Int.tdiv (0+g 0 0*g 0 2+g 1 0*g 1 2) (0+g 0 0+g 1 0)≤200):VC (aC Try.prog XMx 300 15 (enc [.one (.sl 3 2 g)] 0) 1 (fun v=>aP v (mxV (jC g 2 1) (jC g 2 2) 0))) (.go 25997232924973927243776 .nil):=aB (((not (MX.allP g 2))=false∧((small ((g 0 0)*(g 0 1)))=true∧((small (0+((g 0 0)*(g 0 1))))=true∧((small (0+(g 0 0)))=true∧((small ((g 1 0)*(g 1 1)))=true∧((small ((0+((g 0 0)*(g 0 1)))+((g 1 0)*(g 1 1))))=true∧((small ((0+(g 0 0))+(g 1 0)))=true∧((ah ((0+(g 0 0))+(g 1 0)) 0)=false∧((small (Int.tdiv ((0+((g 0 0)*(g 0 1)))+((g 1 0)*(g 1 1))) ((0+(g 0 0))+(g 1 0))))=true∧((small ((g 0 0)*(g 0 2)))=true∧((small (0+((g 0 0)*(g 0 2))))=true∧((small (0+(g 0 0)))=true∧((small ((g 1 0)*(g 1 2)))=true∧((small ((0+((g 0 0)*(g 0 2)))+((g 1 0)*(g 1 2))))=true∧((small ((0+(g 0 0))+(g 1 0)))=true∧((ah ((0+(g 0 0))+(g 1 0)) 0)=false∧((small (Int.tdiv ((0+((g 0 0)*(g 0 2)))+((g 1 0)*(g 1 2))) ((0+(g 0 0))+(g 1 0))))=true∧(((((Int.tdiv ((0+((g 0 0)*(g 0 1)))+((g 1 0)*(g 1 1))) ((0+(g 0 0))+(g 1 0))):Int)=(Int.tdiv ((0+((g 0 0)*(g 0 1)))+((g 1 0)*(g 1 1))) ((0+(g 0 0))+(g 1 0))))∧((((Int.tdiv ((0+((g 0 0)*(g 0 2)))+((g 1 0)*(g 1 2))) ((0+(g 0 0))+(g 1 0))):Int)=(Int.tdiv ((0+((g 0 0)*(g 0 2)))+((g 1 0)*(g 1 2))) ((0+(g 0 0))+(g 1 0))))∧True))∧((((0):Int)=0)∧True))))))))))))))))))))
theorem YX (g:Nat→Nat→Int) (h1:allP g 3=true) (q0:1≤g 0 0∧g 0 0≤1000) (a0:0≤g 0 0*g 0 1∧g 0 0*g 0 1≤200000) (b0:0≤g 0 0*g 0 2∧g 0 0*g 0 2≤200000) (q1:1≤g 1 0∧g 1 0≤1000) (a1:0≤g 1 0*g 1 1∧g 1 0*g 1 1≤200000) (b1:0≤g 1 0*g 1 2∧g 1 0*g 1 2≤200000) (q2:1≤g 2 0∧g 2 0≤1000) (a2:0≤g 2 0*g 2 1∧g 2 0*g 2 1≤200000) (b2:0≤g 2 0*g 2 2∧g 2 0*g 2 2≤200000) (cl:0≤Int.tdiv (0+g 0 0*g 0 1+g 1 0*g 1 1+g 2 0*g 2 1) (0+g 0 0+g 1 0+g 2 0)∧Int.tdiv (0+g 0 0*g 0 1+g 1 0*g 1 1+g 2 0*g 2 1) (0+g 0 0+g 1 0+g 2 0)≤200) (ch:0≤Int.tdiv (0+g 0 0*g 0 2+g 1 0*g 1 2+g 2 0*g 2 2) (0+g 0 0+g 1 0+g 2 0)∧Int.tdiv (0+g 0 0*g 0 2+g 1 0*g 1 2+g 2 0*g 2 2) (0+g 0 0+g 1 0+g 2 0)≤200):VC (aC Try.prog XMx 300 15 (enc [.one (.sl 3 3 g)] 0) 1 (fun v=>aP v (mxV (jC g 3 1) (jC g 3 2) 0))) (.go 436161192097778978005781323776 .nil):=aB (((not (MX.allP g 3))=false∧((small ((g 0 0)*(g 0 1)))=true∧((small (0+((g 0 0)*(g 0 1))))=true∧((small (0+(g 0 0)))=true∧((small ((g 1 0)*(g 1 1)))=true∧((small ((0+((g 0 0)*(g 0 1)))+((g 1 0)*(g 1 1))))=true∧((small ((0+(g 0 0))+(g 1 0)))=true∧((small ((g 2 0)*(g 2 1)))=true∧((small (((0+((g 0 0)*(g 0 1)))+((g 1 0)*(g 1 1)))+((g 2 0)*(g 2 1))))=true∧((small (((0+(g 0 0))+(g 1 0))+(g 2 0)))=true∧((ah (((0+(g 0 0))+(g 1 0))+(g 2 0)) 0)=false∧((small (Int.tdiv (((0+((g 0 0)*(g 0 1)))+((g 1 0)*(g 1 1)))+((g 2 0)*(g 2 1))) (((0+(g 0 0))+(g 1 0))+(g 2 0))))=true∧((small ((g 0 0)*(g 0 2)))=true∧((small (0+((g 0 0)*(g 0 2))))=true∧((small (0+(g 0 0)))=true∧((small ((g 1 0)*(g 1 2)))=true∧((small ((0+((g 0 0)*(g 0 2)))+((g 1 0)*(g 1 2))))=true∧((small ((0+(g 0 0))+(g 1 0)))=true∧((small ((g 2 0)*(g 2 2)))=true∧((small (((0+((g 0 0)*(g 0 2)))+((g 1 0)*(g 1 2)))+((g 2 0)*(g 2 2))))=true∧((small (((0+(g 0 0))+(g 1 0))+(g 2 0)))=true∧((ah (((0+(g 0 0))+(g 1 0))+(g 2 0)) 0)=false∧((small (Int.tdiv (((0+((g 0 0)*(g 0 2)))+((g 1 0)*(g 1 2)))+((g 2 0)*(g 2 2))) (((0+(g 0 0))+(g 1 0))+(g 2 0))))=true∧(((((Int.tdiv (((0+((g 0 0)*(g 0 1)))+((g 1 0)*(g 1 1)))+((g 2 0)*(g 2 1))) (((0+(g 0 0))+(g 1 0))+(g 2 0))):Int)=(Int.tdiv (((0+((g 0 0)*(g 0 1)))+((g 1 0)*(g 1 1)))+((g 2 0)*(g 2 1))) (((0+(g 0 0))+(g 1 0))+(g 2 0))))∧((((Int.tdiv (((0+((g 0 0)*(g 0 2)))+((g 1 0)*(g 1 2)))+((g 2 0)*(g 2 2))) (((0+(g 0 0))+(g 1 0))+(g 2 0))):Int)=(Int.tdiv (((0+((g 0 0)*(g 0 2)))+((g 1 0)*(g 1 2)))+((g 2 0)*(g 2 2))) (((0+(g 0 0))+(g 1 0))+(g 2 0))))∧True))∧((((0):Int)=0)∧True))))))))))))))))))))))))))
theorem ZH (g:Nat→Nat→Int) (h1:allP g 4=true) (q0:1≤g 0 0∧g 0 0≤1000) (a0:0≤g 0 0*g 0 1∧g 0 0*g 0 1≤200000) (b0:0≤g 0 0*g 0 2∧g 0 0*g 0 2≤200000) (q1:1≤g 1 0∧g 1 0≤1000) (a1:0≤g 1 0*g 1 1∧g 1 0*g 1 1≤200000) (b1:0≤g 1 0*g 1 2∧g 1 0*g 1 2≤200000) (q2:1≤g 2 0∧g 2 0≤1000) (a2:0≤g 2 0*g 2 1∧g 2 0*g 2 1≤200000) (b2:0≤g 2 0*g 2 2∧g 2 0*g 2 2≤200000) (q3:1≤g 3 0∧g 3 0≤1000) (a3:0≤g 3 0*g 3 1∧g 3 0*g 3 1≤200000) (b3:0≤g 3 0*g 3 2∧g 3 0*g 3 2≤200000) (cl:0≤Int.tdiv (0+g 0 0*g 0 1+g 1 0*g 1 1+g 2 0*g 2 1+g 3 0*g 3 1) (0+g 0 0+g 1 0+g 2 0+g 3 0)∧Int.tdiv (0+g 0 0*g 0 1+g 1 0*g 1 1+g 2 0*g 2 1+g 3 0*g 3 1) (0+g 0 0+g 1 0+g 2 0+g 3 0)≤200) (ch:0≤Int.tdiv (0+g 0 0*g 0 2+g 1 0*g 1 2+g 2 0*g 2 2+g 3 0*g 3 2) (0+g 0 0+g 1 0+g 2 0+g 3 0)∧Int.tdiv (0+g 0 0*g 0 2+g 1 0*g 1 2+g 2 0*g 2 2+g 3 0*g 3 2) (0+g 0 0+g 1 0+g 2 0+g 3 0)≤200):VC (aC Try.prog XMx 300 15 (enc [.one (.sl 3 4 g)] 0) 1 (fun v=>aP v (mxV (jC g 4 1) (jC g 4 2) 0))) (.go 7317570530641575417929989430134972416 .nil):=aB (((not (MX.allP g 4))=false∧((small ((g 0 0)*(g 0 1)))=true∧((small (0+((g 0 0)*(g 0 1))))=true∧((small (0+(g 0 0)))=true∧((small ((g 1 0)*(g 1 1)))=true∧((small ((0+((g 0 0)*(g 0 1)))+((g 1 0)*(g 1 1))))=true∧((small ((0+(g 0 0))+(g 1 0)))=true∧((small ((g 2 0)*(g 2 1)))=true∧((small (((0+((g 0 0)*(g 0 1)))+((g 1 0)*(g 1 1)))+((g 2 0)*(g 2 1))))=true∧((small (((0+(g 0 0))+(g 1 0))+(g 2 0)))=true∧((small ((g 3 0)*(g 3 1)))=true∧((small ((((0+((g 0 0)*(g 0 1)))+((g 1 0)*(g 1 1)))+((g 2 0)*(g 2 1)))+((g 3 0)*(g 3 1))))=true∧((small ((((0+(g 0 0))+(g 1 0))+(g 2 0))+(g 3 0)))=true∧((ah ((((0+(g 0 0))+(g 1 0))+(g 2 0))+(g 3 0)) 0)=false∧((small (Int.tdiv ((((0+((g 0 0)*(g 0 1)))+((g 1 0)*(g 1 1)))+((g 2 0)*(g 2 1)))+((g 3 0)*(g 3 1))) ((((0+(g 0 0))+(g 1 0))+(g 2 0))+(g 3 0))))=true∧((small ((g 0 0)*(g 0 2)))=true∧((small (0+((g 0 0)*(g 0 2))))=true∧((small (0+(g 0 0)))=true∧((small ((g 1 0)*(g 1 2)))=true∧((small ((0+((g 0 0)*(g 0 2)))+((g 1 0)*(g 1 2))))=true∧((small ((0+(g 0 0))+(g 1 0)))=true∧((small ((g 2 0)*(g 2 2)))=true∧((small (((0+((g 0 0)*(g 0 2)))+((g 1 0)*(g 1 2)))+((g 2 0)*(g 2 2))))=true∧((small (((0+(g 0 0))+(g 1 0))+(g 2 0)))=true∧((small ((g 3 0)*(g 3 2)))=true∧((small ((((0+((g 0 0)*(g 0 2)))+((g 1 0)*(g 1 2)))+((g 2 0)*(g 2 2)))+((g 3 0)*(g 3 2))))=true∧((small ((((0+(g 0 0))+(g 1 0))+(g 2 0))+(g 3 0)))=true∧((ah ((((0+(g 0 0))+(g 1 0))+(g 2 0))+(g 3 0)) 0)=false∧((small (Int.tdiv ((((0+((g 0 0)*(g 0 2)))+((g 1 0)*(g 1 2)))+((g 2 0)*(g 2 2)))+((g 3 0)*(g 3 2))) ((((0+(g 0 0))+(g 1 0))+(g 2 0))+(g 3 0))))=true∧(((((Int.tdiv ((((0+((g 0 0)*(g 0 1)))+((g 1 0)*(g 1 1)))+((g 2 0)*(g 2 1)))+((g 3 0)*(g 3 1))) ((((0+(g 0 0))+(g 1 0))+(g 2 0))+(g 3 0))):Int)=(Int.tdiv ((((0+((g 0 0)*(g 0 1)))+((g 1 0)*(g 1 1)))+((g 2 0)*(g 2 1)))+((g 3 0)*(g 3 1))) ((((0+(g 0 0))+(g 1 0))+(g 2 0))+(g 3 0))))∧((((Int.tdiv ((((0+((g 0 0)*(g 0 2)))+((g 1 0)*(g 1 2)))+((g 2 0)*(g 2 2)))+((g 3 0)*(g 3 2))) ((((0+(g 0 0))+(g 1 0))+(g 2 0))+(g 3 0))):Int)=(Int.tdiv ((((0+((g 0 0)*(g 0 2)))+((g 1 0)*(g 1 2)))+((g 2 0)*(g 2 2)))+((g 3 0)*(g 3 2))) ((((0+(g 0 0))+(g 1 0))+(g 2 0))+(g 3 0))))∧True))∧((((0):Int)=0)∧True))))))))))))))))))))))))))))))))
theorem Zp (g:Nat→Nat→Int) (h1:allP g 5=true) (q0:1≤g 0 0∧g 0 0≤1000) (a0:0≤g 0 0*g 0 1∧g 0 0*g 0 1≤200000) (b0:0≤g 0 0*g 0 2∧g 0 0*g 0 2≤200000) (q1:1≤g 1 0∧g 1 0≤1000) (a1:0≤g 1 0*g 1 1∧g 1 0*g 1 1≤200000) (b1:0≤g 1 0*g 1 2∧g 1 0*g 1 2≤200000) (q2:1≤g 2 0∧g 2 0≤1000) (a2:0≤g 2 0*g 2 1∧g 2 0*g 2 1≤200000) (b2:0≤g 2 0*g 2 2∧g 2 0*g 2 2≤200000) (q3:1≤g 3 0∧g 3 0≤1000) (a3:0≤g 3 0*g 3 1∧g 3 0*g 3 1≤200000) (b3:0≤g 3 0*g 3 2∧g 3 0*g 3 2≤200000) (q4:1≤g 4 0∧g 4 0≤1000) (a4:0≤g 4 0*g 4 1∧g 4 0*g 4 1≤200000) (b4:0≤g 4 0*g 4 2∧g 4 0*g 4 2≤200000) (cl:0≤Int.tdiv (0+g 0 0*g 0 1+g 1 0*g 1 1+g 2 0*g 2 1+g 3 0*g 3 1+g 4 0*g 4 1) (0+g 0 0+g 1 0+g 2 0+g 3 0+g 4 0)∧Int.tdiv (0+g 0 0*g 0 1+g 1 0*g 1 1+g 2 0*g 2 1+g 3 0*g 3 1+g 4 0*g 4 1) (0+g 0 0+g 1 0+g 2 0+g 3 0+g 4 0)≤200) (ch:0≤Int.tdiv (0+g 0 0*g 0 2+g 1 0*g 1 2+g 2 0*g 2 2+g 3 0*g 3 2+g 4 0*g 4 2) (0+g 0 0+g 1 0+g 2 0+g 3 0+g 4 0)∧Int.tdiv (0+g 0 0*g 0 2+g 1 0*g 1 2+g 2 0*g 2 2+g 3 0*g 3 2+g 4 0*g 4 2) (0+g 0 0+g 1 0+g 2 0+g 3 0+g 4 0)≤200):VC (aC Try.prog XMx 300 15 (enc [.one (.sl 3 5 g)] 0) 1 (fun v=>aP v (mxV (jC g 5 1) (jC g 5 2) 0))) (.go 122768461387808327910297208638914899618308096 .nil):=aB (((not (MX.allP g 5))=false∧((small ((g 0 0)*(g 0 1)))=true∧((small (0+((g 0 0)*(g 0 1))))=true∧((small (0+(g 0 0)))=true∧((small ((g 1 0)*(g 1 1)))=true∧((small ((0+((g 0 0)*(g 0 1)))+((g 1 0)*(g 1 1))))=true∧((small ((0+(g 0 0))+(g 1 0)))=true∧((small ((g 2 0)*(g 2 1)))=true∧((small (((0+((g 0 0)*(g 0 1)))+((g 1 0)*(g 1 1)))+((g 2 0)*(g 2 1))))=true∧((small (((0+(g 0 0))+(g 1 0))+(g 2 0)))=true∧((small ((g 3 0)*(g 3 1)))=true∧((small ((((0+((g 0 0)*(g 0 1)))+((g 1 0)*(g 1 1)))+((g 2 0)*(g 2 1)))+((g 3 0)*(g 3 1))))=true∧((small ((((0+(g 0 0))+(g 1 0))+(g 2 0))+(g 3 0)))=true∧((small ((g 4 0)*(g 4 1)))=true∧((small (((((0+((g 0 0)*(g 0 1)))+((g 1 0)*(g 1 1)))+((g 2 0)*(g 2 1)))+((g 3 0)*(g 3 1)))+((g 4 0)*(g 4 1))))=true∧((small (((((0+(g 0 0))+(g 1 0))+(g 2 0))+(g 3 0))+(g 4 0)))=true∧((ah (((((0+(g 0 0))+(g 1 0))+(g 2 0))+(g 3 0))+(g 4 0)) 0)=false∧((small (Int.tdiv (((((0+((g 0 0)*(g 0 1)))+((g 1 0)*(g 1 1)))+((g 2 0)*(g 2 1)))+((g 3 0)*(g 3 1)))+((g 4 0)*(g 4 1))) (((((0+(g 0 0))+(g 1 0))+(g 2 0))+(g 3 0))+(g 4 0))))=true∧((small ((g 0 0)*(g 0 2)))=true∧((small (0+((g 0 0)*(g 0 2))))=true∧((small (0+(g 0 0)))=true∧((small ((g 1 0)*(g 1 2)))=true∧((small ((0+((g 0 0)*(g 0 2)))+((g 1 0)*(g 1 2))))=true∧((small ((0+(g 0 0))+(g 1 0)))=true∧((small ((g 2 0)*(g 2 2)))=true∧((small (((0+((g 0 0)*(g 0 2)))+((g 1 0)*(g 1 2)))+((g 2 0)*(g 2 2))))=true∧((small (((0+(g 0 0))+(g 1 0))+(g 2 0)))=true∧((small ((g 3 0)*(g 3 2)))=true∧((small ((((0+((g 0 0)*(g 0 2)))+((g 1 0)*(g 1 2)))+((g 2 0)*(g 2 2)))+((g 3 0)*(g 3 2))))=true∧((small ((((0+(g 0 0))+(g 1 0))+(g 2 0))+(g 3 0)))=true∧((small ((g 4 0)*(g 4 2)))=true∧((small (((((0+((g 0 0)*(g 0 2)))+((g 1 0)*(g 1 2)))+((g 2 0)*(g 2 2)))+((g 3 0)*(g 3 2)))+((g 4 0)*(g 4 2))))=true∧((small (((((0+(g 0 0))+(g 1 0))+(g 2 0))+(g 3 0))+(g 4 0)))=true∧((ah (((((0+(g 0 0))+(g 1 0))+(g 2 0))+(g 3 0))+(g 4 0)) 0)=false∧((small (Int.tdiv (((((0+((g 0 0)*(g 0 2)))+((g 1 0)*(g 1 2)))+((g 2 0)*(g 2 2)))+((g 3 0)*(g 3 2)))+((g 4 0)*(g 4 2))) (((((0+(g 0 0))+(g 1 0))+(g 2 0))+(g 3 0))+(g 4 0))))=true∧(((((Int.tdiv (((((0+((g 0 0)*(g 0 1)))+((g 1 0)*(g 1 1)))+((g 2 0)*(g 2 1)))+((g 3 0)*(g 3 1)))+((g 4 0)*(g 4 1))) (((((0+(g 0 0))+(g 1 0))+(g 2 0))+(g 3 0))+(g 4 0))):Int)=(Int.tdiv (((((0+((g 0 0)*(g 0 1)))+((g 1 0)*(g 1 1)))+((g 2 0)*(g 2 1)))+((g 3 0)*(g 3 1)))+((g 4 0)*(g 4 1))) (((((0+(g 0 0))+(g 1 0))+(g 2 0))+(g 3 0))+(g 4 0))))∧((((Int.tdiv (((((0+((g 0 0)*(g 0 2)))+((g 1 0)*(g 1 2)))+((g 2 0)*(g 2 2)))+((g 3 0)*(g 3 2)))+((g 4 0)*(g 4 2))) (((((0+(g 0 0))+(g 1 0))+(g 2 0))+(g 3 0))+(g 4 0))):Int)=(Int.tdiv (((((0+((g 0 0)*(g 0 2)))+((g 1 0)*(g 1 2)))+((g 2 0)*(g 2 2)))+((g 3 0)*(g 3 2)))+((g 4 0)*(g 4 2))) (((((0+(g 0 0))+(g 1 0))+(g 2 0))+(g 3 0))+(g 4 0))))∧True))∧((((0):Int)=0)∧True))))))))))))))))))))))))))))))))))))))
theorem ug (f:Nat→Int) (m:Nat):uK f (m+1)=uK f m+f m:=rfl
theorem O9 {q x:Int} (h1:1≤q∧q≤1000) (h2:0≤x∧x≤200):0≤q*x∧q*x≤200*q∧q*x≤200000:=by
 have a:0≤q*x:=Int.mul_nonneg (by omega) h2.1
 have b:q*x≤q*200:=Int.mul_le_mul_of_nonneg_left h2.2 (by omega)
 omega
theorem Ua {g:Nat→Nat→Int} {j:Nat} (hj:j=1∨j=2):∀ {m:Nat},(∀ k,k<m→1≤g k 0∧g k 0≤1000∧0≤g k 1∧g k 1≤g k 2∧g k 2≤200)→0≤uK (fun i=>g i 0*g i j) m∧uK (fun i=>g i 0*g i j) m≤200*uK (fun i=>g i 0) m∧(m:Int)≤uK (fun i=>g i 0) m:=by
 intro m
 induction m with
 | zero=>intro _;exact ⟨Int.le_refl _,Int.le_refl _,Int.le_refl _⟩
 | succ m ih =>
  intro h
  have a:=ih fun k hk=>h k (by omega)
  have b:=h m (by omega)
  have c:=O9 (q:=g m 0) (x:=g m j) ⟨b.1,b.2.1⟩ (by rcases hj with rfl | rfl<;>omega)
  rw [ug,ug]
  exact ⟨by omega,by omega,by push_cast;omega⟩
theorem YM {g:Nat→Nat→Int} {j:Nat} (hj:j=1∨j=2) {m:Nat} (hm:0<m) (h:∀ k,k<m→1≤g k 0∧g k 0≤1000∧0≤g k 1∧g k 1≤g k 2∧g k 2≤200):0≤jC g m j∧jC g m j≤200:=by
 obtain ⟨a,b,c⟩:=Ua hj h
 unfold jC
 rw [Int.tdiv_eq_ediv_of_nonneg a]
 have hp:0<uK (fun i=>g i 0) m:=by omega
 exact ⟨Int.ediv_nonneg a (by omega),Int.ediv_le_of_le_mul hp b⟩
theorem CQ {g:Nat→Nat→Int} {m:Nat} (h:allP g m=true):∀ k,k<m→1≤g k 0∧g k 0≤1000∧0≤g k 1∧g k 1≤g k 2∧g k 2≤200:=fun k hk=>okP_t.mp (bK h k hk)
def Ot:Val:=fun das=>match das with | [.one (.sl 3 m g)]=>some (true,mxV (mxL g m) (mxH g m) (mxE g m)) | _=>none
theorem ja (g:Nat→Nat→Int) (m:Nat):(mxE g m=3∧¬ m≤5)∨(mxE g m=1∧m≤5∧(m=0∨allP g m=false))∨(mxE g m=0∧m≤5∧0<m∧allP g m=true):=by
 unfold mxE
 by_cases h:m≤5
 ·rw [show Nat.ble m 5=true from Nat.ble_eq_true_of_le h]
  by_cases h0:0<m
  ·rw [show Nat.blt 0 m=true from Nat.ble_eq_true_of_le h0]
   cases ha:allP g m with
   | true=>exact .inr (.inr ⟨rfl,h,h0,rfl⟩)
   | false=>exact .inr (.inl ⟨rfl,h,.inr rfl⟩)
  ·have:m=0:=by omega
   subst this
   exact .inr (.inl ⟨rfl,h,.inl rfl⟩)
 ·rw [(IW _ _).mpr (by omega)];exact .inl ⟨rfl,h⟩
theorem XJ:Con Try.prog 15 Ot:=by
 intro das v hv
 unfold Ot at hv
 split at hv
 ·rename_i m g
  have hv:=congrArg Prod.snd (Option.some.inj hv)
  subst hv
  rcases ja g m with ⟨e,h⟩ | ⟨e,h,h0⟩ | ⟨e,h,h0,ha⟩
  ·have e1:mxL g m=0:=by unfold mxL;rw [(yC _ _).mpr (by omega)];rfl
   have e2:mxH g m=0:=by unfold mxH;rw [(yC _ _).mpr (by omega)];rfl
   rw [e1,e2,e]
   exact ak az mg rfl (das:=[.one (.sl 3 m g)]) (mx6 m g h)
  ·have e1:mxL g m=0:=by unfold mxL;rw [(yC _ _).mpr (by omega)];rfl
   have e2:mxH g m=0:=by unfold mxH;rw [(yC _ _).mpr (by omega)];rfl
   rw [e1,e2,e]
   by_cases hz:m=0
   ·subst hz
    exact ak az mg rfl (das:=[.one (.sl 3 0 g)]) (mx0 g)
   ·exact ak az mg rfl (das:=[.one (.sl 3 m g)]) (mxF m g h (by omega) (h0.resolve_left hz))
  ·have e1:mxL g m=jC g m 1:=by unfold mxL;rw [(iF _ _).mpr e];rfl
   have e2:mxH g m=jC g m 2:=by unfold mxH;rw [(iF _ _).mpr e];rfl
   rw [e1,e2,e]
   have hk:=CQ ha
   have hq:∀ i,i<m→1≤g i 0∧g i 0≤1000:=fun i hi=>⟨(hk i hi).1,(hk i hi).2.1⟩
   have hl:∀ i,i<m→0≤g i 0*g i 1∧g i 0*g i 1≤200000:=fun i hi=>by
    have b:=hk i hi
    have c:=O9 (hq i hi) (x:=g i 1) (by omega)
    exact ⟨c.1,c.2.2⟩
   have hh:∀ i,i<m→0≤g i 0*g i 2∧g i 0*g i 2≤200000:=fun i hi=>by
    have b:=hk i hi
    have c:=O9 (hq i hi) (x:=g i 2) (by omega)
    exact ⟨c.1,c.2.2⟩
   have cl:=YM (j:=1) (.inl rfl) h0 hk
   have ch:=YM (j:=2) (.inr rfl) h0 hk
   have:m=1∨m=2∨m=3∨m=4∨m=5:=by omega
   rcases this with rfl | rfl | rfl | rfl | rfl
   ·exact ak az mg rfl (das:=[.one (.sl 3 1 g)]) (YR g ha (hq 0 (by omega)) (hl 0 (by omega)) (hh 0 (by omega)) cl ch)
   ·exact ak az mg rfl (das:=[.one (.sl 3 2 g)]) (Zv g ha (hq 0 (by omega)) (hl 0 (by omega)) (hh 0 (by omega)) (hq 1 (by omega)) (hl 1 (by omega)) (hh 1 (by omega)) cl ch)
   ·exact ak az mg rfl (das:=[.one (.sl 3 3 g)]) (YX g ha (hq 0 (by omega)) (hl 0 (by omega)) (hh 0 (by omega)) (hq 1 (by omega)) (hl 1 (by omega)) (hh 1 (by omega)) (hq 2 (by omega)) (hl 2 (by omega)) (hh 2 (by omega)) cl ch)
   ·exact ak az mg rfl (das:=[.one (.sl 3 4 g)]) (ZH g ha (hq 0 (by omega)) (hl 0 (by omega)) (hh 0 (by omega)) (hq 1 (by omega)) (hl 1 (by omega)) (hh 1 (by omega)) (hq 2 (by omega)) (hl 2 (by omega)) (hh 2 (by omega)) (hq 3 (by omega)) (hl 3 (by omega)) (hh 3 (by omega)) cl ch)
   ·exact ak az mg rfl (das:=[.one (.sl 3 5 g)]) (Zp g ha (hq 0 (by omega)) (hl 0 (by omega)) (hh 0 (by omega)) (hq 1 (by omega)) (hl 1 (by omega)) (hh 1 (by omega)) (hq 2 (by omega)) (hl 2 (by omega)) (hh 2 (by omega)) (hq 3 (by omega)) (hl 3 (by omega)) (hh 3 (by omega)) (hq 4 (by omega)) (hl 4 (by omega)) (hh 4 (by omega)) cl ch)
 ·cases hv
end
end MX
end Go.Proofs.Ythakjbbhbnhmeaa
