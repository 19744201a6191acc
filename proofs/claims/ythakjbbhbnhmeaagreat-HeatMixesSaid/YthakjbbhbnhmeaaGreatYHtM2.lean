/- Mixtures: the reference's error, the law's copy of a mixture. -/
import Derived.Test.YthakjbbhbnhmeaaGreatYHtM1
set_option linter.all false
set_option linter.unusedSimpArgs false
set_option linter.unusedVariables false
namespace Go.Proofs.YthakjbbhbnhmeaaGreat
namespace MX
open Go Go.Ev
set_option maxRecDepth 1000000
set_option maxHeartbeats 0
noncomputable section
theorem Q7 {k:Nat} {H:EH} {v:V} {len e:Nat} {f:Nat→Nat→Int} (h:qR k H v len e f) (new:Nat):Fn0 H k new v (.fz true new (ay .i64 f) len e):=by
 unfold qR at h
 split at h
 ·have h:(0:Nat)=len:=by injection h
  subst h
  exact .nilS
 ·obtain ⟨h1,h2⟩:=qj h
  obtain ⟨_,rfl,rfl,rfl⟩:=U6 h2
  exact .fz (bz h1) (fun _ _ _ _=>rfl) (fun _ _ _ _ => .int _ _) (fun _ _ _ _ => .int _ _)
 ·rename_i b off l e'
  obtain ⟨h1,h2⟩:=h
  have h1:l=len:=by injection h1
  subst h1
  split at h2
  ·rename_i c lo sz g hb
   obtain ⟨q1,h3⟩:=qj h2
   clear h2
   obtain ⟨q2,h4⟩:=qj h3
   clear h3
   obtain ⟨q3,h5⟩:=qj h4
   clear h4
   have:=nb q1
   subst this
   have q2:=Nat.le_of_ble_eq_true q2
   have q3:off+l*e'≤sz:=Nat.le_of_ble_eq_true q3
   refine .slice (d:=ay .i64 f) hb q2 q3 (fun i j hi hj=>?_) (fun _ _ _ _=>rfl) (fun _ _ _ _ => .int _ _) (fun _ _ _ _ => .int _ _)
   have:=GK h5 i j hi hj
   rw [Nat.zero_add] at this
   exact this
  ·exact h2.elim
 ·exact h.elim
theorem po0 (g:Nat→Nat→Int):VC (jF Tryz.prog aZ 600 6 (enc [.one (.sl 3 0 g)] 0) 1 (fun v H=>qR 1 H v 0 3 g)) .nil:=aP ((((0):Int)=0))
theorem po1 (g:Nat→Nat→Int):VC (jF Tryz.prog aZ 600 6 (enc [.one (.sl 3 1 g)] 0) 1 (fun v H=>qR 1 H v 1 3 g)) .nil:=aP ((((((1:Nat):Int):Int)=1)∧(((((g 0 0):Int)=(g 0 0))∧((((g 0 1):Int)=(g 0 1))∧((((g 0 2):Int)=(g 0 2))∧True)))∧True)))
theorem po2 (g:Nat→Nat→Int):VC (jF Tryz.prog aZ 600 6 (enc [.one (.sl 3 2 g)] 0) 1 (fun v H=>qR 1 H v 2 3 g)) .nil:=aP (((((((1+1):Nat):Int):Int)=2)∧(((((g 0 0):Int)=(g 0 0))∧((((g 0 1):Int)=(g 0 1))∧((((g 0 2):Int)=(g 0 2))∧True)))∧(((((g 1 0):Int)=(g 1 0))∧((((g 1 1):Int)=(g 1 1))∧((((g 1 2):Int)=(g 1 2))∧True)))∧True))))
theorem po3 (g:Nat→Nat→Int):VC (jF Tryz.prog aZ 600 6 (enc [.one (.sl 3 3 g)] 0) 1 (fun v H=>qR 1 H v 3 3 g)) .nil:=aP ((((((((1+1)+1):Nat):Int):Int)=3)∧(((((g 0 0):Int)=(g 0 0))∧((((g 0 1):Int)=(g 0 1))∧((((g 0 2):Int)=(g 0 2))∧True)))∧(((((g 1 0):Int)=(g 1 0))∧((((g 1 1):Int)=(g 1 1))∧((((g 1 2):Int)=(g 1 2))∧True)))∧(((((g 2 0):Int)=(g 2 0))∧((((g 2 1):Int)=(g 2 1))∧((((g 2 2):Int)=(g 2 2))∧True)))∧True)))))
theorem po4 (g:Nat→Nat→Int):VC (jF Tryz.prog aZ 600 6 (enc [.one (.sl 3 4 g)] 0) 1 (fun v H=>qR 1 H v 4 3 g)) .nil:=aP (((((((((1+1)+1)+1):Nat):Int):Int)=4)∧(((((g 0 0):Int)=(g 0 0))∧((((g 0 1):Int)=(g 0 1))∧((((g 0 2):Int)=(g 0 2))∧True)))∧(((((g 1 0):Int)=(g 1 0))∧((((g 1 1):Int)=(g 1 1))∧((((g 1 2):Int)=(g 1 2))∧True)))∧(((((g 2 0):Int)=(g 2 0))∧((((g 2 1):Int)=(g 2 1))∧((((g 2 2):Int)=(g 2 2))∧True)))∧(((((g 3 0):Int)=(g 3 0))∧((((g 3 1):Int)=(g 3 1))∧((((g 3 2):Int)=(g 3 2))∧True)))∧True))))))
theorem po5 (g:Nat→Nat→Int):VC (jF Tryz.prog aZ 600 6 (enc [.one (.sl 3 5 g)] 0) 1 (fun v H=>qR 1 H v 5 3 g)) .nil:=aP ((((((((((1+1)+1)+1)+1):Nat):Int):Int)=5)∧(((((g 0 0):Int)=(g 0 0))∧((((g 0 1):Int)=(g 0 1))∧((((g 0 2):Int)=(g 0 2))∧True)))∧(((((g 1 0):Int)=(g 1 0))∧((((g 1 1):Int)=(g 1 1))∧((((g 1 2):Int)=(g 1 2))∧True)))∧(((((g 2 0):Int)=(g 2 0))∧((((g 2 1):Int)=(g 2 1))∧((((g 2 2):Int)=(g 2 2))∧True)))∧(((((g 3 0):Int)=(g 3 0))∧((((g 3 1):Int)=(g 3 1))∧((((g 3 2):Int)=(g 3 2))∧True)))∧(((((g 4 0):Int)=(g 4 0))∧((((g 4 1):Int)=(g 4 1))∧((((g 4 2):Int)=(g 4 2))∧True)))∧True)))))))
theorem po6 (g:Nat→Nat→Int):VC (jF Tryz.prog aZ 600 6 (enc [.one (.sl 3 6 g)] 0) 1 (fun v H=>qR 1 H v 6 3 g)) .nil:=aP (((((((((((1+1)+1)+1)+1)+1):Nat):Int):Int)=6)∧(((((g 0 0):Int)=(g 0 0))∧((((g 0 1):Int)=(g 0 1))∧((((g 0 2):Int)=(g 0 2))∧True)))∧(((((g 1 0):Int)=(g 1 0))∧((((g 1 1):Int)=(g 1 1))∧((((g 1 2):Int)=(g 1 2))∧True)))∧(((((g 2 0):Int)=(g 2 0))∧((((g 2 1):Int)=(g 2 1))∧((((g 2 2):Int)=(g 2 2))∧True)))∧(((((g 3 0):Int)=(g 3 0))∧((((g 3 1):Int)=(g 3 1))∧((((g 3 2):Int)=(g 3 2))∧True)))∧(((((g 4 0):Int)=(g 4 0))∧((((g 4 1):Int)=(g 4 1))∧((((g 4 2):Int)=(g 4 2))∧True)))∧(((((g 5 0):Int)=(g 5 0))∧((((g 5 1):Int)=(g 5 1))∧((((g 5 2):Int)=(g 5 2))∧True)))∧True))))))))
theorem po7 (g:Nat→Nat→Int):VC (jF Tryz.prog aZ 600 6 (enc [.one (.sl 3 7 g)] 0) 1 (fun v H=>qR 1 H v 7 3 g)) .nil:=aP ((((((((((((1+1)+1)+1)+1)+1)+1):Nat):Int):Int)=7)∧(((((g 0 0):Int)=(g 0 0))∧((((g 0 1):Int)=(g 0 1))∧((((g 0 2):Int)=(g 0 2))∧True)))∧(((((g 1 0):Int)=(g 1 0))∧((((g 1 1):Int)=(g 1 1))∧((((g 1 2):Int)=(g 1 2))∧True)))∧(((((g 2 0):Int)=(g 2 0))∧((((g 2 1):Int)=(g 2 1))∧((((g 2 2):Int)=(g 2 2))∧True)))∧(((((g 3 0):Int)=(g 3 0))∧((((g 3 1):Int)=(g 3 1))∧((((g 3 2):Int)=(g 3 2))∧True)))∧(((((g 4 0):Int)=(g 4 0))∧((((g 4 1):Int)=(g 4 1))∧((((g 4 2):Int)=(g 4 2))∧True)))∧(((((g 5 0):Int)=(g 5 0))∧((((g 5 1):Int)=(g 5 1))∧((((g 5 2):Int)=(g 5 2))∧True)))∧(((((g 6 0):Int)=(g 6 0))∧((((g 6 1):Int)=(g 6 1))∧((((g 6 2):Int)=(g 6 2))∧True)))∧True)))))))))
theorem po8 (g:Nat→Nat→Int):VC (jF Tryz.prog aZ 600 6 (enc [.one (.sl 3 8 g)] 0) 1 (fun v H=>qR 1 H v 8 3 g)) .nil:=aP (((((((((((((1+1)+1)+1)+1)+1)+1)+1):Nat):Int):Int)=8)∧(((((g 0 0):Int)=(g 0 0))∧((((g 0 1):Int)=(g 0 1))∧((((g 0 2):Int)=(g 0 2))∧True)))∧(((((g 1 0):Int)=(g 1 0))∧((((g 1 1):Int)=(g 1 1))∧((((g 1 2):Int)=(g 1 2))∧True)))∧(((((g 2 0):Int)=(g 2 0))∧((((g 2 1):Int)=(g 2 1))∧((((g 2 2):Int)=(g 2 2))∧True)))∧(((((g 3 0):Int)=(g 3 0))∧((((g 3 1):Int)=(g 3 1))∧((((g 3 2):Int)=(g 3 2))∧True)))∧(((((g 4 0):Int)=(g 4 0))∧((((g 4 1):Int)=(g 4 1))∧((((g 4 2):Int)=(g 4 2))∧True)))∧(((((g 5 0):Int)=(g 5 0))∧((((g 5 1):Int)=(g 5 1))∧((((g 5 2):Int)=(g 5 2))∧True)))∧(((((g 6 0):Int)=(g 6 0))∧((((g 6 1):Int)=(g 6 1))∧((((g 6 2):Int)=(g 6 2))∧True)))∧(((((g 7 0):Int)=(g 7 0))∧((((g 7 1):Int)=(g 7 1))∧((((g 7 2):Int)=(g 7 2))∧True)))∧True))))))))))
theorem po9 (g:Nat→Nat→Int):VC (jF Tryz.prog aZ 600 6 (enc [.one (.sl 3 9 g)] 0) 1 (fun v H=>qR 1 H v 9 3 g)) .nil:=aP ((((((((((((((1+1)+1)+1)+1)+1)+1)+1)+1):Nat):Int):Int)=9)∧(((((g 0 0):Int)=(g 0 0))∧((((g 0 1):Int)=(g 0 1))∧((((g 0 2):Int)=(g 0 2))∧True)))∧(((((g 1 0):Int)=(g 1 0))∧((((g 1 1):Int)=(g 1 1))∧((((g 1 2):Int)=(g 1 2))∧True)))∧(((((g 2 0):Int)=(g 2 0))∧((((g 2 1):Int)=(g 2 1))∧((((g 2 2):Int)=(g 2 2))∧True)))∧(((((g 3 0):Int)=(g 3 0))∧((((g 3 1):Int)=(g 3 1))∧((((g 3 2):Int)=(g 3 2))∧True)))∧(((((g 4 0):Int)=(g 4 0))∧((((g 4 1):Int)=(g 4 1))∧((((g 4 2):Int)=(g 4 2))∧True)))∧(((((g 5 0):Int)=(g 5 0))∧((((g 5 1):Int)=(g 5 1))∧((((g 5 2):Int)=(g 5 2))∧True)))∧(((((g 6 0):Int)=(g 6 0))∧((((g 6 1):Int)=(g 6 1))∧((((g 6 2):Int)=(g 6 2))∧True)))∧(((((g 7 0):Int)=(g 7 0))∧((((g 7 1):Int)=(g 7 1))∧((((g 7 2):Int)=(g 7 2))∧True)))∧(((((g 8 0):Int)=(g 8 0))∧((((g 8 1):Int)=(g 8 1))∧((((g 8 2):Int)=(g 8 2))∧True)))∧True)))))))))))
def OB:Val:=fun das=>match das with | [.one (.sl 3 m g)]=>some (Nat.ble m 9,.fz true 0 (ay .i64 g) m 3) | _=>none
theorem VH:Wv Tryz.prog 6 OB:=by
 intro das v hv
 unfold OB at hv
 split at hv
 ·rename_i m g
  have hb:=congrArg Prod.fst (Option.some.inj hv)
  have hv:=congrArg Prod.snd (Option.some.inj hv)
  subst hv
  have hb:=Nat.le_of_ble_eq_true hb
  have fin:∀ {h:HT},VC (jF Tryz.prog aZ 600 6 (enc [.one (.sl 3 m g)] 0) 1 (fun v H=>qR 1 H v m 3 g)) h→∃ v' H',SpecCall Tryz.prog 6 (enc [.one (.sl 3 m g)] 0) (aH 2) v' H'∧∀ new,FnV H' 1 new v' (nV new (.fz true 0 (ay .i64 g) m 3)):=fun hvc=>by
   obtain ⟨v',H',h1,h2⟩:=L6 aT aG hvc
   exact ⟨v',H',h1,fun new => .one (.one (Q7 h2 new))⟩
  have:m=0∨m=1∨m=2∨m=3∨m=4∨m=5∨m=6∨m=7∨m=8∨m=9:=by omega
  rcases this with rfl | rfl | rfl | rfl | rfl | rfl | rfl | rfl | rfl | rfl
  ·exact fin (po0 g)
  ·exact fin (po1 g)
  ·exact fin (po2 g)
  ·exact fin (po3 g)
  ·exact fin (po4 g)
  ·exact fin (po5 g)
  ·exact fin (po6 g)
  ·exact fin (po7 g)
  ·exact fin (po8 g)
  ·exact fin (po9 g)
 ·cases hv
def ltF:LT:=⟨[0,3],[0],[2],2⟩
def sF (m:Nat) (g:Nat→Nat→Int) (k:Nat):LS:=⟨[.fz true 0 (ay .i64 g) m 3,.int .i64 k],[]⟩
def bF:Code:=sub ([1,1,0,1,0]++[0]) (kJ Tryz.prog 7)
theorem mf6 (m:Nat) (g:Nat→Nat→Int) (h:¬ m≤5):VC (di Tryz.prog aZ 300 7 (enc [.one (.sl 3 m g)] 0) 1 (fun v=>bZ v (.int .i64 3))) (.go 5 .nil):=aP (((not (dn (m:Int) 5))=true∧(((3):Int)=3)))
theorem eF (m:Nat) (g:Nat→Nat→Int) (h:m≤5):VC (U4 Tryz.prog aZ 300 7 [1,1,0,1,0] [.one (.sl 3 m g)] (aH 2) ltF 32 60 (sF m g 0)) (.go 6 .nil):=aP (((not (dn (m:Int) 5))=false∧(True∧(((((V.fz true 0 (ay .i64 g) m 3):V)=(V.fz true 0 (ay .i64 g) m 3))∧((((0):Int)=0)∧True))∧True))))
theorem rF1 (m:Nat) (g:Nat→Nat→Int) (k:Nat) (h1:k<m) (h2:m≤1000000) (h3:1≤g k 0∧g k 0≤1000∧0≤g k 1∧g k 1≤g k 2∧g k 2≤200):VC (oI Tryz.prog aZ 300 bF (aH 2) ltF 32 60 (sF m g k) (.next (sF m g (k+1)))) (.go 1623331510494383317013 .nil):=aP (((not (dn (m:Int) (k:Int)))=true∧((Nat.blt k m)=true∧((dn 1 (g k 0))=true∧((not (dn (g k 0) 1000))=false∧((Nat.blt k m)=true∧((dn 0 (g k 1))=true∧((dn (g k 1) (g k 2))=true∧((dn (g k 2) 200)=true∧((small ((g k 2)-(g k 1)))=true∧((not (dn ((g k 2)-(g k 1)) 200))=false∧((small ((k:Int)+1))=true∧(((((V.fz true 0 (ay .i64 g) m 3):V)=(V.fz true 0 (ay .i64 g) m 3))∧(((((k:Int)+1):Int)=(((k+1):Nat):Int))∧True))∧True)))))))))))))
theorem rF2 (m:Nat) (g:Nat→Nat→Int) (k:Nat) (h1:k<m) (h2:m≤1000000) (h3:¬ (1≤g k 0∧g k 0≤1000∧0≤g k 1∧g k 1≤g k 2∧g k 2≤200)):VC (oI Tryz.prog aZ 300 bF (aH 2) ltF 32 60 (sF m g k) (.ret ⟨[.int .i64 1],[]⟩)) (.go 21 (.sp (.go 64 (.sp .nil (.go 4112 (.sp (.go 64 (.sp (.go 1536 .nil) .nil)) .nil)))) .nil)):=aP (((not (dn (m:Int) (k:Int)))=true∧((Nat.blt k m)=true∧(((dn 1 (g k 0))=true→(((not (dn (g k 0) 1000))=true→(((((1):Int)=1)∧True)∧True)) ∧
 ((not (dn (g k 0) (1000)))=false→((Nat.blt k m)=true∧(((dn (0) (g k 1))=true→(((dn (g k 1) (g k 2))=true→((dn (g k 2) (200))=false∧(((((1):Int)=(1))∧True)∧True))) ∧
 ((dn (g k 1) (g k 2))=false→(((((1):Int)=(1))∧True)∧True)))) ∧
 ((dn (0) (g k 1))=false→(((((1):Int)=(1))∧True)∧True))))))) ∧
 ((dn (1) (g k 0))=false→(((((1):Int)=(1))∧True)∧True))))))
theorem rF3 (m:Nat) (g:Nat→Nat→Int) (k:Nat) (h1:¬ k<m):VC (oI Tryz.prog aZ 300 bF (aH 2) ltF 32 60 (sF m g k) (.exit 0 ⟨[.fz true 0 (ay .i64 g) m 3],[]⟩)) (.go 6 .nil):=aP (((not (dn (m:Int) (k:Int)))=false∧(((((V.fz true 0 (ay .i64 g) m 3):V)=(V.fz true 0 (ay .i64 g) m 3))∧True)∧True)))
theorem fF0 (g:Nat→Nat→Int):VC (fromD Tryz.prog aZ 300 7 [1,1,0,1,0] (Lv.res ltF 32 (BM (aH 2) ltF 60 (.exit 0 ⟨[.fz true 0 (ay .i64 g) 0 3],[]⟩)) (.exit 0 ⟨[.fz true 0 (ay .i64 g) 0 3],[]⟩)) (.int .i64 1)) .nil:=aP ((((1):Int)=1))
theorem fF1 (m:Nat) (g:Nat→Nat→Int) (h:0<m):VC (fromD Tryz.prog aZ 300 7 [1,1,0,1,0] (Lv.res ltF 32 (BM (aH 2) ltF 60 (.exit 0 ⟨[.fz true 0 (ay .i64 g) m 3],[]⟩)) (.exit 0 ⟨[.fz true 0 (ay .i64 g) m 3],[]⟩)) (.int .i64 0)) (.go 6 .nil):=aP (((eu (m:Int) 0)=false∧(((0):Int)=0)))
theorem fF2  : VC (fromD Tryz.prog aZ 300 7 [1,1,0,1,0] (Lv.res ltF 32 (BM (aH 2) ltF 60 (.ret ⟨[.int .i64 1],[]⟩)) (.ret ⟨[.int .i64 1],[]⟩)) (.int .i64 1)) .nil:=aP ((((1):Int)=(1)))
def PL:Val:=fun das=>match das with | [.one (.sl 3 m g)]=>some (true,.int .i64 (mxE g m)) | _=>none
theorem V9:Con Tryz.prog 7 PL:=by
 intro das v hv
 unfold PL at hv
 split at hv
 ·rename_i m g
  have hv:=congrArg Prod.snd (Option.some.inj hv)
  subst hv
  by_cases h5:m≤5
  ·rcases yB (okP g) m with h | ⟨N,z1,z2,z3⟩
   ·refine ⟨rfl,?_⟩
    have ha:allP g m=true:=fP h
    have hL:=ni (body:=bF) (fun _ e=>by cases e) m (sF m g) (fun k hk=>gQ aT aG (rF1 m g k hk (by omega) (okP_t.mp (h k hk))).ok (by kernel_rfl) (by kernel_rfl)) (gQ aT aG (rF3 m g m (by omega)).ok (by kernel_rfl) (by kernel_rfl))
    show ∃ v' H',SpecCall _ _ _ _ v' H'∧bZ v' (.int .i64 (mxE g m))
    cases m with
    | zero=>exact jO aT aG (das:=[.one (.sl 3 0 g)]) (by kernel_rfl) (by kernel_rfl) (eF 0 g h5).ok hL (fF0 g).ok
    | succ n =>
     have e:mxE g (n+1)=0:=by
      rcases jS g (n+1) with ⟨_,q⟩ | ⟨_,_,q⟩ | ⟨q,_⟩
      ·omega
      ·rcases q with q | q
       ·omega
       ·rw [ha] at q;cases q
      ·exact q
     rw [e]
     exact jO aT aG (das:=[.one (.sl 3 (n+1) g)]) (by kernel_rfl) (by kernel_rfl) (eF (n+1) g h5).ok hL (fF1 (n+1) g (by omega)).ok
   ·refine ⟨rfl,?_⟩
    have ha:allP g m=false:=uS z1 z3
    have e:mxE g m=1:=by
     rcases jS g m with ⟨_,q⟩ | ⟨q,_⟩ | ⟨_,_,_,q⟩
     ·omega
     ·exact q
     ·rw [ha] at q;cases q
    show ∃ v' H',SpecCall _ _ _ _ v' H'∧bZ v' (.int .i64 (mxE g m))
    rw [e]
    exact jO aT aG (das:=[.one (.sl 3 m g)]) (by kernel_rfl) (by kernel_rfl) (eF m g h5).ok (ni (body:=bF) (fun _ e=>by cases e) N (sF m g) (fun k hk=>gQ aT aG (rF1 m g k (by omega) (by omega) (okP_t.mp (z2 k hk))).ok (by kernel_rfl) (by kernel_rfl)) (gQ aT aG (rF2 m g N z1 (by omega) (TB z3)).ok (by kernel_rfl) (by kernel_rfl))) fF2.ok
  ·have e:mxE g m=3:=by
    rcases jS g m with ⟨q,_⟩ | ⟨_,q,_⟩ | ⟨_,q,_⟩
    ·exact q
    ·omega
    ·omega
   rw [e]
   exact aY aT aG rfl (das:=[.one (.sl 3 m g)]) (mf6 m g h5)
 ·cases hv
end
end MX
end Go.Proofs.YthakjbbhbnhmeaaGreat
