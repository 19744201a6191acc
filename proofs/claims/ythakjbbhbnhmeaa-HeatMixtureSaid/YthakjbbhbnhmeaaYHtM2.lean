/- Mixtures: the reference's error, the law's copy of a mixture. -/
import Derived.Test.YthakjbbhbnhmeaaYHtM1
set_option linter.all false
set_option linter.unusedSimpArgs false
set_option linter.unusedVariables false
namespace Go.Proofs.Ythakjbbhbnhmeaa
namespace MX
open Go Go.Ev
set_option maxRecDepth 1000000
set_option maxHeartbeats 0
noncomputable section
theorem Q8 {k:Nat} {H:EH} {v:V} {len e:Nat} {f:Nat→Nat→Int} (h:rP k H v len e f) (new:Nat):Fn0 H k new v (.fz true new (aj .i64 f) len e):=by
 unfold rP at h
 split at h
 ·have h:(0:Nat)=len:=by injection h
  subst h
  exact .nilS
 ·obtain ⟨h1,h2⟩:=qA h
  obtain ⟨_,rfl,rfl,rfl⟩:=Vr h2
  exact .fz (bQ h1) (fun _ _ _ _=>rfl) (fun _ _ _ _ => .int _ _) (fun _ _ _ _ => .int _ _)
 ·rename_i b off l e'
  obtain ⟨h1,h2⟩:=h
  have h1:l=len:=by injection h1
  subst h1
  split at h2
  ·rename_i c lo sz g hb
   obtain ⟨q1,h3⟩:=qA h2
   clear h2
   obtain ⟨q2,h4⟩:=qA h3
   clear h3
   obtain ⟨q3,h5⟩:=qA h4
   clear h4
   have:=nb q1
   subst this
   have q2:=Nat.le_of_ble_eq_true q2
   have q3:off+l*e'≤sz:=Nat.le_of_ble_eq_true q3
   refine .slice (d:=aj .i64 f) hb q2 q3 (fun i j hi hj=>?_) (fun _ _ _ _=>rfl) (fun _ _ _ _ => .int _ _) (fun _ _ _ _ => .int _ _)
   have:=Ia h5 i j hi hj
   rw [Nat.zero_add] at this
   exact this
  ·exact h2.elim
 ·exact h.elim
theorem po0 (g:Nat→Nat→Int):VC (jO Try.prog bY 600 19 (enc [.one (.sl 3 0 g)] 0) 1 (fun v H=>rP 1 H v 0 3 g)) .nil:=aB ((((0):Int)=0))
theorem po1 (g:Nat→Nat→Int):VC (jO Try.prog bY 600 19 (enc [.one (.sl 3 1 g)] 0) 1 (fun v H=>rP 1 H v 1 3 g)) .nil:=aB ((((((1:Nat):Int):Int)=1)∧(((((g 0 0):Int)=(g 0 0))∧((((g 0 1):Int)=(g 0 1))∧((((g 0 2):Int)=(g 0 2))∧True)))∧True)))
theorem po2 (g:Nat→Nat→Int):VC (jO Try.prog bY 600 19 (enc [.one (.sl 3 2 g)] 0) 1 (fun v H=>rP 1 H v 2 3 g)) .nil:=aB (((((((1+1):Nat):Int):Int)=2)∧(((((g 0 0):Int)=(g 0 0))∧((((g 0 1):Int)=(g 0 1))∧((((g 0 2):Int)=(g 0 2))∧True)))∧(((((g 1 0):Int)=(g 1 0))∧((((g 1 1):Int)=(g 1 1))∧((((g 1 2):Int)=(g 1 2))∧True)))∧True))))
theorem po3 (g:Nat→Nat→Int):VC (jO Try.prog bY 600 19 (enc [.one (.sl 3 3 g)] 0) 1 (fun v H=>rP 1 H v 3 3 g)) .nil:=aB ((((((((1+1)+1):Nat):Int):Int)=3)∧(((((g 0 0):Int)=(g 0 0))∧((((g 0 1):Int)=(g 0 1))∧((((g 0 2):Int)=(g 0 2))∧True)))∧(((((g 1 0):Int)=(g 1 0))∧((((g 1 1):Int)=(g 1 1))∧((((g 1 2):Int)=(g 1 2))∧True)))∧(((((g 2 0):Int)=(g 2 0))∧((((g 2 1):Int)=(g 2 1))∧((((g 2 2):Int)=(g 2 2))∧True)))∧True)))))
theorem po4 (g:Nat→Nat→Int):VC (jO Try.prog bY 600 19 (enc [.one (.sl 3 4 g)] 0) 1 (fun v H=>rP 1 H v 4 3 g)) .nil:=aB (((((((((1+1)+1)+1):Nat):Int):Int)=4)∧(((((g 0 0):Int)=(g 0 0))∧((((g 0 1):Int)=(g 0 1))∧((((g 0 2):Int)=(g 0 2))∧True)))∧(((((g 1 0):Int)=(g 1 0))∧((((g 1 1):Int)=(g 1 1))∧((((g 1 2):Int)=(g 1 2))∧True)))∧(((((g 2 0):Int)=(g 2 0))∧((((g 2 1):Int)=(g 2 1))∧((((g 2 2):Int)=(g 2 2))∧True)))∧(((((g 3 0):Int)=(g 3 0))∧((((g 3 1):Int)=(g 3 1))∧((((g 3 2):Int)=(g 3 2))∧True)))∧True))))))
theorem po5 (g:Nat→Nat→Int):VC (jO Try.prog bY 600 19 (enc [.one (.sl 3 5 g)] 0) 1 (fun v H=>rP 1 H v 5 3 g)) .nil:=aB ((((((((((1+1)+1)+1)+1):Nat):Int):Int)=5)∧(((((g 0 0):Int)=(g 0 0))∧((((g 0 1):Int)=(g 0 1))∧((((g 0 2):Int)=(g 0 2))∧True)))∧(((((g 1 0):Int)=(g 1 0))∧((((g 1 1):Int)=(g 1 1))∧((((g 1 2):Int)=(g 1 2))∧True)))∧(((((g 2 0):Int)=(g 2 0))∧((((g 2 1):Int)=(g 2 1))∧((((g 2 2):Int)=(g 2 2))∧True)))∧(((((g 3 0):Int)=(g 3 0))∧((((g 3 1):Int)=(g 3 1))∧((((g 3 2):Int)=(g 3 2))∧True)))∧(((((g 4 0):Int)=(g 4 0))∧((((g 4 1):Int)=(g 4 1))∧((((g 4 2):Int)=(g 4 2))∧True)))∧True)))))))
theorem po6 (g:Nat→Nat→Int):VC (jO Try.prog bY 600 19 (enc [.one (.sl 3 6 g)] 0) 1 (fun v H=>rP 1 H v 6 3 g)) .nil:=aB (((((((((((1+1)+1)+1)+1)+1):Nat):Int):Int)=6)∧(((((g 0 0):Int)=(g 0 0))∧((((g 0 1):Int)=(g 0 1))∧((((g 0 2):Int)=(g 0 2))∧True)))∧(((((g 1 0):Int)=(g 1 0))∧((((g 1 1):Int)=(g 1 1))∧((((g 1 2):Int)=(g 1 2))∧True)))∧(((((g 2 0):Int)=(g 2 0))∧((((g 2 1):Int)=(g 2 1))∧((((g 2 2):Int)=(g 2 2))∧True)))∧(((((g 3 0):Int)=(g 3 0))∧((((g 3 1):Int)=(g 3 1))∧((((g 3 2):Int)=(g 3 2))∧True)))∧(((((g 4 0):Int)=(g 4 0))∧((((g 4 1):Int)=(g 4 1))∧((((g 4 2):Int)=(g 4 2))∧True)))∧(((((g 5 0):Int)=(g 5 0))∧((((g 5 1):Int)=(g 5 1))∧((((g 5 2):Int)=(g 5 2))∧True)))∧True))))))))
theorem po7 (g:Nat→Nat→Int):VC (jO Try.prog bY 600 19 (enc [.one (.sl 3 7 g)] 0) 1 (fun v H=>rP 1 H v 7 3 g)) .nil:=aB ((((((((((((1+1)+1)+1)+1)+1)+1):Nat):Int):Int)=7)∧(((((g 0 0):Int)=(g 0 0))∧((((g 0 1):Int)=(g 0 1))∧((((g 0 2):Int)=(g 0 2))∧True)))∧(((((g 1 0):Int)=(g 1 0))∧((((g 1 1):Int)=(g 1 1))∧((((g 1 2):Int)=(g 1 2))∧True)))∧(((((g 2 0):Int)=(g 2 0))∧((((g 2 1):Int)=(g 2 1))∧((((g 2 2):Int)=(g 2 2))∧True)))∧(((((g 3 0):Int)=(g 3 0))∧((((g 3 1):Int)=(g 3 1))∧((((g 3 2):Int)=(g 3 2))∧True)))∧(((((g 4 0):Int)=(g 4 0))∧((((g 4 1):Int)=(g 4 1))∧((((g 4 2):Int)=(g 4 2))∧True)))∧(((((g 5 0):Int)=(g 5 0))∧((((g 5 1):Int)=(g 5 1))∧((((g 5 2):Int)=(g 5 2))∧True)))∧(((((g 6 0):Int)=(g 6 0))∧((((g 6 1):Int)=(g 6 1))∧((((g 6 2):Int)=(g 6 2))∧True)))∧True)))))))))
theorem po8 (g:Nat→Nat→Int):VC (jO Try.prog bY 600 19 (enc [.one (.sl 3 8 g)] 0) 1 (fun v H=>rP 1 H v 8 3 g)) .nil:=aB (((((((((((((1+1)+1)+1)+1)+1)+1)+1):Nat):Int):Int)=8)∧(((((g 0 0):Int)=(g 0 0))∧((((g 0 1):Int)=(g 0 1))∧((((g 0 2):Int)=(g 0 2))∧True)))∧(((((g 1 0):Int)=(g 1 0))∧((((g 1 1):Int)=(g 1 1))∧((((g 1 2):Int)=(g 1 2))∧True)))∧(((((g 2 0):Int)=(g 2 0))∧((((g 2 1):Int)=(g 2 1))∧((((g 2 2):Int)=(g 2 2))∧True)))∧(((((g 3 0):Int)=(g 3 0))∧((((g 3 1):Int)=(g 3 1))∧((((g 3 2):Int)=(g 3 2))∧True)))∧(((((g 4 0):Int)=(g 4 0))∧((((g 4 1):Int)=(g 4 1))∧((((g 4 2):Int)=(g 4 2))∧True)))∧(((((g 5 0):Int)=(g 5 0))∧((((g 5 1):Int)=(g 5 1))∧((((g 5 2):Int)=(g 5 2))∧True)))∧(((((g 6 0):Int)=(g 6 0))∧((((g 6 1):Int)=(g 6 1))∧((((g 6 2):Int)=(g 6 2))∧True)))∧(((((g 7 0):Int)=(g 7 0))∧((((g 7 1):Int)=(g 7 1))∧((((g 7 2):Int)=(g 7 2))∧True)))∧True))))))))))
theorem po9 (g:Nat→Nat→Int):VC (jO Try.prog bY 600 19 (enc [.one (.sl 3 9 g)] 0) 1 (fun v H=>rP 1 H v 9 3 g)) .nil:=aB ((((((((((((((1+1)+1)+1)+1)+1)+1)+1)+1):Nat):Int):Int)=9)∧(((((g 0 0):Int)=(g 0 0))∧((((g 0 1):Int)=(g 0 1))∧((((g 0 2):Int)=(g 0 2))∧True)))∧(((((g 1 0):Int)=(g 1 0))∧((((g 1 1):Int)=(g 1 1))∧((((g 1 2):Int)=(g 1 2))∧True)))∧(((((g 2 0):Int)=(g 2 0))∧((((g 2 1):Int)=(g 2 1))∧((((g 2 2):Int)=(g 2 2))∧True)))∧(((((g 3 0):Int)=(g 3 0))∧((((g 3 1):Int)=(g 3 1))∧((((g 3 2):Int)=(g 3 2))∧True)))∧(((((g 4 0):Int)=(g 4 0))∧((((g 4 1):Int)=(g 4 1))∧((((g 4 2):Int)=(g 4 2))∧True)))∧(((((g 5 0):Int)=(g 5 0))∧((((g 5 1):Int)=(g 5 1))∧((((g 5 2):Int)=(g 5 2))∧True)))∧(((((g 6 0):Int)=(g 6 0))∧((((g 6 1):Int)=(g 6 1))∧((((g 6 2):Int)=(g 6 2))∧True)))∧(((((g 7 0):Int)=(g 7 0))∧((((g 7 1):Int)=(g 7 1))∧((((g 7 2):Int)=(g 7 2))∧True)))∧(((((g 8 0):Int)=(g 8 0))∧((((g 8 1):Int)=(g 8 1))∧((((g 8 2):Int)=(g 8 2))∧True)))∧True)))))))))))
def y9:Val:=fun das=>match das with | [.one (.sl 3 m g)]=>some (Nat.ble m 9,.fz true 0 (aj .i64 g) m 3) | _=>none
theorem Ul:VW Try.prog 19 y9:=by
 intro das v hv
 unfold y9 at hv
 split at hv
 ·rename_i m g
  have hb:=congrArg Prod.fst (Option.some.inj hv)
  have hv:=congrArg Prod.snd (Option.some.inj hv)
  subst hv
  have hb:=Nat.le_of_ble_eq_true hb
  have fin:∀ {h:HT},VC (jO Try.prog bY 600 19 (enc [.one (.sl 3 m g)] 0) 1 (fun v H=>rP 1 H v m 3 g)) h→∃ v' H',SpecCall Try.prog 19 (enc [.one (.sl 3 m g)] 0) (aU 2) v' H'∧∀ new,FnV H' 1 new v' (mG new (.fz true 0 (aj .i64 g) m 3)):=fun hvc=>by
   obtain ⟨v',H',h1,h2⟩:=N8 az bu hvc
   exact ⟨v',H',h1,fun new => .one (.one (Q8 h2 new))⟩
  have:m=0∨m=1∨m=2∨m=3∨m=4∨m=5∨m=6∨m=7∨m=8∨m=9:=by omega
  rcases this with rfl | rfl | rfl | rfl | rfl | rfl | rfl | rfl | rfl | rfl
  ·exact fin (po0 g)
  ·exact fin (po1 g)
  ·exact fin (po2 g)
  ·exact fin (po3 g)
  ·exact fin (po4 g)
  ·exact fin (po5 g)
  ·exact fin (po6 g)
  ·exact fin (po7 g)
  ·exact fin (po8 g)
  ·exact fin (po9 g)
 ·cases hv
def ltF:LT:=⟨[0,3],[0],[2],2⟩
def sF (m:Nat) (g:Nat→Nat→Int) (k:Nat):LS:=⟨[.fz true 0 (aj .i64 g) m 3,.int .i64 k],[]⟩
def bF:Code:=sub ([1,1,0,1,0]++[0]) (kJ Try.prog 18)
theorem mf6 (m:Nat) (g:Nat→Nat→Int) (h:¬ m≤5):VC (aC Try.prog bY 300 18 (enc [.one (.sl 3 m g)] 0) 1 (fun v=>aP v (.int .i64 3))) (.go 5 .nil):=aB (((not (ae (m:Int) 5))=true∧(((3):Int)=3)))
theorem eF (m:Nat) (g:Nat→Nat→Int) (h:m≤5):VC (Vl Try.prog bY 300 18 [1,1,0,1,0] [.one (.sl 3 m g)] (aU 2) ltF 32 60 (sF m g 0)) (.go 6 .nil):=aB (((not (ae (m:Int) 5))=false∧(True∧(((((V.fz true 0 (aj .i64 g) m 3):V)=(V.fz true 0 (aj .i64 g) m 3))∧((((0):Int)=0)∧True))∧True))))
theorem rF1 (m:Nat) (g:Nat→Nat→Int) (k:Nat) (h1:k<m) (h2:m≤1000000) (h3:1≤g k 0∧g k 0≤1000∧0≤g k 1∧g k 1≤g k 2∧g k 2≤200):VC (oD Try.prog bY 300 bF (aU 2) ltF 32 60 (sF m g k) (.next (sF m g (k+1)))) (.go 1623331510494383317013 .nil):=aB (((not (ae (m:Int) (k:Int)))=true∧((Nat.blt k m)=true∧((ae 1 (g k 0))=true∧((not (ae (g k 0) 1000))=false∧((Nat.blt k m)=true∧((ae 0 (g k 1))=true∧((ae (g k 1) (g k 2))=true∧((ae (g k 2) 200)=true∧((small ((g k 2)-(g k 1)))=true∧((not (ae ((g k 2)-(g k 1)) 200))=false∧((small ((k:Int)+1))=true∧(((((V.fz true 0 (aj .i64 g) m 3):V)=(V.fz true 0 (aj .i64 g) m 3))∧(((((k:Int)+1):Int)=(((k+1):Nat):Int))∧True))∧True)))))))))))))
theorem rF2 (m:Nat) (g:Nat→Nat→Int) (k:Nat) (h1:k<m) (h2:m≤1000000) (h3:¬ (1≤g k 0∧g k 0≤1000∧0≤g k 1∧g k 1≤g k 2∧g k 2≤200)):VC (oD Try.prog bY 300 bF (aU 2) ltF 32 60 (sF m g k) (.ret ⟨[.int .i64 1],[]⟩)) (.go 21 (.sp (.go 64 (.sp .nil (.go 4112 (.sp (.go 64 (.sp (.go 1536 .nil) .nil)) .nil)))) .nil)):=aB (((not (ae (m:Int) (k:Int)))=true∧((Nat.blt k m)=true∧(((ae 1 (g k 0))=true→(((not (ae (g k 0) 1000))=true→(((((1):Int)=1)∧True)∧True)) ∧
 ((not (ae (g k 0) (1000)))=false→((Nat.blt k m)=true∧(((ae (0) (g k 1))=true→(((ae (g k 1) (g k 2))=true→((ae (g k 2) (200))=false∧(((((1):Int)=(1))∧True)∧True))) ∧
 ((ae (g k 1) (g k 2))=false→(((((1):Int)=(1))∧True)∧True)))) ∧
 ((ae (0) (g k 1))=false→(((((1):Int)=(1))∧True)∧True))))))) ∧
 ((ae (1) (g k 0))=false→(((((1):Int)=(1))∧True)∧True))))))
theorem rF3 (m:Nat) (g:Nat→Nat→Int) (k:Nat) (h1:¬ k<m):VC (oD Try.prog bY 300 bF (aU 2) ltF 32 60 (sF m g k) (.exit 0 ⟨[.fz true 0 (aj .i64 g) m 3],[]⟩)) (.go 6 .nil):=aB (((not (ae (m:Int) (k:Int)))=false∧(((((V.fz true 0 (aj .i64 g) m 3):V)=(V.fz true 0 (aj .i64 g) m 3))∧True)∧True)))
theorem fF0 (g:Nat→Nat→Int):VC (fromD Try.prog bY 300 18 [1,1,0,1,0] (Lv.res ltF 32 (D8 (aU 2) ltF 60 (.exit 0 ⟨[.fz true 0 (aj .i64 g) 0 3],[]⟩)) (.exit 0 ⟨[.fz true 0 (aj .i64 g) 0 3],[]⟩)) (.int .i64 1)) .nil:=aB ((((1):Int)=1))
theorem fF1 (m:Nat) (g:Nat→Nat→Int) (h:0<m):VC (fromD Try.prog bY 300 18 [1,1,0,1,0] (Lv.res ltF 32 (D8 (aU 2) ltF 60 (.exit 0 ⟨[.fz true 0 (aj .i64 g) m 3],[]⟩)) (.exit 0 ⟨[.fz true 0 (aj .i64 g) m 3],[]⟩)) (.int .i64 0)) (.go 6 .nil):=aB (((ah (m:Int) 0)=false∧(((0):Int)=0)))
theorem fF2  : VC (fromD Try.prog bY 300 18 [1,1,0,1,0] (Lv.res ltF 32 (D8 (aU 2) ltF 60 (.ret ⟨[.int .i64 1],[]⟩)) (.ret ⟨[.int .i64 1],[]⟩)) (.int .i64 1)) .nil:=aB ((((1):Int)=(1)))
def PW:Val:=fun das=>match das with | [.one (.sl 3 m g)]=>some (true,.int .i64 (mxE g m)) | _=>none
theorem Yy:Con Try.prog 18 PW:=by
 intro das v hv
 unfold PW at hv
 split at hv
 ·rename_i m g
  have hv:=congrArg Prod.snd (Option.some.inj hv)
  subst hv
  by_cases h5:m≤5
  ·rcases yO (okP g) m with h | ⟨N,z1,z2,z3⟩
   ·refine ⟨rfl,?_⟩
    have ha:allP g m=true:=eQ h
    have hL:=nO (body:=bF) (fun _ e=>by cases e) m (sF m g) (fun k hk=>iy az bu (rF1 m g k hk (by omega) (okP_t.mp (h k hk))).ok (by kernel_rfl) (by kernel_rfl)) (iy az bu (rF3 m g m (by omega)).ok (by kernel_rfl) (by kernel_rfl))
    show ∃ v' H',SpecCall _ _ _ _ v' H'∧aP v' (.int .i64 (mxE g m))
    cases m with
    | zero=>exact jZ az bu (das:=[.one (.sl 3 0 g)]) (by kernel_rfl) (by kernel_rfl) (eF 0 g h5).ok hL (fF0 g).ok
    | succ n =>
     have e:mxE g (n+1)=0:=by
      rcases ja g (n+1) with ⟨_,q⟩ | ⟨_,_,q⟩ | ⟨q,_⟩
      ·omega
      ·rcases q with q | q
       ·omega
       ·rw [ha] at q;cases q
      ·exact q
     rw [e]
     exact jZ az bu (das:=[.one (.sl 3 (n+1) g)]) (by kernel_rfl) (by kernel_rfl) (eF (n+1) g h5).ok hL (fF1 (n+1) g (by omega)).ok
   ·refine ⟨rfl,?_⟩
    have ha:allP g m=false:=xe z1 z3
    have e:mxE g m=1:=by
     rcases ja g m with ⟨_,q⟩ | ⟨q,_⟩ | ⟨_,_,_,q⟩
     ·omega
     ·exact q
     ·rw [ha] at q;cases q
    show ∃ v' H',SpecCall _ _ _ _ v' H'∧aP v' (.int .i64 (mxE g m))
    rw [e]
    exact jZ az bu (das:=[.one (.sl 3 m g)]) (by kernel_rfl) (by kernel_rfl) (eF m g h5).ok (nO (body:=bF) (fun _ e=>by cases e) N (sF m g) (fun k hk=>iy az bu (rF1 m g k (by omega) (by omega) (okP_t.mp (z2 k hk))).ok (by kernel_rfl) (by kernel_rfl)) (iy az bu (rF2 m g N z1 (by omega) (Um z3)).ok (by kernel_rfl) (by kernel_rfl))) fF2.ok
  ·have e:mxE g m=3:=by
    rcases ja g m with ⟨q,_⟩ | ⟨_,q,_⟩ | ⟨_,q,_⟩
    ·exact q
    ·omega
    ·omega
   rw [e]
   exact ak az bu rfl (das:=[.one (.sl 3 m g)]) (mf6 m g h5)
 ·cases hv
end
end MX
end Go.Proofs.Ythakjbbhbnhmeaa
