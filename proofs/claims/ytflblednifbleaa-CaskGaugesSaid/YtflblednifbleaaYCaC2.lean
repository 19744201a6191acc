/- Casks: contracts: the dip of a content; what a gauge means. -/
import Derived.Test.YtflblednifbleaaYCaC1
set_option linter.all false
set_option linter.unusedSimpArgs false
set_option linter.unusedVariables false
namespace Go.Proofs.Ytflblednifbleaa
open Go Go.Ev
set_option maxRecDepth 1000000
set_option maxHeartbeats 0
noncomputable section
def XCn:Ext:=zG [(34,cf vG)] false
theorem x8:dC Try.prog XCn:=jL (aS (dL U5) eu)
def gdN (n:Nat) (f:Nat→Nat→Int) (c:Int) (k:Nat):Nat:=Nat.rec (motive:=fun _=>Nat) 0 (fun k ih=>cond (ai (aZ n f (Int.ofNat (Nat.succ k))) c) (Nat.succ k) ih) k
def rq (n:Nat) (f:Nat→Nat→Int) (c:Int):Int:=Int.ofNat (gdN n f c (Int.toNat (f (n-1) 0)))
def ltD:LT:=⟨[1,2,5],[5],[],5⟩
def baseD (n:Nat) (f:Nat→Nat→Int) (sl sh ll lh:Int):EH:=⟨setAt [(2,eH [.sl 2 n f,.i .i64 sl,.i .i64 sh,.i .i64 ll,.i .i64 lh] 0),(3,eH [.sl 2 n f,.i .i64 sl,.i .i64 sh,.i .i64 ll,.i .i64 lh] 0),(4,[.int .i64 (f (Int.toNat ((n:Int)-1)) 0),.int .i64 (f (Int.toNat ((n:Int)-1)) 1)])] .lf,5,.lf,4⟩
def sD (c x:Int):LS:=⟨[.int .i64 c,.ptr 2 0,.int .i64 x],[]⟩
def bD:Code:=sub [1,1,0,0,0] (dV Try.prog 36)
theorem eD (n:Nat) (f:Nat→Nat→Int) (sl sh ll lh:Int) (c:Int) (h2:2≤n) (h5:n≤5):VC (xn Try.prog XCn 300 36 [1,1,0,0] [.st [.sl 2 n f,.i .i64 sl,.i .i64 sh,.i .i64 ll,.i .i64 lh],.one (.i .i64 c)] (baseD n f sl sh ll lh) ltD 17 60 (sD c (f (Int.toNat ((n:Int)-1)) 0))) (.go 21 .nil):=ay (((small ((n:Int)-(1)))=true∧((cZ ((n:Int)-(1)) n)=true∧((True∧((True∧((((((V.fz true 0 (ae .i64 f) n 2):V)=(V.fz true 0 (ae .i64 f) n 2))∧((((sl:Int)=sl)∧((((ll:Int)=ll)∧(True∧True))∧True))∧(((sh:Int)=sh)∧((((lh:Int)=lh)∧(True∧True))∧True))))∧(True∧True))∧True))∧(((((V.fz true 0 (ae .i64 f) n 2):V)=(V.fz true 0 (ae .i64 f) n 2))∧((((sl:Int)=sl)∧((((ll:Int)=ll)∧(True∧True))∧True))∧(((sh:Int)=sh)∧((((lh:Int)=lh)∧(True∧True))∧True))))∧((((((f (Int.toNat ((n:Int)-(1))) 0):Int)=(f (Int.toNat ((n:Int)-(1))) 0))∧(((((f (Int.toNat ((n:Int)-(1))) 1):Int)=(f (Int.toNat ((n:Int)-(1))) 1))∧(True∧True))∧True))∧(True∧True))∧True))))∧((((c:Int)=c)∧((((V.ptr 2 0):V)=(V.ptr 2 0))∧((((f (Int.toNat ((n:Int)-(1))) 0):Int)=(f (Int.toNat ((n:Int)-(1))) 0))∧True)))∧True)))))
theorem rD1 (n:Nat) (f:Nat→Nat→Int) (sl sh ll lh:Int) (c x:Int) (h1:cu n f=true) (h5:n≤5) (hd:bJ n f x=true) (h6:c<aZ n f x) (h7:0≤x∧x≤100):VC (aT Try.prog XCn 300 bD (baseD n f sl sh ll lh) ltD 17 60 (sD c x) (.next (sD c (x-1)))) (.go 85 .nil):=ay (((cond (cond (cond (aO .i64 (ae .i64 f) n 2) true false) true false) (cond (cu n f) (cond (Nat.ble n 5) (bJ n f x) false) false) false)=true∧((not (ai (aZ n f x) c))=true∧((small (x-(1)))=true∧((((c:Int)=c)∧((((V.ptr 2 0):V)=(V.ptr 2 0))∧((((x-(1)):Int)=(x-(1)))∧True)))∧True)))))
theorem rD2 (n:Nat) (f:Nat→Nat→Int) (sl sh ll lh:Int) (c x:Int) (h1:cu n f=true) (h5:n≤5) (hd:bJ n f x=true) (h6:aZ n f x≤c):VC (aT Try.prog XCn 300 bD (baseD n f sl sh ll lh) ltD 17 60 (sD c x) (.exit 0 ⟨[.int .i64 x],[]⟩)) (.go 25 .nil):=ay (((cond (cond (cond (aO .i64 (ae .i64 f) n 2) true false) true false) (cond (cu n f) (cond (Nat.ble n 5) (bJ n f x) false) false) false)=true∧((not (ai (aZ n f x) c))=false∧((((x:Int)=x)∧True)∧True))))
theorem fD (n:Nat) (f:Nat→Nat→Int) (sl sh ll lh:Int) (x:Int):VC (fromD Try.prog XCn 300 36 [1,1,0,0] (Lv.res ltD 17 (fV (baseD n f sl sh ll lh) ltD 60 (.exit 0 ⟨[.int .i64 x],[]⟩)) (.exit 0 ⟨[.int .i64 x],[]⟩)) (.int .i64 x)) .nil:=ay (((x:Int)=x))
def O8:Val:=fun das=>match das with | [.st [.sl 2 n f,.i .i64 sl,.i .i64 sh,.i .i64 ll,.i .i64 lh],.one (.i .i64 c)]=>some (cond (cu n f) (cond (Nat.ble n 5) (ai 0 c) false) false,.int .i64 (rq n f c)) | _=>none
theorem FM {n:Nat} {f:Nat→Nat→Int} (h:Mk n f):aZ n f 0=0:=by
 have:=h.pos 1 (by have:=h.two;omega)
 have:=this.2.2 (by omega)
 have t:=h.top 1 (by have:=h.two;omega)
 obtain ⟨s,e1,e2,e3,e4,e5⟩:=xW h (d:=0) (by omega) (by omega)
 have hs:s=0:=by
  by_cases z:s=0
  ·exact z
  ·have a:=e4 s (by omega) (by omega)
   have b:=h.pos s (by omega)
   omega
 subst hs
 rw [e5]
 unfold sgI
 rw [h.z0,h.z1]
 simp
theorem Hg {n:Nat} {f:Nat→Nat→Int} {c:Int} (h0:aZ n f 0≤c):∀ k,gdN n f c k≤k∧aZ n f (Int.ofNat (gdN n f c k))≤c∧∀ j,gdN n f c k<j→j≤k→c<aZ n f (Int.ofNat j)
 | 0=>⟨Nat.le_refl _,h0,fun j h1 h2=>by have:gdN n f c 0=0:=rfl;omega⟩
 | k+1=>by
  obtain ⟨a,b,d⟩:=Hg h0 k
  have e:gdN n f c (k+1)=cond (ai (aZ n f (Int.ofNat (k+1))) c) (k+1) (gdN n f c k):=rfl
  by_cases q:aZ n f (Int.ofNat (k+1))≤c
  ·rw [e,(aW _ _).mpr q]
   exact ⟨Nat.le_refl _,q,fun j h1 h2=>by have h1:k+1<j:=h1;omega⟩
  ·rw [e,(nV _ _).mpr (by omega)]
   exact ⟨Nat.le_succ_of_le a,b,fun j h1 h2=>by
    by_cases z:j=k+1
    ·rw [z];omega
    ·exact d j h1 (by omega)⟩
theorem XF:zA Try.prog 36 O8:=by
 intro das v hv
 unfold O8 at hv
 split at hv
 ·rename_i n f sl sh ll lh c
  have hb:=congrArg Prod.fst (Option.some.inj hv)
  have hv:=congrArg Prod.snd (Option.some.inj hv)
  subst hv
  obtain ⟨h1,hb⟩:=ax hb
  obtain ⟨h2,h3⟩:=ax hb
  have h2:=Nat.le_of_ble_eq_true h2
  have h3:=(aW _ _).mp h3
  have m:=mkB_t.mp h1
  have e1:=lQ m.two
  have l0:=m.l0
  have lp:=(m.pos (n-1) (by have:=m.two;omega)).1
  obtain ⟨k,hk⟩:∃ k:Nat,f (n-1) 0=(k:Int):=⟨Int.toNat (f (n-1) 0),by omega⟩
  have eg:rq n f c=Int.ofNat (gdN n f c k):=by unfold rq;rw [hk];rfl
  obtain ⟨g1,g2,g3⟩:=Hg (n:=n) (f:=f) (c:=c) (by rw [FM m];exact h3) k
  rw [eg]
  generalize gdN n f c k=g at g1 g2 g3
  refine ⟨rfl,?_⟩
  have en:=eD n f sl sh ll lh c m.two h2
  rw [show sD c (f (Int.toNat ((n:Int)-1)) 0)=sD c (f (n-1) 0) by rw [e1]] at en
  refine dn au x8 (das:=[.st [.sl 2 n f,.i .i64 sl,.i .i64 sh,.i .i64 ll,.i .i64 lh],.one (.i .i64 c)]) (lv := .exit 0 ⟨[.int .i64 (Int.ofNat g)],[]⟩) (by kernel_rfl) (by kernel_rfl) en.ok ?_ (fD n f sl sh ll lh _).ok
  have z0:sD c (f (n-1) 0)=(fun i:Nat=>sD c ((k:Int)-(i:Int))) 0:=by show sD c (f (n-1) 0)=sD c ((k:Int)-((0:Nat):Int));rw [show (k:Int)-((0:Nat):Int)=(k:Int) by omega,hk]
  rw [z0]
  refine bF (body:=bD) (fun _ e=>by cases e) (k-g) (fun i:Nat=>sD c ((k:Int)-(i:Int))) (fun i hi=>?_) ?_
  ·have q:=g3 (k-i) (by omega) (by omega)
   rw [show Int.ofNat (k-i)=(k:Int)-(i:Int) by show ((k-i:Nat):Int)=_;omega] at q
   have r:=rD1 n f sl sh ll lh c ((k:Int)-(i:Int)) h1 h2 (inD_t.mpr ⟨by omega,by omega⟩) q ⟨by omega,by omega⟩
   rw [show (k:Int)-(i:Int)-1=(k:Int)-((i+1:Nat):Int) by omega] at r
   exact aI au x8 r.ok (by kernel_rfl) (by kernel_rfl)
  ·have e:(k:Int)-((k-g:Nat):Int)=Int.ofNat g:=by show _=((g:Nat):Int);omega
   show JL _ _ _ _ _ _ _ (sD c ((k:Int)-((k-g:Nat):Int))) _
   rw [e]
   exact aI au x8 (rD2 n f sl sh ll lh c (Int.ofNat g) h1 h2 (inD_t.mpr ⟨Int.natCast_nonneg g,by show ((g:Nat):Int)≤_;omega⟩) g2).ok (by kernel_rfl) (by kernel_rfl)
 ·cases hv
def iH (n:Nat) (f:Nat→Nat→Int) (lo hi:Int) (y:Bool):Int:=cond y (aZ n f (f (n-1) 0-hi)) (aZ n f lo)
def iG (n:Nat) (f:Nat→Nat→Int) (lo hi:Int) (y:Bool):Int:=cond y (aZ n f (f (n-1) 0-lo)) (aZ n f hi)
theorem mn1 (n:Nat) (f:Nat→Nat→Int) (sl sh ll lh:Int) (gc ga lo hi:Int) (h1:cu n f=true) (h2:2≤n) (h5:n≤5) (hl:bJ n f lo=true) (hh:bJ n f hi=true):VC (bi Try.prog XCn 300 53 (enc [.st [.sl 2 n f,.i .i64 sl,.i .i64 sh,.i .i64 ll,.i .i64 lh],.st [.i .i64 gc,.i .i64 ga,.i .i64 lo,.i .i64 hi,.b false]] 0) 1 (fun v=>bC v (.agg 2 (T.setL .lf 0 [.int .i64 (aZ n f lo),.int .i64 (aZ n f hi)])))) (.go 84 .nil):=ay (((cond (cond (cond (aO .i64 (ae .i64 f) n 2) true false) true false) (cond (cu n f) (cond (Nat.ble n 5) (bJ n f lo) false) false) false)=true∧((cond (cond (cond (aO .i64 (ae .i64 f) n 2) true false) true false) (cond (cu n f) (cond (Nat.ble n 5) (bJ n f hi) false) false) false)=true∧((((aZ n f lo):Int)=(aZ n f lo))∧((((aZ n f hi):Int)=(aZ n f hi))∧True)))))
theorem mn2 (n:Nat) (f:Nat→Nat→Int) (sl sh ll lh:Int) (gc ga lo hi:Int) (h1:cu n f=true) (h2:2≤n) (h5:n≤5) (hl:bJ n f ((f (Int.toNat ((n:Int)-1)) 0)-hi)=true) (hh:bJ n f ((f (Int.toNat ((n:Int)-1)) 0)-lo)=true) (b0:0≤(f (Int.toNat ((n:Int)-1)) 0)∧(f (Int.toNat ((n:Int)-1)) 0)≤100) (b1:0≤lo∧lo≤100) (b2:0≤hi∧hi≤100):VC (bi Try.prog XCn 300 53 (enc [.st [.sl 2 n f,.i .i64 sl,.i .i64 sh,.i .i64 ll,.i .i64 lh],.st [.i .i64 gc,.i .i64 ga,.i .i64 lo,.i .i64 hi,.b true]] 0) 1 (fun v=>bC v (.agg 2 (T.setL .lf 0 [.int .i64 (aZ n f ((f (Int.toNat ((n:Int)-1)) 0)-hi)),.int .i64 (aZ n f ((f (Int.toNat ((n:Int)-1)) 0)-lo))])))) (.go 21844 .nil):=ay (((small ((n:Int)-(1)))=true∧((cZ ((n:Int)-(1)) n)=true∧((small ((f (Int.toNat ((n:Int)-(1))) 0)-hi))=true∧((small ((f (Int.toNat ((n:Int)-(1))) 0)-lo))=true∧((cond (cond (cond (aO .i64 (ae .i64 f) n 2) true false) true false) (cond (cu n f) (cond (Nat.ble n 5) (bJ n f ((f (Int.toNat ((n:Int)-(1))) 0)-hi)) false) false) false)=true∧((cond (cond (cond (aO .i64 (ae .i64 f) n 2) true false) true false) (cond (cu n f) (cond (Nat.ble n 5) (bJ n f ((f (Int.toNat ((n:Int)-(1))) 0)-lo)) false) false) false)=true∧((((aZ n f ((f (Int.toNat ((n:Int)-(1))) 0)-hi)):Int)=(aZ n f ((f (Int.toNat ((n:Int)-(1))) 0)-hi)))∧((((aZ n f ((f (Int.toNat ((n:Int)-(1))) 0)-lo)):Int)=(aZ n f ((f (Int.toNat ((n:Int)-(1))) 0)-lo)))∧True)))))))))
def O1:Val:=fun das=>match das with | [.st [.sl 2 n f,.i .i64 sl,.i .i64 sh,.i .i64 ll,.i .i64 lh],.st [.i .i64 gc,.i .i64 ga,.i .i64 lo,.i .i64 hi,.b y]]=>some (cond (cu n f) (cond (Nat.ble n 5) (cond (bJ n f lo) (bJ n f hi) false) false) false,.agg 2 (T.setL .lf 0 [.int .i64 (iH n f lo hi y),.int .i64 (iG n f lo hi y)])) | _=>none
theorem WT:zA Try.prog 53 O1:=by
 intro das v hv
 unfold O1 at hv
 split at hv
 ·rename_i n f sl sh ll lh gc ga lo hi y
  have hb:=congrArg Prod.fst (Option.some.inj hv)
  have hv:=congrArg Prod.snd (Option.some.inj hv)
  subst hv
  obtain ⟨h1,hb⟩:=ax hb
  obtain ⟨h2,hb⟩:=ax hb
  obtain ⟨h3,h4⟩:=ax hb
  have h2:=Nat.le_of_ble_eq_true h2
  have m:=mkB_t.mp h1
  have e1:=lQ m.two
  have l0:=m.l0
  have lp:=(m.pos (n-1) (by have:=m.two;omega)).1
  have a3:=inD_t.mp h3
  have a4:=inD_t.mp h4
  cases y with
  | false=>exact aJ au x8 rfl (das:=[.st [.sl 2 n f,.i .i64 sl,.i .i64 sh,.i .i64 ll,.i .i64 lh],.st [.i .i64 gc,.i .i64 ga,.i .i64 lo,.i .i64 hi,.b false]]) (mn1 n f sl sh ll lh gc ga lo hi h1 m.two h2 h3 h4)
  | true =>
   have r:=mn2 n f sl sh ll lh gc ga lo hi h1 m.two h2 (by rw [e1];exact inD_t.mpr ⟨by omega,by omega⟩) (by rw [e1];exact inD_t.mpr ⟨by omega,by omega⟩) (by rw [e1];exact ⟨lp,l0⟩) ⟨by omega,by omega⟩ ⟨by omega,by omega⟩
   have q:=aJ au x8 rfl (das:=[.st [.sl 2 n f,.i .i64 sl,.i .i64 sh,.i .i64 ll,.i .i64 lh],.st [.i .i64 gc,.i .i64 ga,.i .i64 lo,.i .i64 hi,.b true]]) r
   rw [e1] at q
   exact q
 ·cases hv
end
end Go.Proofs.Ytflblednifbleaa
