/- Casks: contracts: the reference's Content, Mean. -/
import Derived.Test.YtflblednifbleaaYCaC6
set_option linter.all false
set_option linter.unusedSimpArgs false
set_option linter.unusedVariables false
namespace Go.Proofs.Ytflblednifbleaa
open Go Go.Ev
set_option maxRecDepth 1000000
set_option maxHeartbeats 0
noncomputable section
variable (nc:Nat) (fi:Nat→Nat→Int) (fb:Nat→Nat→Bool) (ls:Nat→Nat→Nat) (fr:Nat→Nat→Nat→Nat→Int) (nm:Nat) (fm:Nat→Nat→Int) (ng:Nat) (gi:Nat→Nat→Int) (gb:Nat→Nat→Bool) (gl:Nat→Nat→Nat) (gr:Nat→Nat→Nat→Nat→Int)
theorem rc0 (n:Nat) (f:Nat→Nat→Int) (sl sh ll lh:Int) (d:Int) (hn:1<n) (h5:n≤5)  (v:d≤f 1 0) (a1:0≤f 0 0∧f 0 0≤d∧f 0 0<f 1 0∧f 1 0≤100) (a2:0≤f 0 1∧f 0 1<f 1 1∧f 1 1≤1000) (p:0≤(f 1 1-f 0 1)*(d-f 0 0)∧(f 1 1-f 0 1)*(d-f 0 0)≤100000) (q:0≤Int.tdiv ((f 1 1-f 0 1)*(d-f 0 0)) (f 1 0-f 0 0)∧Int.tdiv ((f 1 1-f 0 1)*(d-f 0 0)) (f 1 0-f 0 0)≤1000):VC (bi Try.prog aA 600 17 (enc [.st [.sl 2 n f,.i .i64 sl,.i .i64 sh,.i .i64 ll,.i .i64 lh],.one (.i .i64 d)] 0) 1 (fun v=>bC v (.int .i64 (f 0 1+Int.tdiv ((f 1 1-f 0 1)*(d-f 0 0)) (f 1 0-f 0 0))))) (.go 22631761 .nil):=ay (((not (ai (n:Int) 1))=true∧((Nat.blt 0 n)=true∧((Nat.blt 1 n)=true∧((ai d (f 1 0))=true∧((small ((f 1 1)-(f 0 1)))=true∧((small (d-(f 0 0)))=true∧((small (((f 1 1)-(f 0 1))*(d-(f 0 0))))=true∧((small ((f 1 0)-(f 0 0)))=true∧((aK ((f 1 0)-(f 0 0)) 0)=false∧((small (Int.tdiv (((f 1 1)-(f 0 1))*(d-(f 0 0))) ((f 1 0)-(f 0 0))))=true∧((small ((f 0 1)+(Int.tdiv (((f 1 1)-(f 0 1))*(d-(f 0 0))) ((f 1 0)-(f 0 0)))))=true∧((((f 0 1)+(Int.tdiv (((f 1 1)-(f 0 1))*(d-(f 0 0))) ((f 1 0)-(f 0 0)))):Int)=((f 0 1)+(Int.tdiv (((f 1 1)-(f 0 1))*(d-(f 0 0))) ((f 1 0)-(f 0 0)))))))))))))))))
theorem rc1 (n:Nat) (f:Nat→Nat→Int) (sl sh ll lh:Int) (d:Int) (hn:2<n) (h5:n≤5) (u1:f 1 0<d) (v:d≤f 2 0) (a1:0≤f 1 0∧f 1 0≤d∧f 1 0<f 2 0∧f 2 0≤100) (a2:0≤f 1 1∧f 1 1<f 2 1∧f 2 1≤1000) (p:0≤(f 2 1-f 1 1)*(d-f 1 0)∧(f 2 1-f 1 1)*(d-f 1 0)≤100000) (q:0≤Int.tdiv ((f 2 1-f 1 1)*(d-f 1 0)) (f 2 0-f 1 0)∧Int.tdiv ((f 2 1-f 1 1)*(d-f 1 0)) (f 2 0-f 1 0)≤1000):VC (bi Try.prog aA 600 17 (enc [.st [.sl 2 n f,.i .i64 sl,.i .i64 sh,.i .i64 ll,.i .i64 lh],.one (.i .i64 d)] 0) 1 (fun v=>bC v (.int .i64 (f 1 1+Int.tdiv ((f 2 1-f 1 1)*(d-f 1 0)) (f 2 0-f 1 0))))) (.go 92699693649 .nil):=ay (((not (ai (n:Int) 1))=true∧((Nat.blt 0 n)=true∧((Nat.blt 1 n)=true∧((ai d (f 1 0))=false∧((not (ai (n:Int) 2))=true∧((Nat.blt 1 n)=true∧((Nat.blt 2 n)=true∧((ai d (f 2 0))=true∧((small ((f 2 1)-(f 1 1)))=true∧((small (d-(f 1 0)))=true∧((small (((f 2 1)-(f 1 1))*(d-(f 1 0))))=true∧((small ((f 2 0)-(f 1 0)))=true∧((aK ((f 2 0)-(f 1 0)) 0)=false∧((small (Int.tdiv (((f 2 1)-(f 1 1))*(d-(f 1 0))) ((f 2 0)-(f 1 0))))=true∧((small ((f 1 1)+(Int.tdiv (((f 2 1)-(f 1 1))*(d-(f 1 0))) ((f 2 0)-(f 1 0)))))=true∧((((f 1 1)+(Int.tdiv (((f 2 1)-(f 1 1))*(d-(f 1 0))) ((f 2 0)-(f 1 0)))):Int)=((f 1 1)+(Int.tdiv (((f 2 1)-(f 1 1))*(d-(f 1 0))) ((f 2 0)-(f 1 0)))))))))))))))))))))
theorem rc2 (n:Nat) (f:Nat→Nat→Int) (sl sh ll lh:Int) (d:Int) (hn:3<n) (h5:n≤5) (u1:f 1 0<d) (u2:f 2 0<d) (v:d≤f 3 0) (a1:0≤f 2 0∧f 2 0≤d∧f 2 0<f 3 0∧f 3 0≤100) (a2:0≤f 2 1∧f 2 1<f 3 1∧f 3 1≤1000) (p:0≤(f 3 1-f 2 1)*(d-f 2 0)∧(f 3 1-f 2 1)*(d-f 2 0)≤100000) (q:0≤Int.tdiv ((f 3 1-f 2 1)*(d-f 2 0)) (f 3 0-f 2 0)∧Int.tdiv ((f 3 1-f 2 1)*(d-f 2 0)) (f 3 0-f 2 0)≤1000):VC (bi Try.prog aA 600 17 (enc [.st [.sl 2 n f,.i .i64 sl,.i .i64 sh,.i .i64 ll,.i .i64 lh],.one (.i .i64 d)] 0) 1 (fun v=>bC v (.int .i64 (f 2 1+Int.tdiv ((f 3 1-f 2 1)*(d-f 2 0)) (f 3 0-f 2 0))))) (.go 379697945186897 .nil):=ay (((not (ai (n:Int) 1))=true∧((Nat.blt 0 n)=true∧((Nat.blt 1 n)=true∧((ai d (f 1 0))=false∧((not (ai (n:Int) 2))=true∧((Nat.blt 1 n)=true∧((Nat.blt 2 n)=true∧((ai d (f 2 0))=false∧((not (ai (n:Int) 3))=true∧((Nat.blt 2 n)=true∧((Nat.blt 3 n)=true∧((ai d (f 3 0))=true∧((small ((f 3 1)-(f 2 1)))=true∧((small (d-(f 2 0)))=true∧((small (((f 3 1)-(f 2 1))*(d-(f 2 0))))=true∧((small ((f 3 0)-(f 2 0)))=true∧((aK ((f 3 0)-(f 2 0)) 0)=false∧((small (Int.tdiv (((f 3 1)-(f 2 1))*(d-(f 2 0))) ((f 3 0)-(f 2 0))))=true∧((small ((f 2 1)+(Int.tdiv (((f 3 1)-(f 2 1))*(d-(f 2 0))) ((f 3 0)-(f 2 0)))))=true∧((((f 2 1)+(Int.tdiv (((f 3 1)-(f 2 1))*(d-(f 2 0))) ((f 3 0)-(f 2 0)))):Int)=((f 2 1)+(Int.tdiv (((f 3 1)-(f 2 1))*(d-(f 2 0))) ((f 3 0)-(f 2 0)))))))))))))))))))))))))
theorem rc3 (n:Nat) (f:Nat→Nat→Int) (sl sh ll lh:Int) (d:Int) (hn:4<n) (h5:n≤5) (u1:f 1 0<d) (u2:f 2 0<d) (u3:f 3 0<d) (v:d≤f 4 0) (a1:0≤f 3 0∧f 3 0≤d∧f 3 0<f 4 0∧f 4 0≤100) (a2:0≤f 3 1∧f 3 1<f 4 1∧f 4 1≤1000) (p:0≤(f 4 1-f 3 1)*(d-f 3 0)∧(f 4 1-f 3 1)*(d-f 3 0)≤100000) (q:0≤Int.tdiv ((f 4 1-f 3 1)*(d-f 3 0)) (f 4 0-f 3 0)∧Int.tdiv ((f 4 1-f 3 1)*(d-f 3 0)) (f 4 0-f 3 0)≤1000):VC (bi Try.prog aA 600 17 (enc [.st [.sl 2 n f,.i .i64 sl,.i .i64 sh,.i .i64 ll,.i .i64 lh],.one (.i .i64 d)] 0) 1 (fun v=>bC v (.int .i64 (f 3 1+Int.tdiv ((f 4 1-f 3 1)*(d-f 3 0)) (f 4 0-f 3 0))))) (.go 1555242783485530705 .nil):=ay (((not (ai (n:Int) 1))=true∧((Nat.blt 0 n)=true∧((Nat.blt 1 n)=true∧((ai d (f 1 0))=false∧((not (ai (n:Int) 2))=true∧((Nat.blt 1 n)=true∧((Nat.blt 2 n)=true∧((ai d (f 2 0))=false∧((not (ai (n:Int) 3))=true∧((Nat.blt 2 n)=true∧((Nat.blt 3 n)=true∧((ai d (f 3 0))=false∧((not (ai (n:Int) 4))=true∧((Nat.blt 3 n)=true∧((Nat.blt 4 n)=true∧((ai d (f 4 0))=true∧((small ((f 4 1)-(f 3 1)))=true∧((small (d-(f 3 0)))=true∧((small (((f 4 1)-(f 3 1))*(d-(f 3 0))))=true∧((small ((f 4 0)-(f 3 0)))=true∧((aK ((f 4 0)-(f 3 0)) 0)=false∧((small (Int.tdiv (((f 4 1)-(f 3 1))*(d-(f 3 0))) ((f 4 0)-(f 3 0))))=true∧((small ((f 3 1)+(Int.tdiv (((f 4 1)-(f 3 1))*(d-(f 3 0))) ((f 4 0)-(f 3 0)))))=true∧((((f 3 1)+(Int.tdiv (((f 4 1)-(f 3 1))*(d-(f 3 0))) ((f 4 0)-(f 3 0)))):Int)=((f 3 1)+(Int.tdiv (((f 4 1)-(f 3 1))*(d-(f 3 0))) ((f 4 0)-(f 3 0)))))))))))))))))))))))))))))
theorem Vp:zA Try.prog 17 vG:=by
 intro das v hv
 unfold vG at hv
 split at hv
 ·rename_i n f sl sh ll lh d
  have hb:=congrArg Prod.fst (Option.some.inj hv)
  have hv:=congrArg Prod.snd (Option.some.inj hv)
  subst hv
  obtain ⟨h1,hb⟩:=ax hb
  obtain ⟨h2,h3⟩:=ax hb
  have h2:=Nat.le_of_ble_eq_true h2
  have m:=mkB_t.mp h1
  obtain ⟨h3,h4⟩:=inD_t.mp h3
  obtain ⟨s,e1,e2,e3,e4,e5⟩:=xW m h3 h4
  rw [e5]
  obtain ⟨⟨p1,p2⟩,p3,p4⟩:=Gq m e1 e2 e3
  have:s=0∨s=1∨s=2∨s=3:=by omega
  have p5:Int.tdiv ((f (s+1) 1-f s 1)*(d-f s 0)) (f (s+1) 0-f s 0)≤1000:=by omega
  rcases this with rfl | rfl | rfl | rfl
  ·exact aJ au aj rfl (das:=[.st [.sl 2 n f,.i .i64 sl,.i .i64 sh,.i .i64 ll,.i .i64 lh],.one (.i .i64 d)]) (rc0 n f sl sh ll lh d e1 h2 e3 p1 p2 p3 ⟨p4.1,p5⟩)
  ·exact aJ au aj rfl (das:=[.st [.sl 2 n f,.i .i64 sl,.i .i64 sh,.i .i64 ll,.i .i64 lh],.one (.i .i64 d)]) (rc1 n f sl sh ll lh d e1 h2 (e4 1 (by omega) (by omega)) e3 p1 p2 p3 ⟨p4.1,p5⟩)
  ·exact aJ au aj rfl (das:=[.st [.sl 2 n f,.i .i64 sl,.i .i64 sh,.i .i64 ll,.i .i64 lh],.one (.i .i64 d)]) (rc2 n f sl sh ll lh d e1 h2 (e4 1 (by omega) (by omega)) (e4 2 (by omega) (by omega)) e3 p1 p2 p3 ⟨p4.1,p5⟩)
  ·exact aJ au aj rfl (das:=[.st [.sl 2 n f,.i .i64 sl,.i .i64 sh,.i .i64 ll,.i .i64 lh],.one (.i .i64 d)]) (rc3 n f sl sh ll lh d e1 h2 (e4 1 (by omega) (by omega)) (e4 2 (by omega) (by omega)) (e4 3 (by omega) (by omega)) e3 p1 p2 p3 ⟨p4.1,p5⟩)
 ·cases hv
def XRc:Ext:=zG [(17,cf vG)] false
theorem O3:dC Try.prog XRc:=jL (aS (dL Vp) eu)
theorem rm1 (k a lo hi:Int) (hk:0≤k∧k<nc) (h3:nc≤3) (h1:cu (ls (Int.toNat k) 0) (fr (Int.toNat k) 0)=true) (h2:2≤(ls (Int.toNat k) 0)) (h5:(ls (Int.toNat k) 0)≤5) (hl:bJ (ls (Int.toNat k) 0) (fr (Int.toNat k) 0) lo=true) (hh:bJ (ls (Int.toNat k) 0) (fr (Int.toNat k) 0) hi=true):VC (bi Try.prog XRc 600 15 (enc [.st [.rw [.r 2,.i,.i,.i,.i] nc fi fb ls fr,.sl 4 nm fm,.rw [.i,.i,.i,.i,.b] ng gi gb gl gr],.st [.i .i64 k,.i .i64 a,.i .i64 lo,.i .i64 hi,.b false]] 0) 3 (fun v=>bC v (.agg 2 (T.setL .lf 0 [.int .i64 (aZ (ls (Int.toNat k) 0) (fr (Int.toNat k) 0) lo),.int .i64 (aZ (ls (Int.toNat k) 0) (fr (Int.toNat k) 0) hi)])))) (.go 337 .nil):=ay (((cZ k nc)=true∧((cond (cond (cond (aO .i64 (ae .i64 (fr (Int.toNat k) 0)) (ls (Int.toNat k) 0) 2) true false) true false) (cond (cu (ls (Int.toNat k) 0) (fr (Int.toNat k) 0)) (cond (Nat.ble (ls (Int.toNat k) 0) 5) (bJ (ls (Int.toNat k) 0) (fr (Int.toNat k) 0) lo) false) false) false)=true∧((cond (cond (cond (aO .i64 (ae .i64 (fr (Int.toNat k) 0)) (ls (Int.toNat k) 0) 2) true false) true false) (cond (cu (ls (Int.toNat k) 0) (fr (Int.toNat k) 0)) (cond (Nat.ble (ls (Int.toNat k) 0) 5) (bJ (ls (Int.toNat k) 0) (fr (Int.toNat k) 0) hi) false) false) false)=true∧((((aZ (ls (Int.toNat k) 0) (fr (Int.toNat k) 0) lo):Int)=(aZ (ls (Int.toNat k) 0) (fr (Int.toNat k) 0) lo))∧((((aZ (ls (Int.toNat k) 0) (fr (Int.toNat k) 0) hi):Int)=(aZ (ls (Int.toNat k) 0) (fr (Int.toNat k) 0) hi))∧True))))))
theorem rm2 (k a lo hi:Int) (hk:0≤k∧k<nc) (h3:nc≤3) (h1:cu (ls (Int.toNat k) 0) (fr (Int.toNat k) 0)=true) (h2:2≤(ls (Int.toNat k) 0)) (h5:(ls (Int.toNat k) 0)≤5) (hl:bJ (ls (Int.toNat k) 0) (fr (Int.toNat k) 0) ((fr (Int.toNat k) 0 (Int.toNat (((ls (Int.toNat k) 0:Nat):Int)-1)) 0)-hi)=true) (hh:bJ (ls (Int.toNat k) 0) (fr (Int.toNat k) 0) ((fr (Int.toNat k) 0 (Int.toNat (((ls (Int.toNat k) 0:Nat):Int)-1)) 0)-lo)=true) (b0:0≤(fr (Int.toNat k) 0 (Int.toNat (((ls (Int.toNat k) 0:Nat):Int)-1)) 0)∧(fr (Int.toNat k) 0 (Int.toNat (((ls (Int.toNat k) 0:Nat):Int)-1)) 0)≤100) (b1:0≤lo∧lo≤100) (b2:0≤hi∧hi≤100):VC (bi Try.prog XRc 600 15 (enc [.st [.rw [.r 2,.i,.i,.i,.i] nc fi fb ls fr,.sl 4 nm fm,.rw [.i,.i,.i,.i,.b] ng gi gb gl gr],.st [.i .i64 k,.i .i64 a,.i .i64 lo,.i .i64 hi,.b true]] 0) 3 (fun v=>bC v (.agg 2 (T.setL .lf 0 [.int .i64 (aZ (ls (Int.toNat k) 0) (fr (Int.toNat k) 0) ((fr (Int.toNat k) 0 (Int.toNat (((ls (Int.toNat k) 0:Nat):Int)-1)) 0)-hi)),.int .i64 (aZ (ls (Int.toNat k) 0) (fr (Int.toNat k) 0) ((fr (Int.toNat k) 0 (Int.toNat (((ls (Int.toNat k) 0:Nat):Int)-1)) 0)-lo))])))) (.go 1398097 .nil):=ay (((cZ k nc)=true∧((small ((((ls (Int.toNat k) 0):Nat):Int)-(1)))=true∧((cZ ((((ls (Int.toNat k) 0):Nat):Int)-(1)) (ls (Int.toNat k) 0))=true∧((small ((fr (Int.toNat k) 0 (Int.toNat ((((ls (Int.toNat k) 0):Nat):Int)-(1))) 0)-hi))=true∧((cond (cond (cond (aO .i64 (ae .i64 (fr (Int.toNat k) 0)) (ls (Int.toNat k) 0) 2) true false) true false) (cond (cu (ls (Int.toNat k) 0) (fr (Int.toNat k) 0)) (cond (Nat.ble (ls (Int.toNat k) 0) 5) (bJ (ls (Int.toNat k) 0) (fr (Int.toNat k) 0) ((fr (Int.toNat k) 0 (Int.toNat ((((ls (Int.toNat k) 0):Nat):Int)-(1))) 0)-hi)) false) false) false)=true∧((small ((((ls (Int.toNat k) 0):Nat):Int)-(1)))=true∧((cZ ((((ls (Int.toNat k) 0):Nat):Int)-(1)) (ls (Int.toNat k) 0))=true∧((small ((fr (Int.toNat k) 0 (Int.toNat ((((ls (Int.toNat k) 0):Nat):Int)-(1))) 0)-lo))=true∧((cond (cond (cond (aO .i64 (ae .i64 (fr (Int.toNat k) 0)) (ls (Int.toNat k) 0) 2) true false) true false) (cond (cu (ls (Int.toNat k) 0) (fr (Int.toNat k) 0)) (cond (Nat.ble (ls (Int.toNat k) 0) 5) (bJ (ls (Int.toNat k) 0) (fr (Int.toNat k) 0) ((fr (Int.toNat k) 0 (Int.toNat ((((ls (Int.toNat k) 0):Nat):Int)-(1))) 0)-lo)) false) false) false)=true∧((((aZ (ls (Int.toNat k) 0) (fr (Int.toNat k) 0) ((fr (Int.toNat k) 0 (Int.toNat ((((ls (Int.toNat k) 0):Nat):Int)-(1))) 0)-hi)):Int)=(aZ (ls (Int.toNat k) 0) (fr (Int.toNat k) 0) ((fr (Int.toNat k) 0 (Int.toNat ((((ls (Int.toNat k) 0):Nat):Int)-(1))) 0)-hi)))∧((((aZ (ls (Int.toNat k) 0) (fr (Int.toNat k) 0) ((fr (Int.toNat k) 0 (Int.toNat ((((ls (Int.toNat k) 0):Nat):Int)-(1))) 0)-lo)):Int)=(aZ (ls (Int.toNat k) 0) (fr (Int.toNat k) 0) ((fr (Int.toNat k) 0 (Int.toNat ((((ls (Int.toNat k) 0):Nat):Int)-(1))) 0)-lo)))∧True))))))))))))
def rmB (nc:Nat) (l:Nat→Nat) (r:Nat→Nat→Nat→Int) (k lo hi:Int):Bool:=cond (cond (ai 0 k) (ai (k+1) (Int.ofNat nc)) false) (cond (Nat.ble nc 3) (cond (cond (cu (l (Int.toNat k)) (r (Int.toNat k))) (Nat.ble (l (Int.toNat k)) 5) false) (cond (bJ (l (Int.toNat k)) (r (Int.toNat k)) lo) (bJ (l (Int.toNat k)) (r (Int.toNat k)) hi) false) false) false) false
def Rt:Val:=fun das=>match das with | [.st [.rw [.r 2,.i,.i,.i,.i] nc fi fb ls fr,.sl 4 nm fm,.rw [.i,.i,.i,.i,.b] ng gi gb gl gr],.st [.i .i64 k,.i .i64 a,.i .i64 lo,.i .i64 hi,.b y]]=>some (rmB nc (fun i=>ls i 0) (fun i=>fr i 0) k lo hi,.agg 2 (T.setL .lf 0 [.int .i64 (iH (ls (Int.toNat k) 0) (fr (Int.toNat k) 0) lo hi y),.int .i64 (iG (ls (Int.toNat k) 0) (fr (Int.toNat k) 0) lo hi y)])) | _=>none
theorem Xz:zA Try.prog 15 Rt:=by
 intro das v hv
 unfold Rt at hv
 split at hv
 ·rename_i nc fi fb ls fr nm fm ng gi gb gl gr k a lo hi y
  have hb:=congrArg Prod.fst (Option.some.inj hv)
  have hv:=congrArg Prod.snd (Option.some.inj hv)
  subst hv
  obtain ⟨hk,hb⟩:=ax hb
  obtain ⟨h3,hb⟩:=ax hb
  obtain ⟨hb,hd⟩:=ax hb
  obtain ⟨h1,h2⟩:=ax hb
  obtain ⟨h4,h5⟩:=ax hd
  obtain ⟨k1,k2⟩:=ax hk
  have k1:=(aW _ _).mp k1
  have k2:k+1≤((nc:Nat):Int):=(aW _ _).mp k2
  have h3:=Nat.le_of_ble_eq_true h3
  have h2:(ls (Int.toNat k) 0)≤5:=Nat.le_of_ble_eq_true h2
  have h1:cu (ls (Int.toNat k) 0) (fr (Int.toNat k) 0)=true:=h1
  have h4:bJ (ls (Int.toNat k) 0) (fr (Int.toNat k) 0) lo=true:=h4
  have h5:bJ (ls (Int.toNat k) 0) (fr (Int.toNat k) 0) hi=true:=h5
  have m:=mkB_t.mp h1
  have e1:=lQ m.two
  have l0:=m.l0
  have lp:=(m.pos ((ls (Int.toNat k) 0)-1) (by have:=m.two;omega)).1
  have a3:=inD_t.mp h4
  have a4:=inD_t.mp h5
  cases y with
  | false=>exact aJ au O3 rfl (das:=[.st [.rw [.r 2,.i,.i,.i,.i] nc fi fb ls fr,.sl 4 nm fm,.rw [.i,.i,.i,.i,.b] ng gi gb gl gr],.st [.i .i64 k,.i .i64 a,.i .i64 lo,.i .i64 hi,.b false]]) (rm1 nc fi fb ls fr nm fm ng gi gb gl gr k a lo hi ⟨k1,by omega⟩ h3 h1 m.two h2 h4 h5)
  | true =>
   have r:=rm2 nc fi fb ls fr nm fm ng gi gb gl gr k a lo hi ⟨k1,by omega⟩ h3 h1 m.two h2 (by rw [e1];exact inD_t.mpr ⟨by omega,by omega⟩) (by rw [e1];exact inD_t.mpr ⟨by omega,by omega⟩) (by rw [e1];exact ⟨lp,l0⟩) ⟨by omega,by omega⟩ ⟨by omega,by omega⟩
   have q:=aJ au O3 rfl (das:=[.st [.rw [.r 2,.i,.i,.i,.i] nc fi fb ls fr,.sl 4 nm fm,.rw [.i,.i,.i,.i,.b] ng gi gb gl gr],.st [.i .i64 k,.i .i64 a,.i .i64 lo,.i .i64 hi,.b true]]) r
   rw [e1] at q
   exact q
 ·cases hv
end
end Go.Proofs.Ytflblednifbleaa
