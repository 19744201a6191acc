/- Casks: contracts: the content at a dip; marks are sound; a cask is. -/
import Derived.Test.YtflblednifbleaaProg
import Derived.Test.YtflblednifbleaaYEe
set_option linter.all false
set_option linter.unusedSimpArgs false
set_option linter.unusedVariables false
namespace Go.Proofs.Ytflblednifbleaa
open Go Go.Ev
set_option maxRecDepth 1000000
set_option maxHeartbeats 0
noncomputable section
theorem Wh:Try.prog.follows .mixedOrders=true:=by kernel_rfl
theorem au:aN Try.prog:=vU Wh
def sgI (f:Nat→Nat→Int) (m:Nat) (d:Int):Int:=f m 1+Int.tdiv ((f (Nat.succ m) 1-f m 1)*(d-f m 0)) (f (Nat.succ m) 0-f m 0)
theorem cn0 (n:Nat) (f:Nat→Nat→Int) (sl sh ll lh:Int) (d:Int) (hn:1<n)  (v:d≤f 1 0) (a1:0≤f 0 0∧f 0 0≤d∧f 0 0<f 1 0∧f 1 0≤100) (a2:0≤f 0 1∧f 0 1<f 1 1∧f 1 1≤1000) (p:0≤(f 1 1-f 0 1)*(d-f 0 0)∧(f 1 1-f 0 1)*(d-f 0 0)≤100000) (q:0≤Int.tdiv ((f 1 1-f 0 1)*(d-f 0 0)) (f 1 0-f 0 0)∧Int.tdiv ((f 1 1-f 0 1)*(d-f 0 0)) (f 1 0-f 0 0)≤1000):VC (bi Try.prog aA 300 34 (enc [.st [.sl 2 n f,.i .i64 sl,.i .i64 sh,.i .i64 ll,.i .i64 lh],.one (.i .i64 d)] 0) 1 (fun v=>bC v (.int .i64 (f 0 1+Int.tdiv ((f 1 1-f 0 1)*(d-f 0 0)) (f 1 0-f 0 0))))) (.go 22631753 .nil):=ay (((Nat.blt 1 n)=true∧((not (ai d (f 1 0)))=false∧((Nat.blt 0 n)=true∧((Nat.blt 1 n)=true∧((small ((f 1 1)-(f 0 1)))=true∧((small (d-(f 0 0)))=true∧((small (((f 1 1)-(f 0 1))*(d-(f 0 0))))=true∧((small ((f 1 0)-(f 0 0)))=true∧((aK ((f 1 0)-(f 0 0)) 0)=false∧((small (Int.tdiv (((f 1 1)-(f 0 1))*(d-(f 0 0))) ((f 1 0)-(f 0 0))))=true∧((small ((f 0 1)+(Int.tdiv (((f 1 1)-(f 0 1))*(d-(f 0 0))) ((f 1 0)-(f 0 0)))))=true∧((((f 0 1)+(Int.tdiv (((f 1 1)-(f 0 1))*(d-(f 0 0))) ((f 1 0)-(f 0 0)))):Int)=((f 0 1)+(Int.tdiv (((f 1 1)-(f 0 1))*(d-(f 0 0))) ((f 1 0)-(f 0 0)))))))))))))))))
theorem cn1 (n:Nat) (f:Nat→Nat→Int) (sl sh ll lh:Int) (d:Int) (hn:2<n) (u1:f 1 0<d) (v:d≤f 2 0) (a1:0≤f 1 0∧f 1 0≤d∧f 1 0<f 2 0∧f 2 0≤100) (a2:0≤f 1 1∧f 1 1<f 2 1∧f 2 1≤1000) (p:0≤(f 2 1-f 1 1)*(d-f 1 0)∧(f 2 1-f 1 1)*(d-f 1 0)≤100000) (q:0≤Int.tdiv ((f 2 1-f 1 1)*(d-f 1 0)) (f 2 0-f 1 0)∧Int.tdiv ((f 2 1-f 1 1)*(d-f 1 0)) (f 2 0-f 1 0)≤1000):VC (bi Try.prog aA 300 34 (enc [.st [.sl 2 n f,.i .i64 sl,.i .i64 sh,.i .i64 ll,.i .i64 lh],.one (.i .i64 d)] 0) 1 (fun v=>bC v (.int .i64 (f 1 1+Int.tdiv ((f 2 1-f 1 1)*(d-f 1 0)) (f 2 0-f 1 0))))) (.go 1448432197 .nil):=ay (((Nat.blt 1 n)=true∧((not (ai d (f 1 0)))=true∧((Nat.blt 2 n)=true∧((not (ai d (f 2 0)))=false∧((Nat.blt 1 n)=true∧((Nat.blt 2 n)=true∧((small ((f 2 1)-(f 1 1)))=true∧((small (d-(f 1 0)))=true∧((small (((f 2 1)-(f 1 1))*(d-(f 1 0))))=true∧((small ((f 2 0)-(f 1 0)))=true∧((aK ((f 2 0)-(f 1 0)) 0)=false∧((small (Int.tdiv (((f 2 1)-(f 1 1))*(d-(f 1 0))) ((f 2 0)-(f 1 0))))=true∧((small ((f 1 1)+(Int.tdiv (((f 2 1)-(f 1 1))*(d-(f 1 0))) ((f 2 0)-(f 1 0)))))=true∧((((f 1 1)+(Int.tdiv (((f 2 1)-(f 1 1))*(d-(f 1 0))) ((f 2 0)-(f 1 0)))):Int)=((f 1 1)+(Int.tdiv (((f 2 1)-(f 1 1))*(d-(f 1 0))) ((f 2 0)-(f 1 0)))))))))))))))))))
theorem cn2 (n:Nat) (f:Nat→Nat→Int) (sl sh ll lh:Int) (d:Int) (hn:3<n) (u1:f 1 0<d) (u2:f 2 0<d) (v:d≤f 3 0) (a1:0≤f 2 0∧f 2 0≤d∧f 2 0<f 3 0∧f 3 0≤100) (a2:0≤f 2 1∧f 2 1<f 3 1∧f 3 1≤1000) (p:0≤(f 3 1-f 2 1)*(d-f 2 0)∧(f 3 1-f 2 1)*(d-f 2 0)≤100000) (q:0≤Int.tdiv ((f 3 1-f 2 1)*(d-f 2 0)) (f 3 0-f 2 0)∧Int.tdiv ((f 3 1-f 2 1)*(d-f 2 0)) (f 3 0-f 2 0)≤1000):VC (bi Try.prog aA 300 34 (enc [.st [.sl 2 n f,.i .i64 sl,.i .i64 sh,.i .i64 ll,.i .i64 lh],.one (.i .i64 d)] 0) 1 (fun v=>bC v (.int .i64 (f 2 1+Int.tdiv ((f 3 1-f 2 1)*(d-f 2 0)) (f 3 0-f 2 0))))) (.go 92699660613 .nil):=ay (((Nat.blt 1 n)=true∧((not (ai d (f 1 0)))=true∧((Nat.blt 2 n)=true∧((not (ai d (f 2 0)))=true∧((Nat.blt 3 n)=true∧((not (ai d (f 3 0)))=false∧((Nat.blt 2 n)=true∧((Nat.blt 3 n)=true∧((small ((f 3 1)-(f 2 1)))=true∧((small (d-(f 2 0)))=true∧((small (((f 3 1)-(f 2 1))*(d-(f 2 0))))=true∧((small ((f 3 0)-(f 2 0)))=true∧((aK ((f 3 0)-(f 2 0)) 0)=false∧((small (Int.tdiv (((f 3 1)-(f 2 1))*(d-(f 2 0))) ((f 3 0)-(f 2 0))))=true∧((small ((f 2 1)+(Int.tdiv (((f 3 1)-(f 2 1))*(d-(f 2 0))) ((f 3 0)-(f 2 0)))))=true∧((((f 2 1)+(Int.tdiv (((f 3 1)-(f 2 1))*(d-(f 2 0))) ((f 3 0)-(f 2 0)))):Int)=((f 2 1)+(Int.tdiv (((f 3 1)-(f 2 1))*(d-(f 2 0))) ((f 3 0)-(f 2 0)))))))))))))))))))))
theorem cn3 (n:Nat) (f:Nat→Nat→Int) (sl sh ll lh:Int) (d:Int) (hn:4<n) (u1:f 1 0<d) (u2:f 2 0<d) (u3:f 3 0<d) (v:d≤f 4 0) (a1:0≤f 3 0∧f 3 0≤d∧f 3 0<f 4 0∧f 4 0≤100) (a2:0≤f 3 1∧f 3 1<f 4 1∧f 4 1≤1000) (p:0≤(f 4 1-f 3 1)*(d-f 3 0)∧(f 4 1-f 3 1)*(d-f 3 0)≤100000) (q:0≤Int.tdiv ((f 4 1-f 3 1)*(d-f 3 0)) (f 4 0-f 3 0)∧Int.tdiv ((f 4 1-f 3 1)*(d-f 3 0)) (f 4 0-f 3 0)≤1000):VC (bi Try.prog aA 300 34 (enc [.st [.sl 2 n f,.i .i64 sl,.i .i64 sh,.i .i64 ll,.i .i64 lh],.one (.i .i64 d)] 0) 1 (fun v=>bC v (.int .i64 (f 3 1+Int.tdiv ((f 4 1-f 3 1)*(d-f 3 0)) (f 4 0-f 3 0))))) (.go 5932778279237 .nil):=ay (((Nat.blt 1 n)=true∧((not (ai d (f 1 0)))=true∧((Nat.blt 2 n)=true∧((not (ai d (f 2 0)))=true∧((Nat.blt 3 n)=true∧((not (ai d (f 3 0)))=true∧((Nat.blt 4 n)=true∧((not (ai d (f 4 0)))=false∧((Nat.blt 3 n)=true∧((Nat.blt 4 n)=true∧((small ((f 4 1)-(f 3 1)))=true∧((small (d-(f 3 0)))=true∧((small (((f 4 1)-(f 3 1))*(d-(f 3 0))))=true∧((small ((f 4 0)-(f 3 0)))=true∧((aK ((f 4 0)-(f 3 0)) 0)=false∧((small (Int.tdiv (((f 4 1)-(f 3 1))*(d-(f 3 0))) ((f 4 0)-(f 3 0))))=true∧((small ((f 3 1)+(Int.tdiv (((f 4 1)-(f 3 1))*(d-(f 3 0))) ((f 4 0)-(f 3 0)))))=true∧((((f 3 1)+(Int.tdiv (((f 4 1)-(f 3 1))*(d-(f 3 0))) ((f 4 0)-(f 3 0)))):Int)=((f 3 1)+(Int.tdiv (((f 4 1)-(f 3 1))*(d-(f 3 0))) ((f 4 0)-(f 3 0)))))))))))))))))))))))
theorem sm0 (f:Nat→Nat→Int):VC (bi Try.prog aA 600 79 (enc [.one (.sl 2 0 f)] 0) 1 (fun v=>bC v (.bool false))) .nil:=ay ((false=false))
theorem sm1 (f:Nat→Nat→Int):VC (bi Try.prog aA 600 79 (enc [.one (.sl 2 1 f)] 0) 1 (fun v=>bC v (.bool false))) .nil:=ay ((false=false))
theorem ZR (f:Nat→Nat→Int) (h:f 0 0=0∧f 0 1=0∧f 0 0<f 1 0∧f 0 1<f 1 1∧f 1 0≤100∧f 1 1≤1000):VC (bi Try.prog aA 600 79 (enc [.one (.sl 2 2 f)] 0) 1 (fun v=>bC v (.bool true))) (.go 360290169481363456 .nil):=ay (((not (cond (aK (f 0 0) 0) (cond (aK (f 0 1) 0) true false) false))=false∧((not (ai (f 1 0) (f 0 0)))=true∧((not (not (ai (f 1 1) (f 0 1))))=false∧((ai (f 1 0) 100)=true∧((ai (f 1 1) 1000)=true))))))
theorem Zr (f:Nat→Nat→Int) (zc:(cond (aK (f 0 0) 0) (cond (aK (f 0 1) 0) true false) false)=false):VC (bi Try.prog aA 600 79 (enc [.one (.sl 2 2 f)] 0) 1 (fun v=>bC v (.bool false))) (.go 81920 .nil):=ay (((not (cond (aK (f 0 0) 0) (cond (aK (f 0 1) 0) true false) false))=true∧(false=false)))
theorem YK (f:Nat→Nat→Int) (z0:f 0 0=0) (z1:f 0 1=0) (h:¬ (f 0 0<f 1 0∧f 0 1<f 1 1∧f 1 0≤100∧f 1 1≤1000)):VC (bi Try.prog aA 600 79 (enc [.one (.sl 2 2 f)] 0) 1 (fun v=>bC v (.bool false))) (.go 268468224 (.sp (.go 1024 (.sp .nil (.go 16384 (.sp .nil .nil)))) .nil)):=ay (((not (cond (aK (f 0 0) 0) (cond (aK (f 0 1) 0) true false) false))=false∧(((not (ai (f 1 0) (f 0 0)))=true→(((not (not (ai (f 1 1) (f 0 1))))=true→(false=false)) ∧
 ((not (not (ai (f 1 1) (f 0 1))))=false→(((ai (f 1 0) (100))=true→((ai (f 1 1) (1000))=false)) ∧
 ((ai (f 1 0) (100))=false→(false=false)))))) ∧
 ((not (ai (f 1 0) (f 0 0)))=false→(false=false)))))
theorem Zi (f:Nat→Nat→Int) (h:f 0 0=0∧f 0 1=0∧f 0 0<f 1 0∧f 0 1<f 1 1∧f 1 0<f 2 0∧f 1 1<f 2 1∧f 2 0≤100∧f 2 1≤1000):VC (bi Try.prog aA 600 79 (enc [.one (.sl 2 3 f)] 0) 1 (fun v=>bC v (.bool true))) (.go 6044665996067092211728384 .nil):=ay (((not (cond (aK (f 0 0) 0) (cond (aK (f 0 1) 0) true false) false))=false∧((not (ai (f 1 0) (f 0 0)))=true∧((not (not (ai (f 1 1) (f 0 1))))=false∧((not (ai (f 2 0) (f 1 0)))=true∧((not (not (ai (f 2 1) (f 1 1))))=false∧((ai (f 2 0) 100)=true∧((ai (f 2 1) 1000)=true))))))))
theorem ZN (f:Nat→Nat→Int) (zc:(cond (aK (f 0 0) 0) (cond (aK (f 0 1) 0) true false) false)=false):VC (bi Try.prog aA 600 79 (enc [.one (.sl 2 3 f)] 0) 1 (fun v=>bC v (.bool false))) (.go 81920 .nil):=ay (((not (cond (aK (f 0 0) 0) (cond (aK (f 0 1) 0) true false) false))=true∧(false=false)))
theorem YX (f:Nat→Nat→Int) (z0:f 0 0=0) (z1:f 0 1=0) (h:¬ (f 0 0<f 1 0∧f 0 1<f 1 1∧f 1 0<f 2 0∧f 1 1<f 2 1∧f 2 0≤100∧f 2 1≤1000)):VC (bi Try.prog aA 600 79 (enc [.one (.sl 2 3 f)] 0) 1 (fun v=>bC v (.bool false))) (.go 268468224 (.sp (.go 1024 (.sp .nil (.go 1024 (.sp (.go 1024 (.sp .nil (.go 16384 (.sp .nil .nil)))) .nil)))) .nil)):=ay (((not (cond (aK (f 0 0) 0) (cond (aK (f 0 1) 0) true false) false))=false∧(((not (ai (f 1 0) (f 0 0)))=true→(((not (not (ai (f 1 1) (f 0 1))))=true→(false=false)) ∧
 ((not (not (ai (f 1 1) (f 0 1))))=false→(((not (ai (f 2 0) (f 1 0)))=true→(((not (not (ai (f 2 1) (f 1 1))))=true→(false=false)) ∧
 ((not (not (ai (f 2 1) (f 1 1))))=false→(((ai (f 2 0) (100))=true→((ai (f 2 1) (1000))=false)) ∧
 ((ai (f 2 0) (100))=false→(false=false)))))) ∧
 ((not (ai (f 2 0) (f 1 0)))=false→(false=false)))))) ∧
 ((not (ai (f 1 0) (f 0 0)))=false→(false=false)))))
theorem YL (f:Nat→Nat→Int) (h:f 0 0=0∧f 0 1=0∧f 0 0<f 1 0∧f 0 1<f 1 1∧f 1 0<f 2 0∧f 1 1<f 2 1∧f 2 0<f 3 0∧f 2 1<f 3 1∧f 3 0≤100∧f 3 1≤1000):VC (bi Try.prog aA 600 79 (enc [.one (.sl 2 4 f)] 0) 1 (fun v=>bC v (.bool true))) (.go 101412667063872756529734367608832 .nil):=ay (((not (cond (aK (f 0 0) 0) (cond (aK (f 0 1) 0) true false) false))=false∧((not (ai (f 1 0) (f 0 0)))=true∧((not (not (ai (f 1 1) (f 0 1))))=false∧((not (ai (f 2 0) (f 1 0)))=true∧((not (not (ai (f 2 1) (f 1 1))))=false∧((not (ai (f 3 0) (f 2 0)))=true∧((not (not (ai (f 3 1) (f 2 1))))=false∧((ai (f 3 0) 100)=true∧((ai (f 3 1) 1000)=true))))))))))
theorem ZL (f:Nat→Nat→Int) (zc:(cond (aK (f 0 0) 0) (cond (aK (f 0 1) 0) true false) false)=false):VC (bi Try.prog aA 600 79 (enc [.one (.sl 2 4 f)] 0) 1 (fun v=>bC v (.bool false))) (.go 81920 .nil):=ay (((not (cond (aK (f 0 0) 0) (cond (aK (f 0 1) 0) true false) false))=true∧(false=false)))
theorem Zo (f:Nat→Nat→Int) (z0:f 0 0=0) (z1:f 0 1=0) (h:¬ (f 0 0<f 1 0∧f 0 1<f 1 1∧f 1 0<f 2 0∧f 1 1<f 2 1∧f 2 0<f 3 0∧f 2 1<f 3 1∧f 3 0≤100∧f 3 1≤1000)):VC (bi Try.prog aA 600 79 (enc [.one (.sl 2 4 f)] 0) 1 (fun v=>bC v (.bool false))) (.go 268468224 (.sp (.go 1024 (.sp .nil (.go 1024 (.sp (.go 1024 (.sp .nil (.go 1024 (.sp (.go 1024 (.sp .nil (.go 16384 (.sp .nil .nil)))) .nil)))) .nil)))) .nil)):=ay (((not (cond (aK (f 0 0) 0) (cond (aK (f 0 1) 0) true false) false))=false∧(((not (ai (f 1 0) (f 0 0)))=true→(((not (not (ai (f 1 1) (f 0 1))))=true→(false=false)) ∧
 ((not (not (ai (f 1 1) (f 0 1))))=false→(((not (ai (f 2 0) (f 1 0)))=true→(((not (not (ai (f 2 1) (f 1 1))))=true→(false=false)) ∧
 ((not (not (ai (f 2 1) (f 1 1))))=false→(((not (ai (f 3 0) (f 2 0)))=true→(((not (not (ai (f 3 1) (f 2 1))))=true→(false=false)) ∧
 ((not (not (ai (f 3 1) (f 2 1))))=false→(((ai (f 3 0) (100))=true→((ai (f 3 1) (1000))=false)) ∧
 ((ai (f 3 0) (100))=false→(false=false)))))) ∧
 ((not (ai (f 3 0) (f 2 0)))=false→(false=false)))))) ∧
 ((not (ai (f 2 0) (f 1 0)))=false→(false=false)))))) ∧
 ((not (ai (f 1 0) (f 0 0)))=false→(false=false)))))
theorem Zb (f:Nat→Nat→Int) (h:f 0 0=0∧f 0 1=0∧f 0 0<f 1 0∧f 0 1<f 1 1∧f 1 0<f 2 0∧f 1 1<f 2 1∧f 2 0<f 3 0∧f 2 1<f 3 1∧f 3 0<f 4 0∧f 3 1<f 4 1∧f 4 0≤100∧f 4 1≤1000):VC (bi Try.prog aA 600 79 (enc [.one (.sl 2 5 f)] 0) 1 (fun v=>bC v (.bool true))) (.go 1701422220466679032814763909646313881600 .nil):=ay (((not (cond (aK (f 0 0) 0) (cond (aK (f 0 1) 0) true false) false))=false∧((not (ai (f 1 0) (f 0 0)))=true∧((not (not (ai (f 1 1) (f 0 1))))=false∧((not (ai (f 2 0) (f 1 0)))=true∧((not (not (ai (f 2 1) (f 1 1))))=false∧((not (ai (f 3 0) (f 2 0)))=true∧((not (not (ai (f 3 1) (f 2 1))))=false∧((not (ai (f 4 0) (f 3 0)))=true∧((not (not (ai (f 4 1) (f 3 1))))=false∧((ai (f 4 0) 100)=true∧((ai (f 4 1) 1000)=true))))))))))))
theorem Y3 (f:Nat→Nat→Int) (zc:(cond (aK (f 0 0) 0) (cond (aK (f 0 1) 0) true false) false)=false):VC (bi Try.prog aA 600 79 (enc [.one (.sl 2 5 f)] 0) 1 (fun v=>bC v (.bool false))) (.go 81920 .nil):=ay (((not (cond (aK (f 0 0) 0) (cond (aK (f 0 1) 0) true false) false))=true∧(false=false)))
theorem Zj (f:Nat→Nat→Int) (z0:f 0 0=0) (z1:f 0 1=0) (h:¬ (f 0 0<f 1 0∧f 0 1<f 1 1∧f 1 0<f 2 0∧f 1 1<f 2 1∧f 2 0<f 3 0∧f 2 1<f 3 1∧f 3 0<f 4 0∧f 3 1<f 4 1∧f 4 0≤100∧f 4 1≤1000)):VC (bi Try.prog aA 600 79 (enc [.one (.sl 2 5 f)] 0) 1 (fun v=>bC v (.bool false))) (.go 268468224 (.sp (.go 1024 (.sp .nil (.go 1024 (.sp (.go 1024 (.sp .nil (.go 1024 (.sp (.go 1024 (.sp .nil (.go 1024 (.sp (.go 1024 (.sp .nil (.go 16384 (.sp .nil .nil)))) .nil)))) .nil)))) .nil)))) .nil)):=ay (((not (cond (aK (f 0 0) 0) (cond (aK (f 0 1) 0) true false) false))=false∧(((not (ai (f 1 0) (f 0 0)))=true→(((not (not (ai (f 1 1) (f 0 1))))=true→(false=false)) ∧
 ((not (not (ai (f 1 1) (f 0 1))))=false→(((not (ai (f 2 0) (f 1 0)))=true→(((not (not (ai (f 2 1) (f 1 1))))=true→(false=false)) ∧
 ((not (not (ai (f 2 1) (f 1 1))))=false→(((not (ai (f 3 0) (f 2 0)))=true→(((not (not (ai (f 3 1) (f 2 1))))=true→(false=false)) ∧
 ((not (not (ai (f 3 1) (f 2 1))))=false→(((not (ai (f 4 0) (f 3 0)))=true→(((not (not (ai (f 4 1) (f 3 1))))=true→(false=false)) ∧
 ((not (not (ai (f 4 1) (f 3 1))))=false→(((ai (f 4 0) (100))=true→((ai (f 4 1) (1000))=false)) ∧
 ((ai (f 4 0) (100))=false→(false=false)))))) ∧
 ((not (ai (f 4 0) (f 3 0)))=false→(false=false)))))) ∧
 ((not (ai (f 3 0) (f 2 0)))=false→(false=false)))))) ∧
 ((not (ai (f 2 0) (f 1 0)))=false→(false=false)))))) ∧
 ((not (ai (f 1 0) (f 0 0)))=false→(false=false)))))
def riC (f:Nat→Nat→Int) (i:Nat):Bool:=cond (ai (f i 0+1) (f (Nat.succ i) 0)) (ai (f i 1+1) (f (Nat.succ i) 1)) false
def cu (n:Nat) (f:Nat→Nat→Int):Bool:=cond (Nat.ble 2 n) (cond (aK (f 0 0) 0) (cond (aK (f 0 1) 0) (cond (dP (riC f) (n-1)) (cond (ai (f (n-1) 0) 100) (ai (f (n-1) 1) 1000) false) false) false) false) false
def rgK (a b lo hi:Int):Bool:=cond (ai a b) (cond (cond (ai lo a) (ai a hi) false) (cond (ai lo b) (ai b hi) false) false) false
def kaB (n:Nat) (f:Nat→Nat→Int) (sl sh ll lh:Int):Bool:=cond (cu n f) (cond (rgK sl sh 0 (f (n-1) 1)) (rgK ll lh 0 4) false) false
def cnR (f:Nat→Nat→Int) (d:Int) (k:Nat):Nat→Int:=Nat.rec (motive:=fun _=>Nat→Int) (fun m=>sgI f m d) (fun _ ih m=>cond (ai d (f (Nat.succ m) 0)) (sgI f m d) (ih (Nat.succ m))) k
def aZ (n:Nat) (f:Nat→Nat→Int) (d:Int):Int:=cnR f d (n-2) 0
def PL:Val:=fun das=>match das with | [.one (.sl 2 n f)]=>some (Nat.ble n 5,.bool (cu n f)) | _=>none
def bJ (n:Nat) (f:Nat→Nat→Int) (d:Int):Bool:=cond (ai 0 d) (ai d (f (n-1) 0)) false
def vG:Val:=fun das=>match das with | [.st [.sl 2 n f,.i .i64 sl,.i .i64 sh,.i .i64 ll,.i .i64 lh],.one (.i .i64 d)]=>some (cond (cu n f) (cond (Nat.ble n 5) (bJ n f d) false) false,.int .i64 (aZ n f d)) | _=>none
structure Mk (n:Nat) (f:Nat→Nat→Int):Prop where
 two:2≤n
 z0:f 0 0=0
 z1:f 0 1=0
 up:∀ i,i+1<n→f i 0<f (i+1) 0∧f i 1<f (i+1) 1
 l0:f (n-1) 0≤100
 l1:f (n-1) 1≤1000
theorem riC_t {f:Nat→Nat→Int} {i:Nat}:riC f i=true↔f i 0<f (i+1) 0∧f i 1<f (i+1) 1:=by
 unfold riC
 constructor
 ·intro h
  obtain ⟨h1,h2⟩:=ax h
  have h1:=(aW _ _).mp h1
  have h2:=(aW _ _).mp h2
  exact ⟨by show f i 0+1≤_;exact h1,by show f i 1+1≤_;exact h2⟩
 ·rintro ⟨h1,h2⟩
  rw [(aW _ _).mpr (show f i 0+1≤f (Nat.succ i) 0 from h1),(aW _ _).mpr (show f i 1+1≤f (Nat.succ i) 1 from h2)];rfl
theorem mkB_t {n:Nat} {f:Nat→Nat→Int}:cu n f=true↔Mk n f:=by
 unfold cu
 constructor
 ·intro h
  obtain ⟨h1,h⟩:=ax h
  obtain ⟨h2,h⟩:=ax h
  obtain ⟨h3,h⟩:=ax h
  obtain ⟨h4,h⟩:=ax h
  obtain ⟨h5,h6⟩:=ax h
  exact ⟨Nat.le_of_ble_eq_true h1,(dw _ _).mp h2,(dw _ _).mp h3,fun i hi=>riC_t.mp (aQ h4 i (by omega)),(aW _ _).mp h5,(aW _ _).mp h6⟩
 ·rintro ⟨h1,h2,h3,h4,h5,h6⟩
  rw [Nat.ble_eq_true_of_le h1,(dw _ _).mpr h2,(dw _ _).mpr h3,bu fun i hi=>riC_t.mpr (h4 i (by omega)),(aW _ _).mpr h5,(aW _ _).mpr h6];rfl
theorem rgK_t {a b lo hi:Int}:rgK a b lo hi=true↔a≤b∧lo≤a∧a≤hi∧lo≤b∧b≤hi:=by
 unfold rgK
 constructor
 ·intro h
  obtain ⟨h1,h⟩:=ax h
  obtain ⟨h2,h3⟩:=ax h
  obtain ⟨h4,h5⟩:=ax h2
  obtain ⟨h6,h7⟩:=ax h3
  exact ⟨(aW _ _).mp h1,(aW _ _).mp h4,(aW _ _).mp h5,(aW _ _).mp h6,(aW _ _).mp h7⟩
 ·rintro ⟨h1,h2,h3,h4,h5⟩
  rw [(aW _ _).mpr h1,(aW _ _).mpr h2,(aW _ _).mpr h3,(aW _ _).mpr h4,(aW _ _).mpr h5];rfl
theorem Mk.pos {n:Nat} {f:Nat→Nat→Int} (h:Mk n f):∀ i,i<n→0≤f i 0∧0≤f i 1∧(1≤i→1≤f i 0∧1≤f i 1)
 | 0,_=>⟨by rw [h.z0];omega,by rw [h.z1];omega,fun h=>absurd h (by omega)⟩
 | i+1,hi=>by
  have:=h.pos i (by omega)
  have:=h.up i hi
  exact ⟨by omega,by omega,fun _=>⟨by omega,by omega⟩⟩
theorem Mk.mono {n:Nat} {f:Nat→Nat→Int} (h:Mk n f):∀ k i,i+k<n→f i 0≤f (i+k) 0∧f i 1≤f (i+k) 1
 | 0,i,_=>⟨by rw [Nat.add_zero];omega,by rw [Nat.add_zero];omega⟩
 | k+1,i,hi=>by
  have a:=h.mono k i (by omega)
  have b:=h.up (i+k) (by omega)
  rw [show i+(k+1)=i+k+1 by omega]
  exact ⟨by omega,by omega⟩
theorem Mk.top {n:Nat} {f:Nat→Nat→Int} (h:Mk n f) (i:Nat) (hi:i<n):f i 0≤100∧f i 1≤1000∧f i 0≤f (n-1) 0∧f i 1≤f (n-1) 1:=by
 have a:=h.mono (n-1-i) i (by omega)
 rw [show i+(n-1-i)=n-1 by omega] at a
 have:=h.l0
 have:=h.l1
 exact ⟨by omega,by omega,a.1,a.2⟩
theorem VV {x y z:Int} (h1:0≤x) (h2:x≤1000) (h3:0≤y) (h4:y≤z) (h5:0<z) (h6:z≤100):(0≤x*y∧x*y≤100000)∧(0≤Int.tdiv (x*y) z∧Int.tdiv (x*y) z≤x):=by
 have a:0≤x*y:=Int.mul_nonneg h1 h3
 have b:x*y≤1000*100:=Int.mul_le_mul h2 (by omega) h3 (by omega)
 refine ⟨⟨a,by omega⟩,?_⟩
 rw [Int.tdiv_eq_ediv_of_nonneg a]
 refine ⟨Int.ediv_nonneg a (by omega),?_⟩
 have c:x*y≤x*z:=Int.mul_le_mul_of_nonneg_left h4 h1
 have:=Int.ediv_le_ediv h5 c
 rw [Int.mul_ediv_cancel _ (by omega:z≠0)] at this
 exact this
theorem PG {n:Nat} {f:Nat→Nat→Int} (d:Int):∀ k m,m+k+2=n→f m 0≤d→d≤f (n-1) 0→(∀ j,1≤j→j≤m→f j 0<d)→∃ s,s+1<n∧f s 0≤d∧d≤f (s+1) 0∧(∀ j,1≤j→j≤s→f j 0<d)∧cnR f d k m=sgI f s d
 | 0,m,hk,h1,h2,h3=>⟨m,by omega,h1,by rw [show n-1=m+1 by omega] at h2;exact h2,h3,rfl⟩
 | k+1,m,hk,h1,h2,h3=>by
  by_cases q:d≤f (m+1) 0
  ·refine ⟨m,by omega,h1,q,h3,?_⟩
   show cond (ai d (f (m+1) 0)) (sgI f m d) (cnR f d k (m+1))=_
   rw [(aW _ _).mpr q];rfl
  ·obtain ⟨s,e1,e2,e3,e4,e5⟩:=PG (f:=f) d k (m+1) (by omega) (by omega) h2 (fun j j1 j2=>by
    by_cases z:j=m+1
    ·rw [z];omega
    ·exact h3 j j1 (by omega))
   refine ⟨s,e1,e2,e3,e4,?_⟩
   show cond (ai d (f (m+1) 0)) (sgI f m d) (cnR f d k (m+1))=_
   rw [(nV _ _).mpr (by omega)];exact e5
theorem xW {n:Nat} {f:Nat→Nat→Int} (h:Mk n f) {d:Int} (h1:0≤d) (h2:d≤f (n-1) 0):∃ s,s+1<n∧f s 0≤d∧d≤f (s+1) 0∧(∀ j,1≤j→j≤s→f j 0<d)∧aZ n f d=sgI f s d:=by
 have:=h.two
 exact PG d (n-2) 0 (by omega) (by rw [h.z0];exact h1) h2 (fun j j1 j2=>by omega)
theorem inD_t {n:Nat} {f:Nat→Nat→Int} {d:Int}:bJ n f d=true↔0≤d∧d≤f (n-1) 0:=by
 unfold bJ
 constructor
 ·intro h
  obtain ⟨h1,h2⟩:=ax h
  exact ⟨(aW _ _).mp h1,(aW _ _).mp h2⟩
 ·rintro ⟨h1,h2⟩
  rw [(aW _ _).mpr h1,(aW _ _).mpr h2];rfl
theorem Gq {n:Nat} {f:Nat→Nat→Int} (h:Mk n f) {d:Int} {s:Nat} (h1:s+1<n) (h2:f s 0≤d) (h3:d≤f (s+1) 0):((0≤f s 0∧f s 0≤d∧f s 0<f (s+1) 0∧f (s+1) 0≤100)∧(0≤f s 1∧f s 1<f (s+1) 1∧f (s+1) 1≤1000))∧(0≤(f (s+1) 1-f s 1)*(d-f s 0)∧(f (s+1) 1-f s 1)*(d-f s 0)≤100000)∧(0≤Int.tdiv ((f (s+1) 1-f s 1)*(d-f s 0)) (f (s+1) 0-f s 0)∧Int.tdiv ((f (s+1) 1-f s 1)*(d-f s 0)) (f (s+1) 0-f s 0)≤f (s+1) 1-f s 1):=by
 have a:=h.pos s (by omega)
 have b:=h.up s h1
 have c:=h.top (s+1) h1
 have e:=VV (x:=f (s+1) 1-f s 1) (y:=d-f s 0) (z:=f (s+1) 0-f s 0) (by omega) (by omega) (by omega) (by omega) (by omega) (by omega)
 exact ⟨⟨⟨a.1,h2,b.1,c.1⟩,⟨a.2.1,b.2,c.2.1⟩⟩,e.1,e.2⟩
theorem XM:zA Try.prog 79 PL:=by
 intro das v hv
 unfold PL at hv
 split at hv
 ·rename_i n f
  have hb:=congrArg Prod.fst (Option.some.inj hv)
  have hv:=congrArg Prod.snd (Option.some.inj hv)
  subst hv
  have hb:=Nat.le_of_ble_eq_true hb
  have:n=0∨n=1∨n=2∨n=3∨n=4∨n=5:=by omega
  rcases this with rfl | rfl | rfl | rfl | rfl | rfl
  ·exact aJ au aj rfl (das:=[.one (.sl 2 0 f)]) (sm0 f)
  ·exact aJ au aj rfl (das:=[.one (.sl 2 1 f)]) (sm1 f)
  ·have key:cu 2 f=true↔(f 0 0=0∧f 0 1=0∧f 0 0<f 1 0∧f 0 1<f 1 1∧f 1 0≤100∧f 1 1≤1000):=by
    rw [mkB_t]
    constructor
    ·intro m;exact ⟨m.z0,m.z1,(m.up 0 (by decide)).1,(m.up 0 (by decide)).2,m.l0,m.l1⟩
    ·rintro ⟨z0,z1,a0,b0,l0,l1⟩
     refine ⟨by decide,z0,z1,fun i hi=>?_,l0,l1⟩
     have:i=0:=by omega
     rcases this with rfl
     ·exact ⟨a0,b0⟩
   cases hs:cu 2 f with
   | true=>exact aJ au aj rfl (das:=[.one (.sl 2 2 f)]) (ZR f (key.mp hs))
   | false =>
    cases hz:(cond (aK (f 0 0) (0)) (cond (aK (f 0 1) (0)) true false) false) with
    | false=>exact aJ au aj rfl (das:=[.one (.sl 2 2 f)]) (Zr f hz)
    | true =>
     obtain ⟨z0,z1⟩:=ax hz
     obtain ⟨z1,_⟩:=ax z1
     have z0:=(dw _ _).mp z0
     have z1:=(dw _ _).mp z1
     exact aJ au aj rfl (das:=[.one (.sl 2 2 f)]) (YK f z0 z1 (fun q=>by rw [key.mpr ⟨z0,z1,q⟩] at hs;cases hs))
  ·have key:cu 3 f=true↔(f 0 0=0∧f 0 1=0∧f 0 0<f 1 0∧f 0 1<f 1 1∧f 1 0<f 2 0∧f 1 1<f 2 1∧f 2 0≤100∧f 2 1≤1000):=by
    rw [mkB_t]
    constructor
    ·intro m;exact ⟨m.z0,m.z1,(m.up 0 (by decide)).1,(m.up 0 (by decide)).2,(m.up 1 (by decide)).1,(m.up 1 (by decide)).2,m.l0,m.l1⟩
    ·rintro ⟨z0,z1,a0,b0,a1,b1,l0,l1⟩
     refine ⟨by decide,z0,z1,fun i hi=>?_,l0,l1⟩
     have:i=0∨i=1:=by omega
     rcases this with rfl | rfl
     ·exact ⟨a0,b0⟩
     ·exact ⟨a1,b1⟩
   cases hs:cu 3 f with
   | true=>exact aJ au aj rfl (das:=[.one (.sl 2 3 f)]) (Zi f (key.mp hs))
   | false =>
    cases hz:(cond (aK (f 0 0) (0)) (cond (aK (f 0 1) (0)) true false) false) with
    | false=>exact aJ au aj rfl (das:=[.one (.sl 2 3 f)]) (ZN f hz)
    | true =>
     obtain ⟨z0,z1⟩:=ax hz
     obtain ⟨z1,_⟩:=ax z1
     have z0:=(dw _ _).mp z0
     have z1:=(dw _ _).mp z1
     exact aJ au aj rfl (das:=[.one (.sl 2 3 f)]) (YX f z0 z1 (fun q=>by rw [key.mpr ⟨z0,z1,q⟩] at hs;cases hs))
  ·have key:cu 4 f=true↔(f 0 0=0∧f 0 1=0∧f 0 0<f 1 0∧f 0 1<f 1 1∧f 1 0<f 2 0∧f 1 1<f 2 1∧f 2 0<f 3 0∧f 2 1<f 3 1∧f 3 0≤100∧f 3 1≤1000):=by
    rw [mkB_t]
    constructor
    ·intro m;exact ⟨m.z0,m.z1,(m.up 0 (by decide)).1,(m.up 0 (by decide)).2,(m.up 1 (by decide)).1,(m.up 1 (by decide)).2,(m.up 2 (by decide)).1,(m.up 2 (by decide)).2,m.l0,m.l1⟩
    ·rintro ⟨z0,z1,a0,b0,a1,b1,a2,b2,l0,l1⟩
     refine ⟨by decide,z0,z1,fun i hi=>?_,l0,l1⟩
     have:i=0∨i=1∨i=2:=by omega
     rcases this with rfl | rfl | rfl
     ·exact ⟨a0,b0⟩
     ·exact ⟨a1,b1⟩
     ·exact ⟨a2,b2⟩
   cases hs:cu 4 f with
   | true=>exact aJ au aj rfl (das:=[.one (.sl 2 4 f)]) (YL f (key.mp hs))
   | false =>
    cases hz:(cond (aK (f 0 0) (0)) (cond (aK (f 0 1) (0)) true false) false) with
    | false=>exact aJ au aj rfl (das:=[.one (.sl 2 4 f)]) (ZL f hz)
    | true =>
     obtain ⟨z0,z1⟩:=ax hz
     obtain ⟨z1,_⟩:=ax z1
     have z0:=(dw _ _).mp z0
     have z1:=(dw _ _).mp z1
     exact aJ au aj rfl (das:=[.one (.sl 2 4 f)]) (Zo f z0 z1 (fun q=>by rw [key.mpr ⟨z0,z1,q⟩] at hs;cases hs))
  ·have key:cu 5 f=true↔(f 0 0=0∧f 0 1=0∧f 0 0<f 1 0∧f 0 1<f 1 1∧f 1 0<f 2 0∧f 1 1<f 2 1∧f 2 0<f 3 0∧f 2 1<f 3 1∧f 3 0<f 4 0∧f 3 1<f 4 1∧f 4 0≤100∧f 4 1≤1000):=by
    rw [mkB_t]
    constructor
    ·intro m;exact ⟨m.z0,m.z1,(m.up 0 (by decide)).1,(m.up 0 (by decide)).2,(m.up 1 (by decide)).1,(m.up 1 (by decide)).2,(m.up 2 (by decide)).1,(m.up 2 (by decide)).2,(m.up 3 (by decide)).1,(m.up 3 (by decide)).2,m.l0,m.l1⟩
    ·rintro ⟨z0,z1,a0,b0,a1,b1,a2,b2,a3,b3,l0,l1⟩
     refine ⟨by decide,z0,z1,fun i hi=>?_,l0,l1⟩
     have:i=0∨i=1∨i=2∨i=3:=by omega
     rcases this with rfl | rfl | rfl | rfl
     ·exact ⟨a0,b0⟩
     ·exact ⟨a1,b1⟩
     ·exact ⟨a2,b2⟩
     ·exact ⟨a3,b3⟩
   cases hs:cu 5 f with
   | true=>exact aJ au aj rfl (das:=[.one (.sl 2 5 f)]) (Zb f (key.mp hs))
   | false =>
    cases hz:(cond (aK (f 0 0) (0)) (cond (aK (f 0 1) (0)) true false) false) with
    | false=>exact aJ au aj rfl (das:=[.one (.sl 2 5 f)]) (Y3 f hz)
    | true =>
     obtain ⟨z0,z1⟩:=ax hz
     obtain ⟨z1,_⟩:=ax z1
     have z0:=(dw _ _).mp z0
     have z1:=(dw _ _).mp z1
     exact aJ au aj rfl (das:=[.one (.sl 2 5 f)]) (Zj f z0 z1 (fun q=>by rw [key.mpr ⟨z0,z1,q⟩] at hs;cases hs))
 ·cases hv
theorem U5:zA Try.prog 34 vG:=by
 intro das v hv
 unfold vG at hv
 split at hv
 ·rename_i n f sl sh ll lh d
  have hb:=congrArg Prod.fst (Option.some.inj hv)
  have hv:=congrArg Prod.snd (Option.some.inj hv)
  subst hv
  obtain ⟨h1,hb⟩:=ax hb
  obtain ⟨h2,h3⟩:=ax hb
  have h2:=Nat.le_of_ble_eq_true h2
  have m:=mkB_t.mp h1
  obtain ⟨h3,h4⟩:=inD_t.mp h3
  obtain ⟨s,e1,e2,e3,e4,e5⟩:=xW m h3 h4
  rw [e5]
  obtain ⟨⟨p1,p2⟩,p3,p4⟩:=Gq m e1 e2 e3
  have:s=0∨s=1∨s=2∨s=3:=by omega
  have p5:Int.tdiv ((f (s+1) 1-f s 1)*(d-f s 0)) (f (s+1) 0-f s 0)≤1000:=by omega
  rcases this with rfl | rfl | rfl | rfl
  ·exact aJ au aj rfl (das:=[.st [.sl 2 n f,.i .i64 sl,.i .i64 sh,.i .i64 ll,.i .i64 lh],.one (.i .i64 d)]) (cn0 n f sl sh ll lh d e1 e3 p1 p2 p3 ⟨p4.1,p5⟩)
  ·exact aJ au aj rfl (das:=[.st [.sl 2 n f,.i .i64 sl,.i .i64 sh,.i .i64 ll,.i .i64 lh],.one (.i .i64 d)]) (cn1 n f sl sh ll lh d e1 (e4 1 (by omega) (by omega)) e3 p1 p2 p3 ⟨p4.1,p5⟩)
  ·exact aJ au aj rfl (das:=[.st [.sl 2 n f,.i .i64 sl,.i .i64 sh,.i .i64 ll,.i .i64 lh],.one (.i .i64 d)]) (cn2 n f sl sh ll lh d e1 (e4 1 (by omega) (by omega)) (e4 2 (by omega) (by omega)) e3 p1 p2 p3 ⟨p4.1,p5⟩)
  ·exact aJ au aj rfl (das:=[.st [.sl 2 n f,.i .i64 sl,.i .i64 sh,.i .i64 ll,.i .i64 lh],.one (.i .i64 d)]) (cn3 n f sl sh ll lh d e1 (e4 1 (by omega) (by omega)) (e4 2 (by omega) (by omega)) (e4 3 (by omega) (by omega)) e3 p1 p2 p3 ⟨p4.1,p5⟩)
 ·cases hv
def XSm:Ext:=zG [(79,cf PL)] false
theorem Iz:dC Try.prog XSm:=jL (aS (dL XM) eu)
theorem sk1 (n:Nat) (f:Nat→Nat→Int) (sl sh ll lh:Int) (hm:cu n f=false) (h5:n≤5):VC (bi Try.prog XSm 600 59 (enc [.st [.sl 2 n f,.i .i64 sl,.i .i64 sh,.i .i64 ll,.i .i64 lh]] 0) 1 (fun v=>bC v (.bool false))) (.go 25 .nil):=ay (((cond (cond (aO .i64 (ae .i64 f) n 2) true false) (Nat.ble n 5) false)=true∧((cu n f)=false∧(false=false))))
theorem sk2 (n:Nat) (f:Nat→Nat→Int) (sl sh ll lh:Int) (hm:cu n f=true) (h2:2≤n) (h5:n≤5) (h:sl≤sh∧0≤sl∧sl≤(f (Int.toNat ((n:Int)-1)) 1)∧0≤sh∧sh≤(f (Int.toNat ((n:Int)-1)) 1)∧ll≤lh∧0≤ll∧ll≤4∧0≤lh∧lh≤4):VC (bi Try.prog XSm 600 59 (enc [.st [.sl 2 n f,.i .i64 sl,.i .i64 sh,.i .i64 ll,.i .i64 lh]] 0) 1 (fun v=>bC v (.bool true))) (.go 99112593358826914069604275205 .nil):=ay (((cond (cond (aO .i64 (ae .i64 f) n 2) true false) (Nat.ble n 5) false)=true∧((cu n f)=true∧((small ((n:Int)-(1)))=true∧((cZ ((n:Int)-(1)) n)=true∧((not (not (ai sl sh)))=true∧((ai 0 sl)=true∧((ai sl (f (Int.toNat ((n:Int)-(1))) 1))=true∧((ai 0 sh)=true∧((ai sh (f (Int.toNat ((n:Int)-(1))) 1))=true∧((not (not (ai ll lh)))=true∧((ai 0 ll)=true∧((ai ll 4)=true∧((ai 0 lh)=true∧((ai lh 4)=true)))))))))))))))
theorem sk3 (n:Nat) (f:Nat→Nat→Int) (sl sh ll lh:Int) (hm:cu n f=true) (h2:2≤n) (h5:n≤5) (h:¬ (sl≤sh∧0≤sl∧sl≤(f (Int.toNat ((n:Int)-1)) 1)∧0≤sh∧sh≤(f (Int.toNat ((n:Int)-1)) 1)∧ll≤lh∧0≤ll∧ll≤4∧0≤lh∧lh≤4)):VC (bi Try.prog XSm 600 59 (enc [.st [.sl 2 n f,.i .i64 sl,.i .i64 sh,.i .i64 ll,.i .i64 lh]] 0) 1 (fun v=>bC v (.bool false))) (.go 70661 (.sp (.go 64 (.sp (.go 1024 (.sp (.go 1048640 (.sp (.go 64 (.sp (.go 64 (.sp (.go 1024 (.sp (.go 320 .nil) .nil)) .nil)) .nil)) .nil)) .nil)) .nil)) .nil)):=ay (((cond (cond (aO .i64 (ae .i64 f) n 2) true false) (Nat.ble n 5) false)=true∧((cu n f)=true∧((small ((n:Int)-(1)))=true∧((cZ ((n:Int)-(1)) n)=true∧(((not (not (ai sl sh)))=true→(((ai 0 sl)=true→(((ai sl (f (Int.toNat ((n:Int)-(1))) 1))=true→((ai 0 sh)=true∧(((ai sh (f (Int.toNat ((n:Int)-(1))) 1))=true→(((not (not (ai ll lh)))=true→(((ai 0 ll)=true→(((ai ll 4)=true→((ai 0 lh)=true∧((ai lh 4)=false))) ∧
 ((ai ll (4))=false→(false=false)))) ∧
 ((ai (0) ll)=false→(false=false)))) ∧
 ((not (not (ai ll lh)))=false→(false=false)))) ∧
 ((ai sh (f (Int.toNat (((n:Nat):Int)-(1))) 1))=false→(false=false))))) ∧
 ((ai sl (f (Int.toNat (((n:Nat):Int)-(1))) 1))=false→(false=false)))) ∧
 ((ai (0) sl)=false→(false=false)))) ∧
 ((not (not (ai sl sh)))=false→(false=false))))))))
def Qe:Val:=fun das=>match das with | [.st [.sl 2 n f,.i .i64 sl,.i .i64 sh,.i .i64 ll,.i .i64 lh]]=>some (Nat.ble n 5,.bool (kaB n f sl sh ll lh)) | _=>none
theorem lQ {n:Nat} (h:2≤n):Int.toNat ((n:Int)-1)=n-1:=by omega
theorem XV:zA Try.prog 59 Qe:=by
 intro das v hv
 unfold Qe at hv
 split at hv
 ·rename_i n f sl sh ll lh
  have hb:=congrArg Prod.fst (Option.some.inj hv)
  have hv:=congrArg Prod.snd (Option.some.inj hv)
  subst hv
  have hb:=Nat.le_of_ble_eq_true hb
  cases hm:cu n f with
  | false =>
   have e:kaB n f sl sh ll lh=false:=by unfold kaB;rw [hm];rfl
   rw [e]
   exact aJ au Iz rfl (das:=[.st [.sl 2 n f,.i .i64 sl,.i .i64 sh,.i .i64 ll,.i .i64 lh]]) (sk1 n f sl sh ll lh hm hb)
  | true =>
   have m:=mkB_t.mp hm
   have e1:=lQ m.two
   have key:kaB n f sl sh ll lh=true↔(sl≤sh∧0≤sl∧sl≤(f (Int.toNat ((n:Int)-1)) 1)∧0≤sh∧sh≤(f (Int.toNat ((n:Int)-1)) 1)∧ll≤lh∧0≤ll∧ll≤4∧0≤lh∧lh≤4):=by
    unfold kaB
    rw [hm,e1]
    constructor
    ·intro h
     obtain ⟨h1,h2⟩:=ax (show cond (rgK sl sh 0 (f (n-1) 1)) (rgK ll lh 0 4) false=true from h)
     obtain ⟨a1,a2,a3,a4,a5⟩:=rgK_t.mp h1
     obtain ⟨b1,b2,b3,b4,b5⟩:=rgK_t.mp h2
     exact ⟨a1,a2,a3,a4,a5,b1,b2,b3,b4,b5⟩
    ·rintro ⟨a1,a2,a3,a4,a5,b1,b2,b3,b4,b5⟩
     show cond (rgK sl sh 0 (f (n-1) 1)) (rgK ll lh 0 4) false=true
     rw [rgK_t.mpr ⟨a1,a2,a3,a4,a5⟩,rgK_t.mpr ⟨b1,b2,b3,b4,b5⟩];rfl
   cases hs:kaB n f sl sh ll lh with
   | true=>exact aJ au Iz rfl (das:=[.st [.sl 2 n f,.i .i64 sl,.i .i64 sh,.i .i64 ll,.i .i64 lh]]) (sk2 n f sl sh ll lh hm m.two hb (key.mp hs))
   | false=>exact aJ au Iz rfl (das:=[.st [.sl 2 n f,.i .i64 sl,.i .i64 sh,.i .i64 ll,.i .i64 lh]]) (sk3 n f sl sh ll lh hm m.two hb (fun q=>by rw [key.mpr q] at hs;cases hs))
 ·cases hv
end
end Go.Proofs.Ytflblednifbleaa
