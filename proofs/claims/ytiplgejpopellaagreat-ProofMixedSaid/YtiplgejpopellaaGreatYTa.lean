/- Tables: contracts: the line before a number. -/
import Derived.Test.YtiplgejpopellaaGreatProg
import Derived.Test.YtiplgejpopellaaGreatYEe
set_option linter.all false
set_option linter.unusedSimpArgs false
set_option linter.unusedVariables false
namespace Go.Proofs.YtiplgejpopellaaGreat
open Go Go.Ev
set_option maxRecDepth 1000000
noncomputable section
theorem X8:Tryz.prog.follows .mixedOrders=true:=by kernel_rfl
theorem aj:bi Tryz.prog:=F6 X8
def ay (len:Nat) (f:Nat→Nat→Int) (n:Int):Int:=cond (Nat.ble 3 len) (cond (ax (f 1 0) n) (cond (Nat.ble 4 len) (cond (ax (f 2 0) n) (cond (Nat.ble 5 len) (cond (ax (f 3 0) n) 3 2) 2) 1) 1) 0) 0
theorem Y0 (f:Nat→Nat→Int) (n:Int):VC (bK Tryz.prog az 300 117 (enc [.one (.sl 1 2 f),.one (.i .i64 n)] 0) 1 (fun x=>bW x (.int .i64 (ay 2 f n)))) .nil:=ai ((((0):Int)=0)) (q:=by
 (repeat' (first | exact True.intro | (with_reducible rfl) | (intro hh;(try simp only [hh,cond_true,cond_false])) | refine And.intro ?_ ?_));all_goals (exact Jr))
theorem Y6 (f:Nat→Nat→Int) (n:Int):VC (bK Tryz.prog az 300 117 (enc [.one (.sl 1 3 f),.one (.i .i64 n)] 0) 1 (fun x=>bW x (.int .i64 (ay 3 f n)))) (.go 4194304 (.sp .nil .nil)):=ai ((((ax (f 1 0) n)=true→(((0+1):Int)=(cond (ax (f 1 0) n) (cond false (cond (ax (f 2 0) n) (cond false (cond (ax (f 3 0) n) 3 2) 2) 1) 1) 0))) ∧
 ((ax (f 1 0) n)=false→(((0):Int)=(cond (ax (f 1 0) n) (cond false (cond (ax (f 2 0) n) (cond false (cond (ax (f 3 0) n) (3) (2)) (2)) (1)) (1)) (0)))))) (q:=by
 (repeat' (first | exact True.intro | (with_reducible rfl) | (intro hh;(try simp only [hh,cond_true,cond_false])) | refine And.intro ?_ ?_));all_goals (exact Jr))
theorem Zh (f:Nat→Nat→Int) (n:Int):VC (bK Tryz.prog az 300 117 (enc [.one (.sl 1 4 f),.one (.i .i64 n)] 0) 1 (fun x=>bW x (.int .i64 (ay 4 f n)))) (.go 4194304 (.sp (.go 16777216 (.sp .nil .nil)) .nil)):=ai ((((ax (f 1 0) n)=true→(((ax (f 2 0) n)=true→((((0+1)+1):Int)=(cond (ax (f 1 0) n) (cond true (cond (ax (f 2 0) n) (cond false (cond (ax (f 3 0) n) 3 2) 2) 1) 1) 0))) ∧
 ((ax (f 2 0) n)=false→((((0)+(1)):Int)=(cond (ax (f 1 0) n) (cond true (cond (ax (f 2 0) n) (cond false (cond (ax (f 3 0) n) (3) (2)) (2)) (1)) (1)) (0)))))) ∧
 ((ax (f 1 0) n)=false→(((0):Int)=(cond (ax (f 1 0) n) (cond true (cond (ax (f 2 0) n) (cond false (cond (ax (f 3 0) n) (3) (2)) (2)) (1)) (1)) (0)))))) (q:=by
 (repeat' (first | exact True.intro | (with_reducible rfl) | (intro hh;(try simp only [hh,cond_true,cond_false])) | refine And.intro ?_ ?_));all_goals (exact Jr))
theorem ZL (f:Nat→Nat→Int) (n:Int):VC (bK Tryz.prog az 300 117 (enc [.one (.sl 1 5 f),.one (.i .i64 n)] 0) 1 (fun x=>bW x (.int .i64 (ay 5 f n)))) (.go 4194304 (.sp (.go 16777216 (.sp (.go 16777216 (.sp .nil .nil)) .nil)) .nil)):=ai ((((ax (f 1 0) n)=true→(((ax (f 2 0) n)=true→(((ax (f 3 0) n)=true→(((((0+1)+1)+1):Int)=(cond (ax (f 1 0) n) (cond true (cond (ax (f 2 0) n) (cond true (cond (ax (f 3 0) n) 3 2) 2) 1) 1) 0))) ∧
 ((ax (f 3 0) n)=false→(((((0)+(1))+(1)):Int)=(cond (ax (f 1 0) n) (cond true (cond (ax (f 2 0) n) (cond true (cond (ax (f 3 0) n) (3) (2)) (2)) (1)) (1)) (0)))))) ∧
 ((ax (f 2 0) n)=false→((((0)+(1)):Int)=(cond (ax (f 1 0) n) (cond true (cond (ax (f 2 0) n) (cond true (cond (ax (f 3 0) n) (3) (2)) (2)) (1)) (1)) (0)))))) ∧
 ((ax (f 1 0) n)=false→(((0):Int)=(cond (ax (f 1 0) n) (cond true (cond (ax (f 2 0) n) (cond true (cond (ax (f 3 0) n) (3) (2)) (2)) (1)) (1)) (0)))))) (q:=by
 (repeat' (first | exact True.intro | (with_reducible rfl) | (intro hh;(try simp only [hh,cond_true,cond_false])) | refine And.intro ?_ ?_));all_goals (exact Jr))
def Ut:Val:=fun das=>match das with | [.one (.sl 1 len f),.one (.i .i64 n)]=>some (cond (Nat.ble 2 len) (Nat.ble len 5) false,.int .i64 (ay len f n)) | _=>none
theorem Y9:qi Tryz.prog 117 Ut:=by
 intro das x hv
 unfold Ut at hv
 split at hv
 ·rename_i len f n
  have hb:=congrArg Prod.fst (Option.some.inj hv)
  have hv:=congrArg Prod.snd (Option.some.inj hv)
  subst hv
  obtain ⟨h1,h2⟩:=ah hb
  have h1:=Nat.le_of_ble_eq_true h1
  have h2:=Nat.le_of_ble_eq_true h2
  have:len=2∨len=3∨len=4∨len=5:=by omega
  rcases this with rfl | rfl | rfl | rfl
  ·exact aK aj ak rfl (das:=[.one (.sl 1 2 f),.one (.i .i64 n)]) (Y0 f n)
  ·exact aK aj ak rfl (das:=[.one (.sl 1 3 f),.one (.i .i64 n)]) (Y6 f n)
  ·exact aK aj ak rfl (das:=[.one (.sl 1 4 f),.one (.i .i64 n)]) (Zh f n)
  ·exact aK aj ak rfl (das:=[.one (.sl 1 5 f),.one (.i .i64 n)]) (ZL f n)
 ·cases hv
def XT1:Ext:=ku [(117,cf Ut)] false
theorem Yb:dE Tryz.prog XT1:=dH (aA (dw Y9) bJ)
end
end Go.Proofs.YtiplgejpopellaaGreat
/- Tables: contracts: the strength at a point. -/
namespace Go.Proofs.YtiplgejpopellaaGreat
open Go Go.Ev
set_option maxRecDepth 1000000
noncomputable section
def stI (a0 a1 b0 b1 v00 v10 v01 v11 x y:Int):Int:=Int.tdiv (2*(v00*((a1-a0)-(x-a0))*((b1-b0)-(y-b0))+v10*(x-a0)*((b1-b0)-(y-b0))+v01*((a1-a0)-(x-a0))*(y-b0)+v11*(x-a0)*(y-b0))+(a1-a0)*(b1-b0)) (2*((a1-a0)*(b1-b0)))
theorem r67 (A:Nat) (B:Nat→Nat→Int) (I:Nat) (J:Nat→Nat→Int) (n:Nat) (M:Nat→Nat) (f:Nat→Nat→Nat→Int) (x y:Int) (hl:2≤A∧A≤5∧2≤I∧I≤5∧n=A) (hr:0≤ay A B x∧ay A B x+2≤A) (hc:0≤ay I J y∧ay I J y+2≤I) (hs:M (Int.toNat (ay A B x))=I∧M (Int.toNat (ay A B x+1))=I) (ha:0≤(B (Int.toNat (ay A B x)) 0)∧(B (Int.toNat (ay A B x)) 0)≤x∧x≤(B (Int.toNat (ay A B x+1)) 0)∧(B (Int.toNat (ay A B x+1)) 0)≤40∧(B (Int.toNat (ay A B x)) 0)<(B (Int.toNat (ay A B x+1)) 0)) (hb:0≤(J (Int.toNat (ay I J y)) 0)∧(J (Int.toNat (ay I J y)) 0)≤y∧y≤(J (Int.toNat (ay I J y+1)) 0)∧(J (Int.toNat (ay I J y+1)) 0)≤60∧(J (Int.toNat (ay I J y)) 0)<(J (Int.toNat (ay I J y+1)) 0)) (p1:0≤(f (Int.toNat (ay A B x)) (Int.toNat (ay I J y)) 0)*(((B (Int.toNat (ay A B x+1)) 0)-(B (Int.toNat (ay A B x)) 0))-(x-(B (Int.toNat (ay A B x)) 0)))∧(f (Int.toNat (ay A B x)) (Int.toNat (ay I J y)) 0)*(((B (Int.toNat (ay A B x+1)) 0)-(B (Int.toNat (ay A B x)) 0))-(x-(B (Int.toNat (ay A B x)) 0)))≤80000) (p2:0≤(f (Int.toNat (ay A B x+1)) (Int.toNat (ay I J y)) 0)*(x-(B (Int.toNat (ay A B x)) 0))∧(f (Int.toNat (ay A B x+1)) (Int.toNat (ay I J y)) 0)*(x-(B (Int.toNat (ay A B x)) 0))≤80000) (p3:0≤(f (Int.toNat (ay A B x)) (Int.toNat (ay I J y+1)) 0)*(((B (Int.toNat (ay A B x+1)) 0)-(B (Int.toNat (ay A B x)) 0))-(x-(B (Int.toNat (ay A B x)) 0)))∧(f (Int.toNat (ay A B x)) (Int.toNat (ay I J y+1)) 0)*(((B (Int.toNat (ay A B x+1)) 0)-(B (Int.toNat (ay A B x)) 0))-(x-(B (Int.toNat (ay A B x)) 0)))≤80000) (p4:0≤(f (Int.toNat (ay A B x+1)) (Int.toNat (ay I J y+1)) 0)*(x-(B (Int.toNat (ay A B x)) 0))∧(f (Int.toNat (ay A B x+1)) (Int.toNat (ay I J y+1)) 0)*(x-(B (Int.toNat (ay A B x)) 0))≤80000) (q1:0≤(f (Int.toNat (ay A B x)) (Int.toNat (ay I J y)) 0)*(((B (Int.toNat (ay A B x+1)) 0)-(B (Int.toNat (ay A B x)) 0))-(x-(B (Int.toNat (ay A B x)) 0)))*(((J (Int.toNat (ay I J y+1)) 0)-(J (Int.toNat (ay I J y)) 0))-(y-(J (Int.toNat (ay I J y)) 0)))∧(f (Int.toNat (ay A B x)) (Int.toNat (ay I J y)) 0)*(((B (Int.toNat (ay A B x+1)) 0)-(B (Int.toNat (ay A B x)) 0))-(x-(B (Int.toNat (ay A B x)) 0)))*(((J (Int.toNat (ay I J y+1)) 0)-(J (Int.toNat (ay I J y)) 0))-(y-(J (Int.toNat (ay I J y)) 0)))≤4800000) (q2:0≤(f (Int.toNat (ay A B x+1)) (Int.toNat (ay I J y)) 0)*(x-(B (Int.toNat (ay A B x)) 0))*(((J (Int.toNat (ay I J y+1)) 0)-(J (Int.toNat (ay I J y)) 0))-(y-(J (Int.toNat (ay I J y)) 0)))∧(f (Int.toNat (ay A B x+1)) (Int.toNat (ay I J y)) 0)*(x-(B (Int.toNat (ay A B x)) 0))*(((J (Int.toNat (ay I J y+1)) 0)-(J (Int.toNat (ay I J y)) 0))-(y-(J (Int.toNat (ay I J y)) 0)))≤4800000) (q3:0≤(f (Int.toNat (ay A B x)) (Int.toNat (ay I J y+1)) 0)*(((B (Int.toNat (ay A B x+1)) 0)-(B (Int.toNat (ay A B x)) 0))-(x-(B (Int.toNat (ay A B x)) 0)))*(y-(J (Int.toNat (ay I J y)) 0))∧(f (Int.toNat (ay A B x)) (Int.toNat (ay I J y+1)) 0)*(((B (Int.toNat (ay A B x+1)) 0)-(B (Int.toNat (ay A B x)) 0))-(x-(B (Int.toNat (ay A B x)) 0)))*(y-(J (Int.toNat (ay I J y)) 0))≤4800000) (q4:0≤(f (Int.toNat (ay A B x+1)) (Int.toNat (ay I J y+1)) 0)*(x-(B (Int.toNat (ay A B x)) 0))*(y-(J (Int.toNat (ay I J y)) 0))∧(f (Int.toNat (ay A B x+1)) (Int.toNat (ay I J y+1)) 0)*(x-(B (Int.toNat (ay A B x)) 0))*(y-(J (Int.toNat (ay I J y)) 0))≤4800000) (hd:1≤((B (Int.toNat (ay A B x+1)) 0)-(B (Int.toNat (ay A B x)) 0))*((J (Int.toNat (ay I J y+1)) 0)-(J (Int.toNat (ay I J y)) 0))∧((B (Int.toNat (ay A B x+1)) 0)-(B (Int.toNat (ay A B x)) 0))*((J (Int.toNat (ay I J y+1)) 0)-(J (Int.toNat (ay I J y)) 0))≤2400) (ht:0≤(Int.tdiv (2*((f (Int.toNat (ay A B x)) (Int.toNat (ay I J y)) 0)*(((B (Int.toNat (ay A B x+1)) 0)-(B (Int.toNat (ay A B x)) 0))-(x-(B (Int.toNat (ay A B x)) 0)))*(((J (Int.toNat (ay I J y+1)) 0)-(J (Int.toNat (ay I J y)) 0))-(y-(J (Int.toNat (ay I J y)) 0)))+(f (Int.toNat (ay A B x+1)) (Int.toNat (ay I J y)) 0)*(x-(B (Int.toNat (ay A B x)) 0))*(((J (Int.toNat (ay I J y+1)) 0)-(J (Int.toNat (ay I J y)) 0))-(y-(J (Int.toNat (ay I J y)) 0)))+(f (Int.toNat (ay A B x)) (Int.toNat (ay I J y+1)) 0)*(((B (Int.toNat (ay A B x+1)) 0)-(B (Int.toNat (ay A B x)) 0))-(x-(B (Int.toNat (ay A B x)) 0)))*(y-(J (Int.toNat (ay I J y)) 0))+(f (Int.toNat (ay A B x+1)) (Int.toNat (ay I J y+1)) 0)*(x-(B (Int.toNat (ay A B x)) 0))*(y-(J (Int.toNat (ay I J y)) 0)))+((B (Int.toNat (ay A B x+1)) 0)-(B (Int.toNat (ay A B x)) 0))*((J (Int.toNat (ay I J y+1)) 0)-(J (Int.toNat (ay I J y)) 0))) (2*(((B (Int.toNat (ay A B x+1)) 0)-(B (Int.toNat (ay A B x)) 0))*((J (Int.toNat (ay I J y+1)) 0)-(J (Int.toNat (ay I J y)) 0)))))∧(Int.tdiv (2*((f (Int.toNat (ay A B x)) (Int.toNat (ay I J y)) 0)*(((B (Int.toNat (ay A B x+1)) 0)-(B (Int.toNat (ay A B x)) 0))-(x-(B (Int.toNat (ay A B x)) 0)))*(((J (Int.toNat (ay I J y+1)) 0)-(J (Int.toNat (ay I J y)) 0))-(y-(J (Int.toNat (ay I J y)) 0)))+(f (Int.toNat (ay A B x+1)) (Int.toNat (ay I J y)) 0)*(x-(B (Int.toNat (ay A B x)) 0))*(((J (Int.toNat (ay I J y+1)) 0)-(J (Int.toNat (ay I J y)) 0))-(y-(J (Int.toNat (ay I J y)) 0)))+(f (Int.toNat (ay A B x)) (Int.toNat (ay I J y+1)) 0)*(((B (Int.toNat (ay A B x+1)) 0)-(B (Int.toNat (ay A B x)) 0))-(x-(B (Int.toNat (ay A B x)) 0)))*(y-(J (Int.toNat (ay I J y)) 0))+(f (Int.toNat (ay A B x+1)) (Int.toNat (ay I J y+1)) 0)*(x-(B (Int.toNat (ay A B x)) 0))*(y-(J (Int.toNat (ay I J y)) 0)))+((B (Int.toNat (ay A B x+1)) 0)-(B (Int.toNat (ay A B x)) 0))*((J (Int.toNat (ay I J y+1)) 0)-(J (Int.toNat (ay I J y)) 0))) (2*(((B (Int.toNat (ay A B x+1)) 0)-(B (Int.toNat (ay A B x)) 0))*((J (Int.toNat (ay I J y+1)) 0)-(J (Int.toNat (ay I J y)) 0)))))≤100000000):VC (bK Tryz.prog XT1 300 115 (enc [.st [.sl 1 A B,.sl 1 I J,.rr 1 n M f],.one (.i .i64 x),.one (.i .i64 y)] 0) 3 (fun v=>bW v (.int .i64 (stI (B (Int.toNat (ay A B x)) 0) (B (Int.toNat (ay A B x+1)) 0) (J (Int.toNat (ay I J y)) 0) (J (Int.toNat (ay I J y+1)) 0) (f (Int.toNat (ay A B x)) (Int.toNat (ay I J y)) 0) (f (Int.toNat (ay A B x+1)) (Int.toNat (ay I J y)) 0) (f (Int.toNat (ay A B x)) (Int.toNat (ay I J y+1)) 0) (f (Int.toNat (ay A B x+1)) (Int.toNat (ay I J y+1)) 0) x y)))) (.go 27647327544040159472747107669 .nil):=ai (((cond (cond (aV .i64 (ae .i64 B) A 1) true false) (cond (Nat.ble 2 A) (Nat.ble A 5) false) false)=true∧((cond (cond (aV .i64 (ae .i64 J) I 1) true false) (cond (Nat.ble 2 I) (Nat.ble I 5) false) false)=true∧((dZ (ay A B x) A)=true∧((small (x-(B (Int.toNat (ay A B x)) 0)))=true∧((small ((ay A B x)+1))=true∧((dZ ((ay A B x)+1) A)=true∧((dZ (ay A B x) A)=true∧((small ((B (Int.toNat ((ay A B x)+1)) 0)-(B (Int.toNat (ay A B x)) 0)))=true∧((dZ (ay I J y) I)=true∧((small (y-(J (Int.toNat (ay I J y)) 0)))=true∧((small ((ay I J y)+1))=true∧((dZ ((ay I J y)+1) I)=true∧((dZ (ay I J y) I)=true∧((small ((J (Int.toNat ((ay I J y)+1)) 0)-(J (Int.toNat (ay I J y)) 0)))=true∧((dZ (ay A B x) n)=true∧((dZ (ay I J y) (M (Int.toNat (ay A B x))))=true∧((small (((B (Int.toNat ((ay A B x)+1)) 0)-(B (Int.toNat (ay A B x)) 0))-(x-(B (Int.toNat (ay A B x)) 0))))=true∧((small ((f (Int.toNat (ay A B x)) (Int.toNat (ay I J y)) 0)*(((B (Int.toNat ((ay A B x)+1)) 0)-(B (Int.toNat (ay A B x)) 0))-(x-(B (Int.toNat (ay A B x)) 0)))))=true∧((small (((J (Int.toNat ((ay I J y)+1)) 0)-(J (Int.toNat (ay I J y)) 0))-(y-(J (Int.toNat (ay I J y)) 0))))=true∧((small (((f (Int.toNat (ay A B x)) (Int.toNat (ay I J y)) 0)*(((B (Int.toNat ((ay A B x)+1)) 0)-(B (Int.toNat (ay A B x)) 0))-(x-(B (Int.toNat (ay A B x)) 0))))*(((J (Int.toNat ((ay I J y)+1)) 0)-(J (Int.toNat (ay I J y)) 0))-(y-(J (Int.toNat (ay I J y)) 0)))))=true∧((small ((ay A B x)+1))=true∧((dZ ((ay A B x)+1) n)=true∧((dZ (ay I J y) (M (Int.toNat ((ay A B x)+1))))=true∧((small ((f (Int.toNat ((ay A B x)+1)) (Int.toNat (ay I J y)) 0)*(x-(B (Int.toNat (ay A B x)) 0))))=true∧((small (((J (Int.toNat ((ay I J y)+1)) 0)-(J (Int.toNat (ay I J y)) 0))-(y-(J (Int.toNat (ay I J y)) 0))))=true∧((small (((f (Int.toNat ((ay A B x)+1)) (Int.toNat (ay I J y)) 0)*(x-(B (Int.toNat (ay A B x)) 0)))*(((J (Int.toNat ((ay I J y)+1)) 0)-(J (Int.toNat (ay I J y)) 0))-(y-(J (Int.toNat (ay I J y)) 0)))))=true∧((small ((((f (Int.toNat (ay A B x)) (Int.toNat (ay I J y)) 0)*(((B (Int.toNat ((ay A B x)+1)) 0)-(B (Int.toNat (ay A B x)) 0))-(x-(B (Int.toNat (ay A B x)) 0))))*(((J (Int.toNat ((ay I J y)+1)) 0)-(J (Int.toNat (ay I J y)) 0))-(y-(J (Int.toNat (ay I J y)) 0))))+(((f (Int.toNat ((ay A B x)+1)) (Int.toNat (ay I J y)) 0)*(x-(B (Int.toNat (ay A B x)) 0)))*(((J (Int.toNat ((ay I J y)+1)) 0)-(J (Int.toNat (ay I J y)) 0))-(y-(J (Int.toNat (ay I J y)) 0))))))=true∧((dZ (ay A B x) n)=true∧((small ((ay I J y)+1))=true∧((dZ ((ay I J y)+1) (M (Int.toNat (ay A B x))))=true∧((small (((B (Int.toNat ((ay A B x)+1)) 0)-(B (Int.toNat (ay A B x)) 0))-(x-(B (Int.toNat (ay A B x)) 0))))=true∧((small ((f (Int.toNat (ay A B x)) (Int.toNat ((ay I J y)+1)) 0)*(((B (Int.toNat ((ay A B x)+1)) 0)-(B (Int.toNat (ay A B x)) 0))-(x-(B (Int.toNat (ay A B x)) 0)))))=true∧((small (((f (Int.toNat (ay A B x)) (Int.toNat ((ay I J y)+1)) 0)*(((B (Int.toNat ((ay A B x)+1)) 0)-(B (Int.toNat (ay A B x)) 0))-(x-(B (Int.toNat (ay A B x)) 0))))*(y-(J (Int.toNat (ay I J y)) 0))))=true∧((small (((((f (Int.toNat (ay A B x)) (Int.toNat (ay I J y)) 0)*(((B (Int.toNat ((ay A B x)+1)) 0)-(B (Int.toNat (ay A B x)) 0))-(x-(B (Int.toNat (ay A B x)) 0))))*(((J (Int.toNat ((ay I J y)+1)) 0)-(J (Int.toNat (ay I J y)) 0))-(y-(J (Int.toNat (ay I J y)) 0))))+(((f (Int.toNat ((ay A B x)+1)) (Int.toNat (ay I J y)) 0)*(x-(B (Int.toNat (ay A B x)) 0)))*(((J (Int.toNat ((ay I J y)+1)) 0)-(J (Int.toNat (ay I J y)) 0))-(y-(J (Int.toNat (ay I J y)) 0)))))+(((f (Int.toNat (ay A B x)) (Int.toNat ((ay I J y)+1)) 0)*(((B (Int.toNat ((ay A B x)+1)) 0)-(B (Int.toNat (ay A B x)) 0))-(x-(B (Int.toNat (ay A B x)) 0))))*(y-(J (Int.toNat (ay I J y)) 0)))))=true∧((small ((ay A B x)+1))=true∧((dZ ((ay A B x)+1) n)=true∧((small ((ay I J y)+1))=true∧((dZ ((ay I J y)+1) (M (Int.toNat ((ay A B x)+1))))=true∧((small ((f (Int.toNat ((ay A B x)+1)) (Int.toNat ((ay I J y)+1)) 0)*(x-(B (Int.toNat (ay A B x)) 0))))=true∧((small (((f (Int.toNat ((ay A B x)+1)) (Int.toNat ((ay I J y)+1)) 0)*(x-(B (Int.toNat (ay A B x)) 0)))*(y-(J (Int.toNat (ay I J y)) 0))))=true∧((small ((((((f (Int.toNat (ay A B x)) (Int.toNat (ay I J y)) 0)*(((B (Int.toNat ((ay A B x)+1)) 0)-(B (Int.toNat (ay A B x)) 0))-(x-(B (Int.toNat (ay A B x)) 0))))*(((J (Int.toNat ((ay I J y)+1)) 0)-(J (Int.toNat (ay I J y)) 0))-(y-(J (Int.toNat (ay I J y)) 0))))+(((f (Int.toNat ((ay A B x)+1)) (Int.toNat (ay I J y)) 0)*(x-(B (Int.toNat (ay A B x)) 0)))*(((J (Int.toNat ((ay I J y)+1)) 0)-(J (Int.toNat (ay I J y)) 0))-(y-(J (Int.toNat (ay I J y)) 0)))))+(((f (Int.toNat (ay A B x)) (Int.toNat ((ay I J y)+1)) 0)*(((B (Int.toNat ((ay A B x)+1)) 0)-(B (Int.toNat (ay A B x)) 0))-(x-(B (Int.toNat (ay A B x)) 0))))*(y-(J (Int.toNat (ay I J y)) 0))))+(((f (Int.toNat ((ay A B x)+1)) (Int.toNat ((ay I J y)+1)) 0)*(x-(B (Int.toNat (ay A B x)) 0)))*(y-(J (Int.toNat (ay I J y)) 0)))))=true∧((small (((B (Int.toNat ((ay A B x)+1)) 0)-(B (Int.toNat (ay A B x)) 0))*((J (Int.toNat ((ay I J y)+1)) 0)-(J (Int.toNat (ay I J y)) 0))))=true∧((small (2*((((((f (Int.toNat (ay A B x)) (Int.toNat (ay I J y)) 0)*(((B (Int.toNat ((ay A B x)+1)) 0)-(B (Int.toNat (ay A B x)) 0))-(x-(B (Int.toNat (ay A B x)) 0))))*(((J (Int.toNat ((ay I J y)+1)) 0)-(J (Int.toNat (ay I J y)) 0))-(y-(J (Int.toNat (ay I J y)) 0))))+(((f (Int.toNat ((ay A B x)+1)) (Int.toNat (ay I J y)) 0)*(x-(B (Int.toNat (ay A B x)) 0)))*(((J (Int.toNat ((ay I J y)+1)) 0)-(J (Int.toNat (ay I J y)) 0))-(y-(J (Int.toNat (ay I J y)) 0)))))+(((f (Int.toNat (ay A B x)) (Int.toNat ((ay I J y)+1)) 0)*(((B (Int.toNat ((ay A B x)+1)) 0)-(B (Int.toNat (ay A B x)) 0))-(x-(B (Int.toNat (ay A B x)) 0))))*(y-(J (Int.toNat (ay I J y)) 0))))+(((f (Int.toNat ((ay A B x)+1)) (Int.toNat ((ay I J y)+1)) 0)*(x-(B (Int.toNat (ay A B x)) 0)))*(y-(J (Int.toNat (ay I J y)) 0))))))=true∧((small ((2*((((((f (Int.toNat (ay A B x)) (Int.toNat (ay I J y)) 0)*(((B (Int.toNat ((ay A B x)+1)) 0)-(B (Int.toNat (ay A B x)) 0))-(x-(B (Int.toNat (ay A B x)) 0))))*(((J (Int.toNat ((ay I J y)+1)) 0)-(J (Int.toNat (ay I J y)) 0))-(y-(J (Int.toNat (ay I J y)) 0))))+(((f (Int.toNat ((ay A B x)+1)) (Int.toNat (ay I J y)) 0)*(x-(B (Int.toNat (ay A B x)) 0)))*(((J (Int.toNat ((ay I J y)+1)) 0)-(J (Int.toNat (ay I J y)) 0))-(y-(J (Int.toNat (ay I J y)) 0)))))+(((f (Int.toNat (ay A B x)) (Int.toNat ((ay I J y)+1)) 0)*(((B (Int.toNat ((ay A B x)+1)) 0)-(B (Int.toNat (ay A B x)) 0))-(x-(B (Int.toNat (ay A B x)) 0))))*(y-(J (Int.toNat (ay I J y)) 0))))+(((f (Int.toNat ((ay A B x)+1)) (Int.toNat ((ay I J y)+1)) 0)*(x-(B (Int.toNat (ay A B x)) 0)))*(y-(J (Int.toNat (ay I J y)) 0)))))+(((B (Int.toNat ((ay A B x)+1)) 0)-(B (Int.toNat (ay A B x)) 0))*((J (Int.toNat ((ay I J y)+1)) 0)-(J (Int.toNat (ay I J y)) 0)))))=true∧((small (2*(((B (Int.toNat ((ay A B x)+1)) 0)-(B (Int.toNat (ay A B x)) 0))*((J (Int.toNat ((ay I J y)+1)) 0)-(J (Int.toNat (ay I J y)) 0)))))=true∧((aY (2*(((B (Int.toNat ((ay A B x)+1)) 0)-(B (Int.toNat (ay A B x)) 0))*((J (Int.toNat ((ay I J y)+1)) 0)-(J (Int.toNat (ay I J y)) 0)))) 0)=false∧((small (Int.tdiv ((2*((((((f (Int.toNat (ay A B x)) (Int.toNat (ay I J y)) 0)*(((B (Int.toNat ((ay A B x)+1)) 0)-(B (Int.toNat (ay A B x)) 0))-(x-(B (Int.toNat (ay A B x)) 0))))*(((J (Int.toNat ((ay I J y)+1)) 0)-(J (Int.toNat (ay I J y)) 0))-(y-(J (Int.toNat (ay I J y)) 0))))+(((f (Int.toNat ((ay A B x)+1)) (Int.toNat (ay I J y)) 0)*(x-(B (Int.toNat (ay A B x)) 0)))*(((J (Int.toNat ((ay I J y)+1)) 0)-(J (Int.toNat (ay I J y)) 0))-(y-(J (Int.toNat (ay I J y)) 0)))))+(((f (Int.toNat (ay A B x)) (Int.toNat ((ay I J y)+1)) 0)*(((B (Int.toNat ((ay A B x)+1)) 0)-(B (Int.toNat (ay A B x)) 0))-(x-(B (Int.toNat (ay A B x)) 0))))*(y-(J (Int.toNat (ay I J y)) 0))))+(((f (Int.toNat ((ay A B x)+1)) (Int.toNat ((ay I J y)+1)) 0)*(x-(B (Int.toNat (ay A B x)) 0)))*(y-(J (Int.toNat (ay I J y)) 0)))))+(((B (Int.toNat ((ay A B x)+1)) 0)-(B (Int.toNat (ay A B x)) 0))*((J (Int.toNat ((ay I J y)+1)) 0)-(J (Int.toNat (ay I J y)) 0)))) (2*(((B (Int.toNat ((ay A B x)+1)) 0)-(B (Int.toNat (ay A B x)) 0))*((J (Int.toNat ((ay I J y)+1)) 0)-(J (Int.toNat (ay I J y)) 0))))))=true∧(((Int.tdiv ((2*((((((f (Int.toNat (ay A B x)) (Int.toNat (ay I J y)) 0)*(((B (Int.toNat ((ay A B x)+1)) 0)-(B (Int.toNat (ay A B x)) 0))-(x-(B (Int.toNat (ay A B x)) 0))))*(((J (Int.toNat ((ay I J y)+1)) 0)-(J (Int.toNat (ay I J y)) 0))-(y-(J (Int.toNat (ay I J y)) 0))))+(((f (Int.toNat ((ay A B x)+1)) (Int.toNat (ay I J y)) 0)*(x-(B (Int.toNat (ay A B x)) 0)))*(((J (Int.toNat ((ay I J y)+1)) 0)-(J (Int.toNat (ay I J y)) 0))-(y-(J (Int.toNat (ay I J y)) 0)))))+(((f (Int.toNat (ay A B x)) (Int.toNat ((ay I J y)+1)) 0)*(((B (Int.toNat ((ay A B x)+1)) 0)-(B (Int.toNat (ay A B x)) 0))-(x-(B (Int.toNat (ay A B x)) 0))))*(y-(J (Int.toNat (ay I J y)) 0))))+(((f (Int.toNat ((ay A B x)+1)) (Int.toNat ((ay I J y)+1)) 0)*(x-(B (Int.toNat (ay A B x)) 0)))*(y-(J (Int.toNat (ay I J y)) 0)))))+(((B (Int.toNat ((ay A B x)+1)) 0)-(B (Int.toNat (ay A B x)) 0))*((J (Int.toNat ((ay I J y)+1)) 0)-(J (Int.toNat (ay I J y)) 0)))) (2*(((B (Int.toNat ((ay A B x)+1)) 0)-(B (Int.toNat (ay A B x)) 0))*((J (Int.toNat ((ay I J y)+1)) 0)-(J (Int.toNat (ay I J y)) 0))))):Int)=(Int.tdiv ((2*((((((f (Int.toNat (ay A B x)) (Int.toNat (ay I J y)) 0)*(((B (Int.toNat ((ay A B x)+1)) 0)-(B (Int.toNat (ay A B x)) 0))-(x-(B (Int.toNat (ay A B x)) 0))))*(((J (Int.toNat ((ay I J y)+1)) 0)-(J (Int.toNat (ay I J y)) 0))-(y-(J (Int.toNat (ay I J y)) 0))))+(((f (Int.toNat ((ay A B x)+1)) (Int.toNat (ay I J y)) 0)*(x-(B (Int.toNat (ay A B x)) 0)))*(((J (Int.toNat ((ay I J y)+1)) 0)-(J (Int.toNat (ay I J y)) 0))-(y-(J (Int.toNat (ay I J y)) 0)))))+(((f (Int.toNat (ay A B x)) (Int.toNat ((ay I J y)+1)) 0)*(((B (Int.toNat ((ay A B x)+1)) 0)-(B (Int.toNat (ay A B x)) 0))-(x-(B (Int.toNat (ay A B x)) 0))))*(y-(J (Int.toNat (ay I J y)) 0))))+(((f (Int.toNat ((ay A B x)+1)) (Int.toNat ((ay I J y)+1)) 0)*(x-(B (Int.toNat (ay A B x)) 0)))*(y-(J (Int.toNat (ay I J y)) 0)))))+(((B (Int.toNat ((ay A B x)+1)) 0)-(B (Int.toNat (ay A B x)) 0))*((J (Int.toNat ((ay I J y)+1)) 0)-(J (Int.toNat (ay I J y)) 0)))) (2*(((B (Int.toNat ((ay A B x)+1)) 0)-(B (Int.toNat (ay A B x)) 0))*((J (Int.toNat ((ay I J y)+1)) 0)-(J (Int.toNat (ay I J y)) 0))))))))))))))))))))))))))))))))))))))))))))))))))))))
end
end Go.Proofs.YtiplgejpopellaaGreat
/- Tables: contracts: the strength at a point, as a contract. -/
namespace Go.Proofs.YtiplgejpopellaaGreat
open Go Go.Ev
set_option maxRecDepth 1000000
noncomputable section
def Ya (A:Nat) (B:Nat→Nat→Int) (I:Nat) (J:Nat→Nat→Int) (n:Nat) (M:Nat→Nat) (f:Nat→Nat→Nat→Int) (x y:Int):Prop:=(2≤A∧A≤5∧2≤I∧I≤5∧n=A)∧(0≤ay A B x∧ay A B x+2≤A)∧(0≤ay I J y∧ay I J y+2≤I)∧(M (Int.toNat (ay A B x))=I∧M (Int.toNat (ay A B x+1))=I)∧(0≤(B (Int.toNat (ay A B x)) 0)∧(B (Int.toNat (ay A B x)) 0)≤x∧x≤(B (Int.toNat (ay A B x+1)) 0)∧(B (Int.toNat (ay A B x+1)) 0)≤40∧(B (Int.toNat (ay A B x)) 0)<(B (Int.toNat (ay A B x+1)) 0))∧(0≤(J (Int.toNat (ay I J y)) 0)∧(J (Int.toNat (ay I J y)) 0)≤y∧y≤(J (Int.toNat (ay I J y+1)) 0)∧(J (Int.toNat (ay I J y+1)) 0)≤60∧(J (Int.toNat (ay I J y)) 0)<(J (Int.toNat (ay I J y+1)) 0)) ∧
 (0≤(f (Int.toNat (ay A B x)) (Int.toNat (ay I J y)) 0)∧(f (Int.toNat (ay A B x)) (Int.toNat (ay I J y)) 0)≤2000)∧(0≤(f (Int.toNat (ay A B x+1)) (Int.toNat (ay I J y)) 0)∧(f (Int.toNat (ay A B x+1)) (Int.toNat (ay I J y)) 0)≤2000)∧(0≤(f (Int.toNat (ay A B x)) (Int.toNat (ay I J y+1)) 0)∧(f (Int.toNat (ay A B x)) (Int.toNat (ay I J y+1)) 0)≤2000)∧(0≤(f (Int.toNat (ay A B x+1)) (Int.toNat (ay I J y+1)) 0)∧(f (Int.toNat (ay A B x+1)) (Int.toNat (ay I J y+1)) 0)≤2000)
def leB (a b c:Int):Bool:=cond (ax a b) (ax b c) false
theorem yP {a b c:Int} (h:leB a b c=true):a≤b∧b≤c:=by
 obtain ⟨h1,h2⟩:=ah h
 exact ⟨by rwa [aU] at h1,by rwa [aU] at h2⟩
def RP (a0 a1 x m:Int):Bool:=cond (ax 0 a0) (cond (leB a0 x a1) (cond (ax a1 m) (cond (ax a1 a0) false true) false) false) false
theorem Rx {a0 a1 x m:Int} (h:RP a0 a1 x m=true):0≤a0∧a0≤x∧x≤a1∧a1≤m∧a0<a1:=by
 obtain ⟨h1,h⟩:=ah h
 obtain ⟨h2,h⟩:=ah h
 obtain ⟨h3,h⟩:=ah h
 have h2:=yP h2
 rw [aU] at h1 h3
 cases q:ax a1 a0 with
 | true=>rw [q] at h;cases h
 | false=>rw [iF] at q;exact ⟨h1,h2.1,h2.2,h3,q⟩
def nX (A:Nat) (B:Nat→Nat→Int) (I:Nat) (J:Nat→Nat→Int) (n:Nat) (M:Nat→Nat) (f:Nat→Nat→Nat→Int) (x y:Int):Bool:=cond (Nat.ble 2 A) (cond (Nat.ble A 5) (cond (Nat.ble 2 I) (cond (Nat.ble I 5) (cond (Nat.beq n A) (cond (leB 0 (ay A B x) (Int.sub A 2)) (cond (leB 0 (ay I J y) (Int.sub I 2)) (cond (Nat.beq (M (Int.toNat (ay A B x))) I) (cond (Nat.beq (M (Int.toNat (ay A B x+1))) I)
 (cond (RP (B (Int.toNat (ay A B x)) 0) (B (Int.toNat (ay A B x+1)) 0) x 40) (cond (RP (J (Int.toNat (ay I J y)) 0) (J (Int.toNat (ay I J y+1)) 0) y 60) (cond (leB 0 (f (Int.toNat (ay A B x)) (Int.toNat (ay I J y)) 0) 2000) (cond (leB 0 (f (Int.toNat (ay A B x+1)) (Int.toNat (ay I J y)) 0) 2000) (cond (leB 0 (f (Int.toNat (ay A B x)) (Int.toNat (ay I J y+1)) 0) 2000) (leB 0 (f (Int.toNat (ay A B x+1)) (Int.toNat (ay I J y+1)) 0) 2000) false) false) false) false) false) false) false) false) false) false) false) false) false) false
theorem WE (A:Nat) (B:Nat→Nat→Int) (I:Nat) (J:Nat→Nat→Int) (n:Nat) (M:Nat→Nat) (f:Nat→Nat→Nat→Int) (x y:Int) (h:nX A B I J n M f x y=true):Ya A B I J n M f x y:=by
 obtain ⟨h1,h⟩:=ah h
 obtain ⟨h2,h⟩:=ah h
 obtain ⟨h3,h⟩:=ah h
 obtain ⟨h4,h⟩:=ah h
 obtain ⟨h5,h⟩:=ah h
 obtain ⟨h6,h⟩:=ah h
 obtain ⟨h7,h⟩:=ah h
 obtain ⟨h8,h⟩:=ah h
 obtain ⟨h9,h⟩:=ah h
 obtain ⟨k1,h⟩:=ah h
 obtain ⟨k2,h⟩:=ah h
 obtain ⟨k3,h⟩:=ah h
 obtain ⟨k4,h⟩:=ah h
 obtain ⟨k5,k6⟩:=ah h
 have h6:=yP h6
 have h7:=yP h7
 have e6:Int.sub (A:Int) 2=(A:Int)-2:=rfl
 have e7:Int.sub (I:Int) 2=(I:Int)-2:=rfl
 rw [e6] at h6
 rw [e7] at h7
 exact ⟨⟨Nat.le_of_ble_eq_true h1,Nat.le_of_ble_eq_true h2,Nat.le_of_ble_eq_true h3,Nat.le_of_ble_eq_true h4,nb h5⟩,by omega,by omega,⟨nb h8,nb h9⟩,Rx k1,Rx k2,yP k3,yP k4,yP k5,yP k6⟩
def jZ (A:Nat) (B:Nat→Nat→Int) (I:Nat) (J:Nat→Nat→Int) (f:Nat→Nat→Nat→Int) (x y:Int):Int:=stI (B (Int.toNat (ay A B x)) 0) (B (Int.toNat (ay A B x+1)) 0) (J (Int.toNat (ay I J y)) 0) (J (Int.toNat (ay I J y+1)) 0) (f (Int.toNat (ay A B x)) (Int.toNat (ay I J y)) 0) (f (Int.toNat (ay A B x+1)) (Int.toNat (ay I J y)) 0) (f (Int.toNat (ay A B x)) (Int.toNat (ay I J y+1)) 0) (f (Int.toNat (ay A B x+1)) (Int.toNat (ay I J y+1)) 0) x y
theorem xy {v u w:Int} (hv:0≤v∧v≤2000) (hu:0≤u∧u≤40) (hw:0≤w∧w≤60):(0≤v*u∧v*u≤80000)∧(0≤v*u*w∧v*u*w≤4800000):=by
 have h1:=Int.mul_nonneg hv.1 hu.1
 have h2:=Int.mul_le_mul (a:=v) (b:=u) (c:=2000) (d:=40) hv.2 hu.2 hu.1 (by omega)
 have h3:=Int.mul_nonneg h1 hw.1
 have h4:=Int.mul_le_mul (a:=v*u) (b:=w) (c:=80000) (d:=60) (by omega) hw.2 hw.1 (by omega)
 omega
theorem WH {a b:Int} (ha:1≤a∧a≤40) (hb:1≤b∧b≤60):1≤a*b∧a*b≤2400:=by
 have h1:=Int.mul_le_mul (a:=1) (b:=1) (c:=a) (d:=b) (by omega) (by omega) (by omega) (by omega)
 have h2:=Int.mul_le_mul (a:=a) (b:=b) (c:=40) (d:=60) (by omega) (by omega) (by omega) (by omega)
 omega
theorem VZ {a b:Int} (ha:0≤a∧a≤100000000) (hb:1≤b):0≤Int.tdiv a b∧Int.tdiv a b≤100000000:=by
 rw [Int.tdiv_eq_ediv_of_nonneg ha.1]
 have h1:=Int.ediv_nonneg ha.1 (show 0≤b by omega)
 have h2:=Int.ediv_le_self (b:=b) ha.1
 omega
def Np:Val:=fun das=>match das with | [.st [.sl 1 A B,.sl 1 I J,.rr 1 n M f],.one (.i .i64 x),.one (.i .i64 y)]=>some (nX A B I J n M f x y,.int .i64 (jZ A B I J f x y)) | _=>none
theorem Xh:qi Tryz.prog 115 Np:=by
 intro das x hv
 unfold Np at hv
 split at hv
 ·rename_i A B I J n M f x y
  have hb:=congrArg Prod.fst (Option.some.inj hv)
  have hv:=congrArg Prod.snd (Option.some.inj hv)
  subst hv
  have hk:Ya A B I J n M f x y:=WE _ _ _ _ _ _ _ _ _ hb
  unfold Ya at hk
  obtain ⟨h1,h2,h3,h4,h5,h6,v1,v2,v3,v4⟩:=hk
  have d1:=xy (u:=((B (Int.toNat (ay A B x+1)) 0)-(B (Int.toNat (ay A B x)) 0))-(x-(B (Int.toNat (ay A B x)) 0))) (w:=((J (Int.toNat (ay I J y+1)) 0)-(J (Int.toNat (ay I J y)) 0))-(y-(J (Int.toNat (ay I J y)) 0))) v1 (by omega) (by omega)
  have d2:=xy (u:=x-(B (Int.toNat (ay A B x)) 0)) (w:=((J (Int.toNat (ay I J y+1)) 0)-(J (Int.toNat (ay I J y)) 0))-(y-(J (Int.toNat (ay I J y)) 0))) v2 (by omega) (by omega)
  have d3:=xy (u:=((B (Int.toNat (ay A B x+1)) 0)-(B (Int.toNat (ay A B x)) 0))-(x-(B (Int.toNat (ay A B x)) 0))) (w:=y-(J (Int.toNat (ay I J y)) 0)) v3 (by omega) (by omega)
  have d4:=xy (u:=x-(B (Int.toNat (ay A B x)) 0)) (w:=y-(J (Int.toNat (ay I J y)) 0)) v4 (by omega) (by omega)
  have hd:=WH (a:=(B (Int.toNat (ay A B x+1)) 0)-(B (Int.toNat (ay A B x)) 0)) (b:=(J (Int.toNat (ay I J y+1)) 0)-(J (Int.toNat (ay I J y)) 0)) (by omega) (by omega)
  exact aK aj Yb rfl (das:=[.st [.sl 1 A B,.sl 1 I J,.rr 1 n M f],.one (.i .i64 x),.one (.i .i64 y)]) (r67 A B I J n M f x y h1 h2 h3 h4 h5 h6 d1.1 d2.1 d3.1 d4.1 d1.2 d2.2 d3.2 d4.2 hd (VZ (by omega) (by omega)))
 ·cases hv
end
end Go.Proofs.YtiplgejpopellaaGreat
