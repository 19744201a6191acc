/- Tables: contracts: the line before a number. -/
import Derived.Test.YtiplgejpopellaaGreatProg
import Derived.Test.YtiplgejpopellaaGreatYEe
set_option linter.all false
set_option linter.unusedSimpArgs false
set_option linter.unusedVariables false
namespace Go.Proofs.YtiplgejpopellaaGreat
open Go Go.Ev
set_option maxRecDepth 1000000
noncomputable section
theorem Zb:Tryz.prog.follows .mixedOrders=true:=by kernel_rfl
theorem aj:bi Tryz.prog:=H8 Zb
def ax (len:Nat) (f:Nat→Nat→Int) (n:Int):Int:=cond (Nat.ble 3 len) (cond (ak (f 1 0) n) (cond (Nat.ble 4 len) (cond (ak (f 2 0) n) (cond (Nat.ble 5 len) (cond (ak (f 3 0) n) 3 2) 2) 1) 1) 0) 0
theorem aap (f:Nat→Nat→Int) (n:Int):VC (dh Tryz.prog az 300 117 (enc [.one (.sl 1 2 f),.one (.i .i64 n)] 0) 1 (fun x=>dB x (.int .i64 (ax 2 f n)))) .nil:=ai ((((0):Int)=0)) (q:=by
 (repeat' (first | exact True.intro | (with_reducible rfl) | (intro hh;(try simp only [hh,cond_true,cond_false])) | refine And.intro ?_ ?_));all_goals (exact Pz))
theorem Z5 (f:Nat→Nat→Int) (n:Int):VC (dh Tryz.prog az 300 117 (enc [.one (.sl 1 3 f),.one (.i .i64 n)] 0) 1 (fun x=>dB x (.int .i64 (ax 3 f n)))) (.go 4194304 (.sp .nil .nil)):=ai ((((ak (f 1 0) n)=true→(((0+1):Int)=(cond (ak (f 1 0) n) (cond false (cond (ak (f 2 0) n) (cond false (cond (ak (f 3 0) n) 3 2) 2) 1) 1) 0))) ∧
 ((ak (f 1 0) n)=false→(((0):Int)=(cond (ak (f 1 0) n) (cond false (cond (ak (f 2 0) n) (cond false (cond (ak (f 3 0) n) (3) (2)) (2)) (1)) (1)) (0)))))) (q:=by
 (repeat' (first | exact True.intro | (with_reducible rfl) | (intro hh;(try simp only [hh,cond_true,cond_false])) | refine And.intro ?_ ?_));all_goals (exact Pz))
theorem abz (f:Nat→Nat→Int) (n:Int):VC (dh Tryz.prog az 300 117 (enc [.one (.sl 1 4 f),.one (.i .i64 n)] 0) 1 (fun x=>dB x (.int .i64 (ax 4 f n)))) (.go 4194304 (.sp (.go 16777216 (.sp .nil .nil)) .nil)):=ai ((((ak (f 1 0) n)=true→(((ak (f 2 0) n)=true→((((0+1)+1):Int)=(cond (ak (f 1 0) n) (cond true (cond (ak (f 2 0) n) (cond false (cond (ak (f 3 0) n) 3 2) 2) 1) 1) 0))) ∧
 ((ak (f 2 0) n)=false→((((0)+(1)):Int)=(cond (ak (f 1 0) n) (cond true (cond (ak (f 2 0) n) (cond false (cond (ak (f 3 0) n) (3) (2)) (2)) (1)) (1)) (0)))))) ∧
 ((ak (f 1 0) n)=false→(((0):Int)=(cond (ak (f 1 0) n) (cond true (cond (ak (f 2 0) n) (cond false (cond (ak (f 3 0) n) (3) (2)) (2)) (1)) (1)) (0)))))) (q:=by
 (repeat' (first | exact True.intro | (with_reducible rfl) | (intro hh;(try simp only [hh,cond_true,cond_false])) | refine And.intro ?_ ?_));all_goals (exact Pz))
theorem aag (f:Nat→Nat→Int) (n:Int):VC (dh Tryz.prog az 300 117 (enc [.one (.sl 1 5 f),.one (.i .i64 n)] 0) 1 (fun x=>dB x (.int .i64 (ax 5 f n)))) (.go 4194304 (.sp (.go 16777216 (.sp (.go 16777216 (.sp .nil .nil)) .nil)) .nil)):=ai ((((ak (f 1 0) n)=true→(((ak (f 2 0) n)=true→(((ak (f 3 0) n)=true→(((((0+1)+1)+1):Int)=(cond (ak (f 1 0) n) (cond true (cond (ak (f 2 0) n) (cond true (cond (ak (f 3 0) n) 3 2) 2) 1) 1) 0))) ∧
 ((ak (f 3 0) n)=false→(((((0)+(1))+(1)):Int)=(cond (ak (f 1 0) n) (cond true (cond (ak (f 2 0) n) (cond true (cond (ak (f 3 0) n) (3) (2)) (2)) (1)) (1)) (0)))))) ∧
 ((ak (f 2 0) n)=false→((((0)+(1)):Int)=(cond (ak (f 1 0) n) (cond true (cond (ak (f 2 0) n) (cond true (cond (ak (f 3 0) n) (3) (2)) (2)) (1)) (1)) (0)))))) ∧
 ((ak (f 1 0) n)=false→(((0):Int)=(cond (ak (f 1 0) n) (cond true (cond (ak (f 2 0) n) (cond true (cond (ak (f 3 0) n) (3) (2)) (2)) (1)) (1)) (0)))))) (q:=by
 (repeat' (first | exact True.intro | (with_reducible rfl) | (intro hh;(try simp only [hh,cond_true,cond_false])) | refine And.intro ?_ ?_));all_goals (exact Pz))
def TI:Val:=fun das=>match das with | [.one (.sl 1 len f),.one (.i .i64 n)]=>some (cond (Nat.ble 2 len) (Nat.ble len 5) false,.int .i64 (ax len f n)) | _=>none
theorem aaq:qi Tryz.prog 117 TI:=by
 intro das x hv
 unfold TI at hv
 split at hv
 ·rename_i len f n
  have hb:=congrArg Prod.fst (Option.some.inj hv)
  have hv:=congrArg Prod.snd (Option.some.inj hv)
  subst hv
  obtain ⟨h1,h2⟩:=ah hb
  have h1:=Nat.le_of_ble_eq_true h1
  have h2:=Nat.le_of_ble_eq_true h2
  have:len=2∨len=3∨len=4∨len=5:=by omega
  rcases this with rfl | rfl | rfl | rfl
  ·exact bn aj aG rfl (das:=[.one (.sl 1 2 f),.one (.i .i64 n)]) (aap f n)
  ·exact bn aj aG rfl (das:=[.one (.sl 1 3 f),.one (.i .i64 n)]) (Z5 f n)
  ·exact bn aj aG rfl (das:=[.one (.sl 1 4 f),.one (.i .i64 n)]) (abz f n)
  ·exact bn aj aG rfl (das:=[.one (.sl 1 5 f),.one (.i .i64 n)]) (aag f n)
 ·cases hv
def XT1:Ext:=jO [(117,cf TI)] false
theorem Zp:dM Tryz.prog XT1:=dW (aA (dR aaq) bK)
end
end Go.Proofs.YtiplgejpopellaaGreat
/- Tables: contracts: the strength at a point. -/
namespace Go.Proofs.YtiplgejpopellaaGreat
open Go Go.Ev
set_option maxRecDepth 1000000
noncomputable section
def stI (a0 a1 b0 b1 v00 v10 v01 v11 x y:Int):Int:=Int.tdiv (2*(v00*((a1-a0)-(x-a0))*((b1-b0)-(y-b0))+v10*(x-a0)*((b1-b0)-(y-b0))+v01*((a1-a0)-(x-a0))*(y-b0)+v11*(x-a0)*(y-b0))+(a1-a0)*(b1-b0)) (2*((a1-a0)*(b1-b0)))
theorem r67 (A:Nat) (B:Nat→Nat→Int) (I:Nat) (J:Nat→Nat→Int) (n:Nat) (M:Nat→Nat) (f:Nat→Nat→Nat→Int) (x y:Int) (hl:2≤A∧A≤5∧2≤I∧I≤5∧n=A) (hr:0≤ax A B x∧ax A B x+2≤A) (hc:0≤ax I J y∧ax I J y+2≤I) (hs:M (Int.toNat (ax A B x))=I∧M (Int.toNat (ax A B x+1))=I) (ha:0≤(B (Int.toNat (ax A B x)) 0)∧(B (Int.toNat (ax A B x)) 0)≤x∧x≤(B (Int.toNat (ax A B x+1)) 0)∧(B (Int.toNat (ax A B x+1)) 0)≤40∧(B (Int.toNat (ax A B x)) 0)<(B (Int.toNat (ax A B x+1)) 0)) (hb:0≤(J (Int.toNat (ax I J y)) 0)∧(J (Int.toNat (ax I J y)) 0)≤y∧y≤(J (Int.toNat (ax I J y+1)) 0)∧(J (Int.toNat (ax I J y+1)) 0)≤60∧(J (Int.toNat (ax I J y)) 0)<(J (Int.toNat (ax I J y+1)) 0)) (p1:0≤(f (Int.toNat (ax A B x)) (Int.toNat (ax I J y)) 0)*(((B (Int.toNat (ax A B x+1)) 0)-(B (Int.toNat (ax A B x)) 0))-(x-(B (Int.toNat (ax A B x)) 0)))∧(f (Int.toNat (ax A B x)) (Int.toNat (ax I J y)) 0)*(((B (Int.toNat (ax A B x+1)) 0)-(B (Int.toNat (ax A B x)) 0))-(x-(B (Int.toNat (ax A B x)) 0)))≤80000) (p2:0≤(f (Int.toNat (ax A B x+1)) (Int.toNat (ax I J y)) 0)*(x-(B (Int.toNat (ax A B x)) 0))∧(f (Int.toNat (ax A B x+1)) (Int.toNat (ax I J y)) 0)*(x-(B (Int.toNat (ax A B x)) 0))≤80000) (p3:0≤(f (Int.toNat (ax A B x)) (Int.toNat (ax I J y+1)) 0)*(((B (Int.toNat (ax A B x+1)) 0)-(B (Int.toNat (ax A B x)) 0))-(x-(B (Int.toNat (ax A B x)) 0)))∧(f (Int.toNat (ax A B x)) (Int.toNat (ax I J y+1)) 0)*(((B (Int.toNat (ax A B x+1)) 0)-(B (Int.toNat (ax A B x)) 0))-(x-(B (Int.toNat (ax A B x)) 0)))≤80000) (p4:0≤(f (Int.toNat (ax A B x+1)) (Int.toNat (ax I J y+1)) 0)*(x-(B (Int.toNat (ax A B x)) 0))∧(f (Int.toNat (ax A B x+1)) (Int.toNat (ax I J y+1)) 0)*(x-(B (Int.toNat (ax A B x)) 0))≤80000) (q1:0≤(f (Int.toNat (ax A B x)) (Int.toNat (ax I J y)) 0)*(((B (Int.toNat (ax A B x+1)) 0)-(B (Int.toNat (ax A B x)) 0))-(x-(B (Int.toNat (ax A B x)) 0)))*(((J (Int.toNat (ax I J y+1)) 0)-(J (Int.toNat (ax I J y)) 0))-(y-(J (Int.toNat (ax I J y)) 0)))∧(f (Int.toNat (ax A B x)) (Int.toNat (ax I J y)) 0)*(((B (Int.toNat (ax A B x+1)) 0)-(B (Int.toNat (ax A B x)) 0))-(x-(B (Int.toNat (ax A B x)) 0)))*(((J (Int.toNat (ax I J y+1)) 0)-(J (Int.toNat (ax I J y)) 0))-(y-(J (Int.toNat (ax I J y)) 0)))≤4800000) (q2:0≤(f (Int.toNat (ax A B x+1)) (Int.toNat (ax I J y)) 0)*(x-(B (Int.toNat (ax A B x)) 0))*(((J (Int.toNat (ax I J y+1)) 0)-(J (Int.toNat (ax I J y)) 0))-(y-(J (Int.toNat (ax I J y)) 0)))∧(f (Int.toNat (ax A B x+1)) (Int.toNat (ax I J y)) 0)*(x-(B (Int.toNat (ax A B x)) 0))*(((J (Int.toNat (ax I J y+1)) 0)-(J (Int.toNat (ax I J y)) 0))-(y-(J (Int.toNat (ax I J y)) 0)))≤4800000) (q3:0≤(f (Int.toNat (ax A B x)) (Int.toNat (ax I J y+1)) 0)*(((B (Int.toNat (ax A B x+1)) 0)-(B (Int.toNat (ax A B x)) 0))-(x-(B (Int.toNat (ax A B x)) 0)))*(y-(J (Int.toNat (ax I J y)) 0))∧(f (Int.toNat (ax A B x)) (Int.toNat (ax I J y+1)) 0)*(((B (Int.toNat (ax A B x+1)) 0)-(B (Int.toNat (ax A B x)) 0))-(x-(B (Int.toNat (ax A B x)) 0)))*(y-(J (Int.toNat (ax I J y)) 0))≤4800000) (q4:0≤(f (Int.toNat (ax A B x+1)) (Int.toNat (ax I J y+1)) 0)*(x-(B (Int.toNat (ax A B x)) 0))*(y-(J (Int.toNat (ax I J y)) 0))∧(f (Int.toNat (ax A B x+1)) (Int.toNat (ax I J y+1)) 0)*(x-(B (Int.toNat (ax A B x)) 0))*(y-(J (Int.toNat (ax I J y)) 0))≤4800000) (hd:1≤((B (Int.toNat (ax A B x+1)) 0)-(B (Int.toNat (ax A B x)) 0))*((J (Int.toNat (ax I J y+1)) 0)-(J (Int.toNat (ax I J y)) 0))∧((B (Int.toNat (ax A B x+1)) 0)-(B (Int.toNat (ax A B x)) 0))*((J (Int.toNat (ax I J y+1)) 0)-(J (Int.toNat (ax I J y)) 0))≤2400) (ht:0≤(Int.tdiv (2*((f (Int.toNat (ax A B x)) (Int.toNat (ax I J y)) 0)*(((B (Int.toNat (ax A B x+1)) 0)-(B (Int.toNat (ax A B x)) 0))-(x-(B (Int.toNat (ax A B x)) 0)))*(((J (Int.toNat (ax I J y+1)) 0)-(J (Int.toNat (ax I J y)) 0))-(y-(J (Int.toNat (ax I J y)) 0)))+(f (Int.toNat (ax A B x+1)) (Int.toNat (ax I J y)) 0)*(x-(B (Int.toNat (ax A B x)) 0))*(((J (Int.toNat (ax I J y+1)) 0)-(J (Int.toNat (ax I J y)) 0))-(y-(J (Int.toNat (ax I J y)) 0)))+(f (Int.toNat (ax A B x)) (Int.toNat (ax I J y+1)) 0)*(((B (Int.toNat (ax A B x+1)) 0)-(B (Int.toNat (ax A B x)) 0))-(x-(B (Int.toNat (ax A B x)) 0)))*(y-(J (Int.toNat (ax I J y)) 0))+(f (Int.toNat (ax A B x+1)) (Int.toNat (ax I J y+1)) 0)*(x-(B (Int.toNat (ax A B x)) 0))*(y-(J (Int.toNat (ax I J y)) 0)))+((B (Int.toNat (ax A B x+1)) 0)-(B (Int.toNat (ax A B x)) 0))*((J (Int.toNat (ax I J y+1)) 0)-(J (Int.toNat (ax I J y)) 0))) (2*(((B (Int.toNat (ax A B x+1)) 0)-(B (Int.toNat (ax A B x)) 0))*((J (Int.toNat (ax I J y+1)) 0)-(J (Int.toNat (ax I J y)) 0)))))∧(Int.tdiv (2*((f (Int.toNat (ax A B x)) (Int.toNat (ax I J y)) 0)*(((B (Int.toNat (ax A B x+1)) 0)-(B (Int.toNat (ax A B x)) 0))-(x-(B (Int.toNat (ax A B x)) 0)))*(((J (Int.toNat (ax I J y+1)) 0)-(J (Int.toNat (ax I J y)) 0))-(y-(J (Int.toNat (ax I J y)) 0)))+(f (Int.toNat (ax A B x+1)) (Int.toNat (ax I J y)) 0)*(x-(B (Int.toNat (ax A B x)) 0))*(((J (Int.toNat (ax I J y+1)) 0)-(J (Int.toNat (ax I J y)) 0))-(y-(J (Int.toNat (ax I J y)) 0)))+(f (Int.toNat (ax A B x)) (Int.toNat (ax I J y+1)) 0)*(((B (Int.toNat (ax A B x+1)) 0)-(B (Int.toNat (ax A B x)) 0))-(x-(B (Int.toNat (ax A B x)) 0)))*(y-(J (Int.toNat (ax I J y)) 0))+(f (Int.toNat (ax A B x+1)) (Int.toNat (ax I J y+1)) 0)*(x-(B (Int.toNat (ax A B x)) 0))*(y-(J (Int.toNat (ax I J y)) 0)))+((B (Int.toNat (ax A B x+1)) 0)-(B (Int.toNat (ax A B x)) 0))*((J (Int.toNat (ax I J y+1)) 0)-(J (Int.toNat (ax I J y)) 0))) (2*(((B (Int.toNat (ax A B x+1)) 0)-(B (Int.toNat (ax A B x)) 0))*((J (Int.toNat (ax I J y+1)) 0)-(J (Int.toNat (ax I J y)) 0)))))≤100000000):VC (dh Tryz.prog XT1 300 115 (enc [.st [.sl 1 A B,.sl 1 I J,.rr 1 n M f],.one (.i .i64 x),.one (.i .i64 y)] 0) 3 (fun v=>dB v (.int .i64 (stI (B (Int.toNat (ax A B x)) 0) (B (Int.toNat (ax A B x+1)) 0) (J (Int.toNat (ax I J y)) 0) (J (Int.toNat (ax I J y+1)) 0) (f (Int.toNat (ax A B x)) (Int.toNat (ax I J y)) 0) (f (Int.toNat (ax A B x+1)) (Int.toNat (ax I J y)) 0) (f (Int.toNat (ax A B x)) (Int.toNat (ax I J y+1)) 0) (f (Int.toNat (ax A B x+1)) (Int.toNat (ax I J y+1)) 0) x y)))) (.go 27647327544040159472747107669 .nil):=ai (((cond (cond (ay .i64 (ae .i64 B) A 1) true false) (cond (Nat.ble 2 A) (Nat.ble A 5) false) false)=true∧((cond (cond (ay .i64 (ae .i64 J) I 1) true false) (cond (Nat.ble 2 I) (Nat.ble I 5) false) false)=true∧((kE (ax A B x) A)=true∧((small (x-(B (Int.toNat (ax A B x)) 0)))=true∧((small ((ax A B x)+1))=true∧((kE ((ax A B x)+1) A)=true∧((kE (ax A B x) A)=true∧((small ((B (Int.toNat ((ax A B x)+1)) 0)-(B (Int.toNat (ax A B x)) 0)))=true∧((kE (ax I J y) I)=true∧((small (y-(J (Int.toNat (ax I J y)) 0)))=true∧((small ((ax I J y)+1))=true∧((kE ((ax I J y)+1) I)=true∧((kE (ax I J y) I)=true∧((small ((J (Int.toNat ((ax I J y)+1)) 0)-(J (Int.toNat (ax I J y)) 0)))=true∧((kE (ax A B x) n)=true∧((kE (ax I J y) (M (Int.toNat (ax A B x))))=true∧((small (((B (Int.toNat ((ax A B x)+1)) 0)-(B (Int.toNat (ax A B x)) 0))-(x-(B (Int.toNat (ax A B x)) 0))))=true∧((small ((f (Int.toNat (ax A B x)) (Int.toNat (ax I J y)) 0)*(((B (Int.toNat ((ax A B x)+1)) 0)-(B (Int.toNat (ax A B x)) 0))-(x-(B (Int.toNat (ax A B x)) 0)))))=true∧((small (((J (Int.toNat ((ax I J y)+1)) 0)-(J (Int.toNat (ax I J y)) 0))-(y-(J (Int.toNat (ax I J y)) 0))))=true∧((small (((f (Int.toNat (ax A B x)) (Int.toNat (ax I J y)) 0)*(((B (Int.toNat ((ax A B x)+1)) 0)-(B (Int.toNat (ax A B x)) 0))-(x-(B (Int.toNat (ax A B x)) 0))))*(((J (Int.toNat ((ax I J y)+1)) 0)-(J (Int.toNat (ax I J y)) 0))-(y-(J (Int.toNat (ax I J y)) 0)))))=true∧((small ((ax A B x)+1))=true∧((kE ((ax A B x)+1) n)=true∧((kE (ax I J y) (M (Int.toNat ((ax A B x)+1))))=true∧((small ((f (Int.toNat ((ax A B x)+1)) (Int.toNat (ax I J y)) 0)*(x-(B (Int.toNat (ax A B x)) 0))))=true∧((small (((J (Int.toNat ((ax I J y)+1)) 0)-(J (Int.toNat (ax I J y)) 0))-(y-(J (Int.toNat (ax I J y)) 0))))=true∧((small (((f (Int.toNat ((ax A B x)+1)) (Int.toNat (ax I J y)) 0)*(x-(B (Int.toNat (ax A B x)) 0)))*(((J (Int.toNat ((ax I J y)+1)) 0)-(J (Int.toNat (ax I J y)) 0))-(y-(J (Int.toNat (ax I J y)) 0)))))=true∧((small ((((f (Int.toNat (ax A B x)) (Int.toNat (ax I J y)) 0)*(((B (Int.toNat ((ax A B x)+1)) 0)-(B (Int.toNat (ax A B x)) 0))-(x-(B (Int.toNat (ax A B x)) 0))))*(((J (Int.toNat ((ax I J y)+1)) 0)-(J (Int.toNat (ax I J y)) 0))-(y-(J (Int.toNat (ax I J y)) 0))))+(((f (Int.toNat ((ax A B x)+1)) (Int.toNat (ax I J y)) 0)*(x-(B (Int.toNat (ax A B x)) 0)))*(((J (Int.toNat ((ax I J y)+1)) 0)-(J (Int.toNat (ax I J y)) 0))-(y-(J (Int.toNat (ax I J y)) 0))))))=true∧((kE (ax A B x) n)=true∧((small ((ax I J y)+1))=true∧((kE ((ax I J y)+1) (M (Int.toNat (ax A B x))))=true∧((small (((B (Int.toNat ((ax A B x)+1)) 0)-(B (Int.toNat (ax A B x)) 0))-(x-(B (Int.toNat (ax A B x)) 0))))=true∧((small ((f (Int.toNat (ax A B x)) (Int.toNat ((ax I J y)+1)) 0)*(((B (Int.toNat ((ax A B x)+1)) 0)-(B (Int.toNat (ax A B x)) 0))-(x-(B (Int.toNat (ax A B x)) 0)))))=true∧((small (((f (Int.toNat (ax A B x)) (Int.toNat ((ax I J y)+1)) 0)*(((B (Int.toNat ((ax A B x)+1)) 0)-(B (Int.toNat (ax A B x)) 0))-(x-(B (Int.toNat (ax A B x)) 0))))*(y-(J (Int.toNat (ax I J y)) 0))))=true∧((small (((((f (Int.toNat (ax A B x)) (Int.toNat (ax I J y)) 0)*(((B (Int.toNat ((ax A B x)+1)) 0)-(B (Int.toNat (ax A B x)) 0))-(x-(B (Int.toNat (ax A B x)) 0))))*(((J (Int.toNat ((ax I J y)+1)) 0)-(J (Int.toNat (ax I J y)) 0))-(y-(J (Int.toNat (ax I J y)) 0))))+(((f (Int.toNat ((ax A B x)+1)) (Int.toNat (ax I J y)) 0)*(x-(B (Int.toNat (ax A B x)) 0)))*(((J (Int.toNat ((ax I J y)+1)) 0)-(J (Int.toNat (ax I J y)) 0))-(y-(J (Int.toNat (ax I J y)) 0)))))+(((f (Int.toNat (ax A B x)) (Int.toNat ((ax I J y)+1)) 0)*(((B (Int.toNat ((ax A B x)+1)) 0)-(B (Int.toNat (ax A B x)) 0))-(x-(B (Int.toNat (ax A B x)) 0))))*(y-(J (Int.toNat (ax I J y)) 0)))))=true∧((small ((ax A B x)+1))=true∧((kE ((ax A B x)+1) n)=true∧((small ((ax I J y)+1))=true∧((kE ((ax I J y)+1) (M (Int.toNat ((ax A B x)+1))))=true∧((small ((f (Int.toNat ((ax A B x)+1)) (Int.toNat ((ax I J y)+1)) 0)*(x-(B (Int.toNat (ax A B x)) 0))))=true∧((small (((f (Int.toNat ((ax A B x)+1)) (Int.toNat ((ax I J y)+1)) 0)*(x-(B (Int.toNat (ax A B x)) 0)))*(y-(J (Int.toNat (ax I J y)) 0))))=true∧((small ((((((f (Int.toNat (ax A B x)) (Int.toNat (ax I J y)) 0)*(((B (Int.toNat ((ax A B x)+1)) 0)-(B (Int.toNat (ax A B x)) 0))-(x-(B (Int.toNat (ax A B x)) 0))))*(((J (Int.toNat ((ax I J y)+1)) 0)-(J (Int.toNat (ax I J y)) 0))-(y-(J (Int.toNat (ax I J y)) 0))))+(((f (Int.toNat ((ax A B x)+1)) (Int.toNat (ax I J y)) 0)*(x-(B (Int.toNat (ax A B x)) 0)))*(((J (Int.toNat ((ax I J y)+1)) 0)-(J (Int.toNat (ax I J y)) 0))-(y-(J (Int.toNat (ax I J y)) 0)))))+(((f (Int.toNat (ax A B x)) (Int.toNat ((ax I J y)+1)) 0)*(((B (Int.toNat ((ax A B x)+1)) 0)-(B (Int.toNat (ax A B x)) 0))-(x-(B (Int.toNat (ax A B x)) 0))))*(y-(J (Int.toNat (ax I J y)) 0))))+(((f (Int.toNat ((ax A B x)+1)) (Int.toNat ((ax I J y)+1)) 0)*(x-(B (Int.toNat (ax A B x)) 0)))*(y-(J (Int.toNat (ax I J y)) 0)))))=true∧((small (((B (Int.toNat ((ax A B x)+1)) 0)-(B (Int.toNat (ax A B x)) 0))*((J (Int.toNat ((ax I J y)+1)) 0)-(J (Int.toNat (ax I J y)) 0))))=true∧((small (2*((((((f (Int.toNat (ax A B x)) (Int.toNat (ax I J y)) 0)*(((B (Int.toNat ((ax A B x)+1)) 0)-(B (Int.toNat (ax A B x)) 0))-(x-(B (Int.toNat (ax A B x)) 0))))*(((J (Int.toNat ((ax I J y)+1)) 0)-(J (Int.toNat (ax I J y)) 0))-(y-(J (Int.toNat (ax I J y)) 0))))+(((f (Int.toNat ((ax A B x)+1)) (Int.toNat (ax I J y)) 0)*(x-(B (Int.toNat (ax A B x)) 0)))*(((J (Int.toNat ((ax I J y)+1)) 0)-(J (Int.toNat (ax I J y)) 0))-(y-(J (Int.toNat (ax I J y)) 0)))))+(((f (Int.toNat (ax A B x)) (Int.toNat ((ax I J y)+1)) 0)*(((B (Int.toNat ((ax A B x)+1)) 0)-(B (Int.toNat (ax A B x)) 0))-(x-(B (Int.toNat (ax A B x)) 0))))*(y-(J (Int.toNat (ax I J y)) 0))))+(((f (Int.toNat ((ax A B x)+1)) (Int.toNat ((ax I J y)+1)) 0)*(x-(B (Int.toNat (ax A B x)) 0)))*(y-(J (Int.toNat (ax I J y)) 0))))))=true∧((small ((2*((((((f (Int.toNat (ax A B x)) (Int.toNat (ax I J y)) 0)*(((B (Int.toNat ((ax A B x)+1)) 0)-(B (Int.toNat (ax A B x)) 0))-(x-(B (Int.toNat (ax A B x)) 0))))*(((J (Int.toNat ((ax I J y)+1)) 0)-(J (Int.toNat (ax I J y)) 0))-(y-(J (Int.toNat (ax I J y)) 0))))+(((f (Int.toNat ((ax A B x)+1)) (Int.toNat (ax I J y)) 0)*(x-(B (Int.toNat (ax A B x)) 0)))*(((J (Int.toNat ((ax I J y)+1)) 0)-(J (Int.toNat (ax I J y)) 0))-(y-(J (Int.toNat (ax I J y)) 0)))))+(((f (Int.toNat (ax A B x)) (Int.toNat ((ax I J y)+1)) 0)*(((B (Int.toNat ((ax A B x)+1)) 0)-(B (Int.toNat (ax A B x)) 0))-(x-(B (Int.toNat (ax A B x)) 0))))*(y-(J (Int.toNat (ax I J y)) 0))))+(((f (Int.toNat ((ax A B x)+1)) (Int.toNat ((ax I J y)+1)) 0)*(x-(B (Int.toNat (ax A B x)) 0)))*(y-(J (Int.toNat (ax I J y)) 0)))))+(((B (Int.toNat ((ax A B x)+1)) 0)-(B (Int.toNat (ax A B x)) 0))*((J (Int.toNat ((ax I J y)+1)) 0)-(J (Int.toNat (ax I J y)) 0)))))=true∧((small (2*(((B (Int.toNat ((ax A B x)+1)) 0)-(B (Int.toNat (ax A B x)) 0))*((J (Int.toNat ((ax I J y)+1)) 0)-(J (Int.toNat (ax I J y)) 0)))))=true∧((bY (2*(((B (Int.toNat ((ax A B x)+1)) 0)-(B (Int.toNat (ax A B x)) 0))*((J (Int.toNat ((ax I J y)+1)) 0)-(J (Int.toNat (ax I J y)) 0)))) 0)=false∧((small (Int.tdiv ((2*((((((f (Int.toNat (ax A B x)) (Int.toNat (ax I J y)) 0)*(((B (Int.toNat ((ax A B x)+1)) 0)-(B (Int.toNat (ax A B x)) 0))-(x-(B (Int.toNat (ax A B x)) 0))))*(((J (Int.toNat ((ax I J y)+1)) 0)-(J (Int.toNat (ax I J y)) 0))-(y-(J (Int.toNat (ax I J y)) 0))))+(((f (Int.toNat ((ax A B x)+1)) (Int.toNat (ax I J y)) 0)*(x-(B (Int.toNat (ax A B x)) 0)))*(((J (Int.toNat ((ax I J y)+1)) 0)-(J (Int.toNat (ax I J y)) 0))-(y-(J (Int.toNat (ax I J y)) 0)))))+(((f (Int.toNat (ax A B x)) (Int.toNat ((ax I J y)+1)) 0)*(((B (Int.toNat ((ax A B x)+1)) 0)-(B (Int.toNat (ax A B x)) 0))-(x-(B (Int.toNat (ax A B x)) 0))))*(y-(J (Int.toNat (ax I J y)) 0))))+(((f (Int.toNat ((ax A B x)+1)) (Int.toNat ((ax I J y)+1)) 0)*(x-(B (Int.toNat (ax A B x)) 0)))*(y-(J (Int.toNat (ax I J y)) 0)))))+(((B (Int.toNat ((ax A B x)+1)) 0)-(B (Int.toNat (ax A B x)) 0))*((J (Int.toNat ((ax I J y)+1)) 0)-(J (Int.toNat (ax I J y)) 0)))) (2*(((B (Int.toNat ((ax A B x)+1)) 0)-(B (Int.toNat (ax A B x)) 0))*((J (Int.toNat ((ax I J y)+1)) 0)-(J (Int.toNat (ax I J y)) 0))))))=true∧(((Int.tdiv ((2*((((((f (Int.toNat (ax A B x)) (Int.toNat (ax I J y)) 0)*(((B (Int.toNat ((ax A B x)+1)) 0)-(B (Int.toNat (ax A B x)) 0))-(x-(B (Int.toNat (ax A B x)) 0))))*(((J (Int.toNat ((ax I J y)+1)) 0)-(J (Int.toNat (ax I J y)) 0))-(y-(J (Int.toNat (ax I J y)) 0))))+(((f (Int.toNat ((ax A B x)+1)) (Int.toNat (ax I J y)) 0)*(x-(B (Int.toNat (ax A B x)) 0)))*(((J (Int.toNat ((ax I J y)+1)) 0)-(J (Int.toNat (ax I J y)) 0))-(y-(J (Int.toNat (ax I J y)) 0)))))+(((f (Int.toNat (ax A B x)) (Int.toNat ((ax I J y)+1)) 0)*(((B (Int.toNat ((ax A B x)+1)) 0)-(B (Int.toNat (ax A B x)) 0))-(x-(B (Int.toNat (ax A B x)) 0))))*(y-(J (Int.toNat (ax I J y)) 0))))+(((f (Int.toNat ((ax A B x)+1)) (Int.toNat ((ax I J y)+1)) 0)*(x-(B (Int.toNat (ax A B x)) 0)))*(y-(J (Int.toNat (ax I J y)) 0)))))+(((B (Int.toNat ((ax A B x)+1)) 0)-(B (Int.toNat (ax A B x)) 0))*((J (Int.toNat ((ax I J y)+1)) 0)-(J (Int.toNat (ax I J y)) 0)))) (2*(((B (Int.toNat ((ax A B x)+1)) 0)-(B (Int.toNat (ax A B x)) 0))*((J (Int.toNat ((ax I J y)+1)) 0)-(J (Int.toNat (ax I J y)) 0))))):Int)=(Int.tdiv ((2*((((((f (Int.toNat (ax A B x)) (Int.toNat (ax I J y)) 0)*(((B (Int.toNat ((ax A B x)+1)) 0)-(B (Int.toNat (ax A B x)) 0))-(x-(B (Int.toNat (ax A B x)) 0))))*(((J (Int.toNat ((ax I J y)+1)) 0)-(J (Int.toNat (ax I J y)) 0))-(y-(J (Int.toNat (ax I J y)) 0))))+(((f (Int.toNat ((ax A B x)+1)) (Int.toNat (ax I J y)) 0)*(x-(B (Int.toNat (ax A B x)) 0)))*(((J (Int.toNat ((ax I J y)+1)) 0)-(J (Int.toNat (ax I J y)) 0))-(y-(J (Int.toNat (ax I J y)) 0)))))+(((f (Int.toNat (ax A B x)) (Int.toNat ((ax I J y)+1)) 0)*(((B (Int.toNat ((ax A B x)+1)) 0)-(B (Int.toNat (ax A B x)) 0))-(x-(B (Int.toNat (ax A B x)) 0))))*(y-(J (Int.toNat (ax I J y)) 0))))+(((f (Int.toNat ((ax A B x)+1)) (Int.toNat ((ax I J y)+1)) 0)*(x-(B (Int.toNat (ax A B x)) 0)))*(y-(J (Int.toNat (ax I J y)) 0)))))+(((B (Int.toNat ((ax A B x)+1)) 0)-(B (Int.toNat (ax A B x)) 0))*((J (Int.toNat ((ax I J y)+1)) 0)-(J (Int.toNat (ax I J y)) 0)))) (2*(((B (Int.toNat ((ax A B x)+1)) 0)-(B (Int.toNat (ax A B x)) 0))*((J (Int.toNat ((ax I J y)+1)) 0)-(J (Int.toNat (ax I J y)) 0))))))))))))))))))))))))))))))))))))))))))))))))))))))
end
end Go.Proofs.YtiplgejpopellaaGreat
/- Tables: contracts: the strength at a point, as a contract. -/
namespace Go.Proofs.YtiplgejpopellaaGreat
open Go Go.Ev
set_option maxRecDepth 1000000
noncomputable section
def YH (A:Nat) (B:Nat→Nat→Int) (I:Nat) (J:Nat→Nat→Int) (n:Nat) (M:Nat→Nat) (f:Nat→Nat→Nat→Int) (x y:Int):Prop:=(2≤A∧A≤5∧2≤I∧I≤5∧n=A)∧(0≤ax A B x∧ax A B x+2≤A)∧(0≤ax I J y∧ax I J y+2≤I)∧(M (Int.toNat (ax A B x))=I∧M (Int.toNat (ax A B x+1))=I)∧(0≤(B (Int.toNat (ax A B x)) 0)∧(B (Int.toNat (ax A B x)) 0)≤x∧x≤(B (Int.toNat (ax A B x+1)) 0)∧(B (Int.toNat (ax A B x+1)) 0)≤40∧(B (Int.toNat (ax A B x)) 0)<(B (Int.toNat (ax A B x+1)) 0))∧(0≤(J (Int.toNat (ax I J y)) 0)∧(J (Int.toNat (ax I J y)) 0)≤y∧y≤(J (Int.toNat (ax I J y+1)) 0)∧(J (Int.toNat (ax I J y+1)) 0)≤60∧(J (Int.toNat (ax I J y)) 0)<(J (Int.toNat (ax I J y+1)) 0)) ∧
 (0≤(f (Int.toNat (ax A B x)) (Int.toNat (ax I J y)) 0)∧(f (Int.toNat (ax A B x)) (Int.toNat (ax I J y)) 0)≤2000)∧(0≤(f (Int.toNat (ax A B x+1)) (Int.toNat (ax I J y)) 0)∧(f (Int.toNat (ax A B x+1)) (Int.toNat (ax I J y)) 0)≤2000)∧(0≤(f (Int.toNat (ax A B x)) (Int.toNat (ax I J y+1)) 0)∧(f (Int.toNat (ax A B x)) (Int.toNat (ax I J y+1)) 0)≤2000)∧(0≤(f (Int.toNat (ax A B x+1)) (Int.toNat (ax I J y+1)) 0)∧(f (Int.toNat (ax A B x+1)) (Int.toNat (ax I J y+1)) 0)≤2000)
def leB (a b c:Int):Bool:=cond (ak a b) (ak b c) false
theorem zS {a b c:Int} (h:leB a b c=true):a≤b∧b≤c:=by
 obtain ⟨h1,h2⟩:=ah h
 exact ⟨by rwa [aW] at h1,by rwa [aW] at h2⟩
def SB (a0 a1 x m:Int):Bool:=cond (ak 0 a0) (cond (leB a0 x a1) (cond (ak a1 m) (cond (ak a1 a0) false true) false) false) false
theorem VQ {a0 a1 x m:Int} (h:SB a0 a1 x m=true):0≤a0∧a0≤x∧x≤a1∧a1≤m∧a0<a1:=by
 obtain ⟨h1,h⟩:=ah h
 obtain ⟨h2,h⟩:=ah h
 obtain ⟨h3,h⟩:=ah h
 have h2:=zS h2
 rw [aW] at h1 h3
 cases q:ak a1 a0 with
 | true=>rw [q] at h;cases h
 | false=>rw [dY] at q;exact ⟨h1,h2.1,h2.2,h3,q⟩
def pU (A:Nat) (B:Nat→Nat→Int) (I:Nat) (J:Nat→Nat→Int) (n:Nat) (M:Nat→Nat) (f:Nat→Nat→Nat→Int) (x y:Int):Bool:=cond (Nat.ble 2 A) (cond (Nat.ble A 5) (cond (Nat.ble 2 I) (cond (Nat.ble I 5) (cond (Nat.beq n A) (cond (leB 0 (ax A B x) (Int.sub A 2)) (cond (leB 0 (ax I J y) (Int.sub I 2)) (cond (Nat.beq (M (Int.toNat (ax A B x))) I) (cond (Nat.beq (M (Int.toNat (ax A B x+1))) I)
 (cond (SB (B (Int.toNat (ax A B x)) 0) (B (Int.toNat (ax A B x+1)) 0) x 40) (cond (SB (J (Int.toNat (ax I J y)) 0) (J (Int.toNat (ax I J y+1)) 0) y 60) (cond (leB 0 (f (Int.toNat (ax A B x)) (Int.toNat (ax I J y)) 0) 2000) (cond (leB 0 (f (Int.toNat (ax A B x+1)) (Int.toNat (ax I J y)) 0) 2000) (cond (leB 0 (f (Int.toNat (ax A B x)) (Int.toNat (ax I J y+1)) 0) 2000) (leB 0 (f (Int.toNat (ax A B x+1)) (Int.toNat (ax I J y+1)) 0) 2000) false) false) false) false) false) false) false) false) false) false) false) false) false) false
theorem Wi (A:Nat) (B:Nat→Nat→Int) (I:Nat) (J:Nat→Nat→Int) (n:Nat) (M:Nat→Nat) (f:Nat→Nat→Nat→Int) (x y:Int) (h:pU A B I J n M f x y=true):YH A B I J n M f x y:=by
 obtain ⟨h1,h⟩:=ah h
 obtain ⟨h2,h⟩:=ah h
 obtain ⟨h3,h⟩:=ah h
 obtain ⟨h4,h⟩:=ah h
 obtain ⟨h5,h⟩:=ah h
 obtain ⟨h6,h⟩:=ah h
 obtain ⟨h7,h⟩:=ah h
 obtain ⟨h8,h⟩:=ah h
 obtain ⟨h9,h⟩:=ah h
 obtain ⟨k1,h⟩:=ah h
 obtain ⟨k2,h⟩:=ah h
 obtain ⟨k3,h⟩:=ah h
 obtain ⟨k4,h⟩:=ah h
 obtain ⟨k5,k6⟩:=ah h
 have h6:=zS h6
 have h7:=zS h7
 have e6:Int.sub (A:Int) 2=(A:Int)-2:=rfl
 have e7:Int.sub (I:Int) 2=(I:Int)-2:=rfl
 rw [e6] at h6
 rw [e7] at h7
 exact ⟨⟨Nat.le_of_ble_eq_true h1,Nat.le_of_ble_eq_true h2,Nat.le_of_ble_eq_true h3,Nat.le_of_ble_eq_true h4,nb h5⟩,by omega,by omega,⟨nb h8,nb h9⟩,VQ k1,VQ k2,zS k3,zS k4,zS k5,zS k6⟩
def iy (A:Nat) (B:Nat→Nat→Int) (I:Nat) (J:Nat→Nat→Int) (f:Nat→Nat→Nat→Int) (x y:Int):Int:=stI (B (Int.toNat (ax A B x)) 0) (B (Int.toNat (ax A B x+1)) 0) (J (Int.toNat (ax I J y)) 0) (J (Int.toNat (ax I J y+1)) 0) (f (Int.toNat (ax A B x)) (Int.toNat (ax I J y)) 0) (f (Int.toNat (ax A B x+1)) (Int.toNat (ax I J y)) 0) (f (Int.toNat (ax A B x)) (Int.toNat (ax I J y+1)) 0) (f (Int.toNat (ax A B x+1)) (Int.toNat (ax I J y+1)) 0) x y
theorem mY {v u w:Int} (hv:0≤v∧v≤2000) (hu:0≤u∧u≤40) (hw:0≤w∧w≤60):(0≤v*u∧v*u≤80000)∧(0≤v*u*w∧v*u*w≤4800000):=by
 have h1:=Int.mul_nonneg hv.1 hu.1
 have h2:=Int.mul_le_mul (a:=v) (b:=u) (c:=2000) (d:=40) hv.2 hu.2 hu.1 (by omega)
 have h3:=Int.mul_nonneg h1 hw.1
 have h4:=Int.mul_le_mul (a:=v*u) (b:=w) (c:=80000) (d:=60) (by omega) hw.2 hw.1 (by omega)
 omega
theorem OL {a b:Int} (ha:1≤a∧a≤40) (hb:1≤b∧b≤60):1≤a*b∧a*b≤2400:=by
 have h1:=Int.mul_le_mul (a:=1) (b:=1) (c:=a) (d:=b) (by omega) (by omega) (by omega) (by omega)
 have h2:=Int.mul_le_mul (a:=a) (b:=b) (c:=40) (d:=60) (by omega) (by omega) (by omega) (by omega)
 omega
theorem NZ {a b:Int} (ha:0≤a∧a≤100000000) (hb:1≤b):0≤Int.tdiv a b∧Int.tdiv a b≤100000000:=by
 rw [Int.tdiv_eq_ediv_of_nonneg ha.1]
 have h1:=Int.ediv_nonneg ha.1 (show 0≤b by omega)
 have h2:=Int.ediv_le_self (b:=b) ha.1
 omega
def N8:Val:=fun das=>match das with | [.st [.sl 1 A B,.sl 1 I J,.rr 1 n M f],.one (.i .i64 x),.one (.i .i64 y)]=>some (pU A B I J n M f x y,.int .i64 (iy A B I J f x y)) | _=>none
theorem Ya:qi Tryz.prog 115 N8:=by
 intro das x hv
 unfold N8 at hv
 split at hv
 ·rename_i A B I J n M f x y
  have hb:=congrArg Prod.fst (Option.some.inj hv)
  have hv:=congrArg Prod.snd (Option.some.inj hv)
  subst hv
  have hk:YH A B I J n M f x y:=Wi _ _ _ _ _ _ _ _ _ hb
  unfold YH at hk
  obtain ⟨h1,h2,h3,h4,h5,h6,v1,v2,v3,v4⟩:=hk
  have d1:=mY (u:=((B (Int.toNat (ax A B x+1)) 0)-(B (Int.toNat (ax A B x)) 0))-(x-(B (Int.toNat (ax A B x)) 0))) (w:=((J (Int.toNat (ax I J y+1)) 0)-(J (Int.toNat (ax I J y)) 0))-(y-(J (Int.toNat (ax I J y)) 0))) v1 (by omega) (by omega)
  have d2:=mY (u:=x-(B (Int.toNat (ax A B x)) 0)) (w:=((J (Int.toNat (ax I J y+1)) 0)-(J (Int.toNat (ax I J y)) 0))-(y-(J (Int.toNat (ax I J y)) 0))) v2 (by omega) (by omega)
  have d3:=mY (u:=((B (Int.toNat (ax A B x+1)) 0)-(B (Int.toNat (ax A B x)) 0))-(x-(B (Int.toNat (ax A B x)) 0))) (w:=y-(J (Int.toNat (ax I J y)) 0)) v3 (by omega) (by omega)
  have d4:=mY (u:=x-(B (Int.toNat (ax A B x)) 0)) (w:=y-(J (Int.toNat (ax I J y)) 0)) v4 (by omega) (by omega)
  have hd:=OL (a:=(B (Int.toNat (ax A B x+1)) 0)-(B (Int.toNat (ax A B x)) 0)) (b:=(J (Int.toNat (ax I J y+1)) 0)-(J (Int.toNat (ax I J y)) 0)) (by omega) (by omega)
  exact bn aj Zp rfl (das:=[.st [.sl 1 A B,.sl 1 I J,.rr 1 n M f],.one (.i .i64 x),.one (.i .i64 y)]) (r67 A B I J n M f x y h1 h2 h3 h4 h5 h6 d1.1 d2.1 d3.1 d4.1 d1.2 d2.2 d3.2 d4.2 hd (NZ (by omega) (by omega)))
 ·cases hv
end
end Go.Proofs.YtiplgejpopellaaGreat
