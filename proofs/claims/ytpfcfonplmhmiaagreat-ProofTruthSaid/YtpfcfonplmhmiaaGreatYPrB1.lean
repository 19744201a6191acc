/- Casks: what a list of casks of a blend is, and the bounds of its strength by all truths: the reference's, as contracts. -/
import Derived.Test.YtpfcfonplmhmiaaGreatYPrBm
import Derived.Test.YtpfcfonplmhmiaaGreatYPrE2
set_option linter.all false
set_option linter.unusedSimpArgs false
set_option linter.unusedVariables false
namespace Go.Proofs.YtpfcfonplmhmiaaGreat
namespace BL
open Go Go.Ev PD
set_option maxRecDepth 1000000
set_option maxHeartbeats 0
noncomputable section
variable (A:Nat) (B:Nat→Nat→Int) (I:Nat) (J:Nat→Nat→Int) (n:Nat) (M:Nat→Nat) (f:Nat→Nat→Nat→Int)
def ltI:LT:=⟨[1,2,5],[1],[4],7⟩
def sI (m:Nat) (g:Nat→Nat→Int) (i:Nat):LS:=⟨[.fz true 4 (ae .i64 g) m 1,.ptr 6 0,.int .i64 i],[]⟩
def bI:Code:=sub [1,0,1,0,0] (dm Tryz.prog 26)
def xI (m:Nat) (g:Nat→Nat→Int):Lv := .exit 0 ⟨[.fz true 4 (ae .i64 g) m 1],[]⟩
def fI:Lv := .ret ⟨[.bool false],[]⟩
theorem eI (r:Int) (O:Nat) (E:Nat→Nat→Int) (m:Nat) (g:Nat→Nat→Int):VC (ng Tryz.prog az 300 26 [1,0,1,0] [.st [.sl 1 A B,.sl 1 I J,.rr 1 n M f,.i .i64 r,.sl 5 O E],.one (.sl 1 m g)] (fQ A B I J n M f r O E) ltI 41 60 (sI m g 0)) .nil:=ai (((True∧(True∧(True∧(True∧(((((V.fz true 0 (ae .i64 B) A 1):V)=(V.fz true 0 (ae .i64 B) A 1))∧(((((V.fz true 1 (ae .i64 J) I 1):V)=(V.fz true 1 (ae .i64 J) I 1))∧((((r:Int)=r)∧(True∧True))∧True))∧((((V.fz true 2 (aU 2 1 M f) n 1):V)=(V.fz true 2 (aU 2 1 M f) n 1))∧(((((V.fz true 3 (ae .i64 E) O 5):V)=(V.fz true 3 (ae .i64 E) O 5))∧(True∧True))∧True))))∧(True∧True))))))∧(((((V.fz true 4 (ae .i64 g) m 1):V)=(V.fz true 4 (ae .i64 g) m 1))∧((((V.ptr 6 0):V)=(V.ptr 6 0))∧((((0):Int)=0)∧True)))∧True)))
theorem rI1 (r:Int) (O:Nat) (E:Nat→Nat→Int) (m:Nat) (g:Nat→Nat→Int) (i:Nat) (h1:i+1<m) (h2:m≤1000) (h4:O≤1000) (h3:0≤g (i+1) 0∧g (i+1) 0<O) (h5:¬ g (i+1) 0≤(g (Int.toNat ((((i+1:Nat)):Int)-1)) 0)):VC (bW Tryz.prog az 300 bI (fQ A B I J n M f r O E) ltI 41 60 (sI m g (i+1)) (.next (sI m g (i+1+1)))) (.go 99080360100397141 .nil):=ai (((not (ak (m:Int) (((i+1):Nat):Int)))=true∧((Nat.blt (i+1) m)=true∧((small ((O:Int)-(1)))=true∧((ak 0 (g (i+1) 0))=true∧((not (ak (g (i+1) 0) ((O:Int)-(1))))=false∧((Nat.blt (i+1) m)=true∧((small ((((i+1):Nat):Int)-(1)))=true∧((jB ((((i+1):Nat):Int)-(1)) m)=true∧((ak (g (i+1) 0) (g (Int.toNat ((((i+1):Nat):Int)-(1))) 0))=false∧((small ((((i+1):Nat):Int)+1))=true∧(((((V.fz true 4 (ae .i64 g) m 1):V)=(V.fz true 4 (ae .i64 g) m 1))∧((((V.ptr 6 0):V)=(V.ptr 6 0))∧(((((((i+1):Nat):Int)+1):Int)=((((i+1)+1):Nat):Int))∧True)))∧True))))))))))))
theorem rI3 (r:Int) (O:Nat) (E:Nat→Nat→Int) (m:Nat) (g:Nat→Nat→Int) (i:Nat) (h1:¬ i<m):VC (bW Tryz.prog az 300 bI (fQ A B I J n M f r O E) ltI 41 60 (sI m g i) (xI m g)) (.go 6 .nil):=ai (((not (ak (m:Int) (i:Int)))=false∧(((((V.fz true 4 (ae .i64 g) m 1):V)=(V.fz true 4 (ae .i64 g) m 1))∧True)∧True)))
theorem fI1 (r:Int) (O:Nat) (E:Nat→Nat→Int) (m:Nat) (g:Nat→Nat→Int) (h:0<m):VC (fromD Tryz.prog az 300 26 [1,0,1,0] (Lv.res ltI 41 (gX (fQ A B I J n M f r O E) ltI 60 (xI m g)) (xI m g)) (.bool true)) .nil:=ai (((not (ak (m:Int) 0))=true))
theorem fI2 (r:Int) (O:Nat) (E:Nat→Nat→Int) (g:Nat→Nat→Int):VC (fromD Tryz.prog az 300 26 [1,0,1,0] (Lv.res ltI 41 (gX (fQ A B I J n M f r O E) ltI 60 (xI 0 g)) (xI 0 g)) (.bool false)) .nil:=ai (((not true)=false))
theorem TJ {O:Nat} {E l s t:Nat→Nat→Int} {k m:Nat} (hg:gaOk O E k l=true) (hl:∀ i,i<k→0≤l i 0∧l i 0<m) (h:∀ i,i<m→s i 0≤t i 0):∀ i,i≤k→rsm E l s i≤rsm E l t i:=by
 obtain ⟨_,_,q⟩:=mP hg
 intro i
 induction i with
 | zero=>intro _;exact Int.le_refl _
 | succ i ih =>
  intro hi
  have a:=ih (by omega)
  have b:=(q i (by omega)).2
  have d:=hl i (by omega)
  have c:=h (Int.toNat (l i 0)) (by omega)
  have e:=Int.mul_le_mul_of_nonneg_left c (show 0≤E (Int.toNat (l i 0)) 0 by omega)
  rw [G9,G9];omega
theorem Nu {O:Nat} {E l s t:Nat→Nat→Int} {k m:Nat} {w:Int} (hg:gaOk O E k l=true) (hk:0<k) (hw:0≤w) (hl:∀ i,i<k→0≤l i 0∧l i 0<m) (h:∀ i,i<m→0≤s i 0∧s i 0≤t i 0∧t i 0≤2000):rsV E l w s k≤rsV E l w t k∧0≤rsV E l w s k∧rsV E l w t k≤1000000000:=by
 have bg:=JG hg k (Nat.le_refl k)
 have q:=mP hg
 have okS:∀ u:Nat→Nat→Int,(∀ i,i<m→0≤u i 0∧u i 0≤2000)→0≤rsm E l u k∧rsm E l u k≤198000000:=fun u hu=>by
  have key:∀ i,i≤k→0≤rsm E l u i∧rsm E l u i≤198000*(i:Int):=by
   intro i
   induction i with
   | zero=>intro _;exact ⟨Int.le_refl _,Int.le_refl _⟩
   | succ i ih =>
    intro hi
    have a:=ih (by omega)
    have d:=hl i (by omega)
    have b:=Jh (q.2.2 i (by omega)).2 (hu (Int.toNat (l i 0)) (by omega))
    rw [G9];push_cast;omega
  have:=key k (Nat.le_refl k)
  have:=q.1
  omega
 have b1:=okS s (fun i hi=>by have:=h i hi;omega)
 have b2:=okS t (fun i hi=>by have:=h i hi;omega)
 have mo:=TJ hg hl (fun i hi=>(h i hi).2.1) k (Nat.le_refl k)
 unfold rsV
 rw [Int.tdiv_eq_ediv_of_nonneg b1.1,Int.tdiv_eq_ediv_of_nonneg b2.1]
 refine ⟨Int.ediv_le_ediv (by omega) mo,Int.ediv_nonneg b1.1 (by omega),?_⟩
 have:=Int.ediv_le_self (gsm E l 0 k+w) b2.1
 omega
end
end BL
end Go.Proofs.YtpfcfonplmhmiaaGreat
