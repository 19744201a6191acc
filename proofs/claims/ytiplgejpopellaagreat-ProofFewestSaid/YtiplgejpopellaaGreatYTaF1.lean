/- Tables: contracts: the reference's error of a table. -/
import Derived.Test.YtiplgejpopellaaGreatYTaL2
set_option linter.all false
set_option linter.unusedSimpArgs false
set_option linter.unusedVariables false
namespace Go.Proofs.YtiplgejpopellaaGreat
open Go Go.Ev
set_option maxRecDepth 1000000
noncomputable section
def riB (most:Int) (g:Nat→Nat→Int) (k:Nat):Bool:=cond (inB 0 most g k) (cond (Nat.beq k 0) true (decide (g (k-1) 0<g k 0))) false
def jZ (len:Nat) (g:Nat→Nat→Int) (most:Int):Bool:=eX (riB most g) len
def ltI:LT:=⟨[0,1,5],[],[4],2⟩
def sI (len:Nat) (g:Nat→Nat→Int) (most:Int) (k:Nat):LS:=⟨[.fz true 0 (ae .i64 g) len 1,.int .i64 most,.int .i64 k],[]⟩
def Y2 (len:Nat) (g:Nat→Nat→Int) (most:Int):List DA:=[.one (.sl 1 len g),.one (.i .i64 most)]
def bI:Code:=sub [1,0,1,0,0] (cZ Tryz.prog 85)
theorem eI (len:Nat) (g:Nat→Nat→Int) (most:Int):VC (ql Tryz.prog az 300 85 [1,0,1,0] (Y2 len g most) (aU 2) ltI 35 60 (sI len g most 0)) .nil:=ai ((True∧(((((V.fz true 0 (ae .i64 g) len 1):V)=(V.fz true 0 (ae .i64 g) len 1))∧(((most:Int)=most)∧((((0):Int)=((0:Nat):Int))∧True)))∧True)))
theorem rI1 (len:Nat) (g:Nat→Nat→Int) (most:Int) (k:Nat) (h1:k<len) (h2:len≤1000) (h3:0≤g k 0) (h4:g k 0≤most) (h5:k=0∨g (Int.toNat ((k:Int)-1)) 0<g k 0):VC (bM Tryz.prog az 300 bI (aU 2) ltI 35 60 (sI len g most k) (.next (sI len g most (k+1)))) (.go 270357 (.sp (.go 23622598672 .nil) (.go 335544320 .nil))):=ai (((not (ak (len:Int) (k:Int)))=true∧((Nat.blt k len)=true∧((ak 0 (g k 0))=true∧((not (ak (g k 0) most))=false∧(((not (ak (k:Int) 0))=true→((Nat.blt k len)=true∧((small ((k:Int)-(1)))=true∧((kE ((k:Int)-(1)) len)=true∧((ak (g k 0) (g (Int.toNat ((k:Int)-(1))) 0))=false∧((small ((k:Int)+1))=true∧(((((V.fz true 0 (ae .i64 g) len 1):V)=(V.fz true 0 (ae .i64 g) len 1))∧(((most:Int)=most)∧(((((k:Int)+1):Int)=(((k+1):Nat):Int))∧True)))∧True))))))) ∧
 ((not (ak ((k:Nat):Int) (0)))=false→((small (((k:Nat):Int)+(1)))=true∧(((((V.fz true 0 (ae .i64 g) len 1):V)=(V.fz true 0 (ae .i64 g) len 1))∧(((most:Int)=most)∧((((((k:Nat):Int)+(1)):Int)=(((k+1):Nat):Int))∧True)))∧True)))))))))
theorem rI2 (len:Nat) (g:Nat→Nat→Int) (most:Int) (k:Nat) (h1:k<len) (h2:len≤1000) (h3:¬ (0≤g k 0∧g k 0≤most∧(k=0∨g (Int.toNat ((k:Int)-1)) 0<g k 0))):VC (bM Tryz.prog az 300 bI (aU 2) ltI 35 60 (sI len g most k) (.ret ⟨[.bool false],[]⟩)) (.go 21 (.sp (.go 64 (.sp .nil (.go 343615210512 .nil))) .nil)):=ai (((not (ak (len:Int) (k:Int)))=true∧((Nat.blt k len)=true∧(((ak 0 (g k 0))=true→(((not (ak (g k 0) most))=true→(((false=false)∧True)∧True)) ∧
 ((not (ak (g k 0) most))=false→((not (ak ((k:Nat):Int) (0)))=true∧((Nat.blt k len)=true∧((small (((k:Nat):Int)-(1)))=true∧((kE (((k:Nat):Int)-(1)) len)=true∧((ak (g k 0) (g (Int.toNat (((k:Nat):Int)-(1))) 0))=true∧(((false=false)∧True)∧True))))))))) ∧
 ((ak (0) (g k 0))=false→(((false=false)∧True)∧True))))))
theorem rI3 (len:Nat) (g:Nat→Nat→Int) (most:Int) (k:Nat) (h1:¬ k<len):VC (bM Tryz.prog az 300 bI (aU 2) ltI 35 60 (sI len g most k) (.exit 0 ⟨[],[]⟩)) (.go 6 .nil):=ai (((not (ak (len:Int) (k:Int)))=false∧(True∧True)))
theorem fI1  : VC (fromD Tryz.prog az 300 85 [1,0,1,0] (Lv.res ltI 35 (iw (aU 2) ltI 60 (.exit 0 ⟨[],[]⟩)) (.exit 0 ⟨[],[]⟩)) (.bool true)) .nil:=ai ((true=true))
theorem fI2  : VC (fromD Tryz.prog az 300 85 [1,0,1,0] (Lv.res ltI 35 (iw (aU 2) ltI 60 (.ret ⟨[.bool false],[]⟩)) (.ret ⟨[.bool false],[]⟩)) (.bool false)) .nil:=ai ((false=false))
def VD:Val:=fun das=>match das with | [.one (.sl 1 len g),.one (.i .i64 most)]=>some (Nat.ble len 1000,.bool (jZ len g most)) | _=>none
theorem riB_t {most:Int} {g:Nat→Nat→Int} {k:Nat}:riB most g k=true↔0≤g k 0∧g k 0≤most∧(k=0∨g (k-1) 0<g k 0):=by
 unfold riB inB
 constructor
 ·intro h
  obtain ⟨h1,h2⟩:=ah h
  have h1:=of_decide_eq_true h1
  refine ⟨h1.1,h1.2,?_⟩
  cases q:Nat.beq k 0 with
  | true=>exact .inl (nb q)
  | false=>rw [q] at h2;exact .inr (of_decide_eq_true h2)
 ·rintro ⟨h1,h2,h3⟩
  refine aI (decide_eq_true ⟨h1,h2⟩) ?_
  rcases h3 with h3 | h3
  ·subst h3;rfl
  ·cases q:Nat.beq k 0 with
   | true=>rfl
   | false=>exact decide_eq_true h3
theorem Z7:qi Tryz.prog 85 VD:=by
 intro das v hv
 unfold VD at hv
 split at hv
 ·rename_i len g most
  have hb:=Nat.le_of_ble_eq_true (congrArg Prod.fst (Option.some.inj hv))
  have hv:=congrArg Prod.snd (Option.some.inj hv)
  subst hv
  refine ⟨rfl,?_⟩
  have tn:∀ k:Nat,Int.toNat (((k:Nat):Int)-1)=k-1:=fun k=>by omega
  have rd:∀ k,k<len→riB most g k=true→JL Tryz.prog (aU 2) ltI 35 60 none bI (sI len g most k) (.next (sI len g most (k+1))):=fun k hk q=>by
   obtain ⟨q1,q2,q3⟩:=riB_t.mp q
   exact aP aj aG (rI1 len g most k hk hb q1 q2 (by rw [tn];exact q3)).ok (by kernel_rfl) (by kernel_rfl)
  rcases gu (riB most g) len with h | ⟨N,h1,h2,h3⟩
  ·have e:jZ len g most=true:=bW h
   rw [e]
   exact bV aj aG (das:=Y2 len g most) (lv := .exit 0 ⟨[],[]⟩) (by kernel_rfl) (by kernel_rfl) (eI len g most).ok (bz (body:=bI) (fun _ e=>by cases e) len (sI len g most) (fun k hk=>rd k hk (h k hk)) (aP aj aG (rI3 len g most len (by omega)).ok (by kernel_rfl) (by kernel_rfl))) fI1.ok
  ·have e:jZ len g most=false:=gK h1 h3
   rw [e]
   exact bV aj aG (das:=Y2 len g most) (lv := .ret ⟨[.bool false],[]⟩) (by kernel_rfl) (by kernel_rfl) (eI len g most).ok (bz (body:=bI) (fun _ e=>by cases e) N (sI len g most) (fun k hk=>rd k (by omega) (h2 k hk)) (aP aj aG (rI2 len g most N h1 hb (by
    rw [tn]
    intro q
    rw [riB_t.mpr q] at h3;cases h3)).ok (by kernel_rfl) (by kernel_rfl))) fI2.ok
 ·cases hv
end
end Go.Proofs.YtiplgejpopellaaGreat
