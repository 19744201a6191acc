/- Stage 3: the closed calls that the chapter's examples come to: what they are asked. -/
import Derived.Test.YthakjbbhbnhmeaaProg
import Derived.Test.YthakjbbhbnhmeaaYEf
set_option linter.all false
set_option linter.unusedSimpArgs false
set_option linter.unusedVariables false
namespace Go.Proofs.Ythakjbbhbnhmeaa
namespace HE
open Go Go.Ev
set_option maxRecDepth 1000000
noncomputable section
theorem mixed:Try.prog.follows .mixedOrders=true:=by kernel_rfl
theorem drawn:aF Try.prog:=sU mixed
def vi (a:Int):V := .int .i64 a
def va (n:Nat) (l:List V):V := .agg n (T.setL .lf 0 l)
def Xk (l:List V):Nat×T V:=(lenV l,T.setL .lf 0 l)
def yz (l:List Int):Nat×T V:=Xk (l.map vi)
def lkI (l:List Int):Nat→Int:=List.rec (motive:=fun _=>Nat→Int) (fun _=>0) (fun x _ ih i=>match i with | 0=>x | i+1=>ih i) l
def fz (e:Nat) (l:List Int) (n:Nat):V := .fz true 0 (fun i j=>vi (lkI l (Nat.add (Nat.mul i e) j))) n e
def ceR (l:List (Nat×T V)):List (Nat×T V):=List.append [yz [80,90,20,30,40,40,50,50],yz [0,-1,1,70,0,2],Xk [vi 120,.slice 1 0 2 3]] l
def ce:V:=va 5 [vi 50,vi 52,vi 3,.slice 0 0 2 4,.slice 2 0 1 2]
def k1:Nat×T V:=yz [0,1,0,75]
def k2:Nat×T V:=yz [0,1,0,75,0,0,0,99]
def l1:V := .slice 3 0 1 4
def l2:V := .slice 3 0 2 4
def eK:Ent:=⟨16,[ce],ceR [],vi 0⟩
def eB0:Ent:=⟨7,[ce,.nilSlice],ceR [],.tup [.fz true 0 (fun i _=>match i with | 0=>fz 2 [80,90,71,82,64,76,59,71] 4 | _=>fz 2 [40,40,45,46,48,49,49,51] 4) 2 1,vi 0]⟩
def eB1:Ent:=⟨7,[ce,l1],ceR [k1],.tup [.fz true 0 (fun i _=>match i with | 0=>fz 2 [80,87,73,75,66,70,61,66] 4 | _=>fz 2 [40,40,45,46,48,49,49,51] 4) 2 1,vi 0]⟩
def eC0:Ent:=⟨14,[ce,.nilSlice,vi 70],ceR [],.tup [vi (-1),vi 2,vi 0]⟩
def eL2:Ent:=⟨9,[ce,l2],ceR [k2],.tup [fz 1 [1] 1,vi 0]⟩
theorem rK:Iq Try.prog bY 3000 eK=true:=by kernel_rfl
def eks:List Ent:=[eK]
theorem BA:EntsOK Try.prog eks := .cons (fun _ _ _ h=>sH drawn bu rK h) .nil
end
end HE
end Go.Proofs.Ythakjbbhbnhmeaa
