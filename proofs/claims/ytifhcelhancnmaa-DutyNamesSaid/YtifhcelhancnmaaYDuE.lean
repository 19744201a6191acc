/- Stage 10: the closed calls that the chapter's examples come to: what they are asked. -/
import Derived.Test.YtifhcelhancnmaaProg
import Derived.Test.YtifhcelhancnmaaYEf
set_option linter.all false
set_option linter.unusedSimpArgs false
set_option linter.unusedVariables false
namespace Go.Proofs.Ytifhcelhancnmaa
namespace UE
open Go Go.Ev
set_option maxRecDepth 1000000
noncomputable section
theorem mixed:Try.prog.follows .mixedOrders=true:=by kernel_rfl
theorem drawn:aI Try.prog:=oD mixed
def vi (a:Int):V := .int .i64 a
def va (n:Nat) (l:List V):V := .agg n (T.setL .lf 0 l)
def MI (l:List V):Nat×T V:=(lenV l,T.setL .lf 0 l)
def Ky (l:List Int):Nat×T V:=MI (l.map vi)
def lkI (l:List Int):Nat→Int:=List.rec (motive:=fun _=>Nat→Int) (fun _=>0) (fun x _ ih i=>match i with | 0=>x | i+1=>ih i) l
def fz (e:Nat) (l:List Int) (n:Nat):V := .fz true 0 (fun i j=>vi (lkI l (Nat.add (Nat.mul i e) j))) n e
def rR (more:List Int):List (Nat×T V):=[Ky [0,20,3,30],Ky (List.append [0,0,40,42,0,1,1,0,0,200,2,2,10,10,0,0,3,20,20,0] more)]
def tV (purse:Int) (n:Nat):V:=va 6 [vi 4,vi 100,vi 1000,vi purse,.slice 0 0 2 2,.slice 1 0 n 5]
def t0:V:=tV 300 4
def tp:V:=tV 0 4
def t1:V:=tV 300 5
def r0:List (Nat×T V):=rR []
def r8:List (Nat×T V):=rR [3,0,0,0,820]
def r9:List (Nat×T V):=rR [3,0,0,0,830]
def rl:List (Nat×T V):=rR [2,2,33,33,0]
def more (r:List (Nat×T V)) (l:List Int):List (Nat×T V):=List.append r [Ky l]
def sl (n:Nat):V := .slice 2 0 n 1
def eK0:Ent:=⟨12,[t0],r0,vi 0⟩
def eKp:Ent:=⟨12,[tp],r0,vi 0⟩
def eK8:Ent:=⟨12,[t1],r8,vi 0⟩
def eK9:Ent:=⟨12,[t1],r9,vi 0⟩
def eKl:Ent:=⟨12,[t1],rl,vi 0⟩
def eP0:Ent:=⟨4,[t0,sl 4],more r0 [40,0,10,20],.tup [fz 1 [800,608,415,1020,1031] 5,vi 0]⟩
def eP8:Ent:=⟨4,[t1,sl 5],more r8 [41,0,10,20,0],.tup [fz 1 [820,629,436,1041,1052] 5,vi 0]⟩
def eB0:Ent:=⟨6,[t0],r0,.tup [fz 2 [800,840,608,649,415,456,1020,1061,1031,1072] 5,vi 0]⟩
def eB8:Ent:=⟨6,[t1],r8,.tup [fz 2 [820,820,629,629,436,436,1041,1041,1052,1052] 5,vi 0]⟩
def eB9:Ent:=⟨6,[t1],r9,.tup [.nilSlice,vi 9]⟩
def eT0:Ent:=⟨11,[t0],r0,.tup [vi 2,vi 0]⟩
def eTl:Ent:=⟨11,[t1],rl,.tup [vi 0,vi 9]⟩
def eS0:Ent:=⟨10,[t0],r0,.tup [fz 1 [3] 1,vi 0]⟩
def eS9:Ent:=⟨10,[t1],r9,.tup [.nilSlice,vi 9]⟩
def eSp:Ent:=⟨10,[tp],r0,.tup [.nilSlice,vi 10]⟩
def eL0:Ent:=⟨7,[t0],r0,.tup [.nilSlice,vi 0]⟩
def eL9:Ent:=⟨7,[t1],r9,.tup [fz 1 [4] 1,vi 0]⟩
def eVn:Ent:=⟨9,[t0,.nilSlice,vi 9],r0,.bool false⟩
def eV3:Ent:=⟨9,[t0,sl 1,vi 0],more r0 [3],.bool false⟩
def eV4:Ent:=⟨9,[t0,sl 1,vi 9],more r0 [4],.bool false⟩
def eVd:Ent:=⟨9,[t0,sl 2,vi 9],more r0 [3,3],.bool false⟩
def eV2:Ent:=⟨9,[t0,sl 1,vi 1],more r0 [2],.bool true⟩
theorem rK0:nI Try.prog uD 3000 eK0=true:=by kernel_rfl
theorem rKp:nI Try.prog uD 3000 eKp=true:=by kernel_rfl
theorem rK8:nI Try.prog uD 3000 eK8=true:=by kernel_rfl
theorem rK9:nI Try.prog uD 3000 eK9=true:=by kernel_rfl
theorem rKl:nI Try.prog uD 3000 eKl=true:=by kernel_rfl
def uw:List Ent:=[eK0,eKp,eK8,eK9,eKl]
theorem aX:EntsOK Try.prog uw := .cons (fun _ _ _ h=>iI drawn jI rK0 h) <| .cons (fun _ _ _ h=>iI drawn jI rKp h) <| .cons (fun _ _ _ h=>iI drawn jI rK8 h) <| .cons (fun _ _ _ h=>iI drawn jI rK9 h) <| .cons (fun _ _ _ h=>iI drawn jI rKl h) <| .nil
end
end UE
end Go.Proofs.Ytifhcelhancnmaa
