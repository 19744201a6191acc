/- Stage 5: the closed calls that the chapter's examples come to: what they are asked. -/
import Derived.Test.YtflblednifbleaaProg
import Derived.Test.YtflblednifbleaaYEf
set_option linter.all false
set_option linter.unusedSimpArgs false
set_option linter.unusedVariables false
namespace Go.Proofs.Ytflblednifbleaa
namespace CE
open Go Go.Ev
set_option maxRecDepth 1000000
noncomputable section
theorem mixed:Try.prog.follows .mixedOrders=true:=by kernel_rfl
theorem drawn:aN Try.prog:=vU mixed
def vi (a:Int):V := .int .i64 a
def va (n:Nat) (l:List V):V := .agg n (T.setL .lf 0 l)
def Wv (l:List V):Nat×T V:=(lenV l,T.setL .lf 0 l)
def Vz (l:List Int):Nat×T V:=Wv (l.map vi)
def lkI (l:List Int):Nat→Int:=List.rec (motive:=fun _=>Nat→Int) (fun _=>0) (fun x _ ih i=>match i with | 0=>x | i+1=>ih i) l
def fz (e:Nat) (l:List Int) (n:Nat):V := .fz true 0 (fun i j=>vi (lkI l (Nat.add (Nat.mul i e) j))) n e
def caR (g:List V):List (Nat×T V):=[Vz [0,0,10,100,20,180],Vz [0,0,20,200],Wv [.slice 0 0 3 2,vi 150,vi 160,vi 0,vi 1,.slice 1 0 2 2,vi 0,vi 0,vi 0,vi 0],Vz [0,1,40,42],Wv g]
def g2:List V:=[vi 0,vi 0,vi 16,vi 17,.bool false,vi 1,vi 1,vi 16,vi 16,.bool true]
def g3:List V:=[vi 0,vi 0,vi 16,vi 17,.bool false,vi 1,vi 1,vi 16,vi 16,.bool true,vi 0,vi 1,vi 10,vi 10,.bool false]
def c2:V:=va 3 [.slice 2 0 2 5,.slice 3 0 1 4,.slice 4 0 2 5]
def c3:V:=va 3 [.slice 2 0 2 5,.slice 3 0 1 4,.slice 4 0 3 5]
def eK2:Ent:=⟨12,[c2],caR g2,vi 0⟩
def eK3:Ent:=⟨12,[c3],caR g3,vi 0⟩
def eF3:Ent:=⟨26,[c3],caR g3,.tup [vi 2,vi 0]⟩
def eF2:Ent:=⟨26,[c2],caR g2,.tup [vi 0,vi 7]⟩
def eL2:Ent:=⟨28,[c2],caR g2,.tup [.nilSlice,vi 0]⟩
def eB3:Ent:=⟨23,[c3],caR g3,.tup [.nilSlice,vi 11]⟩
def eB2:Ent:=⟨23,[c2],caR g2,.tup [.fz true 0 (fun i _=>match i with | 0=>fz 2 [150,156,109,116] 2 | _=>fz 2 [0,0,40,40] 2) 2 1,vi 0]⟩
def eD2:Ent:=⟨24,[c2],caR g2,.tup [fz 2 [0,1,0,0] 2,vi 0]⟩
def eO2:Ent:=⟨25,[c2,vi 0],caR g2,.tup [.nilSlice,fz 1 [0] 1,vi 0]⟩
def eL3:Ent:=⟨28,[c3],caR g3,.tup [fz 1 [2] 1,vi 0]⟩
theorem rK2:pz Try.prog aA 3000 eK2=true:=by kernel_rfl
theorem rK3:pz Try.prog aA 3000 eK3=true:=by kernel_rfl
def eks:List Ent:=[eK2,eK3]
theorem mJ:EntsOK Try.prog eks := .cons (fun _ _ _ h=>gm drawn aj rK2 h) <| .cons (fun _ _ _ h=>gm drawn aj rK3 h) .nil
end
end CE
end Go.Proofs.Ytflblednifbleaa
