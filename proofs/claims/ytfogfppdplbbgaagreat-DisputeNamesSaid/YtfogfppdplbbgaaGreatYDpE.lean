/- Stage 11: the closed calls that the chapter's examples come to: what they are asked. -/
import Derived.Test.YtfogfppdplbbgaaGreatProg
import Derived.Test.YtfogfppdplbbgaaGreatYEf
set_option linter.all false
set_option linter.unusedSimpArgs false
set_option linter.unusedVariables false
namespace Go.Proofs.YtfogfppdplbbgaaGreat
namespace QE
open Go Go.Ev
set_option maxRecDepth 1000000
noncomputable section
theorem mixed:Tryz.prog.follows .mixedOrders=true:=by kernel_rfl
theorem drawn:bz Tryz.prog:=mg mixed
def vi (a:Int):V := .int .i64 a
def va (n:Nat) (l:List V):V := .agg n (T.setL .lf 0 l)
def vr (a b:Int):V:=va 2 [vi a,vi b]
def I5 (l:List V):Nat×T V:=(lenV l,T.setL .lf 0 l)
def wK (l:List Int):Nat×T V:=I5 (l.map vi)
def lkI (l:List Int):Nat→Int:=List.rec (motive:=fun _=>Nat→Int) (fun _=>0) (fun x _ ih i=>match i with | 0=>x | i+1=>ih i) l
def fz (e:Nat) (l:List Int) (n:Nat):V := .fz true 0 (fun i j=>vi (lkI l (Nat.add (Nat.mul i e) j))) n e
def DX:List (Nat×T V):=[wK [10,14,20],wK [0,10,20],I5 [.slice 3 0 3 1,.slice 4 0 3 1,.slice 5 0 3 1],wK [100,140,200],wK [90,131,192],wK [80,120,170]]
def Jr:V:=va 3 [.slice 0 0 3 1,.slice 1 0 3 1,.slice 2 0 3 1]
def eT:Ent:=⟨38,[Jr],DX,vi 0⟩
def eR (a b c d lo hi:Int):Ent:=⟨41,[Jr,vr a b,vr c d],DX,.tup [vr lo hi,vi 0]⟩
def eR0:Ent:=eR 12 12 5 6 115 119
def eR1:Ent:=eR 14 14 2 3 98 102
def eR2:Ent:=eR 10 10 4 4 116 116
def Iw (n m:Nat):V:=va 7 [.slice 0 0 3 1,.slice 1 0 3 1,.slice 2 0 3 1,vi 2,vi 3,.slice 6 0 n 4,.slice 7 0 m 6]
def D9 (l f:List Int):List (Nat×T V):=List.append DX [wK l,wK f]
def d3:V:=Iw 1 3
def d2:V:=Iw 1 2
def dt:V:=Iw 2 3
def r3:List (Nat×T V):=D9 [0,1,-3,0] [0,0,12,12,5,6,1,0,14,14,2,3,2,1,10,10,4,4]
def r2:List (Nat×T V):=D9 [0,1,-3,0] [0,0,12,12,5,6,2,1,10,10,4,4]
def rt:List (Nat×T V):=D9 [0,1,-3,0,1,0,4,9] [0,0,12,12,5,6,1,0,14,14,2,3,2,1,10,10,4,4]
def more (r:List (Nat×T V)) (l:List Int):List (Nat×T V):=List.append r [wK l]
theorem rT:bn Tryz.prog fC 3000 eT=true:=by kernel_rfl
theorem rR0:bn Tryz.prog fC 3000 eR0=true:=by kernel_rfl
theorem rR1:bn Tryz.prog fC 3000 eR1=true:=by kernel_rfl
theorem rR2:bn Tryz.prog fC 3000 eR2=true:=by kernel_rfl
def ets:List Ent:=[eT,eR0,eR1,eR2]
theorem sV:EntsOK Tryz.prog ets := .cons (fun _ _ _ h=>aF drawn aP rT h) <| .cons (fun _ _ _ h=>aF drawn aP rR0 h) <| .cons (fun _ _ _ h=>aF drawn aP rR1 h) <| .cons (fun _ _ _ h=>aF drawn aP rR2 h) <| .nil
def eK3:Ent:=⟨18,[d3],r3,vi 0⟩
def eK2:Ent:=⟨18,[d2],r2,vi 0⟩
def eKt:Ent:=⟨18,[dt],rt,vi 0⟩
theorem rK3:bn Tryz.prog (bW ets) 3000 eK3=true:=by kernel_rfl
theorem rK2:bn Tryz.prog (bW ets) 3000 eK2=true:=by kernel_rfl
theorem rKt:bn Tryz.prog (bW ets) 3000 eKt=true:=by kernel_rfl
def eks:List Ent:=eK3::eK2::eKt::ets
theorem Ia:EntsOK Tryz.prog eks := .cons (fun _ _ _ h=>aF drawn (ax sV) rK3 h) <| .cons (fun _ _ _ h=>aF drawn (ax sV) rK2 h) <| .cons (fun _ _ _ h=>aF drawn (ax sV) rKt h)<|sV
def eC (l m:List Int) (b:Bool):Ent:=⟨44,[va 16 (l.map vi)],[],.tup [va 16 (m.map vi),.bool b]⟩
def eCn:Ent:=eC [0,0,2000,0,3,0,2000,0,2000,2000,0,0,2000,2000,2000,0] [0,0,2000,0,3,0,2000,0,2000,2000,0,0,2000,2000,2000,0] true
def eCt:Ent:=eC [0,(-4),2000,0,3,0,2000,0,2000,2000,0,0,2000,2000,2000,0] [0,0,0,0,0,0,0,0,0,0,0,0,0,0,0,0] false
def eCa:Ent:=eC [0,0,2000,(-115),3,0,2000,0,2000,2000,0,0,119,2000,2000,0] [0,0,1885,(-115),3,0,1888,(-112),119,119,0,0,119,119,2000,0] true
def eCb:Ent:=eC [0,0,2000,(-98),3,0,2000,0,2000,2000,0,0,102,2000,2000,0] [0,0,1902,(-98),3,0,1905,(-95),102,102,0,0,102,102,2000,0] true
def eCc:Ent:=eC [0,0,2000,0,3,0,2000,(-116),2000,2000,0,0,2000,116,2000,0] [0,0,1884,(-116),3,0,1884,(-116),119,116,0,0,119,116,2000,0] true
def Jf:Ent:=eC [0,0,2000,(-115),3,0,2000,0,2000,2000,0,0,102,2000,2000,0] [0,0,0,0,0,0,0,0,0,0,0,0,0,0,0,0] false
def Jv:Ent:=eC [0,0,2000,(-115),3,0,2000,(-116),2000,2000,0,0,119,116,2000,0] [0,0,1884,(-116),3,0,1884,(-116),119,116,0,0,119,116,2000,0] true
def I8:Ent:=eC [0,0,2000,(-98),3,0,2000,(-116),2000,2000,0,0,102,116,2000,0] [0,0,0,0,0,0,0,0,0,0,0,0,0,0,0,0] false
def GU:Ent:=eC [0,0,2000,(-115),3,0,2000,(-116),2000,2000,0,0,102,116,2000,0] [0,0,0,0,0,0,0,0,0,0,0,0,0,0,0,0] false
def eM0:Ent:=⟨4,[d3,vi 0],r3,.tup [vr 115 119,vi 0]⟩
def eM1:Ent:=⟨4,[d3,vi 1],r3,.tup [vr 98 102,vi 0]⟩
def eM2:Ent:=⟨4,[d3,vi 2],r3,.tup [vr 116 116,vi 0]⟩
def eM3:Ent:=⟨4,[d3,vi 3],r3,.tup [vr 0 0,vi 2]⟩
def eLa:Ent:=⟨8,[d2],r2,.tup [.nilSlice,vi 0]⟩
def eLb:Ent:=⟨8,[d3],r3,.tup [fz 1 [1] 1,vi 0]⟩
def eLt:Ent:=⟨8,[dt],rt,.tup [.nilSlice,vi 9]⟩
def ePa:Ent:=⟨9,[d2],r2,.tup [.nilSlice,vi 0]⟩
def ePb:Ent:=⟨9,[d3],r3,.tup [fz 1 [1] 1,vi 0]⟩
def eGa:Ent:=⟨10,[d2],r2,.tup [.nilSlice,.nilSlice,vi 0]⟩
def eGb:Ent:=⟨10,[d3],r3,.tup [fz 1 [1] 1,fz 1 [1] 1,vi 0]⟩
def eGt:Ent:=⟨10,[dt],rt,.tup [.nilSlice,.nilSlice,vi 9]⟩
def eV0:Ent:=⟨12,[d2,.slice 8 0 2 1],(more r2 [119,116]),.bool true⟩
def eV1:Ent:=⟨12,[d2,.slice 8 0 2 1],(more r2 [117,116]),.bool true⟩
def eV2:Ent:=⟨12,[d2,.slice 8 0 2 1],(more r2 [115,116]),.bool false⟩
def eB3:Ent:=⟨14,[d3],r3,.tup [.nilSlice,vi 11]⟩
def eB2:Ent:=⟨14,[d2],r2,.tup [fz 2 [116,119,116,116] 2,vi 0]⟩
def eFa:Ent:=⟨15,[d2],r2,.tup [vi 0,vi 7]⟩
def eFb:Ent:=⟨15,[d3],r3,.tup [vi 1,vi 0]⟩
def eHa:Ent:=⟨16,[d3,vi 0,vi 1000],r3,.tup [vr 116 119,vi 0]⟩
def eHt:Ent:=⟨16,[dt,vi 0,vi 100001],rt,.tup [vr 0 0,vi 2]⟩
def eHu:Ent:=⟨16,[dt,vi 0,vi 1000],rt,.tup [vr 0 0,vi 9]⟩
def eOa:Ent:=⟨17,[d3,vi 100],r3,.tup [fz 1 [0,100,0] 3,vi 0]⟩
def eOb:Ent:=⟨17,[d2,vi 100],r2,.tup [fz 1 [34,33,33] 3,vi 0]⟩
def eOc:Ent:=⟨17,[d3,vi (-1)],r3,.tup [.nilSlice,vi 2]⟩
end
end QE
end Go.Proofs.YtfogfppdplbbgaaGreat
