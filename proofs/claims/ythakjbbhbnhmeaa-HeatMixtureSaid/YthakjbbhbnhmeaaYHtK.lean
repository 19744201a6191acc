/- Stage 3: the courses that are known, and what the calls are asked. -/
import Derived.Test.YthakjbbhbnhmeaaYHtE
import Derived.Test.YthakjbbhbnhmeaaYEf
set_option linter.all false
set_option linter.unusedSimpArgs false
set_option linter.unusedVariables false
namespace Go.Proofs.Ythakjbbhbnhmeaa
namespace HE
open Go Go.Ev
set_option maxRecDepth 1000000
noncomputable section
def vb (a:Bool):V := .bool a
def nexts (room rate:Int) (n:Nat):Int→List V:=Nat.rec (motive:=fun _=>Int→List V) (fun _=>[vi 0,vi 0,vi 0,vi 0,vi 0]) (fun _ ih h=>(fun h'=>vi h'::ih h') (Int.add room (Int.tdiv (Int.mul (Int.sub h room) (Int.sub 100 rate)) 100))) n
def X8 (room start rate:Int) (born:Nat):V×V×Nat:=fI room fun room=>fI start fun start=>fI rate fun rate=>fN born fun born=>(.agg 3 (.nd (some (vi room)) (.nd (some (vi start)) .lf .lf) (.nd (some (vi rate)) .lf .lf)),va 9 (vi start::nexts room rate 3 start),born)
def upto (n:Nat) (f:Nat→List (V×V×Nat)):List (V×V×Nat):=Nat.rec (motive:=fun _=>List (V×V×Nat)) [] (fun i ih=>List.append (f i) ih) n
def yx (room:Int) (b:Nat):List (V×V×Nat):=upto 11 (fun i=>upto 11 (fun j=>[X8 room (Int.ofNat (Nat.add 80 i)) (Int.ofNat (Nat.add 20 j)) (Nat.add b (Nat.add (Nat.mul 11 i) j))]))
def ZA (room:Int) (b:Nat):List (V×V×Nat):=[X8 room 40 50 b]
def knA (n:Nat):List (V×V×Nat):=upto n (fun i=>List.append (ZA (Int.ofNat (Nat.add 50 i)) (Nat.add (Nat.mul 122 i) 121)) (yx (Int.ofNat (Nat.add 50 i)) (Nat.mul 122 i)))
def wV (k:Nat):V:=va 6 [vi 50,vi 52,vi 3,.slice 0 0 2 4,.slice 2 0 1 2,.map k]
def Ug:Ent3:=⟨87,[wV 3,vi 0,vi 50,.nilSlice],ceR [],knA 0,0,.tup [va 18 [vi 80,vi 90,vi 71,vi 82,vi 64,vi 75,vi 59,vi 70,vi 0,vi 0,vi 0,vi 0,vi 0,vi 0,vi 0,vi 0,vi 0,vi 0],vb true],List.append (yx 50 0) (knA 0),121,none⟩
def UF:Ent3:=⟨87,[wV 3,vi 0,vi 51,.nilSlice],ceR [],knA 1,122,.tup [va 18 [vi 80,vi 90,vi 71,vi 82,vi 65,vi 75,vi 60,vi 70,vi 0,vi 0,vi 0,vi 0,vi 0,vi 0,vi 0,vi 0,vi 0,vi 0],vb true],List.append (yx 51 122) (knA 1),243,none⟩
def Uj:Ent3:=⟨87,[wV 3,vi 0,vi 52,.nilSlice],ceR [],knA 2,244,.tup [va 18 [vi 80,vi 90,vi 71,vi 82,vi 65,vi 76,vi 61,vi 71,vi 0,vi 0,vi 0,vi 0,vi 0,vi 0,vi 0,vi 0,vi 0,vi 0],vb true],List.append (yx 52 244) (knA 2),365,none⟩
def TN:Ent3:=⟨87,[wV 4,vi 0,vi 50,.slice 3 0 1 4],ceR [yz [0,1,0,75]],knA 0,0,.tup [va 18 [vi 80,vi 87,vi 73,vi 75,vi 66,vi 70,vi 61,vi 66,vi 0,vi 0,vi 0,vi 0,vi 0,vi 0,vi 0,vi 0,vi 0,vi 0],vb true],List.append (yx 50 0) (knA 0),121,none⟩
def TM:Ent3:=⟨87,[wV 4,vi 0,vi 51,.slice 3 0 1 4],ceR [yz [0,1,0,75]],knA 1,122,.tup [va 18 [vi 80,vi 86,vi 73,vi 75,vi 66,vi 70,vi 61,vi 66,vi 0,vi 0,vi 0,vi 0,vi 0,vi 0,vi 0,vi 0,vi 0,vi 0],vb true],List.append (yx 51 122) (knA 1),243,none⟩
def Ub:Ent3:=⟨87,[wV 4,vi 0,vi 52,.slice 3 0 1 4],ceR [yz [0,1,0,75]],knA 2,244,.tup [va 18 [vi 80,vi 86,vi 73,vi 75,vi 66,vi 70,vi 61,vi 66,vi 0,vi 0,vi 0,vi 0,vi 0,vi 0,vi 0,vi 0,vi 0,vi 0],vb true],List.append (yx 52 244) (knA 2),365,none⟩
def TY:Ent3:=⟨107,[wV 4,vi 0,vi 50,.slice 3 0 2 4],ceR [yz [0,1,0,75,0,0,0,99]],knA 0,0,.nilMap,List.append (yx 50 0) (knA 0),121,some ([(.int .u64 0,vb true,1),(.int .u64 1,vb true,0)],2)⟩
def Uu:Ent3:=⟨107,[wV 4,vi 0,vi 51,.slice 3 0 2 4],ceR [yz [0,1,0,75,0,0,0,99]],knA 1,122,.nilMap,List.append (yx 51 122) (knA 1),243,some ([(.int .u64 0,vb true,1),(.int .u64 1,vb true,0)],2)⟩
def Ut:Ent3:=⟨107,[wV 4,vi 0,vi 52,.slice 3 0 2 4],ceR [yz [0,1,0,75,0,0,0,99]],knA 2,244,.nilMap,List.append (yx 52 244) (knA 2),365,some ([(.int .u64 0,vb true,1),(.int .u64 1,vb true,0)],2)⟩
end
end HE
end Go.Proofs.Ythakjbbhbnhmeaa
