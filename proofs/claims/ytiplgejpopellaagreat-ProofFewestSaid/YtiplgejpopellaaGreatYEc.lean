/- What is known of a closed call, said of each call that looks the same, in whatever heap. -/
import Derived.Test.YtiplgejpopellaaGreatYEb
set_option linter.all false
set_option linter.unusedSimpArgs false
set_option linter.unusedVariables false
namespace Go.Ev
open Go
noncomputable section
variable {P:Program}
structure Ent where
 (g:FuncId) (args:List V) (rows:List (Nat×T V)) (v:V)
def abt (rows:List (Nat×T V)) (H:EH) (b0 b:Nat):Option Nat:=match qj rows b0,H.block b with
 | some (sz0,c0),.mk c lo sz g=>cond (Nat.beq lo 0) (cond (Nat.ble sz0 sz) (some g) none) none
 | _,_=>none
abbrev Mt:=List (Nat×Nat×Nat)
def Zg (m:Mt) (b0 g:Nat):Bool:=List.rec (motive:=fun _=>Bool) true (fun p _ ih=>cond (Nat.beq p.1 b0) false (cond (Nat.beq p.2.2 g) false ih)) m
def abW (m:Mt) (b0 b:Nat) (g:Option Nat):Option Mt:=match g with | some g=>cond (Zg m b0 g) (some ((b0,b,g)::m)) none | none=>none
def mt0 (rows:List (Nat×T V)) (H:EH) (x0 x:V) (m:Mt):Option Mt:=match x0,x with
 | .slice b0 o0 l0 e0,.slice b o l e=>cond (Nat.beq o0 o) (cond (Nat.beq l0 l) (cond (Nat.beq e0 e) (abW m b0 b (abt rows H b0 b)) none) none) none
 | x0,x=>cond (xe 0 x0) (cond (eq0 x0 x) (some m) none) none
def mtT (rows:List (Nat×T V)) (H:EH) (c0 c:T V) (k:Nat):Nat→Mt→Option Mt:=Nat.rec (motive:=fun _=>Nat→Mt→Option Mt) (fun _ m=>some m)
 (fun _ ih i m=>match c0.get i,c.get i with | some x,some y=>(match mt0 rows H x y m with | some m=>ih (Nat.succ i) m | none=>none) | _,_=>none) k
def mtV (rows:List (Nat×T V)) (H:EH) (x0 x:V) (m:Mt):Option Mt:=match x0,x with
 | .agg n c0,.agg n' c=>cond (Nat.beq n n') (mtT rows H c0 c n 0 m) none
 | x0,x=>mt0 rows H x0 x m
def mtL (rows:List (Nat×T V)) (H:EH) (l0:List V):List V→Mt→Option Mt:=List.rec (motive:=fun _=>List V→Mt→Option Mt) (fun l m=>match l with | []=>some m | _=>none)
 (fun x0 _ ih l m=>match l with | x::l=>(match mtV rows H x0 x m with | some m=>ih l m | none=>none) | []=>none) l0
def aaZ (rows:List (Nat×T V)) (H:EH) (ps:Mt):Mt→Option Mt:=List.rec (motive:=fun _=>Mt→Option Mt) (fun m=>some m)
 (fun p _ ih m=>match qj rows p.1,H.block p.2.1 with | some (sz0,c0),.mk c _ _ _=>(match mtT rows H c0 c sz0 0 m with | some m=>ih m | none=>none) | _,_=>none) ps
def lkM (m:Mt) (b0:Nat):Option Nat:=List.rec (motive:=fun _=>Option Nat) none (fun p _ ih=>cond (Nat.beq p.1 b0) (some p.2.1) ih) m
def abP (o:Option Nat) (b:Nat):Bool:=match o with | some a=>Nat.beq a b | none=>false
def Zj (m:Mt) (x y:V):Bool:=match x,y with
 | .slice b0 o0 l0 e0,.slice b o l e=>cond (Nat.beq o0 o) (cond (Nat.beq l0 l) (cond (Nat.beq e0 e) (abP (lkM m b0) b) false) false) false
 | x,y=>cond (xe 0 x) (eq0 x y) false
def aax (m:Mt) (c0 c:T V) (k:Nat):Nat→Bool:=Nat.rec (motive:=fun _=>Nat→Bool) (fun _=>true)
 (fun _ ih i=>match c0.get i,c.get i with | some x,some y=>cond (Zj m x y) (ih (Nat.succ i)) false | _,_=>false) k
def Y1 (rows:List (Nat×T V)) (H:EH) (m:Mt) (ps:Mt):Bool:=List.rec (motive:=fun _=>Bool) true
 (fun p _ ih=>match qj rows p.1,H.block p.2.1 with | some (sz0,c0),.mk c _ _ _=>cond (aax m c0 c sz0 0) ih false | _,_=>false) ps
def YE (rows:List (Nat×T V)) (H:EH) (l0 l:List V):Option Mt:=match mtL rows H l0 l [] with
 | some m=>(match aaZ rows H m m with | some m2=>cond (Y1 rows H m2 m2) (some m2) none | none=>none)
 | none=>none
def Nk (l:List V):Bool:=List.rec (motive:=fun _=>Bool) true (fun x _ ih=>cond (jI 0 x) ih false) l
def oldR (a:V):Bool:=match a with | .tup l=>Nk l | a=>jI 0 a
def Suf (m m':Mt):Prop:=∃ l,m'=l++m
theorem Suf.refl (m:Mt):Suf m m:=⟨[],rfl⟩
theorem Suf.trans {a b c:Mt} (h:Suf a b) (k:Suf b c):Suf a c:=by
 obtain ⟨l,rfl⟩:=h;obtain ⟨l',rfl⟩:=k;exact ⟨l'++l,by simp⟩
theorem Ed:∀ {l:List V},Nk l=true→∀ i (hi:i<l.length),jI 0 l[i]=true
 | [],_,i,hi=>by simp at hi
 | x::l,h,i,hi=>by
  have h:cond (jI 0 x) (Nk l) false=true:=h
  obtain ⟨h1,h2⟩:=ah h
  cases i with
  | zero=>exact h1
  | succ i=>exact Ed h2 i (by simpa using hi)
theorem VR.closed {R R1:Ren} {v:V} {x:Value} (h:VR R1 v x) (ho:oldR v=true):VR R v x:=by
 have hd:Dn 0 R R1:=⟨fun b hb=>by omega,fun b r d hb=>by omega,fun a ha=>by omega⟩
 cases h with
 | tup hl hv =>
  rename_i l vs
  have ho:Nk l=true:=ho
  exact .tup hl fun i a b=>(hv i a b).down hd (Ed ho i a)
 | bad v=>cases ho
 | bool b=>exact .bool b
 | int k n=>exact .int k n
 | str s=>exact .str s
 | nilPtr=>exact .nilPtr
 | ptr h e=>exact VR.down hd (.ptr h e) ho
 | nilSlice=>exact .nilSlice
 | slice h h1 h2 h3=>exact VR.down hd (.slice h h1 h2 h3) ho
 | nilMap=>exact .nilMap
 | map h=>exact VR.down hd (.map h) ho
 | nilFunc=>exact .nilFunc
 | func hl hv hm hv'=>exact VR.down hd (.func hl hv hm hv') ho
 | yld h=>exact VR.down hd (.yld h) ho
 | nilIface=>exact .nilIface
 | agg g hn hg hs hv=>exact VR.down hd (.agg g hn hg hs hv) ho
 | fzN=>exact .fzN
 | fzE h0=>exact .fzE h0
 | fz y hc hl hy hs hg hv h0=>exact VR.down hd (.fz y hc hl hy hs hg hv) ho
 | fp y hc hy hs hg hv=>exact VR.down hd (.fp y hc hy hs hg hv) ho
def EntsOK (P:Program) (es:List Ent):Prop:=∀ e∈es,∀ (args:List V) (H:EH) (m:Mt),YE e.rows H e.args args=some m→SpecCall P e.g args H e.v H
theorem EntsOK.nil:EntsOK P []:=fun _ h=>by cases h
theorem EntsOK.cons {e:Ent} {es:List Ent} (h:∀ (args:List V) (H:EH) (m:Mt),YE e.rows H e.args args=some m→SpecCall P e.g args H e.v H) (k:EntsOK P es):EntsOK P (e::es):=fun e' he=>by
 rcases List.mem_cons.1 he with rfl | he
 ·exact h
 ·exact k e' he
end
end Go.Ev
