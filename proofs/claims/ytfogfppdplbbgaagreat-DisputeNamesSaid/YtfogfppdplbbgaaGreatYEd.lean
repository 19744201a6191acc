/- The evaluator, its answers handed on: where a bool is asked that is no literal, both ways are gone. What it hands on is what the evaluator answers. -/
import Derived.DataReads
import GoSem.ClaimChange
import Derived.Below
import Derived.Carry
import Derived.ProofKit
import Derived.OpenShut
import Derived.Test.YtfogfppdplbbgaaGreatYEc
set_option linter.all false
set_option linter.unusedSimpArgs false
set_option linter.unusedVariables false
namespace Go.Ev
open Go
noncomputable section
variable {α:Type}
def Jt {β:Type} (o:Option β) (z:α) (k:β→α):α:=match o with | some b=>k b | none=>z
structure KP (α:Type) where
 br:Bool→α→α→α
 num:Int→(Int→α)→α
 s:Bool
abbrev Js (α:Type):=Task→(Res→α)→α
section
variable {β:Type} {B:KP α} {φ:α→β} (hφ:∀ c x y,φ (B.br c x y)=cond c (φ x) (φ y)) (hν:∀ n k,φ (B.num n k)=φ (k n))
include hφ
section
variable {P:Program} {f:Task→Option Res} {fK:Js α} {z:α} (hf:∀ t k,φ (fK t k)=Jt (f t) (φ z) (fun r=>φ (k r)))
include hf
end
end
end
end Go.Ev
/- A call's contract: what it answers over the empty heap, with arguments that are frozen, said of each call in whatever heap. -/
namespace Go.Ev
open Go
noncomputable section
variable {P:Program}
inductive Fr0 (H:EH) (k:Nat) (as:Nat→Nat) (new:Nat):V→V→Prop where
 | bool (b:Bool):Fr0 H k as new (.bool b) (.bool b)
 | int (kd:IntKind) (n:Int):Fr0 H k as new (.int kd n) (.int kd n)
 | nilSlice:Fr0 H k as new .nilSlice .nilSlice
 | nilS {q:Bool} {a:Nat} {c:Nat→Nat→V} {e:Nat}:Fr0 H k as new .nilSlice (.fz q a c 0 e)
 | fz {q:Bool} {a a':Nat} {c c':Nat→Nat→V} {len e:Nat} (h0:a≠k) (h1:a<k→a'=as a) (h2:k<a→a'=new) (hs:∀ i j,i<len→j<e→aS (c' i j)=true) (ha:∀ i j,i<len→j<e→Aged a' (c' i j))
  (h:∀ i j,i<len→j<e→Fr0 H k as new (c i j) (c' i j)):Fr0 H k as new (.fz q a c len e) (.fz true a' c' len e)
 | slice {b off len e lo sz g:Nat} {c:T V} {d c':Nat→Nat→V} (hb:H.block b = .mk c lo sz g) (hl:lo≤off) (hz:off+len*e≤sz) (hd:∀ i j,i<len→j<e→c.get (off+(i*e+j))=some (d i j))
  (hs:∀ i j,i<len→j<e→aS (c' i j)=true) (ha:∀ i j,i<len→j<e→Aged new (c' i j)) (h:∀ i j,i<len→j<e→Fr0 H k as new (d i j) (c' i j)):Fr0 H k as new (.slice b off len e) (.fz true new c' len e)
inductive Frz1 (H:EH) (k:Nat) (as:Nat→Nat) (new:Nat):V→V→Prop where
 | one {v v':V} (h:Fr0 H k as new v v'):Frz1 H k as new v v'
 | agg {n:Nat} {c c':T V} (d d':Nat→V) (h1:∀ i,i<n→c.get i=some (d i)) (h2:∀ i,i<n→c'.get i=some (d' i)) (hs:∀ i,i<n→aS (d' i)=true) (h:∀ i,i<n→Fr0 H k as new (d i) (d' i)):Frz1 H k as new (.agg n c) (.agg n c')
inductive FrV (H:EH) (k:Nat) (as:Nat→Nat) (new:Nat):V→V→Prop where
 | one {v v':V} (h:Frz1 H k as new v v'):FrV H k as new v v'
 | tup {l l':List V} (hl:l.length=l'.length) (h:∀ i (h1:i<l.length) (h2:i<l'.length),Frz1 H k as new l[i] l'[i]):FrV H k as new (.tup l) (.tup l')
section
variable {H':EH} {k new:Nat} {as:Nat→Nat} {R' R2:Ren} {w':World} (hr:Rel R' All H' w') (hold:∀ a r cs,a<k→R'.cz a r=some cs→R2.cz (as a) r=some cs)
 (hnew:∀ a r cs,k<a→R'.cz a r=some cs→R2.cz new r=some cs)
 (hobj:∀ b r d o,H'.objs.get b=some o→R'.bm b=some (r,d)→∀ cs t fz,w'.heap[r]?=some (.cells cs t fz)→R2.cz new r=some cs)
include hr hold hnew hobj
end
theorem AL.cons {R:Ren} {v:V} {l:List V} {ys:Array Value}:AL R (v::l) ys↔∃ y t,ys=#[y]++t∧VR R v y∧AL R l t:=by
 constructor
 ·intro ⟨h1,h2⟩
  have hlen:0<ys.size:=by simp at h1;omega
  refine ⟨ys[0],ys.extract 1 ys.size,?_,h2 0 (by simp) hlen,by simp at h1 ⊢;omega,fun i a b=>?_⟩
  ·apply Array.ext
   ·simp;omega
   ·intro i h1 h2
    cases i with
    | zero=>simp
    | succ i=>simp [Nat.add_comm]
  ·have:=h2 (i+1) (by simpa using a) (by simp at b;omega)
   simpa [Nat.add_comm] using this
 ·rintro ⟨y,t,rfl,h1,h2,h3⟩
  refine ⟨by simp [h2];omega,fun i a b=>?_⟩
  cases i with
  | zero=>simpa using h1
  | succ i =>
   have:=h3 i (by simpa using a) (by simp at b;omega)
   simpa [Array.getElem_append] using this
inductive Flat:V→Prop where
 | bool (b:Bool):Flat (.bool b)
 | int (k:IntKind) (n:Int):Flat (.int k n)
theorem Flat.vr {v:V} (h:Flat v) {R R0:Ren} {y:Value} (hy:VR R v y):VR R0 v y:=by
 cases h<;>cases hy
 ·exact .bool _
 ·exact .int _ _
theorem VR.agg_as {R R0:Ren} {n:Nat} {c c':T V} {x:Value} (h:VR R (.agg n c) x) (d d':Nat→V) (h1:∀ i,i<n→c.get i=some (d i)) (h2:∀ i,i<n→c'.get i=some (d' i)) (hs:∀ i,i<n→aS (d' i)=true) (hv:∀ i,i<n→∀ y,VR R (d i) y→VR R0 (d' i) y):VR R0 (.agg n c') x:=by
 cases h with
 | agg g hn hg hs' hv' =>
  refine .agg d' hn h2 hs fun i hi=>hv i (by omega) _ ?_
  have e:=hg i (by omega)
  rw [h1 i (by omega)] at e
  have e:=Option.some.inj e
  rw [e];exact hv' i hi
end
end Go.Ev
/- A run with free numbers as a tree of decisions; hints say which way is gone; what is left to show is read off the tree. -/
namespace Go.Ev
open Go
noncomputable section
inductive D where
 | leaf (p:Prop)
 | br (c:Bool) (a b:D)
 | num (n:Int) (k:Int→D)
inductive HT where
 | nil
 | go (n:Nat) (r:HT)
 | sp (l r:HT)
 | cs (c:Int) (h:HT) (r:HT)
end
end Go.Ev
/- Code in pieces, and loops by their rounds: the state of a loop is a list of values in temporaries; what a round makes is forgotten at its end. -/
namespace Go.Ev
open Go
noncomputable section
variable {P:Program}
def sub (p:List Nat):Code→Code:=List.rec (motive:=fun _=>Code→Code) (fun c=>c)
 (fun k _ ih c=>match c with
  | .seq x y=>(match k with | 0=>ih x | _=>ih y)
  | .block _ x=>ih x
  | .scope x=>ih x
  | .loop x=>ih x
  | .cond _ x y=>(match k with | 0=>ih x | _=>ih y)
  | c=>c) p
def zF (l:List (Nat×V)):T V:=List.rec (motive:=fun _=>T V) .lf (fun p _ ih=>ih.set p.1 p.2) l
def Fq (ts:List Nat):List V→List (Nat×V):=List.rec (motive:=fun _=>List V→List (Nat×V)) (fun _=>[]) (fun t _ ih l=>match l with | []=>[] | v::l=>(t,v)::ih l) ts
theorem TR.clear {R R':Ren} {tm:T V} {n:Nat} {tmps:Array Value} (h:TR R tm n tmps):TR R' .lf n tmps:=⟨h.size,fun _ _=>rfl,fun _ => .bad _⟩
structure LS where
 (l:List V) (rows:List (List V))
inductive Lv where
 | next (s:LS)
 | exit (id:Nat) (s:LS)
 | ret (s:LS)
structure LT where
 (ts xs rs:List Nat) (B:Nat)
def IL (n:Nat) (l:List Nat):Bool:=List.rec (motive:=fun _=>Bool) true (fun x _ ih=>cond (Nat.blt x n) ih false) l
def GY (row:List V) (b:Nat):EO := .cells (T.setL .lf 0 row) 0 (lenV row) b
def setRows (rows:List (List V)):Nat→T EO→T EO:=List.rec (motive:=fun _=>Nat→T EO→T EO) (fun _ t=>t) (fun r _ ih b t=>ih (Nat.succ b) (t.set b (GY r b))) rows
def xk (base:EH) (B:Nat) (rows:List (List V)):EH:=⟨setRows rows B base.objs,base.next,base.grps,big⟩
def Lv.s:Lv→LS
 | .next s=>s
 | .exit _ s=>s
 | .ret s=>s
def Lv.res (lt:LT) (n:Nat) (H:EH):Lv→Res
 | .next s => .normal ⟨zF (Fq lt.ts s.l),n,[]⟩ H
 | .exit id s => .exit id ⟨zF (Fq lt.xs s.l),n,[]⟩ H
 | .ret s => .ret ⟨zF (Fq lt.rs s.l),n,[]⟩ H
structure Kept (R R2:Ren) (B:Nat) (H H2:EH) (w w':World):Prop where
 bm:R2.bm=R.bm
 cz:R2.cz=R.cz
 sim:SimA R R2 (lowTo H big) (lowTo H2 B) w w'
theorem FV {R R2:Ren} {H H2:EH} {x y L:Nat} {w w':World} (h:SimA R R2 (lowTo H x) (lowTo H2 L) w w') (hy:L≤y):SimA R R2 (lowTo H y) (lowTo H2 L) w w' :=
 ⟨⟨h.es.next,hy,h.es.old,h.es.keep,h.es.back,h.es.wf,h.es.wr,h.es.neu⟩,⟨h.rx.same,h.rx.zs,h.rx.neu,h.rx.cz,h.rx.czn⟩,⟨h.fr.os,h.fr.tape,h.fr.output,h.fr.size,h.fr.keep⟩,Rel.weak (SimA.rel h) fun _ _=>trivial⟩
theorem Kept.trans {R R1 R2:Ren} {B:Nat} {H H1 H2:EH} {w w1 w2:World} (h:Kept R R1 B H H1 w w1) (k:Kept R1 R2 B H1 H2 w1 w2):Kept R R2 B H H2 w w2:=⟨k.bm.trans h.bm,k.cz.trans h.cz,h.sim.trans (FV k.sim (Nat.le_refl B))⟩
def PostL (base:EH) (lt:LT) (n:Nat) (R:Ren) (H:EH) (lv:Lv) (w:World):Exit→Act→World→Prop:=fun e A w'=>∃ R2,Kept R R2 lt.B H (xk base lt.B lv.s.rows) w w'∧pz R2 (lv.res lt n (xk base lt.B lv.s.rows)) e A
theorem PostL.trans {base:EH} {lt:LT} {n:Nat} {R R1:Ren} {H H1:EH} {lv:Lv} {w w1:World} (k:Kept R R1 lt.B H H1 w w1):∀ e A w',PostL base lt n R1 H1 lv w1 e A w'→PostL base lt n R H lv w e A w':=fun _ _ _ ⟨R2,k2,x⟩=>⟨R2,k.trans k2,x⟩
theorem Ro.kept {R R1:Ren} (h:R1.bm=R.bm):∀ {ro rr:Option Nat},Ro R ro rr→Ro R1 ro rr
 | none,none,_=>trivial
 | some l,some _,q=>by show R1.bm l=_;rw [h];exact q
 | none,some _,q=>q
 | some _,none,q=>q
theorem Kept.rel {R R1:Ren} {B:Nat} {base:EH} {H:EH} {rows:List (List V)} {w w1:World} (k:Kept R R1 B H (xk base B rows) w w1):Rel R1 All (xk base B rows) w1∧WF (xk base B rows):=by
 have h1:=SimA.rel k.sim
 have h2:=SimA.wf k.sim
 exact ⟨⟨h1.img,fun b o r d ho hb=>(h1.obj b o r d ho hb).mono (.refl _) hb rfl id (fun v=>by cases o<;>exact v),h1.inj,h1.frz⟩,⟨h2.lt,h2.root,h2.uniq,h2.gdom⟩⟩
end
end Go.Ev
/- What a law is called with, as the evaluator has it: numbers, bools, structs and slices of these; what lies in memory is frozen, of the age 0. -/
namespace Go.Ev
open Go
noncomputable section
variable {P:Program}
def DW (P:Program):Nat→TypeId→List TypeId
 | 0,_=>[]
 | n+1,t=>match P.underlying t with
  | some (.struct fs)=>fs.toList.flatMap fun f=>DW P n f.type
  | _=>[t]
def ShC (P:Program):Nat→TypeId→V→Prop
 | 0,_,_=>False
 | m+1,t,v=>match P.underlying t with
  | some .bool=>∃ b,v = .bool b
  | some (.int k)=>∃ n,v = .int k n∧k.min≤n∧n≤k.max
  | some (.slice e)=>∃ c len,v = .fz true 0 c len (P.cellsOf e)∧∀ i,i<len→∀ j u,(DW P 8 e)[j]?=some u→ShC P m u (c i j)
  | _=>False
theorem ShC.up:∀ m t v,ShC P m t v→ShC P (m+1) t v:=by
 intro m
 induction m with
 | zero=>intro t v h;cases h
 | succ m ih =>
  intro t v h
  unfold ShC at h ⊢
  split at h
  ·exact h
  ·exact h
  ·obtain ⟨c,len,h1,h2⟩:=h
   exact ⟨c,len,h1,fun i hi j u hj=>ih _ _ (h2 i hi j u hj)⟩
  ·exact h.elim
def JG (w:World):Ren:=⟨fun _=>none,fun _=>0,fun a r=>if a=0 then (match w.heap[r]? with | some (.cells cs _ _)=>some cs | _=>none) else none⟩
def CellOk (P:Program) (w:World) (m:Nat) (u:TypeId) (x:Value):Prop:=∃ v,VR (JG w) v x∧aS v=true∧Aged 0 v∧ShC P m u v
theorem CellOk.up {w:World} {m:Nat} {u:TypeId} {x:Value} (h:CellOk P w m u x):CellOk P w (m+1) u x:=let ⟨v,h1,h2,h3,h4⟩:=h;⟨v,h1,h2,h3,h4.up⟩
end
end Go.Ev
/- Contracts: a call's value by its arguments' numbers, whatever the heap; arguments are numbers, bools, structs of these, frozen rows of numbers, functions. -/
namespace Go.Ev
open Go
noncomputable section
variable {P:Program}
def xO (k:IntKind) (f:Nat→Nat→Int):Nat→Nat→V:=fun i j => .int k (f i j)
inductive CK where
 | i
 | b
 | r (e:Nat)
inductive D0 where
 | i (k:IntKind) (n:Int)
 | b (b:Bool)
 | sl (e len:Nat) (f:Nat→Nat→Int)
 | rr (e len:Nat) (ls:Nat→Nat) (f:Nat→Nat→Nat→Int)
 | rw (ks:List CK) (len:Nat) (fi:Nat→Nat→Int) (fb:Nat→Nat→Bool) (ls:Nat→Nat→Nat) (fr:Nat→Nat→Nat→Nat→Int)
inductive DA where
 | one (d:D0)
 | st (l:List D0)
 | fn (f:FuncId)
 | cl (f:FuncId) (l:List D0)
def I7 (n e:Nat) (ls:Nat→Nat) (f:Nat→Nat→Nat→Int):Nat→Nat→V:=fun i _ => .fz true n (xO .i64 (f i)) (ls i) e
def JM (ks:List CK):Nat→CK:=List.rec (motive:=fun _=>Nat→CK) (fun _ => .i) (fun k _ ih j=>match j with | 0=>k | Nat.succ j=>ih j) ks
def cellW (n:Nat) (fi:Nat→Nat→Int) (fb:Nat→Nat→Bool) (ls:Nat→Nat→Nat) (fr:Nat→Nat→Nat→Nat→Int) (i j:Nat) (k:CK):V:=match k with | .i => .int .i64 (fi i j) | .b => .bool (fb i j) | .r e => .fz true n (xO .i64 (fr i j)) (ls i j) e
def Hy (n:Nat) (ks:List CK) (fi:Nat→Nat→Int) (fb:Nat→Nat→Bool) (ls:Nat→Nat→Nat) (fr:Nat→Nat→Nat→Nat→Int):Nat→Nat→V:=fun i j=>cellW n fi fb ls fr i j (JM ks j)
def Jo (ks:List CK):Nat:=List.rec (motive:=fun _=>Nat) 0 (fun _ _ ih=>Nat.succ ih) ks
def IP (d:D0) (n:Nat):V:=match d with | .i k m => .int k m | .b b => .bool b | .sl e len f => .fz true n (xO .i64 f) len e | .rr e len ls f => .fz true n (I7 n e ls f) len 1 | .rw ks len fi fb ls fr => .fz true n (Hy n ks fi fb ls fr) len (Jo ks)
def nxA (d:D0) (n:Nat):Nat:=match d with | .sl _ _ _=>Nat.succ n | .rr _ _ _ _=>Nat.succ n | .rw _ _ _ _ _ _=>Nat.succ n | _=>n
def IQ (l:List D0):Nat→List V:=List.rec (motive:=fun _=>Nat→List V) (fun _=>[]) (fun d _ ih n=>IP d n::ih (nxA d n)) l
def nxL (l:List D0):Nat→Nat:=List.rec (motive:=fun _=>Nat→Nat) (fun n=>n) (fun d _ ih n=>ih (nxA d n)) l
def JH (d:DA) (n:Nat):V:=match d with | .one d=>IP d n | .st l => .agg (fD l) (T.setL .lf 0 (IQ l n)) | .fn f => .func f [] [] | .cl f l => .func f [.agg (fD l) (T.setL .lf 0 (IQ l n))] []
def nxD (d:DA) (n:Nat):Nat:=match d with | .one d=>nxA d n | .st l=>nxL l n | .fn _=>n | .cl _ l=>nxL l n
def enc (l:List DA):Nat→List V:=List.rec (motive:=fun _=>Nat→List V) (fun _=>[]) (fun d _ ih n=>JH d n::ih (nxD d n)) l
def Jm (v:V):Bool:=match v with | .bool _=>true | .int _ _=>true | _=>false
abbrev AH:=EA×EH
def toA (o:Option AH):EA:=match o with | some p=>p.1 | none=>⟨.lf,0,[]⟩
end
end Go.Ev
/- Loops that write no old row, where only some of the heap's rows matter. -/
namespace Go.Ev
open Go
noncomputable section
variable {P:Program}
def setAt (rows:List (Nat×List V)) (t:T EO):T EO:=List.rec (motive:=fun _=>T EO) t (fun r _ ih=>ih.set r.1 (GY r.2 r.1)) rows
end
end Go.Ev
/- A law's last step: it returned true, all that there was is as it was: then its arguments read as before. -/
namespace Go.Law
open Go Go.ChangeShapes Go.WideShapes Go.RowKit
variable {H:Type} {enc:TypeId×Value→H} {P:Program}
theorem su (hl:laidOutB P=true) {W W':World} (hb:Below W.heap.size W W'):∀ {ts:List TypeId} {vs:List Value} {ds:List (DataW H)} {ps:List MemPlace},(∀ t∈ts,P.readableRec t=true∧t<P.types.size)→(∀ p∈ps,p.block<W.heap.size) →
 DataW.TrodAll enc P W 0 (fun _=>true) true ts vs ds ps→DataW.TrodAll enc P W' 0 (fun b=>decide (b<W.heap.size)) true ts vs ds ps
 | [],vs,ds,ps,_,_,h=>by
  obtain ⟨rfl,rfl,rfl⟩:=trodAll_nil h
  exact trodAll_mk0
 | t::ts,vs,ds,ps,ht,hp,h=>by
  obtain ⟨v,vs',d,ds',p,q,rfl,rfl,rfl,h1,h2⟩:=trodAll_cons h
  obtain ⟨r1,r2⟩:=ht t (by simp)
  exact trodAll_cons_mk (hb.trod hl r1 r2 h1 (fun x hx=>hp x (by simp [hx]))) (su hl hb (fun t' h'=>ht t' (by simp [h'])) (fun x hx=>hp x (by simp [hx])) h2)
theorem law_post {f:Func} {s:ChangeSpec} {apart fresh handsOn:Bool} {W W':World} {args:Array Value} {ds gs:List (DataW H)} {before:List MemPlace} (hl:laidOutB P=true) {tb:TypeId} (hf:f.resultTypes=#[tb]) (htb:P.underlying tb=some .bool)
 (hread:∀ t∈f.params.toList,P.readableRec t=true∧t<P.types.size) (hvars:s.vars=[]) (hW:DataW.Whole enc P f.params.toList s.vars apart W args.toList ds gs before)
 (hres:(s.fn H ds).results=[.lit (.bool true)]) (hargs:(s.fn H ds).args=ds) (hvs:(s.fn H ds).vars=[]) (hb:Below W.heap.size W W'):s.post enc P f apart fresh handsOn false W args (.bool true) W':=by
 have hlt:=hW.lt
 have hW':=hW
 obtain ⟨p,q,h1,h2,rfl,_,_⟩:=hW'
 rw [hvars] at h2
 obtain ⟨rfl,rfl⟩:=trodVars_none h2
 have hlt':∀ x∈p,x.block<W.heap.size:=fun x hx=>hlt x (by simp [hx])
 refine ⟨ds,[],p++[],[],p,[],hW,?_,?_,?_,World.keptBut_mono (fun x hx=>⟨hx,.inr (.inl (by simpa using hx))⟩) (hb.frame _),fun h=>by cases h⟩
 ·rw [hf,List.append_nil,hres]
  exact trodAll_cons_mk (shut_bool htb true) trodAll_mk0
 ·rw [List.append_nil,hargs]
  exact su hl hb hread hlt' h1
 ·rw [List.append_nil,hvars,hvs]
  rfl
end Go.Law
