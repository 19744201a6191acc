/- Contracts, where rows of numbers that lie in memory are handed in: they are read as if they were frozen, as long as the call runs. -/
import Derived.Test.YtflblednifbleaaYEd
set_option linter.all false
set_option linter.unusedSimpArgs false
set_option linter.unusedVariables false
namespace Go.Ev
open Go
noncomputable section
variable {P:Program}
end
end Go.Ev
/- Loops whose rounds may append to a row, within other calls too: what a round leaves is packed: of what is new one row is kept at most, under a name of its own. -/
namespace Go.Ev
open Go
noncomputable section
variable {P:Program}
inductive Plc where
 | tmp (t:Nat)
 | cell (b j:Nat)
structure Acc where
 (nm rt sz:Nat) (c:T V) (plc:Plc) (lit:Bool)
structure GS where
 (l:List V) (rows:List (Nat×List V)) (acc:Option Acc)
def Lh (rows:List (Nat×List V)) (b:Nat):Option (List V):=List.rec (motive:=fun _=>Option (List V)) none (fun r _ ih=>cond (Nat.beq r.1 b) (some r.2) ih) rows
theorem qQ:∀ (rows:List (Nat×List V)) (t:T EO) (b:Nat),(setAt rows t).get b=match Lh rows b with | some row=>some (oK row b) | none=>t.get b
 | [],t,b=>rfl
 | r::rows,t,b=>by
  show ((setAt rows t).set r.1 (oK r.2 r.1)).get b=(match cond (Nat.beq r.1 b) (some r.2) (Lh rows b) with | some row=>some (oK row b) | none=>t.get b)
  rw [T.get_set,aH]
  by_cases e:b=r.1
  ·rw [if_pos e,if_pos e.symm];subst e;rfl
  ·rw [if_neg e,if_neg (fun q=>e q.symm)];exact qQ rows t b
def UR (x:Option Acc) (t:T EO):T EO:=match x with | some x=>t.set x.nm (.cells x.c 0 x.sz x.rt) | none=>t
def VL (x:Option Acc) (gs:T qo) (g:Nat):Option qo:=match x with | some x=>cond (Nat.beq x.rt g) (cond (Nat.beq x.rt x.nm) none (some (GR x.nm))) (gs.get g) | none=>gs.get g
def gsH (base:EH) (NX low:Nat) (s:GS):EH:=⟨UR s.acc (setAt s.rows base.objs),NX,.fn (VL s.acc base.grps),low⟩
def gsA (ts:List Nat) (n:Nat) (s:GS):EA:=⟨iU (lF ts s.l),n,[]⟩
def Us (base:EH) (L:Nat) (rows:List (Nat×List V)):Bool:=List.rec (motive:=fun _=>Bool) true (fun r _ ih=>cond (Nat.ble L r.1) (cond (Nat.blt r.1 base.next) (match base.objs.get r.1 with | some (.cells _ _ _ g)=>cond (Nat.beq g r.1) (cond (pJ r.2) ih false) false | _=>false) false) false) rows
def Yb (base:EH) (L NX:Nat) (x:Option Acc):Bool:=match x with
 | some x=>cond (Nat.ble base.next x.nm) (cond (Nat.blt x.nm NX) (cond (Nat.beq x.rt x.nm) true (cond (Nat.ble L x.rt) (Nat.blt x.rt base.next) false)) false) false
 | none=>true
def XI (base:EH) (L NX:Nat) (s:GS):Bool:=cond (Us base L s.rows) (Yb base L NX s.acc) false
def U8 (base:EH) (L NX M n:Nat) (ts:List Nat):Bool:=cond (iC n ts) (cond (Nat.ble L base.next) (cond (Nat.ble L big) (cond (Nat.ble base.next NX) (Nat.ble NX M) false) false) false) false
def Xb (c:T V) (sz:Nat):Prop:=∀ i,i<sz→∃ v,c.get i=some v∧AY v=true
def J9 (x:Option Acc):Prop:=match x with | some x=>Xb x.c x.sz | none=>True
inductive EndK where
 | exit (id:Nat)
 | ret
def EndK.res (e:EndK) (a:EA) (H:EH):Res:=match e with | .exit id => .exit id a H | .ret => .ret a H
theorem EndK.res_H (e:EndK) (a:EA) (H:EH):(e.res a H).H=H:=by cases e<;>rfl
theorem Ro.sim {R R2:Ren} {H H2:EH} {w w':World} (h:SimA R R2 H H2 w w') (hf:Free R H H2) (hr:Rel R All H w) {ro rr:Option Nat} (q:Ro R ro rr):Ro R2 ro rr:=q.mono (h.le hr hf)
end
end Go.Ev
/- Code by packed states: pieces one after another, loops, all over one heap. -/
namespace Go.Ev
open Go
noncomputable section
variable {P:Program}
inductive Ok where
 | normal
 | exit (id:Nat)
 | ret
def Ok.res (o:Ok) (a:EA) (H:EH):Res:=match o with | .normal => .normal a H | .exit id => .exit id a H | .ret => .ret a H
theorem Ok.res_H (o:Ok) (a:EA) (H:EH):(o.res a H).H=H:=by cases o<;>rfl
structure Env where
 (base:EH) (L NX M n:Nat)
structure TS where
 (ts:List Nat) (s:GS)
def Env.H (E:Env) (x:TS):EH:=gsH E.base E.NX big x.s
def Env.A (E:Env) (x:TS):EA:=gsA x.ts E.n x.s
def Env.okB (E:Env) (x:TS):Bool:=cond (U8 E.base E.L E.NX E.M E.n x.ts) (XI E.base E.L E.NX x.s) false
def Env.ok (E:Env) (x:TS):Prop:=E.okB x=true∧J9 x.s.acc
theorem Env.ok_get {E:Env} {x:TS} (h:E.ok x):U8 E.base E.L E.NX E.M E.n x.ts=true∧XI E.base E.L E.NX x.s=true∧J9 x.s.acc:=by
 obtain ⟨h1,h2⟩:=ax h.1
 exact ⟨h1,h2,h.2⟩
theorem Env.le {E:Env} {x:TS} (h:E.ok x):E.base.next≤E.NX∧E.NX≤E.M∧E.L≤big:=by
 obtain ⟨_,h⟩:=ax (Env.ok_get h).1
 obtain ⟨_,h⟩:=ax h
 obtain ⟨h3,h⟩:=ax h
 obtain ⟨h1,h2⟩:=ax h
 exact ⟨Nat.le_of_ble_eq_true h1,Nat.le_of_ble_eq_true h2,Nat.le_of_ble_eq_true h3⟩
def Ok.block (o:Ok) (id:Nat):Ok:=match o with | .exit id'=>cond (Nat.beq id' id) .normal (.exit id') | o=>o
def wV (P:Program) (g:FuncId) (r:Res):Option Res:=match P.funcs[g]? with | some fn=>dW P fn (some r) | none=>none
theorem UY {g:FuncId} {args:List V} {H H':EH} {r:Res} {v:V} (s:Bool) (h1:Gp P g args=true) (hJ:J P none (dV P g) ⟨gJ s args,uA P g,[]⟩ H r) (ha:wV P g r=some (.v v H')):SpecCall P g args H v H':=by
  unfold Gp at h1
  unfold wV at ha
  unfold dV uA at hJ
  cases hf:P.funcs[g]? with
  | none=>rw [hf] at h1;cases h1
  | some fn =>
    rw [hf] at h1 ha hJ
    simp only at h1 ha hJ
    cases hn : decide (fn.name = "runtime.NumGoroutine") with
    | true=>rw [hn] at h1;cases h1
    | false =>
      rw [hn] at h1
      simp only [cond_false] at h1
      cases hb:fn.body with
      | none=>rw [hb] at h1;cases h1
      | some c =>
        rw [hb] at h1 hJ
        simp only at h1 hJ
        exact Xv hf hn hb h1 hJ ha
def resD (P:Program) (g:FuncId) (φ:V→EH→Prop) (r:Res):Prop:=match wV P g r with | some (.v v H)=>φ v H | _=>False
end
end Go.Ev
/- Contracts whose values hold new rows, also where arguments lie in memory; closed calls as contracts. -/
namespace Go.Ev
open Go
noncomputable section
variable {P:Program}
inductive Fn0 (H:EH) (k new:Nat):V→V→Prop where
 | bool (b:Bool):Fn0 H k new (.bool b) (.bool b)
 | int (kd:IntKind) (n:Int):Fn0 H k new (.int kd n) (.int kd n)
 | nilSlice:Fn0 H k new .nilSlice .nilSlice
 | nilS {q:Bool} {a:Nat} {c:Nat→Nat→V} {e:Nat}:Fn0 H k new .nilSlice (.fz q a c 0 e)
 | fz {q:Bool} {a:Nat} {c c':Nat→Nat→V} {len e:Nat} (h0:k<a) (hs:∀ i j,i<len→j<e→dE (c' i j)=true) (ha:∀ i j,i<len→j<e→Aged new (c' i j))
  (h:∀ i j,i<len→j<e→Fn0 H k new (c i j) (c' i j)):Fn0 H k new (.fz q a c len e) (.fz true new c' len e)
 | slice {b off len e lo sz g:Nat} {c:T V} {d c':Nat→Nat→V} (hb:H.block b = .mk c lo sz g) (hl:lo≤off) (hz:off+len*e≤sz) (hd:∀ i j,i<len→j<e→c.get (off+(i*e+j))=some (d i j))
  (hs:∀ i j,i<len→j<e→dE (c' i j)=true) (ha:∀ i j,i<len→j<e→Aged new (c' i j)) (h:∀ i j,i<len→j<e→Fn0 H k new (d i j) (c' i j)):Fn0 H k new (.slice b off len e) (.fz true new c' len e)
inductive Fn1 (H:EH) (k new:Nat):V→V→Prop where
 | one {v v':V} (h:Fn0 H k new v v'):Fn1 H k new v v'
 | agg {n:Nat} {c c':T V} (d d':Nat→V) (h1:∀ i,i<n→c.get i=some (d i)) (h2:∀ i,i<n→c'.get i=some (d' i)) (hs:∀ i,i<n→dE (d' i)=true) (h:∀ i,i<n→Fn0 H k new (d i) (d' i)):Fn1 H k new (.agg n c) (.agg n c')
inductive FnV (H:EH) (k new:Nat):V→V→Prop where
 | one {v v':V} (h:Fn1 H k new v v'):FnV H k new v v'
 | tup {l l':List V} (hl:l.length=l'.length) (h:∀ i (h1:i<l.length) (h2:i<l'.length),Fn1 H k new l[i] l'[i]):FnV H k new (.tup l) (.tup l')
section
variable {H':EH} {k new:Nat} {R' R2:Ren} {w':World} (hr:Rel R' All H' w')
 (hnew:∀ a r cs,k<a→R'.cz a r=some cs→R2.cz new r=some cs)
 (hobj:∀ b r d o,H'.objs.get b=some o→R'.bm b=some (r,d)→∀ cs t fz,w'.heap[r]?=some (.cells cs t fz)→R2.cz new r=some cs)
include hr hnew hobj
theorem Oz {v v':V} (h:Fn0 H' k new v v'):∀ {x:Value},VR R' v x→VR R2 v' x:=by
 induction h with
 | bool b=>intro x hx;cases hx;exact .bool b
 | int kd n=>intro x hx;cases hx;exact .int kd n
 | nilSlice=>intro x hx;cases hx;exact .nilSlice
 | nilS=>intro x hx;cases hx;exact .fzN
 | fz h0 hs ha _ ih =>
  intro x hx
  cases hx with
  | fzN=>exact .fzN
  | fzE h0=>exact .fzE (fun q=>by cases q)
  | fz y hc hl hy hs' ha' hv _=>exact .fz y (hnew _ _ _ h0 hc) hl hy hs ha fun i j hi hj=>ih i j hi hj (hv i j hi hj)
 | slice hb hl hz hd hs ha _ ih =>
  rename_i b off len e lo sz g c d c' h
  intro x hx
  cases hx with
  | slice hm ho hle hzz =>
   rename_i r dd o cap
   obtain ⟨cs,t,fz,a1,a2,a3,a4⟩:=hr.row hb hm trivial
   have hcz:=hobj b r dd _ (aV hb).1 hm cs t fz a1
   by_cases h0:len=0
   ·subst h0;exact .fzE (fun q=>by cases q)
   ·have hcap:cap≠0:=by omega
    have ho':=ho hcap
    have key:∀ i j,i<len→j<e→∃ y,cs[o+(i*e+j)]?=some y∧VR R' (d i j) y:=fun i j hi hj=>by
     have hlt:i*e+j<len*e:=by
      have:(i+1)*e≤len*e:=Nat.mul_le_mul_right _ hi
      rw [Nat.add_mul] at this;omega
     obtain ⟨p,x,y,e1,e2,e3,e4⟩:=a4 (off+(i*e+j)) (by omega) (by omega)
     rw [hd i j hi hj] at e1;cases e1
     rw [show off+(i*e+j)-dd=o+(i*e+j) by omega] at e3
     exact ⟨y,e3,e4⟩
    refine .fz (fun i j=>if h:i<len∧j<e then (key i j h.1 h.2).choose else undef) hcz hle (fun i j hi hj=>?_) hs ha fun i j hi hj=>?_
    ·show _=some (if h:i<len∧j<e then (key i j h.1 h.2).choose else undef)
     rw [dif_pos ⟨hi,hj⟩];exact (key i j hi hj).choose_spec.1
    ·show VR R2 (c' i j) (if h:i<len∧j<e then (key i j h.1 h.2).choose else undef)
     rw [dif_pos ⟨hi,hj⟩];exact ih i j hi hj (key i j hi hj).choose_spec.2
theorem QO {v v':V} (h:Fn1 H' k new v v') {x:Value} (hx:VR R' v x):VR R2 v' x:=by
 cases h with
 | one h=>exact Oz hr hnew hobj h hx
 | agg d d' h1 h2 hs h=>exact hx.agg_as d d' h1 h2 hs fun i hi y hy=>Oz hr hnew hobj (h i hi) hy
theorem Wx {v v':V} (h:FnV H' k new v v') {x:Value} (hx:VR R' v x):VR R2 v' x:=by
 cases h with
 | one h=>exact QO hr hnew hobj h hx
 | tup hl h =>
  cases hx with
  | tup hl' hv=>exact .tup (by omega) fun i h1 h2=>QO hr hnew hobj (h i (by omega) h1) (hv i (by omega) h2)
end
def GL (n:Nat) (v:V):V:=match v with | .fz _ _ c len e => .fz true n c len e | v=>v
def Ej (n:Nat) (v:V):V:=match v with | .fz _ _ c len e => .fz true n (fun i j=>GL n (c i j)) len e | v=>v
def KY (n:Nat) (l:List V):List V:=List.rec (motive:=fun _=>List V) [] (fun v _ ih=>Ej n v::ih) l
def zy (n:Nat) (v:V):V:=match v with | .tup l => .tup (KY n l) | v=>Ej n v
structure CL where
 (g:FuncId) (das:List DA) (v:V)
def ql (v v':V):Bool:=match v,v' with
 | .bool x,.bool y=>iq x y
 | .int k x,.int k' y=>cond (gz k k') (aK x y) false
 | .nilSlice,.nilSlice=>true
 | _,_=>false
def rowB (one:V→V→Bool) (H:EH) (v v':V):Bool:=match v,v' with
 | .slice b off len e,.fz _ _ c' len' e'=>cond (Nat.beq len len') (cond (Nat.beq e e') (match H.block b with
  | .mk c lo sz _=>cond (Nat.ble lo off) (cond (Nat.ble (Nat.add off (Nat.mul len e)) sz) (dP (fun i=>dP (fun j=>match c.get (Nat.add off (Nat.add (Nat.mul i e) j)) with | some v=>one v (c' i j) | none=>false) e) len) false) false
  | .no=>false) false) false
 | .nilSlice,.fz _ _ _ len _=>Nat.beq len 0
 | v,v'=>ql v v'
def Vh (H:EH) (v v':V):Bool:=rowB ql H v v'
def Vd (H:EH) (v v':V):Bool:=rowB (Vh H) H v v'
def cellsB (one:V→V→Bool) (c c':T V) (n:Nat):Bool:=dP (fun i=>match c.get i,c'.get i with | some v,some v'=>one v v' | _,_=>false) n
def Ag (H:EH) (v v':V):Bool:=match v,v' with
 | .agg n c,.agg n' c'=>cond (Nat.beq n n') (cellsB ql c c' n) false
 | v,v'=>Vd H v v'
def Qh (H:EH) (l:List V):List V→Bool:=List.rec (motive:=fun _=>List V→Bool) (fun m=>match m with | []=>true | _=>false) (fun v _ ih m=>match m with | v'::m=>cond (Ag H v v') (ih m) false | []=>false) l
def V8 (H:EH) (v v':V):Bool:=match v,v' with
 | .tup l,.tup l'=>Qh H l l'
 | v,v'=>Ag H v v'
theorem o6 {H:EH} {k new:Nat} {v v':V} (h:ql v v'=true):Fn0 H k new v v'∧dE v'=true∧∀ n,Aged n v':=by
 unfold ql at h
 split at h
 ·have:=rf h;subst this;exact ⟨.bool _,rfl,fun _ => .bool _⟩
 ·obtain ⟨h1,h2⟩:=ax h
  have:=mi h1;subst this
  have:=Lu h2;subst this
  exact ⟨.int _ _,rfl,fun _ => .int _ _⟩
 ·exact ⟨.nilSlice,rfl,fun _ => .nilSlice⟩
 ·cases h
theorem AO {v v':V} (h:ql v v'=true) (new:Nat):GL new v'=v'∧Ej new v'=v':=by
 unfold ql at h
 split at h
 ·exact ⟨rfl,rfl⟩
 ·exact ⟨rfl,rfl⟩
 ·exact ⟨rfl,rfl⟩
 ·cases h
theorem yc {one:V→V→Bool} {H:EH} {v v':V} (h:rowB one H v v'=true):ql v v'=true∨(v = .nilSlice∧∃ q a c e,v' = .fz q a c 0 e)∨∃ b off len e q a c' c lo sz g,v = .slice b off len e∧v' = .fz q a c' len e∧H.block b = .mk c lo sz g∧lo≤off∧off+len*e≤sz∧∀ i j,i<len→j<e→∃ x,c.get (off+(i*e+j))=some x∧one x (c' i j)=true:=by
 unfold rowB at h
 split at h
 ·rename_i b off len e q a c' len' e'
  obtain ⟨h1,hA⟩:=ax h
  obtain ⟨h2,hB⟩:=ax hA
  have e1:=nb h1
  have e2:=nb h2
  clear h hA h1 h2
  subst e1
  subst e2
  split at hB
  ·rename_i c lo sz g hb
   obtain ⟨h3,hC⟩:=ax hB
   obtain ⟨h4,h5⟩:=ax hC
   refine .inr (.inr ⟨b,off,len,e,q,a,c',c,lo,sz,g,rfl,rfl,hb,Nat.le_of_ble_eq_true h3,Nat.le_of_ble_eq_true h4,fun i j hi hj=>?_⟩)
   have:=aQ (aQ h5 i hi) j hj
   have this:(match c.get (off+(i*e+j)) with | some v=>one v (c' i j) | none=>false)=true:=this
   split at this
   ·rename_i x hx;exact ⟨x,hx,this⟩
   ·cases this
  ·cases hB
 ·rename_i q a c' len' e'
  have:=nb h;subst this
  exact .inr (.inl ⟨rfl,q,a,c',e',rfl⟩)
 ·exact .inl h
theorem O0 {H:EH} {k new:Nat} {v v':V} (h:Vh H v v'=true):Fn0 H k new v (GL new v')∧dE (GL new v')=true∧Aged new (GL new v'):=by
 rcases yc h with h | ⟨rfl,q,a,c,e,rfl⟩ | ⟨b,off,len,e,q,a,c',c,lo,sz,g,rfl,rfl,hb,h1,h2,h3⟩
 ·rw [(AO h new).1]
  obtain ⟨a,b,c⟩:=o6 (H:=H) (k:=k) (new:=new) h
  exact ⟨a,b,c _⟩
 ·exact ⟨.nilS,rfl,.fz _ (Nat.le_refl _) fun i j hi=>absurd hi (by omega)⟩
 ·have key:∀ i j,i<len→j<e→∃ x,c.get (off+(i*e+j))=some x∧Fn0 H k new x (c' i j)∧dE (c' i j)=true∧Aged new (c' i j):=fun i j hi hj=>by
   obtain ⟨x,q1,q2⟩:=h3 i j hi hj
   obtain ⟨a,b,c⟩:=o6 (H:=H) (k:=k) (new:=new) q2
   exact ⟨x,q1,a,b,c _⟩
  refine ⟨.slice (d:=fun i j=>(c.get (off+(i*e+j))).getD .bad) hb h1 h2 (fun i j hi hj=>?_) (fun i j hi hj=>?_) (fun i j hi hj=>?_) (fun i j hi hj=>?_),rfl,.fz _ (Nat.le_refl _) fun i j hi hj=>?_⟩
  all_goals obtain ⟨x,q1,q2,q3,q4⟩:=key i j hi hj
  ·simp only [q1];rfl
  ·exact q3
  ·exact q4
  ·simp only [q1];exact q2
  ·exact q4
theorem Rl {H:EH} {k new:Nat} {v v':V} (h:Vd H v v'=true):Fn0 H k new v (Ej new v'):=by
 rcases yc h with h | ⟨rfl,q,a,c,e,rfl⟩ | ⟨b,off,len,e,q,a,c',c,lo,sz,g,rfl,rfl,hb,h1,h2,h3⟩
 ·rw [(AO h new).2];exact (o6 h).1
 ·exact .nilS
 ·have key:∀ i j,i<len→j<e→∃ x,c.get (off+(i*e+j))=some x∧Fn0 H k new x (GL new (c' i j))∧dE (GL new (c' i j))=true∧Aged new (GL new (c' i j)):=fun i j hi hj=>by
   obtain ⟨x,q1,q2⟩:=h3 i j hi hj
   exact ⟨x,q1,O0 q2⟩
  refine .slice (d:=fun i j=>(c.get (off+(i*e+j))).getD .bad) hb h1 h2 (fun i j hi hj=>?_) (fun i j hi hj=>?_) (fun i j hi hj=>?_) (fun i j hi hj=>?_)
  all_goals obtain ⟨x,q1,q2,q3,q4⟩:=key i j hi hj
  ·simp only [q1];rfl
  ·exact q3
  ·exact q4
  ·simp only [q1];exact q2
theorem D6 {H:EH} {k new:Nat} {v v':V} (h:Ag H v v'=true):Fn1 H k new v (Ej new v'):=by
 unfold Ag at h
 split at h
 ·rename_i n c n' c'
  obtain ⟨h1,h2⟩:=ax h
  have:=nb h1;subst this
  have key:∀ i,i<n→∃ x x',c.get i=some x∧c'.get i=some x'∧ql x x'=true:=fun i hi=>by
   have:=aQ h2 i hi
   have this:(match c.get i,c'.get i with | some v,some v'=>ql v v' | _,_=>false)=true:=this
   split at this
   ·rename_i x x' h1 h2;exact ⟨x,x',h1,h2,this⟩
   ·cases this
  refine .agg (fun i=>(c.get i).getD .bad) (fun i=>(c'.get i).getD .bad) (fun i hi=>?_) (fun i hi=>?_) (fun i hi=>?_) (fun i hi=>?_)
  all_goals obtain ⟨x,x',q1,q2,q3⟩:=key i hi
  ·simp only [q1];rfl
  ·simp only [q2];rfl
  ·simp only [q2];exact (o6 (H:=H) (k:=k) (new:=new) q3).2.1
  ·simp only [q1,q2];exact (o6 q3).1
 ·exact .one (Rl h)
theorem AZ {H:EH}:∀ {l l':List V},Qh H l l'=true→l.length=l'.length∧∀ i (h1:i<l.length) (h2:i<l'.length),Ag H l[i] l'[i]=true
 | [],[],_=>⟨rfl,fun i h1=>by simp at h1⟩
 | [],_::_,h=>by cases h
 | _::_,[],h=>by cases h
 | v::l,v'::l',h=>by
  obtain ⟨h1,h2⟩:=ax (show cond (Ag H v v') (Qh H l l') false=true from h)
  obtain ⟨e1,e2⟩:=AZ h2
  refine ⟨by simp [e1],fun i q1 q2=>?_⟩
  cases i with
  | zero=>exact h1
  | succ i=>exact e2 i (by simpa using q1) (by simpa using q2)
theorem NP (n:Nat) (l:List V):KY n l=l.map (Ej n):=by
 induction l with
 | nil=>rfl
 | cons v l ih=>show Ej n v::KY n l=_;rw [ih];rfl
theorem TI {H:EH} {k:Nat} {v v':V} (h:V8 H v v'=true):∀ new,FnV H k new v (zy new v'):=fun new=>by
 unfold V8 at h
 split at h
 ·rename_i l l'
  obtain ⟨e1,e2⟩:=AZ h
  show FnV H k new (.tup l) (.tup (KY new l'))
  rw [NP]
  exact .tup (by simp [e1]) fun i h1 h2=>by
   rw [List.getElem_map]
   exact D6 (e2 i h1 (by simpa using h2))
 ·rename_i hn
  have h1:Fn1 H k new v (Ej new v'):=D6 h
  cases v' with
  | tup l' =>
   cases v with
   | tup l=>exact (hn l l' rfl rfl).elim
   | _=>cases h
  | _=>exact .one h1
end
end Go.Ev
/- Runs whose conditions are shown, in a form that no elaborator unfolds. -/
namespace Go.Ev
open Go
noncomputable section
variable {P:Program}
structure VC (d:D) (h:HT):Prop where
 ok:vc d h
theorem aJ (hD:aN P) {X:Ext} (hX:dC P X) {n:Nat} {g:FuncId} {das:List DA} {v:V} {h:HT} (hf:Bj v=true) (hv:VC (bi P X n g (enc das 0) (wH das 0) (fun v'=>bC v' v)) h):Bj v=true∧∃ v' H',SpecCall P g (enc das 0) (aY (wH das 0+1)) v' H'∧bC v' v :=
 Tv hD hX hf hv.ok
def X6 (a lw:Nat) (fw:Nat→Nat→Int) (lm:Nat) (fm:Nat→Nat→Int) (n:Nat) (ls:Nat→Nat) (f:Nat→Nat→Nat→Int):Bool :=
 cond (aO .i64 (ae .i64 fw) lw 1) (cond (aO .i64 (ae .i64 fm) lm 1) (cond (cond true (Rh a (vN a 1 ls f) n 1) false) true false) false) false
def Yd (a lw:Nat) (fw:Nat→Nat→Int) (lm:Nat) (fm:Nat→Nat→Int) (n:Nat) (ls:Nat→Nat) (f:Nat→Nat→Nat→Int) (e nc:Nat) (fc:Nat→Nat→Int):Bool :=
 cond (aO .i64 (ae .i64 fw) lw 1) (cond (aO .i64 (ae .i64 fm) lm 1) (cond (cond true (Rh a (vN a 1 ls f) n 1) false) (cond true (cond (aO .i64 (ae .i64 fc) nc e) true false) false) false) false) false
theorem CS (a lw:Nat) (fw:Nat→Nat→Int) (lm:Nat) (fm:Nat→Nat→Int) (n:Nat) (ls:Nat→Nat) (f:Nat→Nat→Nat→Int):X6 a lw fw lm fm n ls f=true:=by
 unfold X6
 rw [dI,dI,iW];rfl
theorem CZ (a lw:Nat) (fw:Nat→Nat→Int) (lm:Nat) (fm:Nat→Nat→Int) (n:Nat) (ls:Nat→Nat) (f:Nat→Nat→Nat→Int) (e nc:Nat) (fc:Nat→Nat→Int):Yd a lw fw lm fm n ls f e nc fc=true:=by
 unfold Yd
 rw [dI,dI,iW,dI];rfl
theorem ay {d:D} {h:HT} (p:Prop) (e:vc d h=p:=by kernel_rfl) (q:p:=by (try simp only [aW,nV,dw,kY,rO,wO,Ud,UT,BH,KR,rZ,rU,xu,tZ,GI,Lj,Kw,KQ,Fj,KI,dI,iW,kR,CS,CZ,cond_true,cond_false,true_and,and_true,eq_self]);(repeat' (first | exact True.intro | (with_reducible assumption) | refine And.intro ?_ ?_ | refine bY ?_ ?_ | intro _));all_goals (first | (with_reducible assumption) | (with_reducible rfl) | omega | rfl | (simp only [aW,nV,dw,kY,rO,wO,Ud,UT,BH,KR,rZ,rU,xu,tZ,GI,Lj,Kw,KQ,Fj,KI,dI,iW,kR,CS,CZ,cond_true,cond_false,true_and,and_true,eq_self];first | done | omega | (with_reducible assumption) | rfl))):VC d h:=⟨by rw [e];exact q⟩
theorem wE {p:Prop} (q:p:=by (try simp only [aW,nV,dw,kY,rO,wO,Ud,UT,BH,KR,rZ,rU,xu,tZ,GI,Lj,Kw,KQ,Fj,KI,dI,iW,kR,CS,CZ,cond_true,cond_false,true_and,and_true,eq_self]);(repeat' (first | exact True.intro | (with_reducible assumption) | refine And.intro ?_ ?_ | refine bY ?_ ?_ | intro _));all_goals (first | (with_reducible assumption) | (with_reducible rfl) | omega | rfl | (simp only [aW,nV,dw,kY,rO,wO,Ud,UT,BH,KR,rZ,rU,xu,tZ,GI,Lj,Kw,KQ,Fj,KI,dI,iW,kR,CS,CZ,cond_true,cond_false,true_and,and_true,eq_self];first | done | omega | (with_reducible assumption) | rfl))):p:=q
end
end Go.Ev
/- Contracts whose value is a struct with new rows. -/
namespace Go.Ev
open Go
noncomputable section
variable {P:Program}
def tJ (P:Program) (X:Ext) (n:Nat) (g:FuncId) (args:List V) (k:Nat) (φ:V→EH→Prop):D:=evK P kD X (.leaf False) n (.call g args (aY (k+1))) (fun r=>match r with | .v v H => .leaf (φ v H) | _ => .leaf False)
theorem kM (hD:aN P) {X:Ext} (hX:dC P X) {n:Nat} {g:FuncId} {args:List V} {k:Nat} {φ:V→EH→Prop} {h:HT} (hv:VC (tJ P X n g args k φ) h):∃ v H',SpecCall P g args (aY (k+1)) v H'∧φ v H':=by
 have hv:=eU _ _ hv.ok
 unfold tJ at hv
 rw [lC (B:=kD) (φ:=den) (fun _ _ _=>rfl) (fun _ _=>rfl)] at hv
 cases hr:ev P X n (.call g args (aY (k+1))) with
 | none=>rw [hr] at hv;exact hv.elim
 | some r =>
  rw [hr] at hv
  cases r with
  | v v H'=>exact ⟨v,H',Kr hD hX hr,hv⟩
  | _=>exact hv.elim
theorem bz {b:Bool} {p:Prop} (h:cond b p False):b=true∧p:=by
 cases b with
 | true=>exact ⟨rfl,h⟩
 | false=>exact h.elim
end
end Go.Ev
/- Contracts whose values hold rows of the arguments, as they are, and new ones: the value is said by data. -/
namespace Go.Ev
open Go
noncomputable section
variable {P:Program}
inductive S0 where
 | old (d:D0) (a:Nat)
 | new (d:D0)
inductive S1 where
 | one (s:S0)
 | ag (l:List S0)
inductive SV where
 | one (s:S1)
 | tup (l:List S1)
def CQ (l:List Nat):Nat→Nat:=List.rec (motive:=fun _=>Nat→Nat) (fun _=>0) (fun x _ ih i=>match i with | 0=>x | Nat.succ i=>ih i) l
theorem Le:∀ (l:List Nat) (i:Nat),CQ l i=l.getD i 0
 | [],i=>by simp [CQ]
 | x::l,0=>rfl
 | x::l,i+1=>by
  show CQ l i=_
  rw [Le l i];simp
def Oa (as:Nat→Nat) (nw:Nat) (s:S0):V:=match s with | .old d a=>Ef d (as a) | .new d=>Ef d nw
def xJ (as:Nat→Nat) (nw:Nat) (l:List S0):List V:=List.rec (motive:=fun _=>List V) [] (fun s _ ih=>Oa as nw s::ih) l
def Uu (as:Nat→Nat) (nw:Nat) (s:S1):V:=match s with | .one s=>Oa as nw s | .ag l => .agg (eY l) (T.setL .lf 0 (xJ as nw l))
def FC (as:Nat→Nat) (nw:Nat) (l:List S1):List V:=List.rec (motive:=fun _=>List V) [] (fun s _ ih=>Uu as nw s::ih) l
def TL (as:Nat→Nat) (nw:Nat) (s:SV):V:=match s with | .one s=>Uu as nw s | .tup l => .tup (FC as nw l)
def LG (c:T V) (g:Nat→Int) (e:Nat):Nat→Nat→Prop :=
 Nat.rec (motive:=fun _=>Nat→Nat→Prop) (fun _ _=>True) (fun _ ih p j=>(match c.get p with | some v=>jJ v (.int .i64 (g j)) | none=>False)∧ih (Nat.succ p) (Nat.succ j)) e
theorem Nu {c:T V} {g:Nat→Int}:∀ {e p j:Nat},LG c g e p j→∀ k,k<e→c.get (p+k)=some (.int .i64 (g (j+k))):=by
 intro e
 induction e with
 | zero=>intro p j _ k hk;omega
 | succ e ih =>
  intro p j h k hk
  obtain ⟨h1,h2⟩:=(show (match c.get p with | some v=>jJ v (.int .i64 (g j)) | none=>False)∧LG c g e (p+1) (j+1) from h)
  cases k with
  | zero =>
   cases hc:c.get p with
   | none=>rw [hc] at h1;exact h1.elim
   | some v=>rw [hc] at h1;first | (rw [Nat.add_zero,hc,dR h1];rfl) | (rw [dR h1];rfl)
  | succ k =>
   have:=ih h2 k (by omega)
   rw [show p+(k+1)=p+1+k by omega,show j+(k+1)=j+1+k by omega];exact this
def Jr (c:T V) (e:Nat) (f:Nat→Nat→Int) (len:Nat):Nat→Nat→Prop :=
 Nat.rec (motive:=fun _=>Nat→Nat→Prop) (fun _ _=>True) (fun _ ih p i=>LG c (f i) e p 0∧ih (Nat.add p e) (Nat.succ i)) len
theorem JH {c:T V} {e:Nat} {f:Nat→Nat→Int}:∀ {len p i:Nat},Jr c e f len p i→∀ k j,k<len→j<e→c.get (p+(k*e+j))=some (.int .i64 (f (i+k) j)):=by
 intro len
 induction len with
 | zero=>intro p i _ k j hk;omega
 | succ len ih =>
  intro p i h k j hk hj
  obtain ⟨h1,h2⟩:=(show LG c (f i) e p 0∧Jr c e f len (p+e) (i+1) from h)
  cases k with
  | zero =>
   have:=Nu h1 j hj
   rw [Nat.zero_add] at this
   rw [Nat.zero_mul,Nat.zero_add];exact this
  | succ k =>
   have:=ih h2 k j (by omega) hj
   rw [show p+((k+1)*e+j)=p+e+(k*e+j) by rw [Nat.add_mul];omega,show i+(k+1)=i+1+k by omega];exact this
def CY (k:Nat) (H:EH) (v:V) (len e:Nat) (f:Nat→Nat→Int):Prop:=match v with
 | .nilSlice=>Int.ofNat 0=Int.ofNat len
 | .fz q a c l e'=>cond (Nat.blt k a) (V.fz q a c l e'=V.fz q a (ae .i64 f) len e) False
 | .slice b off l e'=>(Int.ofNat l=Int.ofNat len)∧(match H.block b with | .mk c lo sz _=>cond (Nat.beq e' e) (cond (Nat.ble lo off) (cond (Nat.ble (Nat.add off (Nat.mul l e)) sz) (Jr c e f l off 0) False) False) False | .no=>False)
 | _=>False
def SS (k:Nat) (H:EH) (c:T V) (e:Nat) (ls:Nat→Nat) (f:Nat→Nat→Nat→Int) (len:Nat):Nat→Nat→Prop :=
 Nat.rec (motive:=fun _=>Nat→Nat→Prop) (fun _ _=>True) (fun _ ih p i=>(match c.get p with | some v=>CY k H v (ls i) e (f i) | none=>False)∧ih (Nat.succ p) (Nat.succ i)) len
theorem Bi {k:Nat} {H:EH} {c:T V} {e:Nat} {ls:Nat→Nat} {f:Nat→Nat→Nat→Int}:∀ {len p i:Nat},SS k H c e ls f len p i→∀ j,j<len→∃ v,c.get (p+j)=some v∧CY k H v (ls (i+j)) e (f (i+j)):=by
 intro len
 induction len with
 | zero=>intro p i _ j hj;omega
 | succ len ih =>
  intro p i h j hj
  obtain ⟨h1,h2⟩:=(show (match c.get p with | some v=>CY k H v (ls i) e (f i) | none=>False)∧SS k H c e ls f len (p+1) (i+1) from h)
  cases j with
  | zero =>
   cases hc:c.get p with
   | none=>rw [hc] at h1;exact h1.elim
   | some v=>rw [hc] at h1;exact ⟨v,(by first | exact hc | rfl),h1⟩
  | succ j =>
   obtain ⟨v,e1,e2⟩:=ih h2 j (by omega)
   exact ⟨v,by rw [show p+(j+1)=p+1+j by omega];exact e1,by rw [show i+(j+1)=i+1+j by omega];exact e2⟩
def J7 (k:Nat) (H:EH) (v:V) (len e:Nat) (ls:Nat→Nat) (f:Nat→Nat→Nat→Int):Prop:=match v with
 | .nilSlice=>Int.ofNat 0=Int.ofNat len
 | .fz q a c l e'=>cond (Nat.blt k a) (V.fz q a c l e'=V.fz q a (vN a e ls f) len 1) False
 | .slice b off l e'=>(Int.ofNat l=Int.ofNat len)∧(match H.block b with | .mk c lo sz _=>cond (Nat.beq e' 1) (cond (Nat.ble lo off) (cond (Nat.ble (Nat.add off l) sz) (SS k H c e ls f l off 0) False) False) False | .no=>False)
 | _=>False
def GG (k:Nat) (H:EH) (v:V) (kd:CK) (x:Int) (y:Bool) (n:Nat) (g:Nat→Nat→Int):Prop:=match kd with | .i=>jJ v (.int .i64 x) | .b=>jJ v (.bool y) | .r e=>CY k H v n e g
def wRow (k:Nat) (H:EH) (c:T V) (fi:Nat→Nat→Int) (fb:Nat→Nat→Bool) (ls:Nat→Nat→Nat) (fr:Nat→Nat→Nat→Nat→Int) (i:Nat) (ks:List CK):Nat→Nat→Prop :=
 List.rec (motive:=fun _=>Nat→Nat→Prop) (fun _ _=>True) (fun kd _ ih p j=>(match c.get p with | some v=>GG k H v kd (fi i j) (fb i j) (ls i j) (fr i j) | none=>False)∧ih (Nat.succ p) (Nat.succ j)) ks
theorem Qc {k:Nat} {H:EH} {c:T V} {fi:Nat→Nat→Int} {fb:Nat→Nat→Bool} {ls:Nat→Nat→Nat} {fr:Nat→Nat→Nat→Nat→Int} {i:Nat}:∀ {ks:List CK} {p j0:Nat},wRow k H c fi fb ls fr i ks p j0→∀ j,j<fP ks→∃ v,c.get (p+j)=some v∧GG k H v (lJ ks j) (fi i (j0+j)) (fb i (j0+j)) (ls i (j0+j)) (fr i (j0+j)):=by
 intro ks
 induction ks with
 | nil=>intro p j0 _ j hj;exact absurd hj (Nat.not_lt_zero j)
 | cons kd ks ih =>
  intro p j0 h j hj
  obtain ⟨h1,h2⟩:=(show (match c.get p with | some v=>GG k H v kd (fi i j0) (fb i j0) (ls i j0) (fr i j0) | none=>False)∧wRow k H c fi fb ls fr i ks (p+1) (j0+1) from h)
  cases j with
  | zero =>
   cases hc:c.get p with
   | none=>rw [hc] at h1;exact h1.elim
   | some v=>rw [hc] at h1;exact ⟨v,(by first | exact hc | rfl),h1⟩
  | succ j =>
   obtain ⟨v,e1,e2⟩:=ih h2 j (Nat.lt_of_succ_lt_succ hj)
   refine ⟨v,by rw [show p+(j+1)=p+1+j by omega];exact e1,?_⟩
   rw [show j0+(j+1)=j0+1+j by omega]
   exact e2
def SA (k:Nat) (H:EH) (c:T V) (ks:List CK) (fi:Nat→Nat→Int) (fb:Nat→Nat→Bool) (ls:Nat→Nat→Nat) (fr:Nat→Nat→Nat→Nat→Int) (len:Nat):Nat→Nat→Prop :=
 Nat.rec (motive:=fun _=>Nat→Nat→Prop) (fun _ _=>True) (fun _ ih p i=>wRow k H c fi fb ls fr i ks p 0∧ih (Nat.add p (fP ks)) (Nat.succ i)) len
theorem NC {k:Nat} {H:EH} {c:T V} {ks:List CK} {fi:Nat→Nat→Int} {fb:Nat→Nat→Bool} {ls:Nat→Nat→Nat} {fr:Nat→Nat→Nat→Nat→Int}:∀ {len p i0:Nat},SA k H c ks fi fb ls fr len p i0→∀ i j,i<len→j<fP ks→∃ v,c.get (p+(i*fP ks+j))=some v∧GG k H v (lJ ks j) (fi (i0+i) j) (fb (i0+i) j) (ls (i0+i) j) (fr (i0+i) j):=by
 intro len
 induction len with
 | zero=>intro p i0 _ i j hi;omega
 | succ len ih =>
  intro p i0 h i j hi hj
  obtain ⟨h1,h2⟩:=(show wRow k H c fi fb ls fr i0 ks p 0∧SA k H c ks fi fb ls fr len (p+fP ks) (i0+1) from h)
  cases i with
  | zero =>
   obtain ⟨v,e1,e2⟩:=Qc h1 j hj
   rw [Nat.zero_add] at e2
   exact ⟨v,by rw [Nat.zero_mul,Nat.zero_add];exact e1,e2⟩
  | succ i =>
   obtain ⟨v,e1,e2⟩:=ih h2 i j (by omega) hj
   refine ⟨v,by rw [show p+((i+1)*fP ks+j)=p+fP ks+(i*fP ks+j) by rw [Nat.add_mul];omega];exact e1,?_⟩
   rw [show i0+(i+1)=i0+1+i by omega]
   exact e2
def Tc (k:Nat) (H:EH) (v:V) (len:Nat) (ks:List CK) (fi:Nat→Nat→Int) (fb:Nat→Nat→Bool) (ls:Nat→Nat→Nat) (fr:Nat→Nat→Nat→Nat→Int):Prop:=match v with
 | .nilSlice=>Int.ofNat 0=Int.ofNat len
 | .fz q a c l e'=>cond (Nat.blt k a) (V.fz q a c l e'=V.fz q a (ah a ks fi fb ls fr) len (fP ks)) False
 | .slice b off l e'=>(Int.ofNat l=Int.ofNat len)∧(match H.block b with | .mk c lo sz _=>cond (Nat.beq e' (fP ks)) (cond (Nat.ble lo off) (cond (Nat.ble (Nat.add off (Nat.mul l e')) sz) (SA k H c ks fi fb ls fr l off 0) False) False) False | .no=>False)
 | _=>False
def vZ (a k:Nat) (v v':V):Prop:=match v,v' with
 | .fz q b c l e,.fz _ _ c' l' e'=>cond (Nat.beq b a) (cond (Nat.blt a k) (V.fz q b c l e=V.fz q b c' l' e') False) False
 | _,_=>False
def XP (k:Nat) (v:V) (d:D0) (a:Nat):Prop:=match d with
 | .i kd n=>jJ v (.int kd n)
 | .b x=>jJ v (.bool x)
 | .sl e len f=>vZ a k v (.fz true a (ae .i64 f) len e)
 | .rr e len ls f=>vZ a k v (.fz true a (vN a e ls f) len 1)
 | .rw ks len fi fb ls fr=>vZ a k v (.fz true a (ah a ks fi fb ls fr) len (fP ks))
def OL (k:Nat) (H:EH) (v:V) (d:D0):Prop:=match d with
 | .i kd n=>jJ v (.int kd n)
 | .b x=>jJ v (.bool x)
 | .sl e len f=>CY k H v len e f
 | .rr e len ls f=>J7 k H v len e ls f
 | .rw ks len fi fb ls fr=>Tc k H v len ks fi fb ls fr
def isS0 (k:Nat) (H:EH) (v:V) (s:S0):Prop:=match s with | .old d a=>XP k v d a | .new d=>OL k H v d
def WN (k:Nat) (H:EH) (c:T V) (l:List S0):Nat→Prop:=List.rec (motive:=fun _=>Nat→Prop) (fun _=>True) (fun s _ ih i=>(match c.get i with | some v=>isS0 k H v s | none=>False)∧ih (Nat.succ i)) l
def VE (k:Nat) (H:EH) (v:V) (l:List S0):Prop:=match v with | .agg n c=>cond (Nat.beq n (eY l)) (WN k H c l 0) False | _=>False
def RN (k:Nat) (H:EH) (v:V) (s:S1):Prop:=match s with
 | .one s=>isS0 k H v s
 | .ag l=>VE k H v l
def SI (k:Nat) (H:EH) (vs:List V):List S1→Prop:=List.rec (motive:=fun _=>List S1→Prop) (fun m=>match m with | []=>True | _=>False) (fun v _ ih m=>match m with | s::m=>RN k H v s∧ih m | []=>False) vs
def Wy (k:Nat) (H:EH) (v:V) (l:List S1):Prop:=match v with | .tup vs=>SI k H vs l | _=>False
def zD (k:Nat) (H:EH) (v:V) (s:SV):Prop:=match s with
 | .one s=>RN k H v s
 | .tup l=>Wy k H v l
theorem DV {q q':Bool} {a a':Nat} {c c':Nat→Nat→V} {l l' e e':Nat} (h:V.fz q a c l e=V.fz q' a' c' l' e'):a=a'∧c=c'∧l=l'∧e=e':=by
 injection h with h1 h2 h3 h4 h5
 exact ⟨h2,h3,h4,h5⟩
theorem xN (d:D0) (a:Nat):dE (Ef d a)=true:=by cases d<;>rfl
theorem Dx {k:Nat} {H:EH} {v:V} {len e:Nat} {f:Nat→Nat→Int} (h:CY k H v len e f) (as:Nat→Nat) (new:Nat):Fr0 H k as new v (.fz true new (ae .i64 f) len e):=by
 unfold CY at h
 split at h
 ·have h:(0:Nat)=len:=by injection h
  subst h
  exact .nilS
 ·obtain ⟨h1,h2⟩:=bz h
  obtain ⟨_,rfl,rfl,rfl⟩:=DV h2
  have h1:=dh h1
  exact .fz (by omega) (fun q=>by omega) (fun _=>rfl) (fun _ _ _ _=>rfl) (fun _ _ _ _ => .int _ _) (fun _ _ _ _ => .int _ _)
 ·rename_i b off l e'
  obtain ⟨h1,h2⟩:=h
  have h1:l=len:=by injection h1
  subst h1
  split at h2
  ·rename_i c lo sz g hb
   obtain ⟨q1,h3⟩:=bz h2
   clear h2
   obtain ⟨q2,h4⟩:=bz h3
   clear h3
   obtain ⟨q3,h5⟩:=bz h4
   clear h4
   have:=nb q1
   subst this
   have q2:=Nat.le_of_ble_eq_true q2
   have q3:off+l*e'≤sz:=Nat.le_of_ble_eq_true q3
   refine .slice (d:=ae .i64 f) hb q2 q3 (fun i j hi hj=>?_) (fun _ _ _ _=>rfl) (fun _ _ _ _ => .int _ _) (fun _ _ _ _ => .int _ _)
   have:=JH h5 i j hi hj
   rw [Nat.zero_add] at this
   exact this
  ·exact h2.elim
 ·exact h.elim
theorem SC {k:Nat} {H:EH} {v:V} {len e:Nat} {ls:Nat→Nat} {f:Nat→Nat→Nat→Int} (h:J7 k H v len e ls f) (as:Nat→Nat) (new:Nat):Fr0 H k as new v (.fz true new (vN new e ls f) len 1):=by
 unfold J7 at h
 split at h
 ·have h:(0:Nat)=len:=by injection h
  subst h
  exact .nilS
 ·obtain ⟨h1,h2⟩:=bz h
  obtain ⟨_,rfl,rfl,rfl⟩:=DV h2
  have h1:=dh h1
  exact .fz (by omega) (fun q=>by omega) (fun _=>rfl) (fun _ _ _ _=>rfl) (fun _ _ _ _ => .fz _ (Nat.le_refl _) fun _ _ _ _ => .int _ _)
   (fun _ _ _ _ => .fz (by omega) (fun q=>by omega) (fun _=>rfl) (fun _ _ _ _=>rfl) (fun _ _ _ _ => .int _ _) (fun _ _ _ _ => .int _ _))
 ·rename_i b off l e'
  obtain ⟨h1,h2⟩:=h
  have h1:l=len:=by injection h1
  subst h1
  split at h2
  ·rename_i c lo sz g hb
   obtain ⟨q1,h3⟩:=bz h2
   clear h2
   obtain ⟨q2,h4⟩:=bz h3
   clear h3
   obtain ⟨q3,h5⟩:=bz h4
   clear h4
   have:=nb q1
   subst this
   have q2:=Nat.le_of_ble_eq_true q2
   have q3:off+l≤sz:=Nat.le_of_ble_eq_true q3
   refine .slice (d:=fun i _=>getD' c (off+i)) hb q2 (by omega) (fun i j hi hj=>?_) (fun _ _ _ _=>rfl) (fun _ _ _ _ => .fz _ (Nat.le_refl _) fun _ _ _ _ => .int _ _) (fun i j hi hj=>?_)
   ·have:j=0:=by omega
    subst this
    obtain ⟨v,e1,_⟩:=Bi h5 i hi
    rw [show off+(i*1+0)=off+i by omega,e1]
    unfold getD'
    rw [e1]
   ·obtain ⟨v,e1,e2⟩:=Bi h5 i hi
    rw [Nat.zero_add] at e2
    have e3:getD' c (off+i)=v:=by
     unfold getD'
     rw [e1]
    show Fr0 H k as new (getD' c (off+i)) _
    rw [e3]
    exact Dx e2 as new
  ·exact h2.elim
 ·exact h.elim
theorem jF (n:Nat) (fi:Nat→Nat→Int) (fb:Nat→Nat→Bool) (ls:Nat→Nat→Nat) (fr:Nat→Nat→Nat→Nat→Int) (i j:Nat) (kd:CK):dE (cellW n fi fb ls fr i j kd)=true∧Aged n (cellW n fi fb ls fr i j kd):=by
 cases kd with
 | i=>exact ⟨rfl,.int _ _⟩
 | b=>exact ⟨rfl,.bool _⟩
 | r e=>exact ⟨rfl,.fz _ (Nat.le_refl _) fun _ _ _ _ => .int _ _⟩
theorem Gt {H:EH} {k:Nat} {as:Nat→Nat} {new a n:Nat} (h0:a≠k) (h1:a<k→n=as a) (h2:k<a→n=new) (fi:Nat→Nat→Int) (fb:Nat→Nat→Bool) (ls:Nat→Nat→Nat) (fr:Nat→Nat→Nat→Nat→Int) (i j:Nat) (kd:CK):Fr0 H k as new (cellW a fi fb ls fr i j kd) (cellW n fi fb ls fr i j kd):=by
 cases kd with
 | i=>exact .int _ _
 | b=>exact .bool _
 | r e=>exact .fz h0 h1 h2 (fun _ _ _ _=>rfl) (fun _ _ _ _ => .int _ _) (fun _ _ _ _ => .int _ _)
theorem TA {k:Nat} {H:EH} {v:V} {len:Nat} {ks:List CK} {fi:Nat→Nat→Int} {fb:Nat→Nat→Bool} {ls:Nat→Nat→Nat} {fr:Nat→Nat→Nat→Nat→Int} (h:Tc k H v len ks fi fb ls fr) (as:Nat→Nat) (new:Nat):Fr0 H k as new v (.fz true new (ah new ks fi fb ls fr) len (fP ks)):=by
 unfold Tc at h
 split at h
 ·have h:(0:Nat)=len:=by injection h
  subst h
  exact .nilS
 ·obtain ⟨h1,h2⟩:=bz h
  obtain ⟨_,rfl,rfl,rfl⟩:=DV h2
  have h1:=dh h1
  exact .fz (by omega) (fun q=>by omega) (fun _=>rfl) (fun i j _ _=>(jF new fi fb ls fr i j _).1) (fun i j _ _=>(jF new fi fb ls fr i j _).2)
   (fun i j _ _=>Gt (by omega) (fun q=>by omega) (fun _=>rfl) fi fb ls fr i j _)
 ·rename_i b off l e'
  obtain ⟨h1,h2⟩:=h
  have h1:l=len:=by injection h1
  subst h1
  split at h2
  ·rename_i c lo sz g hb
   obtain ⟨q1,h3⟩:=bz h2
   clear h2
   obtain ⟨q2,h4⟩:=bz h3
   clear h3
   obtain ⟨q3,h5⟩:=bz h4
   clear h4
   have:=nb q1
   subst this
   have q2:=Nat.le_of_ble_eq_true q2
   have q3:off+l*fP ks≤sz:=Nat.le_of_ble_eq_true q3
   have at_:∀ i j,i<l→j<fP ks→∃ v,c.get (off+(i*fP ks+j))=some v∧getD' c (off+(i*fP ks+j))=v∧GG k H v (lJ ks j) (fi i j) (fb i j) (ls i j) (fr i j):=fun i j hi hj=>by
    obtain ⟨v,e1,e2⟩:=NC h5 i j hi hj
    rw [Nat.zero_add] at e2
    exact ⟨v,e1,by unfold getD';rw [e1],e2⟩
   refine .slice (d:=fun i j=>getD' c (off+(i*fP ks+j))) hb q2 q3 (fun i j hi hj=>?_) (fun i j _ _=>(jF new fi fb ls fr i j _).1) (fun i j _ _=>(jF new fi fb ls fr i j _).2) (fun i j hi hj=>?_)
   ·obtain ⟨v,e1,e2,_⟩:=at_ i j hi hj
    rw [e2];exact e1
   ·obtain ⟨v,e1,e2,e3⟩:=at_ i j hi hj
    show Fr0 H k as new (getD' c (off+(i*fP ks+j))) (cellW new fi fb ls fr i j (lJ ks j))
    rw [e2]
    generalize lJ ks j=kd at e3
    cases kd with
    | i=>have:=dR (show jJ v (.int .i64 (fi i j)) from e3);subst this;exact .int _ _
    | b=>have:=dR (show jJ v (.bool (fb i j)) from e3);subst this;exact .bool _
    | r e=>exact Dx (show CY k H v (ls i j) e (fr i j) from e3) as new
  ·exact h2.elim
 ·exact h.elim
theorem uK {a k:Nat} {v:V} {c':Nat→Nat→V} {l' e':Nat} (h:vZ a k v (.fz true a c' l' e')):∃ q,v = .fz q a c' l' e'∧a<k:=by
 unfold vZ at h
 split at h
 ·rename_i q b c l e q0 a0 c0 l0 e0 he
  obtain ⟨rfl,rfl,rfl,rfl⟩:=DV he
  obtain ⟨h1,h3⟩:=bz h
  clear h
  obtain ⟨h2,h4⟩:=bz h3
  clear h3
  have:=nb h1
  subst this
  exact ⟨q,h4,dh h2⟩
 ·exact h.elim
theorem BM {k:Nat} {H:EH} {v:V} {s:S0} (h:isS0 k H v s) (as:Nat→Nat) (new:Nat):Fr0 H k as new v (Oa as new s):=by
 cases s with
 | old d a =>
  cases d with
  | i kd n=>have:=dR (show jJ v (.int kd n) from h);subst this;exact .int _ _
  | b x=>have:=dR (show jJ v (.bool x) from h);subst this;exact .bool _
  | sl e len f =>
   obtain ⟨q,rfl,hk⟩:=uK (show vZ a k v (.fz true a (ae .i64 f) len e) from h)
   exact .fz (by omega) (fun _=>rfl) (fun q=>by omega) (fun _ _ _ _=>rfl) (fun _ _ _ _ => .int _ _) (fun _ _ _ _ => .int _ _)
  | rr e len ls f =>
   obtain ⟨q,rfl,hk⟩:=uK (show vZ a k v (.fz true a (vN a e ls f) len 1) from h)
   exact .fz (by omega) (fun _=>rfl) (fun q=>by omega) (fun _ _ _ _=>rfl) (fun _ _ _ _ => .fz _ (Nat.le_refl _) fun _ _ _ _ => .int _ _)
    (fun _ _ _ _ => .fz (by omega) (fun _=>rfl) (fun q=>by omega) (fun _ _ _ _=>rfl) (fun _ _ _ _ => .int _ _) (fun _ _ _ _ => .int _ _))
  | rw ks len fi fb ls fr =>
   obtain ⟨q,rfl,hk⟩:=uK (show vZ a k v (.fz true a (ah a ks fi fb ls fr) len (fP ks)) from h)
   exact .fz (by omega) (fun _=>rfl) (fun q=>by omega) (fun i j _ _=>(jF (as a) fi fb ls fr i j _).1) (fun i j _ _=>(jF (as a) fi fb ls fr i j _).2) (fun i j _ _=>Gt (by omega) (fun _=>rfl) (fun q=>by omega) fi fb ls fr i j _)
 | new d =>
  cases d with
  | i kd n=>have:=dR (show jJ v (.int kd n) from h);subst this;exact .int _ _
  | b x=>have:=dR (show jJ v (.bool x) from h);subst this;exact .bool _
  | sl e len f=>exact Dx (show CY k H v len e f from h) as new
  | rr e len ls f=>exact SC (show J7 k H v len e ls f from h) as new
  | rw ks len fi fb ls fr=>exact TA (show Tc k H v len ks fi fb ls fr from h) as new
theorem FN (as:Nat→Nat) (new:Nat):∀ l:List S0,(xJ as new l).length=l.length
 | []=>rfl
 | s::l=>by show (xJ as new l).length+1=_;rw [FN as new l];rfl
theorem Fh (as:Nat→Nat) (new:Nat):∀ (l:List S0) (i:Nat) (h:i<l.length),(xJ as new l)[i]?=some (Oa as new l[i])
 | s::l,0,_=>rfl
 | s::l,i+1,h=>by
  show (xJ as new l)[i]?=_
  rw [Fh as new l i (by simpa using h)];rfl
theorem J8 {α:Type}:∀ l:List α,eY l=l.length
 | []=>rfl
 | x::l=>by show eY l+1=_;rw [J8 l];rfl
theorem GY {k:Nat} {H:EH} {c:T V}:∀ {l:List S0} {p:Nat},WN k H c l p→∀ i (h:i<l.length),∃ v,c.get (p+i)=some v∧isS0 k H v l[i]:=by
 intro l
 induction l with
 | nil=>intro p _ i h;cases h
 | cons s l ih =>
  intro p h i hi
  obtain ⟨h1,h2⟩:=(show (match c.get p with | some v=>isS0 k H v s | none=>False)∧WN k H c l (p+1) from h)
  cases i with
  | zero =>
   cases hc:c.get p with
   | none=>rw [hc] at h1;exact h1.elim
   | some v=>rw [hc] at h1;exact ⟨v,(by first | exact hc | rfl),h1⟩
  | succ i =>
   obtain ⟨v,e1,e2⟩:=ih h2 i (by simpa using hi)
   exact ⟨v,by rw [show p+(i+1)=p+1+i by omega];exact e1,e2⟩
theorem JO {k:Nat} {H:EH} {v:V} {s:S1} (h:RN k H v s) (as:Nat→Nat) (new:Nat):Frz1 H k as new v (Uu as new s):=by
 cases s with
 | one s=>exact .one (BM h as new)
 | ag l =>
  have h:VE k H v l:=h
  unfold VE at h
  split at h
  ·rename_i n c h0
   obtain ⟨h1,h2⟩:=bz h
   clear h
   have:=nb h1
   subst this
   show Frz1 H k as new (.agg (eY l) c) (.agg (eY l) (T.setL .lf 0 (xJ as new l)))
   rw [J8]
   have e2:∀ i,i<l.length→(T.setL .lf 0 (xJ as new l)).get i=some (getD' (T.setL .lf 0 (xJ as new l)) i)∧∃ hi:i<l.length,getD' (T.setL .lf 0 (xJ as new l)) i=Oa as new l[i]:=fun i hi=>by
    have:(T.setL .lf 0 (xJ as new l)).get i=some (Oa as new l[i]):=by
     rw [T.get_setL,if_pos ⟨Nat.zero_le _,by rw [FN];omega⟩,Nat.sub_zero,Fh as new l i hi]
    unfold getD'
    rw [this]
    exact ⟨rfl,hi,rfl⟩
   refine .agg (fun i=>getD' c i) (fun i=>getD' (T.setL .lf 0 (xJ as new l)) i) (fun i hi=>?_) (fun i hi=>(e2 i hi).1) (fun i hi=>?_) (fun i hi=>?_)
   ·obtain ⟨v,e1,_⟩:=GY h2 i hi
    rw [Nat.zero_add] at e1
    unfold getD'
    rw [e1]
   ·obtain ⟨_,q⟩:=(e2 i hi).2
    rw [q]
    cases l[i] with
    | old d a=>exact xN d _
    | new d=>exact xN d _
   ·obtain ⟨_,q⟩:=(e2 i hi).2
    obtain ⟨v,e1,e3⟩:=GY h2 i hi
    rw [Nat.zero_add] at e1
    show Fr0 H k as new (getD' c i) _
    rw [q]
    unfold getD'
    rw [e1]
    exact BM e3 as new
  ·exact h.elim
theorem LY {k:Nat} {H:EH}:∀ {vs:List V} {l:List S1},SI k H vs l→vs.length=l.length∧∀ i (h1:i<vs.length) (h2:i<l.length),RN k H vs[i] l[i]:=by
 intro vs
 induction vs with
 | nil =>
  intro l h
  cases l with
  | nil=>exact ⟨rfl,fun i h=>by cases h⟩
  | cons s l=>exact (show False from h).elim
 | cons v vs ih =>
  intro l h
  cases l with
  | nil=>exact (show False from h).elim
  | cons s l =>
   obtain ⟨h1,h2⟩:=(show RN k H v s∧SI k H vs l from h)
   obtain ⟨e1,e2⟩:=ih h2
   refine ⟨by simp [e1],fun i hi1 hi2=>?_⟩
   cases i with
   | zero=>exact h1
   | succ i=>exact e2 i (by simpa using hi1) (by simpa using hi2)
theorem uC (as:Nat→Nat) (new:Nat):∀ l:List S1,(FC as new l).length=l.length
 | []=>rfl
 | s::l=>by show (FC as new l).length+1=_;rw [uC as new l];rfl
theorem BB (as:Nat→Nat) (new:Nat):∀ (l:List S1) (i:Nat) (h:i<(FC as new l).length) (h2:i<l.length),(FC as new l)[i]=Uu as new l[i]
 | s::l,0,_,_=>rfl
 | s::l,i+1,h,h2=>BB as new l i (by simpa [uC] using h2) (by simpa using h2)
theorem UC {k:Nat} {H:EH} {v:V} {s:SV} (h:zD k H v s) (as:Nat→Nat) (new:Nat):FrV H k as new v (TL as new s):=by
 cases s with
 | one s=>exact .one (JO h as new)
 | tup l =>
  have h:Wy k H v l:=h
  unfold Wy at h
  split at h
  ·rename_i vs
   obtain ⟨h1,h2⟩:=LY h
   refine .tup (by rw [uC];exact h1) fun i hi1 hi2=>?_
   rw [BB as new l i hi2 (by omega)]
   exact JO (h2 i hi1 (by omega)) as new
  ·exact h.elim
abbrev Nw:=List DA→Option (Bool×SV)
def UK (P:Program) (g:FuncId) (val:Nw):Prop:=∀ das s,val das=some (true,s)→∃ v' H',SpecCall P g (enc das 0) (aY (wH das 0+1)) v' H'∧zD (wH das 0) H' v' s
def okS (ok:Bool) (as:Nat→Nat) (nw:Nat) (r:Option (Bool×SV)):Option (Bool×V):=match r with | some (b,s)=>some (cond ok b false,TL as nw s) | none=>none
def cfS (val:Nw):CF:=fun args H=>match dec args with | some das=>okS (okL args) (CQ (agL args)) H.next (val das) | none=>none
theorem Oy {ok:Bool} {as:Nat→Nat} {nw:Nat} {r:Option (Bool×SV)} {v:V} (h:okS ok as nw r=some (true,v)):∃ s,r=some (true,s)∧ok=true∧v=TL as nw s:=by
 cases r with
 | none=>cases h
 | some bv =>
  obtain ⟨b,s⟩:=bv
  have e0:cond ok b false=true:=by injection h with h;injection h
  have e2:TL as nw s=v:=by injection h with h;injection h
  obtain ⟨e1,e3⟩:=ax e0
  subst e3
  exact ⟨s,rfl,e1,e2.symm⟩
theorem LH {g:FuncId} {val:Nw} (h:UK P g val):ui P (g,cfS val):=fun args H v hv=>by
 have hv:(match dec args with | some das=>okS (okL args) (CQ (agL args)) H.next (val das) | none=>none)=some (true,v):=hv
 cases hd:dec args with
 | none=>rw [hd] at hv;cases hv
 | some das =>
  rw [hd] at hv
  obtain ⟨s,hval,e1,rfl⟩:=Oy (show okS (okL args) (CQ (agL args)) H.next (val das)=some (true,v) from hv)
  obtain ⟨v1,H',hs,hvp⟩:=h das s hval
  have key:∀ (R:Ren) (w:World),wH das 0=0+(agL args).length∧∀ ys,AL R args ys→AL (pq R w (wH das 0) (CQ (agL args))) (enc das 0) ys:=fun R w=>by
   have h1:=(EN (R:=R) (w:=w) (k:=0+(agL args).length) (as:=CQ (agL args)) (n:=0) hd e1 (fun i hi=>by rw [Nat.zero_add];exact Le _ _) (Nat.le_refl _))
   refine ⟨h1.1,?_⟩
   rw [h1.1];exact h1.2
  exact Ba (as:=CQ (agL args)) hs (fun R w ys _ ha=>(key R w).2 ys ha) (UC hvp _ _)
end
end Go.Ev
/- Contracts of kind S all of whose rows are new, for arguments of which some lie in memory. -/
namespace Go.Ev
open Go
noncomputable section
variable {P:Program}
def nw0 (s:S0):Bool:=match s with | .new _=>true | _=>false
def nwL (l:List S0):Bool:=List.rec (motive:=fun _=>Bool) true (fun s _ ih=>cond (nw0 s) ih false) l
def nw1 (s:S1):Bool:=match s with | .one s=>nw0 s | .ag l=>nwL l
end
end Go.Ev
/- A function with two loops, one behind the other. -/
namespace Go.Ev
open Go
noncomputable section
variable {P:Program}
theorem JW {base:EH} {lt:LT} {n M:Nat} {s:LS} {a1:EA} {H1:EH} (h:Eg base lt n M s a1 H1) {c:Code} {lv:Lv} (hL:JL P base lt n M none c s lv):H1=base∧J P none c a1 base (lv.res lt n (fV base lt M lv)):=by
 obtain ⟨e1,e2⟩:=(show KU H1 base∧cond (Fv base lt n M a1) (NH base lt a1 s) False from h)
 have e1:=Ea e1
 subst e1
 obtain ⟨e3,e4⟩:=bz e2
 obtain ⟨k1,k2⟩:=ax e3
 obtain ⟨k2,k3⟩:=ax k2
 unfold NH at e4
 cases hrw:rowsOf H1 H1.next (Nat.sub H1.next lt.B) lt.B with
 | none=>rw [hrw] at e4;exact e4.elim
 | some rows =>
  rw [hrw] at e4
  have e4:(⟨gp a1 lt.ts,rows⟩:LS)=s:=uf e4
  subst e4
  exact ⟨rfl,QS hL k1 hrw (nb k2) (nJ k3) rfl⟩
end
end Go.Ev
/- Code with several loops, one behind the other: from each to the next. -/
namespace Go.Ev
open Go
noncomputable section
variable {P:Program}
def jk (P:Program) (c:Code) (a:EA) (H:EH) (ψ:Res→Prop):Prop:=∃ r,J P none c a H r∧ψ r
def toE (P:Program) (X:Ext) (N:Nat) (q:List Nat) (c:Code) (p:List Nat) (x:Code) (base:EH) (lt:LT) (n M:Nat) (s:LS) (a:EA) (H:EH):D :=
 eF P kD X (.leaf False) N none q c a H (fun a H=>eF P kD X (.leaf False) N none p x a H (fun a H => .leaf (Eg base lt n M s a H)))
def lZ (P:Program) (X:Ext) (N:Nat) (p:List Nat) (x:Code) (r:Res) (E:EA→EH→D):D :=
 bZ P kD X (.leaf False) N none p x r (fun r=>match r with | .normal a H=>E a H | _ => .leaf False)
theorem good_step (hD:aN P) {X:Ext} (hX:dC P X) {N:Nat} {q p:List Nat} {c x rest:Code} {a:EA} {H:EH} {ψ:Res→Prop} {base:EH} {lt:LT} {n M:Nat} {s:LS} {lv:Lv} {E:EA→EH→D} {h2:HT}
 (hc:sub q c = .seq x rest) (hf:∀ r (K:Res→D),bZ P kD X (.leaf False) N none q c r K=K r)
 (h1:den (toE P X N q c p x base lt n M s a H)) (hL:JL P base lt n M none (sub p x) s lv)
 (he:VC (lZ P X N p x (lv.res lt n (fV base lt M lv)) E) h2) (hn:∀ a H,den (E a H)→jk P rest a H ψ):jk P c a H ψ:=by
 obtain ⟨aq,Hq,q1,q2⟩:=kK q h1
 obtain ⟨a1,H1,q3,q4⟩:=kK p q2
 obtain ⟨e1,j1⟩:=JW q4 hL
 subst e1
 obtain ⟨rx,j2,j3⟩:=Dc hD hX p q3 _ j1 (eU _ _ he.ok)
 cases rx with
 | normal a' H' =>
  obtain ⟨r,j4,j5⟩:=hn a' H' j3
  have jw:=DL j2 j4
  rw [← hc] at jw
  exact BK hD hX q q1 ψ jw (by rw [hf];exact j5)
 | _=>exact (show False from j3).elim
theorem pO (hD:aN P) {X:Ext} (hX:dC P X) {N:Nat} {p:List Nat} {c:Code} {a:EA} {H:EH} {ψ:Res→Prop} {base:EH} {lt:LT} {n M:Nat} {s:LS} {lv:Lv} {h2:HT}
 (h1:den (eF P kD X (.leaf False) N none p c a H (fun a H => .leaf (Eg base lt n M s a H)))) (hL:JL P base lt n M none (sub p c) s lv)
 (he:VC (bZ P kD X (.leaf False) N none p c (lv.res lt n (fV base lt M lv)) (fun r => .leaf (ψ r))) h2):jk P c a H ψ:=by
 obtain ⟨a1,H1,q3,q4⟩:=kK p h1
 obtain ⟨e1,j1⟩:=JW q4 hL
 subst e1
 exact BK hD hX p q3 ψ j1 (eU _ _ he.ok)
theorem oC (hD:aN P) {X:Ext} (hX:dC P X) {N:Nat} {c:Code} {a:EA} {H:EH} {ψ:Res→Prop} (h:den (oW P X N none c a H ψ)):jk P c a H ψ:=by
 unfold oW at h
 rw [lC (B:=kD) (φ:=den) (fun _ _ _=>rfl) (fun _ _=>rfl)] at h
 cases hr:ev P X N (.code none c a H) with
 | none=>rw [hr] at h;exact h.elim
 | some r=>rw [hr] at h;exact ⟨r,Um hD hX hr,h⟩
theorem OQ {g:FuncId} {das:List DA} {v:V} (h1:Gp P g (enc das 0)=true) (h:jk P (dV P g) ⟨gJ false (enc das 0),uA P g,[]⟩ (aY (wH das 0+1)) (xK P g (fun v'=>bC v' v))) :
 ∃ v' H',SpecCall P g (enc das 0) (aY (wH das 0+1)) v' H'∧bC v' v:=by
 obtain ⟨r,j,hr⟩:=h
 exact WX false h1 j hr
end
end Go.Ev
/- Pieces of code behind which all that is new is frozen: rows that a piece has appended to are rows of its own age then, whatever their lengths are. -/
namespace Go.Ev
open Go
noncomputable section
variable {P:Program}
inductive KC where
 | keep (v:V)
 | new (d:D0)
def enK (n:Nat) (c:KC):V:=match c with | .keep v=>v | .new d=>Ef d n
def qh (n:Nat) (l:List KC):List V:=List.rec (motive:=fun _=>List V) [] (fun c _ ih=>enK n c::ih) l
theorem yG (n:Nat) (l:List KC):qh n l=l.map (enK n):=by induction l with | nil=>rfl | cons c l ih=>show _::qh n l=_;rw [ih];rfl
def MV (n:Nat) (H:EH) (b:Nat):Option EO:=match H.objs.get b with | some o=>cond (Nat.ble n (aG b o)) (some o) none | none=>none
def PI (n:Nat) (H:EH):EH:=⟨.fn (MV n H),H.next,H.grps,H.low⟩
theorem oG {n:Nat} {H:EH} {b:Nat} {o:EO} (h:(PI n H).objs.get b=some o):H.objs.get b=some o∧n≤aG b o:=by
 have h:MV n H b=some o:=h
 unfold MV at h
 split at h
 ·rename_i o' ho
  cases hb:Nat.ble n (aG b o') with
  | false=>rw [hb] at h;cases h
  | true=>rw [hb] at h;cases h;exact ⟨ho,Nat.le_of_ble_eq_true hb⟩
 ·cases h
def agM (M:Nat) (v:V):Bool:=match v with | .fz _ a _ _ _=>Nat.blt a M | _=>true
def VY (M:Nat) (v:Option V):Bool:=match v with | some v=>agM M v | none=>true
def Xk (M:Nat) (o:Option EO):Bool:=match o with | some (.cells c _ sz _)=>dP (fun i=>VY M (c.get i)) sz | _=>true
def UO (M n:Nat) (H:EH):Bool:=dP (fun b=>Xk M (MV n H b)) H.next
theorem PN {M n:Nat} {H:EH} (h:UO M n H=true) (hw:WF H) {b:Nat} {c:T V} {lo sz g:Nat} (ho:(PI n H).objs.get b=some (.cells c lo sz g)) {i:Nat} (hi:i<sz) {v:V} (hv:c.get i=some v):agM M v=true:=by
 have hb:=hw.lt b _ (oG ho).1
 have h1:=aQ h b hb
 have ho':MV n H b=some (.cells c lo sz g):=ho
 have h1:Xk M (MV n H b)=true:=h1
 rw [ho'] at h1
 have h2:=aQ (show dP (fun i=>VY M (c.get i)) sz=true from h1) i hi
 have h2:VY M (c.get i)=true:=h2
 rw [hv] at h2
 exact h2
theorem Aged.lt {a M:Nat} (ha:a<M) {v:V} (h:Aged a v):agM M v=true:=by
 cases h<;>first | rfl | skip
 rename_i b c len e hb h
 exact (show Nat.blt b M=true from Nat.le_of_lt_succ (Nat.lt_succ_of_lt (by omega))|>fun _=>by simp [Nat.blt];omega)
section
variable {H':EH} {k new M:Nat} {as:Nat→Nat} {R' R2:Ren} {w':World} (hr:Rel R' All H' w') (hold:∀ a r cs,a<k→R'.cz a r=some cs→R2.cz (as a) r=some cs)
 (hnew:∀ a r cs,k<a→a<M→R'.cz a r=some cs→R2.cz new r=some cs)
 (hobj:∀ b r d o,H'.objs.get b=some o→R'.bm b=some (r,d)→∀ cs t fz,w'.heap[r]?=some (.cells cs t fz)→R2.cz new r=some cs)
 (hage:∀ b c lo sz g,H'.objs.get b=some (.cells c lo sz g)→∀ i v,i<sz→c.get i=some v→agM M v=true)
include hr hold hnew hobj hage
theorem Ua {v v':V} (h:Fr0 H' k as new v v'):agM M v=true→∀ {x:Value},VR R' v x→VR R2 v' x:=by
 induction h with
 | bool b=>intro _ x hx;cases hx;exact .bool b
 | int kd n=>intro _ x hx;cases hx;exact .int kd n
 | nilSlice=>intro _ x hx;cases hx;exact .nilSlice
 | nilS=>intro _ x hx;cases hx;exact .fzN
 | fz h0 h1 h2 hs ha _ ih =>
  rename_i q a a' c c' len e h
  intro hM x hx
  have hM:=dh (show Nat.blt a M=true from hM)
  cases hx with
  | fzN=>exact .fzN
  | fzE h0=>exact .fzE (fun q=>by cases q)
  | fz y hc hl hy hs' ha' hv h0 =>
   refine .fz y ?_ hl hy hs ha fun i j hi hj=>ih i j hi hj (Aged.lt hM (ha' i j hi hj)) (hv i j hi hj)
   by_cases hk:a<k
   ·rw [h1 hk];exact hold _ _ _ hk hc
   ·rw [h2 (by omega)];exact hnew _ _ _ (by omega) hM hc
 | slice hb hl hz hd hs ha _ ih =>
  rename_i b off len e lo sz g c d c' h
  intro _ x hx
  cases hx with
  | slice hm ho hle hzz =>
   rename_i r dd o cap
   obtain ⟨cs,t,fz,a1,a2,a3,a4⟩:=hr.row hb hm trivial
   have hcz:=hobj b r dd _ (aV hb).1 hm cs t fz a1
   by_cases h0:len=0
   ·subst h0;exact .fzE (fun q=>by cases q)
   ·have hcap:cap≠0:=by omega
    have ho':=ho hcap
    have lt2:∀ i j,i<len→j<e→i*e+j<len*e:=fun i j hi hj=>by
     have:(i+1)*e≤len*e:=Nat.mul_le_mul_right _ hi
     rw [Nat.add_mul] at this;omega
    have key:∀ i j,i<len→j<e→∃ y,cs[o+(i*e+j)]?=some y∧VR R' (d i j) y:=fun i j hi hj=>by
     have hlt:=lt2 i j hi hj
     obtain ⟨p,x,y,e1,e2,e3,e4⟩:=a4 (off+(i*e+j)) (by omega) (by omega)
     rw [hd i j hi hj] at e1;cases e1
     rw [show off+(i*e+j)-dd=o+(i*e+j) by omega] at e3
     exact ⟨y,e3,e4⟩
    refine .fz (fun i j=>if h:i<len∧j<e then (key i j h.1 h.2).choose else undef) hcz hle (fun i j hi hj=>?_) hs ha fun i j hi hj=>?_
    ·show _=some (if h:i<len∧j<e then (key i j h.1 h.2).choose else undef)
     rw [dif_pos ⟨hi,hj⟩];exact (key i j hi hj).choose_spec.1
    ·show VR R2 (c' i j) (if h:i<len∧j<e then (key i j h.1 h.2).choose else undef)
     rw [dif_pos ⟨hi,hj⟩]
     exact ih i j hi hj (hage b c lo sz g (aV hb).1 _ _ (by have:=lt2 i j hi hj;omega) (hd i j hi hj)) (key i j hi hj).choose_spec.2
end
def kcP (k M:Nat) (H:EH) (v:V) (c:KC):Prop:=match c with | .keep v'=>cond (uz (Nat.succ k) v) (jJ v v') False | .new d=>cond (agM M v) (OL k (PI (Nat.succ k) H) v d) False
def G9 (k M:Nat) (H:EH) (l:List V):List KC→Prop:=List.rec (motive:=fun _=>List KC→Prop) (fun m=>match m with | []=>True | _=>False) (fun v _ ih m=>match m with | c::m=>kcP k M H v c∧ih m | []=>False) l
theorem D9 {k M:Nat} {H:EH}:∀ {l:List V} {m:List KC},G9 k M H l m→l.length=m.length∧∀ i (h1:i<l.length) (h2:i<m.length),kcP k M H l[i] m[i]
 | [],[],_=>⟨rfl,fun i h=>by simp at h⟩
 | [],_::_,h=>h.elim
 | _::_,[],h=>h.elim
 | v::l,c::m,h=>by
  obtain ⟨h1,h2⟩:=(show kcP k M H v c∧G9 k M H l m from h)
  obtain ⟨e1,e2⟩:=D9 h2
  refine ⟨by simp [e1],fun i p1 p2=>?_⟩
  cases i with
  | zero=>exact h1
  | succ i=>exact e2 i (by simpa using p1) (by simpa using p2)
def V3 (H:EH) (b:Nat):Option (List V):=match H.objs.get b with
 | some (.cells c lo sz g)=>cond (Nat.beq lo 0) (cond (Nat.beq g b) (cond (AP H b) (cellL c sz 0) none) none) none
 | _=>none
theorem L9 {H:EH} {b:Nat} {l:List V} (h:V3 H b=some l):∃ c sz,H.objs.get b=some (.cells c 0 sz b)∧H.grps.get b=none∧l.length=sz∧∀ j,j<sz→c.get j=l[j]?:=by
 unfold V3 at h
 split at h
 ·rename_i c lo sz g ho
  cases h1:Nat.beq lo 0 with
  | false=>rw [h1] at h;cases h
  | true =>
   rw [h1] at h
   cases h2:Nat.beq g b with
   | false=>rw [h2] at h;cases h
   | true =>
    rw [h2] at h
    have e1:=nb h1
    have e2:=nb h2
    subst e1;subst e2
    cases h3:AP H g with
    | false=>rw [h3] at h;cases h
    | true =>
     rw [h3] at h
     simp only [cond_true] at h
     obtain ⟨g1,g2⟩:=uQ h
     refine ⟨c,sz,ho,?_,g1,fun j hj=>by have:=g2 j hj;rw [Nat.zero_add] at this;exact this⟩
     unfold AP at h3
     split at h3
     ·assumption
     ·cases h3
 ·cases h
def rowP (k M:Nat) (H:EH) (b:Nat) (m:List KC):Prop:=match V3 H b with | some l=>G9 k M H l m | none=>False
def iV (rows:List (Nat×List KC)) (b:Nat):Option (List KC):=List.rec (motive:=fun _=>Option (List KC)) none (fun r _ ih=>cond (Nat.beq r.1 b) (some r.2) ih) rows
def mG (n:Nat) (l:List (Nat×List KC)):List (Nat×List V):=List.rec (motive:=fun _=>List (Nat×List V)) [] (fun c _ ih=>(c.1,qh n c.2)::ih) l
theorem BR (n b:Nat):∀ rows:List (Nat×List KC),Lh (mG n rows) b=match iV rows b with | some r=>some (qh n r) | none=>none
 | []=>rfl
 | r::rows=>by
  show cond (Nat.beq r.1 b) (some (qh n r.2)) (Lh (mG n rows) b)=match cond (Nat.beq r.1 b) (some r.2) (iV rows b) with | some r=>some (qh n r) | none=>none
  cases Nat.beq r.1 b with
  | true=>rfl
  | false=>exact BR n b rows
def uG (k M:Nat) (H:EH) (m:List (Nat×List KC)):Prop:=List.rec (motive:=fun _=>Prop) True (fun r _ ih=>rowP k M H r.1 r.2∧ih) m
theorem qZ {k M:Nat} {H:EH}:∀ {m:List (Nat×List KC)},uG k M H m→∀ b row,iV m b=some row→rowP k M H b row
 | [],_,b,row,h=>by cases h
 | r::m,hm,b,row,h=>by
  obtain ⟨h1,h2⟩:=(show rowP k M H r.1 r.2∧uG k M H m from hm)
  have h:cond (Nat.beq r.1 b) (some r.2) (iV m b)=some row:=h
  rw [aH] at h
  split at h
  ·rename_i e;cases h;rw [← e];exact h1
  ·exact qZ h2 b row h
def Hy (base:EH) (B b:Nat):Bool:=cond (Nat.ble B b) (cond (Nat.blt b base.next) (match base.objs.get b with | some (.cells _ _ _ g)=>Nat.beq g b | _=>false) false) false
def tC (base:EH) (B:Nat) (rows:List (Nat×List KC)):Bool:=List.rec (motive:=fun _=>Bool) true (fun r _ ih=>cond (Hy base B r.1) ih false) rows
def KX (o:Option (List KC)):Bool:=match o with | some _=>true | none=>false
def UU (o:Option EO):Bool:=match o with | some _=>false | none=>true
def Tn (base:EH) (B:Nat) (rows:List (Nat×List KC)):Bool:=dP (fun b=>cond (Nat.blt b B) true (cond (UU (base.objs.get b)) true (KX (iV rows b)))) base.next
theorem wo {base:EH} {B:Nat}:∀ {rows:List (Nat×List KC)},tC base B rows=true→∀ b row,iV rows b=some row→B≤b∧b<base.next∧∃ c lo sz,base.objs.get b=some (.cells c lo sz b)
 | [],_,b,row,h=>by cases h
 | r::rows,hm,b,row,h=>by
  obtain ⟨h1,h2⟩:=ax (show cond (Hy base B r.1) (tC base B rows) false=true from hm)
  have h:cond (Nat.beq r.1 b) (some r.2) (iV rows b)=some row:=h
  rw [aH] at h
  split at h
  ·rename_i e
   rw [e] at h1
   unfold Hy at h1
   obtain ⟨q1,h1⟩:=ax h1
   obtain ⟨q2,h1⟩:=ax h1
   split at h1
   ·rename_i c lo sz g ho
    have:=nb h1
    subst this
    exact ⟨Nat.le_of_ble_eq_true q1,dh q2,c,lo,sz,ho⟩
   ·cases h1
  ·exact wo h2 b row h
theorem Qb {base:EH} {B:Nat} {rows:List (Nat×List KC)} (h:Tn base B rows=true) {b:Nat} {o:EO} (hb:b<base.next) (ho:base.objs.get b=some o) (hB:B≤b):∃ row,iV rows b=some row:=by
 have:=aQ h b hb
 rw [dB,if_neg (by omega),ho] at this
 have this:KX (iV rows b)=true:=this
 cases e:iV rows b with
 | none=>rw [e] at this;cases this
 | some row=>exact ⟨row,rfl⟩
theorem GU {k M:Nat} {H:EH} {b:Nat} {m:List KC} (h:rowP k M H b m):∃ (c:T V) (sz:Nat) (l:List V),H.objs.get b=some (.cells c 0 sz b)∧H.grps.get b=none∧l.length=sz∧l.length=m.length∧(∀ j,j<sz→c.get j=l[j]?)∧∀ i (h1:i<l.length) (h2:i<m.length),kcP k M H l[i] m[i]:=by
 unfold rowP at h
 split at h
 ·rename_i l hl
  obtain ⟨c,sz,e1,e2,e3,e4⟩:=L9 hl
  obtain ⟨g1,g2⟩:=D9 h
  exact ⟨c,sz,l,e1,e2,e3,g1,e4,g2⟩
 ·exact h.elim
theorem Pz {n:Nat} {k M:Nat} {H:EH} {v:V} {c:KC} (h:kcP k M H v c) (hs:dE v=true):dE (enK n c)=true:=by
 cases c with
 | keep v' =>
  obtain ⟨_,h⟩:=bz (show cond (uz (Nat.succ k) v) (jJ v v') False from h)
  have:=dR h
  subst this
  exact hs
 | new d=>exact xN d n
def wI (R R':Ren) (n:Nat) (w w':World):Ren:=⟨R.bm,R'.zs,fun a r=>if a=n then (if w.heap.size≤r then (match w'.heap[r]? with | some (.cells cs _ _)=>some cs | _=>none) else none) else R.cz a r⟩
theorem Ll {R R':Ren} {n:Nat} {w w':World} {a r:Nat} {cs:Array Value} (e:(wI R R' n w w').cz a r=some cs):(a≠n∧R.cz a r=some cs)∨(a=n∧w.heap.size≤r∧∃ t fz,w'.heap[r]?=some (.cells cs t fz)):=by
 have e:(if a=n then (if w.heap.size≤r then (match w'.heap[r]? with | some (.cells cs _ _)=>some cs | _=>none) else none) else R.cz a r)=some cs:=e
 split at e
 ·rename_i ea
  split at e
  ·rename_i hz
   split at e
   ·rename_i c t fz hc;cases e;exact .inr ⟨ea,hz,t,fz,hc⟩
   ·cases e
  ·cases e
 ·rename_i ea;exact .inl ⟨ea,e⟩
theorem Gg {R R':Ren} {n:Nat} {w w':World} {r:Nat} {cs:Array Value} {t:TypeId} {fz:Nat×Nat} (h1:w.heap.size≤r) (h2:w'.heap[r]?=some (.cells cs t fz)):(wI R R' n w w').cz n r=some cs:=by
 show (if n=n then (if w.heap.size≤r then (match w'.heap[r]? with | some (.cells cs _ _)=>some cs | _=>none) else none) else R.cz n r)=some cs
 rw [if_pos rfl,if_pos h1,h2]
theorem tH {R R':Ren} {n:Nat} {w w':World} {a:Nat} (h:a≠n):(wI R R' n w w').cz a=R.cz a:=by
 funext r
 show (if a=n then _ else R.cz a r)=R.cz a r
 rw [if_neg h]
def qg (base:EH) (B M:Nat) (rows:List (Nat×List V)):EH:=⟨setAt rows base.objs,M,base.grps,bW B base.low⟩
theorem TZ {base:EH} {B k M:Nat} (hk:base.next=k+1) {rows:List (Nat×List KC)} {R R':Ren} {H':EH} {w w':World} (hok:tC base B rows=true) (hcv:Tn base B rows=true) (hrows:uG k M H' rows) (hr:Rel R All base w) (hw:WF base)
 (hN:base.next<M) (hM:H'.next≤M) (hf:Ar R base.next M) (s:SimA R R' (lowTo base big) H' w w') (hl:B≤H'.low) (hage:UO M (Nat.succ k) H'=true) :
 SimA R (wI R R' base.next w w') base (qg base B M (mG base.next rows)) w w'∧∀ v c x,kcP k M H' v c→VR R' v x→VR (wI R R' base.next w w') (enK base.next c) x:=by
 have hmin:=Ld B base.low
 have nx:(lowTo base big).next=base.next:=rfl
 have hcov:∀ b o,base.objs.get b=some o→B≤b→∃ row,iV rows b=some row:=fun b o ho hb=>Qb hcv (hw.lt b o ho) ho hb
 have hlow:=wo hok
 have getA:∀ b,iV rows b=none→(qg base B M (mG base.next rows)).objs.get b=base.objs.get b:=fun b hb=>by
  show (setAt (mG base.next rows) base.objs).get b=_
  rw [qQ,BR,hb]
 have getB:∀ b row,iV rows b=some row→(qg base B M (mG base.next rows)).objs.get b=some (oK (qh base.next row) b):=fun b row hb=>by
  show (setAt (mG base.next rows) base.objs).get b=_
  rw [qQ,BR,hb]
 have hnone:∀ b o,(qg base B M (mG base.next rows)).objs.get b=some o→b<base.next:=fun b o ho=>by
  cases hb:iV rows b with
  | some row=>exact (hlow b row hb).2.1
  | none=>rw [getA b hb] at ho;exact hw.lt b o ho
 have noneB:∀ b,b<B→iV rows b=none:=fun b hb=>by
  cases q:iV rows b with
  | none=>rfl
  | some row=>have:=(hlow b row q).1;omega
 -- what lies from B on is one of the rows
 have someB:∀ b o,(qg base B M (mG base.next rows)).objs.get b=some o→B≤b→∃ row,iV rows b=some row∧o=oK (qh base.next row) b:=fun b o ho hb=>by
  cases q:iV rows b with
  | some row=>rw [getB b row q] at ho;cases ho;exact ⟨row,rfl,rfl⟩
  | none =>
   rw [getA b q] at ho
   obtain ⟨row,e⟩:=hcov b o ho hb
   rw [q] at e;cases e
 have rootB:∀ b o,(qg base B M (mG base.next rows)).objs.get b=some o→B≤b→aG b o=b∧bn o=0:=fun b o ho hb=>by
  obtain ⟨_,_,rfl⟩:=someB b o ho hb
  exact ⟨rfl,rfl⟩
 have rootB0:∀ b o,base.objs.get b=some o→B≤b→aG b o=b∧bn o=0:=fun b o ho hb=>by
  obtain ⟨row,e⟩:=hcov b o ho hb
  obtain ⟨_,_,c,lo,sz,e⟩:=hlow b row e
  rw [ho] at e;cases e
  exact ⟨rfl,rfl⟩
 have rootA:∀ b o,base.objs.get b=some o→b<B→aG b o≤b:=fun b o ho hb=>hw.root b o ho
 have bmO:∀ b,b<base.next→R'.bm b=R.bm b:=fun b hb=>s.rx.same b (by rw [nx];omega)
 have hle:R.le (wI R R' base.next w w'):=⟨fun _ _ e=>e,fun b r d e=>s.rx.zs r (hr.img b r d e),fun a r cs e=>by
  by_cases ha:a=base.next
  ·subst ha;rw [(hf _ (Nat.le_refl _) hN).2 r] at e;cases e
  ·rw [tH ha];exact e⟩
 have hd:Dn base.next (wI R R' base.next w w') R':=⟨fun b hb=>bmO b hb,fun b r d hb e=>rfl,fun a ha=>by rw [tH (by omega)];exact s.rx.cz a (by rw [nx];omega)⟩
 have hrel':=SimA.rel s
 have hwf':=SimA.wf s
 -- a cell's value, as it is said
 have hval:∀ v c x,kcP k M H' v c→VR R' v x→VR (wI R R' base.next w w') (enK base.next c) x:=fun v c x hc hx=>by
  cases c with
  | keep v' =>
   obtain ⟨h1,h2⟩:=bz (show cond (uz (Nat.succ k) v) (jJ v v') False from hc)
   have:=dR h2
   subst this
   exact hx.down1 hd (by rw [hk];exact h1)
  | new d =>
   obtain ⟨hc0,hc⟩:=bz (show cond (agM M v) (OL k (PI (Nat.succ k) H') v d) False from hc)
   have hF:=BM (s := .new d) hc (fun a=>a) base.next
   have hrelN:Rel R' All (PI (Nat.succ k) H') w':=⟨hrel'.img,fun b o r d ho hb=>(hrel'.obj b o r d (oG ho).1 hb).mono (.refl _) hb rfl id (fun v=>by cases o<;>exact v),fun b b' o o' r d d' ho ho'=>hrel'.inj b b' o o' r d d' (oG ho).1 (oG ho').1,hrel'.frz⟩
   refine Ua (R':=R') (R2:=wI R R' base.next w w') (w':=w') (k:=k) (M:=M) hrelN (fun a r cs ha q=>?_) (fun a r cs ha ha' q=>?_) (fun b r d o ho hb cs t fz q=>?_) (fun b c lo sz g ho i v hi hv=>PN hage hwf' ho hi hv) hF hc0 hx
   ·rw [tH (by omega),← s.rx.cz a (by rw [nx];omega)];exact q
   ·obtain ⟨⟨t,fz,hc⟩,_⟩:=hrel'.frz a r cs q
    rcases s.rx.czn a r cs q with z | z
    ·rw [(hf a (by omega) ha').2 r] at z;cases z
    ·exact Gg z hc
   ·refine Gg ?_ q
    obtain ⟨h1,h2⟩:=oG ho
    have hlt:=hwf'.lt b o h1
    have hroot:=hwf'.root b o h1
    rcases s.rx.neu b r d (by rw [nx];omega) hlt hb with z | ⟨b0,o0,o',z1,z2,z3,_,_,z4⟩
    ·exact z
    ·rw [h1] at z3;cases z3
     have q1:=hw.root b0 o0 z1
     have q2:=hw.lt b0 o0 z1
     omega
 have keepA:∀ b o,base.objs.get b=some o→b<B→H'.objs.get b=some o∧H'.grps.get (aG b o)=base.grps.get (aG b o):=fun b o ho hb=>by
  refine s.es.keep b o ho fun q=>?_
  have q:H'.low≤aG b o:=q
  have:=rootA b o ho hb
  omega
 have wf2:WF (qg base B M (mG base.next rows)):=by
  refine ⟨fun b o ho=>Nat.lt_trans (hnone b o ho) hN,fun b o ho=>?_,fun g hg b b' o o' ho ho' h1 h2=>?_,fun g x h=>Nat.lt_trans (hw.gdom g x h) hN⟩
  ·by_cases hb:b<B
   ·rw [getA b (noneB b hb)] at ho;exact rootA b o ho hb
   ·rw [(rootB b o ho (by omega)).1];exact Nat.le_refl b
  ·by_cases hb:b<B
   ·rw [getA b (noneB b hb)] at ho
    by_cases hb':b'<B
    ·rw [getA b' (noneB b' hb')] at ho'
     exact hw.uniq g hg b b' o o' ho ho' h1 h2
    ·have q:=(rootB b' o' ho' (by omega)).1
     have:=rootA b o ho hb
     omega
   ·have q:=(rootB b o ho (by omega)).1
    by_cases hb':b'<B
    ·rw [getA b' (noneB b' hb')] at ho'
     have:=rootA b' o' ho' hb'
     omega
    ·have q':=(rootB b' o' ho' (by omega)).1
     omega
 have es2:ES base (qg base B M (mG base.next rows)) (LW (qg base B M (mG base.next rows))):=by
  refine ⟨Nat.le_of_lt hN,hmin.2,fun b o ho=>?_,fun b o ho hn=>?_,fun b o' ho hb=>?_,wf2,fun g h=>h,fun b o' ho hb=>absurd (hnone b o' ho) (by omega)⟩
  ·by_cases hb:b<B
   ·exact ⟨o,by rw [getA b (noneB b hb)];exact ho,rfl,rfl⟩
   ·obtain ⟨row,e⟩:=hcov b o ho (by omega)
    obtain ⟨q1,q2⟩:=rootB0 b o ho (by omega)
    exact ⟨_,getB b row e,by rw [q1];rfl,by rw [q2];rfl⟩
  ·have hn:¬ bW B base.low≤aG b o:=hn
   have hb:b<B:=by
    rcases Nat.lt_or_ge b B with q | q
    ·exact q
    ·rw [(rootB0 b o ho q).1] at hn;omega
   exact ⟨by rw [getA b (noneB b hb)];exact ho,rfl⟩
  ·by_cases hb':b<B
   ·rw [getA b (noneB b hb')] at ho
    exact ⟨o',ho⟩
   ·obtain ⟨row,e,_⟩:=someB b o' ho (by omega)
    obtain ⟨_,_,c,lo,sz,e⟩:=hlow b row e
    exact ⟨_,e⟩
 have rel2:Rel (wI R R' base.next w w') All (qg base B M (mG base.next rows)) w':=by
  refine ⟨fun b r d hb=>Nat.lt_of_lt_of_le (hr.img b r d hb) s.fr.size,fun b o r d ho hb=>?_,fun b b' o o' r d d' ho ho' hb hb'=>?_,fun a r cs e=>?_⟩
  ·have hb:R.bm b=some (r,d):=hb
   by_cases hbB:b<B
   ·rw [getA b (noneB b hbB)] at ho
    refine (hr.obj b o r d ho hb).mono hle hb (s.fr.keep r (hr.img b r d hb) fun b2 o2 d2 h2 hb2 q=>?_) (fun _=>trivial) (fun v=>by cases o<;>exact v)
    have h2:base.objs.get b2=some o2:=h2
    have q:H'.low≤aG b2 o2:=q
    have:=rootA b o ho hbB
    rcases hr.inj b b2 o o2 r d d2 ho h2 hb hb2 with e | ⟨_,_,_,e⟩
    ·subst e
     rw [ho] at h2;cases h2
     omega
    ·omega
   ·obtain ⟨row,hrw,rfl⟩:=someB b o ho (by omega)
    obtain ⟨c,sz,l,h1,h2,h3,h6,h4,h5⟩:=GU (qZ hrows b row hrw)
    have hbm:R'.bm b=some (r,d):=by rw [bmO b (hlow b row hrw).2.1];exact hb
    obtain ⟨cs,t,fz,g1,g2,g3,g4⟩:=hrel'.obj b _ r d h1 hbm
    refine ⟨cs,t,fz,g1,g2,g3,fun _ _ i hi1 hi2=>?_⟩
    have hi2:i<lenV (qh base.next row):=hi2
    rw [xO,yG,List.length_map] at hi2
    obtain ⟨q,x,y,e1,e2,e3,e4⟩:=g4 trivial (by show H'.valid b sz b=true;unfold EH.valid;rw [h2]) i (Nat.zero_le _) (by omega)
    rw [h4 i (by omega)] at e1
    have hil:i<l.length:=by omega
    rw [List.getElem?_eq_getElem hil] at e1
    have e1:=Option.some.inj e1
    have hc:=h5 i hil hi2
    rw [e1] at hc
    refine ⟨q,enK base.next row[i],y,?_,Pz hc e2,e3,hval _ _ _ hc e4⟩
    show (T.setL .lf 0 (qh base.next row)).get i=_
    rw [T.get_setL,if_pos (by rw [yG,List.length_map];omega),Nat.sub_zero,yG,List.getElem?_map,List.getElem?_eq_getElem hi2];rfl
  ·have hb:R.bm b=some (r,d):=hb
   have hb':R.bm b'=some (r,d'):=hb'
   have hb1:=hnone b o ho
   have hb2:=hnone b' o' ho'
   have lift:∀ b o,(qg base B M (mG base.next rows)).objs.get b=some o→∃ o0,H'.objs.get b=some o0∧bn o0=bn o∧aG b o0=aG b o:=fun b o ho=>by
    by_cases hbB:b<B
    ·rw [getA b (noneB b hbB)] at ho;exact ⟨o,(keepA b o ho hbB).1,rfl,rfl⟩
    ·obtain ⟨row,hrw,rfl⟩:=someB b o ho (by omega)
     obtain ⟨c,sz,l,h1,_⟩:=GU (qZ hrows b row hrw)
     exact ⟨_,h1,rfl,rfl⟩
   obtain ⟨o0,p1,p2,p3⟩:=lift b o ho
   obtain ⟨o1,p4,p5,p6⟩:=lift b' o' ho'
   rcases hrel'.inj b b' o0 o1 r d d' p1 p4 (by rw [bmO b hb1];exact hb) (by rw [bmO b' hb2];exact hb') with e | ⟨e1,e2,e3,e4⟩
   ·exact .inl e
   ·exact .inr ⟨e1,by rw [← p2];exact e2,by rw [← p5];exact e3,by rw [← p3,← p6];exact e4⟩
  ·rcases Ll e with ⟨ha,q⟩ | ⟨_,q,t,fz,hc⟩
   ·obtain ⟨⟨t,fz,z1⟩,z2⟩:=hr.frz a r cs q
    exact ⟨⟨t,fz,(s.fr.keep r (hr.frz.lt q) fun b o d _ hb=>absurd hb (z2 b d)).trans z1⟩,z2⟩
   ·refine ⟨⟨t,fz,hc⟩,fun b d z=>?_⟩
    have z:R.bm b=some (r,d):=z
    have:=hr.img b r d z
    omega
 refine ⟨⟨es2,⟨fun _ _=>rfl,fun r hr'=>s.rx.zs r hr',fun b r d h1 h2 e=>?_,fun a ha=>?_,fun a r cs e=>?_⟩,⟨s.fr.os,s.fr.tape,s.fr.output,s.fr.size,fun r hr' hn=>s.fr.keep r hr' fun b o d ho hb q=>?_⟩,Rel.weak (S:=All) rel2 fun _ _=>trivial⟩,hval⟩
 ·have e:R.bm b=some (r,d):=e
  rw [(hf b h1 h2).1] at e;cases e
 ·exact tH fun q=>ha (by subst q;exact ⟨Nat.le_refl _,hN⟩)
 ·rcases Ll e with ⟨_,q⟩ | ⟨_,q,_⟩
  ·exact .inl q
  ·exact .inr q
 ·have q:H'.low≤aG b o:=q
  exact hn b o d ho hb (by show bW B base.low≤aG b o;omega)
structure FS where
 (l:List KC) (rows:List (Nat×List KC))
inductive FL where
 | next (s:FS)
 | exit (id:Nat) (s:FS)
 | ret (s:FS)
def FL.s:FL→FS | .next s=>s | .exit _ s=>s | .ret s=>s
def FL.res (lt:LT) (n:Nat) (base:EH) (M:Nat):FL→Res
 | .next s => .normal ⟨iU (lF lt.ts (qh base.next s.l)),n,[]⟩ (qg base lt.B M (mG base.next s.rows))
 | .exit id s => .exit id ⟨iU (lF lt.xs (qh base.next s.l)),n,[]⟩ (qg base lt.B M (mG base.next s.rows))
 | .ret s => .ret ⟨iU (lF lt.rs (qh base.next s.l)),n,[]⟩ (qg base lt.B M (mG base.next s.rows))
theorem FL.res_H (lt:LT) (n:Nat) (base:EH) (M:Nat) (fl:FL):(fl.res lt n base M).H=qg base lt.B M (mG base.next fl.s.rows):=by cases fl<;>rfl
def Xm (base:EH) (lt:LT) (n M k:Nat) (s:FS) (a:EA) (H:EH):Bool:=cond (Nat.beq a.n n) (cond (Nat.ble lt.B H.low) (cond (Nat.ble H.next M) (cond (BX a.df []) (cond (UO M (Nat.succ k) H) (cond (tC base lt.B s.rows) (Tn base lt.B s.rows) false) false) false) false) false) false
def xI (base:EH) (lt:LT) (n M k:Nat) (ts:List Nat) (s:FS) (a:EA) (H:EH):Prop:=cond (Xm base lt n M k s a H) (G9 k M H (gp a ts) s.l∧uG k M H s.rows) False
def Ku (base:EH) (lt:LT) (n M k:Nat) (fl:FL) (r:Res):Prop:=match r,fl with
 | .normal a H,.next s=>xI base lt n M k lt.ts s a H
 | .exit i a H,.exit j s=>cond (Nat.beq i j) (xI base lt n M k lt.xs s a H) False
 | .ret a H,.ret s=>xI base lt n M k lt.rs s a H
 | _,_=>False
theorem mM {base:EH} {lt:LT} {n M k:Nat} {ts:List Nat} {s:FS} {a:EA} {H:EH} (h:xI base lt n M k ts s a H):a.n=n∧lt.B≤H.low∧H.next≤M∧a.df=[]∧UO M (Nat.succ k) H=true∧tC base lt.B s.rows=true∧Tn base lt.B s.rows=true∧G9 k M H (gp a ts) s.l∧uG k M H s.rows:=by
 obtain ⟨h1,h2,h3⟩:=bz (show cond (Xm base lt n M k s a H) (G9 k M H (gp a ts) s.l∧uG k M H s.rows) False from h)
 obtain ⟨e1,h1⟩:=ax h1
 obtain ⟨e2,h1⟩:=ax h1
 obtain ⟨e3,h1⟩:=ax h1
 obtain ⟨e4,h1⟩:=ax h1
 obtain ⟨e5,h1⟩:=ax h1
 obtain ⟨e6,e7⟩:=ax h1
 exact ⟨nb e1,Nat.le_of_ble_eq_true e2,Nat.le_of_ble_eq_true e3,nJ e4,e5,e6,e7,h2,h3⟩
theorem QT {k M:Nat} {H:EH} {N:Nat}:∀ {ts:List Nat} {a:EA} {l:List KC},G9 k M H (gp a ts) l→∀ p∈lF ts (qh N l),p.1∈ts∧∃ c,p.2=enK N c∧kcP k M H (a.get p.1) c
 | [],a,[],_,p,hp=>by cases hp
 | [],a,_::_,h,_,_=>h.elim
 | _::_,a,[],h,_,_=>h.elim
 | t::ts,a,c::l,h,p,hp=>by
  obtain ⟨h1,h2⟩:=(show kcP k M H (a.get t) c∧G9 k M H (gp a ts) l from h)
  rcases List.mem_cons.1 (show p∈(t,enK N c)::lF ts (qh N l) from hp) with rfl | hp
  ·exact ⟨List.mem_cons_self,c,rfl,h1⟩
  ·obtain ⟨q1,q2⟩:=QT h2 p hp
   exact ⟨List.mem_cons_of_mem _ q1,q2⟩
def ltF (base:EH) (lt:LT) (n M k:Nat):Bool:=cond (iC n lt.ts) (cond (iC n lt.xs) (cond (iC n lt.rs) (cond (Nat.beq base.next (Nat.succ k)) (Nat.blt base.next M) false) false) false) false
theorem UZ {base:EH} {lt:LT} {n M k:Nat} (h:ltF base lt n M k=true):iC n lt.ts=true∧iC n lt.xs=true∧iC n lt.rs=true∧base.next=k+1∧base.next<M:=by
 obtain ⟨h1,h⟩:=ax h
 obtain ⟨h2,h⟩:=ax h
 obtain ⟨h3,h⟩:=ax h
 obtain ⟨h4,h5⟩:=ax h
 exact ⟨h1,h2,h3,nb h4,dh h5⟩
theorem ZF {base:EH} {lt:LT} {n M k:Nat} {c:Code} {l:List V} {r:Res} {fl:FL} (hok:ltF base lt n M k=true) (hJ:J P none c ⟨iU (lF lt.ts l),n,[]⟩ (lowTo base big) r) (hl:Ku base lt n M k fl r) {a:EA} (hn:a.n=n) (hd:a.df=[]) (hla:gp a lt.ts=l) :
 J P none c a base (fl.res lt n base M):=by
 obtain ⟨ht,hx,hrs,hk,hN⟩:=UZ hok
 obtain ⟨_,j2,m,j3⟩:=hJ
 have hM:r.H.next≤M:=by
  cases r with
  | v v H1=>exact hl.elim
  | normal a H1=>cases fl with
   | next f=>exact (mM (base:=base) hl).2.2.1
   | _=>exact hl.elim
  | exit id a H1=>cases fl with
   | exit j f=>exact (mM (base:=base) (bz hl).2).2.2.1
   | _=>exact hl.elim
  | ret a H1=>cases fl with
   | ret f=>exact (mM (base:=base) hl).2.2.1
   | _=>exact hl.elim
 refine ⟨(fun v H' e=>by cases fl<;>cases e),(by rw [FL.res_H];exact Nat.le_of_lt hN),m,fun R w A k' rr hr hw hf ha hro=>?_⟩
 rw [FL.res_H] at hf
 have hf:Ar R base.next M:=hf
 cases rr with
 | some lr=>exact hro.elim
 | none =>
 have hw2:WF (lowTo base big):=⟨hw.lt,hw.root,hw.uniq,hw.gdom⟩
 have hr2:Rel R All (lowTo base big) w:=⟨hr.img,fun b o r d ho hb=>(hr.obj b o r d ho hb).mono (.refl R) hb rfl id (fun v=>by cases o<;>exact v),hr.inj,hr.frz⟩
 refine (j3 R w A k' none hr2 hw2 (fun b h1 h2=>hf b h1 (by have h2:b<r.H.next:=h2;omega)) ⟨?_,?_⟩ trivial).mono fun e A' w' ⟨R',sm,x⟩=>?_
 ·have ht':=ha.tm
  rw [hn] at ht'
  rw [← hla]
  refine TR.live ht' _ fun p hp=>?_
  obtain ⟨q1,q2,q3⟩:=ug _ _ hp
  exact ⟨pU ht _ q1,by rw [q2];exact ht'.val p.1⟩
 ·have:=ha.df
  rw [hd] at this;exact this
 have core:∀ (a:EA) (H1:EH) (ts:List Nat) (f:FS),r.H=H1→iC n ts=true→xI base lt n M k ts f a H1→AR R' a A' →
  SimA R (wI R R' base.next w w') base (qg base lt.B M (mG base.next f.rows)) w w'∧AR (wI R R' base.next w w') ⟨iU (lF ts (qh base.next f.l)),n,[]⟩ A':=fun a H1 ts f hH hlt hlv ha'=>by
  obtain ⟨e1,e2,e3,e4,e5,e6,e7,e8,e9⟩:=mM hlv
  subst hH
  obtain ⟨k1,k2⟩:=TZ hk e6 e7 e9 hr hw hN e3 hf sm e2 e5
  refine ⟨k1,⟨?_,?_⟩⟩
  ·have ht':=ha'.tm
   rw [e1] at ht'
   refine TR.live ht' _ fun p hp=>?_
   obtain ⟨q1,c,q2,q3⟩:=QT e8 p hp
   refine ⟨pU hlt _ q1,?_⟩
   rw [q2]
   exact k2 _ _ _ q3 (ht'.val p.1)
  ·have:=ha'.df
   rw [e4] at this
   cases hd:A'.defers with
   | nil=>exact trivial
   | cons d ds=>rw [hd] at this;exact this.elim
 cases r with
 | v v H1=>exact hl.elim
 | normal a H1=>cases fl with
  | next f =>
   cases e<;>try exact x.elim
   obtain ⟨b1,b2⟩:=core a H1 lt.ts f rfl ht hl x
   exact ⟨_,b1,b2⟩
  | _=>exact hl.elim
 | exit id a H1=>cases fl with
  | exit j f =>
   obtain ⟨q0,q⟩:=bz hl
   have:=nb q0
   subst this
   cases e<;>try exact x.elim
   obtain ⟨x1,x2⟩:=x
   obtain ⟨b1,b2⟩:=core a H1 lt.xs f rfl hx q x2
   exact ⟨_,b1,x1,b2⟩
  | _=>exact hl.elim
 | ret a H1=>cases fl with
  | ret f =>
   cases e<;>try exact x.elim
   obtain ⟨b1,b2⟩:=core a H1 lt.rs f rfl hrs hl x
   exact ⟨_,b1,b2⟩
  | _=>exact hl.elim
def WE (a b:Nat):Prop:=cond (Nat.beq a b) True False
theorem TP (a b:Nat) (h:WE a b):a=b:=by
 cases q:Nat.beq a b with
 | true=>exact nb q
 | false=>have h:cond (Nat.beq a b) True False:=h;rw [q] at h;exact h.elim
def WI (a b:qo):Prop:=match a,b with | (x,y,t),(x',y',t')=>cond (Nat.beq x x') (cond (Nat.beq y y') (nO WE t t') False) False
theorem TE (a b:qo) (h:WI a b):a=b:=by
 obtain ⟨x,y,t⟩:=a
 obtain ⟨x',y',t'⟩:=b
 obtain ⟨h1,h⟩:=bz (show cond (Nat.beq x x') (cond (Nat.beq y y') (nO WE t t') False) False from h)
 obtain ⟨h2,h3⟩:=bz h
 rw [nb h1,nb h2,o7 TP h3]
def Vl (H base:EH):Prop:=match H,base with
 | ⟨o,n,g,l⟩,⟨o',n',g',l'⟩=>cond (Nat.beq n n') (cond (Nat.beq l l') (nO WI g g'∧nO zN o o') False) False
theorem SN {H base:EH} (h:Vl H base):H=base:=by
 obtain ⟨o,n,g,l⟩:=H
 obtain ⟨o',n',g',l'⟩:=base
 obtain ⟨h1,h⟩:=bz (show cond (Nat.beq n n') (cond (Nat.beq l l') (nO WI g g'∧nO zN o o') False) False from h)
 obtain ⟨h2,h3,h4⟩:=bz h
 rw [nb h1,nb h2,o7 TE h3,o7 (fun _ _=>D5) h4]
def G6 (base:EH) (lt:LT) (n:Nat) (l:List V) (a:EA) (H:EH):Prop:=Vl H base∧cond (Nat.beq a.n n) (cond (BX a.df []) (Bl (gp a lt.ts) l) False) False
def JF (P:Program) (base:EH) (lt:LT) (n M:Nat) (c:Code) (l:List V) (fl:FL):Prop:=∀ a H,G6 base lt n l a H→J P none c a H (fl.res lt n base M)
theorem Vb {base:EH} {lt:LT} {n M k:Nat} {c:Code} {l:List V} {fl:FL} (hok:ltF base lt n M k=true) (h:jk P c ⟨iU (lF lt.ts l),n,[]⟩ (lowTo base big) (Ku base lt n M k fl)):JF P base lt n M c l fl:=fun a H he=>by
 obtain ⟨e1,e2⟩:=he
 have e1:=SN e1
 subst e1
 obtain ⟨e3,e2⟩:=bz e2
 obtain ⟨e4,e2⟩:=bz e2
 obtain ⟨r,hJ,hl⟩:=h
 exact ZF hok hJ hl (nb e3) (nJ e4) (su e2)
def aP (P:Program) (X:Ext) (N:Nat) (c:Code) (base:EH) (lt:LT) (n M k:Nat) (l:List V) (fl:FL):D:=oW P X N none c ⟨iU (lF lt.ts l),n,[]⟩ (lowTo base big) (Ku base lt n M k fl)
theorem aC (hD:aN P) {X:Ext} (hX:dC P X) {base:EH} {lt:LT} {n M k N:Nat} {c:Code} {l:List V} {fl:FL} {h:HT} (hok:ltF base lt n M k=true) (hv:VC (aP P X N c base lt n M k l fl) h):JF P base lt n M c l fl:=by
 obtain ⟨r,_,hJ,hp⟩:=Gy hD hX hv.ok
 exact Vb hok ⟨r,hJ,hp⟩
def toF (P:Program) (X:Ext) (N:Nat) (q:List Nat) (c:Code) (p:List Nat) (x:Code) (base:EH) (lt:LT) (n:Nat) (l:List V) (a:EA) (H:EH):D :=
 eF P kD X (.leaf False) N none q c a H (fun a H=>eF P kD X (.leaf False) N none p x a H (fun a H => .leaf (G6 base lt n l a H)))
theorem qY (hD:aN P) {X:Ext} (hX:dC P X) {N:Nat} {q p:List Nat} {c x rest:Code} {a:EA} {H:EH} {ψ:Res→Prop} {base:EH} {lt:LT} {n M:Nat} {l:List V} {fl:FL} {E:EA→EH→D} {h2:HT}
 (hc:sub q c = .seq x rest) (hf:∀ r (K:Res→D),bZ P kD X (.leaf False) N none q c r K=K r)
 (h1:den (toF P X N q c p x base lt n l a H)) (hL:JF P base lt n M (sub p x) l fl)
 (he:VC (lZ P X N p x (fl.res lt n base M) E) h2) (hn:∀ a H,den (E a H)→jk P rest a H ψ):jk P c a H ψ:=by
 obtain ⟨aq,Hq,q1,q2⟩:=kK q h1
 obtain ⟨a1,H1,q3,q4⟩:=kK p q2
 obtain ⟨rx,j2,j3⟩:=Dc hD hX p q3 _ (hL a1 H1 q4) (eU _ _ he.ok)
 cases rx with
 | normal a' H' =>
  obtain ⟨r,j4,j5⟩:=hn a' H' j3
  have jw:=DL j2 j4
  rw [← hc] at jw
  exact BK hD hX q q1 ψ jw (by rw [hf];exact j5)
 | _=>exact (show False from j3).elim
theorem Em (hD:aN P) {X:Ext} (hX:dC P X) {N:Nat} {p:List Nat} {c:Code} {a:EA} {H:EH} {ψ:Res→Prop} {base:EH} {lt:LT} {n M:Nat} {l:List V} {fl:FL} {E:Res→D} {h2:HT}
 (h1:den (eF P kD X (.leaf False) N none p c a H (fun a H => .leaf (G6 base lt n l a H)))) (hL:JF P base lt n M (sub p c) l fl)
 (he:VC (bZ P kD X (.leaf False) N none p c (fl.res lt n base M) E) h2) (hn:∀ r,den (E r)→ψ r):jk P c a H ψ:=by
 obtain ⟨a1,H1,q3,q4⟩:=kK p h1
 obtain ⟨rx,j2,j3⟩:=Dc hD hX p q3 _ (hL a1 H1 q4) (eU _ _ he.ok)
 exact ⟨rx,j2,hn rx j3⟩
theorem LK {g:FuncId} {das:List DA} {φ:V→EH→Prop} (h1:Gp P g (enc das 0)=true) (h:jk P (dV P g) ⟨gJ false (enc das 0),uA P g,[]⟩ (aY (wH das 0+1)) (resD P g φ)) :
 ∃ v' H',SpecCall P g (enc das 0) (aY (wH das 0+1)) v' H'∧φ v' H':=by
 obtain ⟨r,j,hr⟩:=h
 unfold resD at hr
 cases ha:wV P g r with
 | none=>rw [ha] at hr;exact hr.elim
 | some q =>
  rw [ha] at hr
  cases q with
  | v v H'=>exact ⟨v,H',UY false h1 j ha,hr⟩
  | _=>exact hr.elim
theorem RG {c:Code} {a a1:EA} {H H1:EH} {r:Res} (h1:J P none c a H (.normal a1 H1)) (h2:J P none (.loop c) a1 H1 r):J P none (.loop c) a H r:=by
 obtain ⟨k1,k2,m,k3⟩:=h2
 obtain ⟨j1,j2,m1,j3⟩:=h1
 have j2:H.next≤H1.next:=j2
 refine ⟨k1,by omega,m+1,fun R w A n rr hr hw hf ha hro=>?_⟩
 show Code.roundsIn (FF rr) n P c _ (m+1) A w
 refine Go.wpIn_mono (wpM.wp (j3 R w A n rr hr hw (hf.less k2) ha hro)) fun e A1 w1 ⟨R1,s1,x1⟩=>?_
 cases e<;>try exact x1.elim
 have:=k3 R1 w1 A1 n rr s1.rel s1.wf (s1.free hf) x1 (hro.mono (s1.le hr (hf.less k2)))
 have:Code.roundsIn (FF rr) n P c (PostC R1 H1 r w1) m A1 w1:=this
 exact lG (fun e A w' p=>PostC.trans s1 _ _ _ p) m A1 w1 this
theorem Gi {c:Code} {a:EA} {H:EH} {r:Res} (h1:J P none c a H r) (hr:∀ a1 H1,r ≠ .normal a1 H1):J P none (.loop c) a H r:=by
 obtain ⟨j1,j2,m1,j3⟩:=h1
 refine ⟨j1,j2,1,fun R w A n rr hr' hw hf ha hro=>?_⟩
 show Code.roundsIn (FF rr) n P c _ 1 A w
 refine Go.wpIn_mono (wpM.wp (j3 R w A n rr hr' hw hf ha hro)) fun e A1 w1 p=>?_
 cases e with
 | normal =>
  obtain ⟨R2,_,x⟩:=p
  cases r with
  | normal a1 H1=>exact absurd rfl (hr a1 H1)
  | _=>exact x.elim
 | _=>exact p
def RJ (P:Program) (c:Code) (ψ:Res→Prop) (r:Res):Prop:=match r with | .normal a H=>jk P (.loop c) a H ψ | r=>ψ r
theorem nC {c:Code} {a:EA} {H:EH} {ψ:Res→Prop} (h:jk P c a H (RJ P c ψ)):jk P (.loop c) a H ψ:=by
 obtain ⟨r,j,hr⟩:=h
 cases r with
 | normal a1 H1 =>
  obtain ⟨r2,j2,h2⟩:=(show jk P (.loop c) a1 H1 ψ from hr)
  exact ⟨r2,RG j j2,h2⟩
 | exit id a1 H1=>exact ⟨_,Gi j (fun _ _ q=>by cases q),hr⟩
 | ret a1 H1=>exact ⟨_,Gi j (fun _ _ q=>by cases q),hr⟩
 | v v H1=>exact absurd rfl (j.1 v H1)
def nxI (P:Program) (X:Ext) (N:Nat) (p:List Nat) (c:Code) (base:EH) (lt:LT) (n:Nat) (l:List V) (r:Res):D:=match r with | .normal a H=>eF P kD X (.leaf False) N none p c a H (fun a H => .leaf (G6 base lt n l a H)) | _ => .leaf False
def nxX (P:Program) (X:Ext) (N:Nat) (c:Code) (ψ:Res→Prop) (r:Res):D:=match r with | .normal a H=>oW P X N none c a H (RJ P c ψ) | _ => .leaf False
theorem gI (hD:aN P) {X:Ext} (hX:dC P X) {N:Nat} {p:List Nat} {c:Code} {a:EA} {H:EH} {ψ:Res→Prop} {base base2:EH} {lt lt2:LT} {n M:Nat} {l l2:List V} {fl:FL} {h2:HT}
 (h1:den (eF P kD X (.leaf False) N none p c a H (fun a H => .leaf (G6 base lt n l a H)))) (hL:JF P base lt n M (sub p c) l fl)
 (he:VC (bZ P kD X (.leaf False) N none p c (fl.res lt n base M) (nxI P X N p c base2 lt2 n l2)) h2) (hn:∀ a H,den (eF P kD X (.leaf False) N none p c a H (fun a H => .leaf (G6 base2 lt2 n l2 a H)))→jk P (.loop c) a H ψ):jk P (.loop c) a H ψ :=
 nC (Em hD hX h1 hL he fun r hd=>by
  cases r with
  | normal a H=>exact hn a H hd
  | _=>exact (show False from hd).elim)
theorem oP (hD:aN P) {X:Ext} (hX:dC P X) {N:Nat} {p:List Nat} {c:Code} {a:EA} {H:EH} {ψ:Res→Prop} {base:EH} {lt:LT} {n M:Nat} {l:List V} {fl:FL} {h2:HT}
 (h1:den (eF P kD X (.leaf False) N none p c a H (fun a H => .leaf (G6 base lt n l a H)))) (hL:JF P base lt n M (sub p c) l fl)
 (he:VC (bZ P kD X (.leaf False) N none p c (fl.res lt n base M) (nxX P X N c ψ)) h2):jk P (.loop c) a H ψ :=
 nC (Em hD hX h1 hL he fun r hd=>by
  cases r with
  | normal a H=>exact nC (oC hD hX hd)
  | _=>exact (show False from hd).elim)
end
end Go.Ev
