/- Contracts, where rows of numbers that lie in memory are handed in: they are read as if they were frozen, as long as the call runs. -/
import Derived.Test.YtfogfppdplbbgaaGreatYEd
set_option linter.all false
set_option linter.unusedSimpArgs false
set_option linter.unusedVariables false
namespace Go.Ev
open Go
noncomputable section
variable {P:Program}
end
end Go.Ev
/- Loops whose rounds may append to a row, within other calls too: what a round leaves is packed: of what is new one row is kept at most, under a name of its own. -/
namespace Go.Ev
open Go
noncomputable section
variable {P:Program}
inductive Plc where
 | tmp (t:Nat)
 | cell (b j:Nat)
structure Acc where
 (nm rt sz:Nat) (c:T V) (plc:Plc) (lit:Bool)
structure GS where
 (l:List V) (rows:List (Nat×List V)) (acc:Option Acc)
def Gh (x:Option Acc) (t:T EO):T EO:=match x with | some x=>t.set x.nm (.cells x.c 0 x.sz x.rt) | none=>t
def Iq (x:Option Acc) (gs:T mG) (g:Nat):Option mG:=match x with | some x=>cond (Nat.beq x.rt g) (cond (Nat.beq x.rt x.nm) none (some (vS x.nm))) (gs.get g) | none=>gs.get g
def gsH (base:EH) (NX low:Nat) (s:GS):EH:=⟨Gh s.acc (setAt s.rows base.objs),NX,.fn (Iq s.acc base.grps),low⟩
def gsA (ts:List Nat) (n:Nat) (s:GS):EA:=⟨zF (Fq ts s.l),n,[]⟩
def Gx (base:EH) (L:Nat) (rows:List (Nat×List V)):Bool:=List.rec (motive:=fun _=>Bool) true (fun r _ ih=>cond (Nat.ble L r.1) (cond (Nat.blt r.1 base.next) (match base.objs.get r.1 with | some (.cells _ _ _ g)=>cond (Nat.beq g r.1) (cond (jg r.2) ih false) false | _=>false) false) false) rows
def IR (base:EH) (L NX:Nat) (x:Option Acc):Bool:=match x with
 | some x=>cond (Nat.ble base.next x.nm) (cond (Nat.blt x.nm NX) (cond (Nat.beq x.rt x.nm) true (cond (Nat.ble L x.rt) (Nat.blt x.rt base.next) false)) false) false
 | none=>true
def Jd (base:EH) (L NX:Nat) (s:GS):Bool:=cond (Gx base L s.rows) (IR base L NX s.acc) false
def He (base:EH) (L NX M n:Nat) (ts:List Nat):Bool:=cond (IL n ts) (cond (Nat.ble L base.next) (cond (Nat.ble L big) (cond (Nat.ble base.next NX) (Nat.ble NX M) false) false) false) false
def IW (c:T V) (sz:Nat):Prop:=∀ i,i<sz→∃ v,c.get i=some v∧Jm v=true
def zS (x:Option Acc):Prop:=match x with | some x=>IW x.c x.sz | none=>True
inductive EndK where
 | exit (id:Nat)
 | ret
def EndK.res (e:EndK) (a:EA) (H:EH):Res:=match e with | .exit id => .exit id a H | .ret => .ret a H
theorem Ro.sim {R R2:Ren} {H H2:EH} {w w':World} (h:SimA R R2 H H2 w w') (hf:Free R H H2) (hr:Rel R All H w) {ro rr:Option Nat} (q:Ro R ro rr):Ro R2 ro rr:=q.mono (h.le hr hf)
end
end Go.Ev
/- Code by packed states: pieces one after another, loops, all over one heap. -/
namespace Go.Ev
open Go
noncomputable section
variable {P:Program}
inductive Ok where
 | normal
 | exit (id:Nat)
 | ret
def Ok.res (o:Ok) (a:EA) (H:EH):Res:=match o with | .normal => .normal a H | .exit id => .exit id a H | .ret => .ret a H
structure Env where
 (base:EH) (L NX M n:Nat)
structure TS where
 (ts:List Nat) (s:GS)
def Env.H (E:Env) (x:TS):EH:=gsH E.base E.NX big x.s
def Env.A (E:Env) (x:TS):EA:=gsA x.ts E.n x.s
def Env.okB (E:Env) (x:TS):Bool:=cond (He E.base E.L E.NX E.M E.n x.ts) (Jd E.base E.L E.NX x.s) false
def Env.ok (E:Env) (x:TS):Prop:=E.okB x=true∧zS x.s.acc
theorem Env.ok_get {E:Env} {x:TS} (h:E.ok x):He E.base E.L E.NX E.M E.n x.ts=true∧Jd E.base E.L E.NX x.s=true∧zS x.s.acc:=by
 obtain ⟨h1,h2⟩:=ah h.1
 exact ⟨h1,h2,h.2⟩
theorem Env.le {E:Env} {x:TS} (h:E.ok x):E.base.next≤E.NX∧E.NX≤E.M∧E.L≤big:=by
 obtain ⟨_,h⟩:=ah (Env.ok_get h).1
 obtain ⟨_,h⟩:=ah h
 obtain ⟨h3,h⟩:=ah h
 obtain ⟨h1,h2⟩:=ah h
 exact ⟨Nat.le_of_ble_eq_true h1,Nat.le_of_ble_eq_true h2,Nat.le_of_ble_eq_true h3⟩
def Ok.block (o:Ok) (id:Nat):Ok:=match o with | .exit id'=>cond (Nat.beq id' id) .normal (.exit id') | o=>o
end
end Go.Ev
/- Contracts whose values hold new rows, also where arguments lie in memory; closed calls as contracts. -/
namespace Go.Ev
open Go
noncomputable section
variable {P:Program}
inductive Fn0 (H:EH) (k new:Nat):V→V→Prop where
 | bool (b:Bool):Fn0 H k new (.bool b) (.bool b)
 | int (kd:IntKind) (n:Int):Fn0 H k new (.int kd n) (.int kd n)
 | nilSlice:Fn0 H k new .nilSlice .nilSlice
 | nilS {q:Bool} {a:Nat} {c:Nat→Nat→V} {e:Nat}:Fn0 H k new .nilSlice (.fz q a c 0 e)
 | fz {q:Bool} {a:Nat} {c c':Nat→Nat→V} {len e:Nat} (h0:k<a) (hs:∀ i j,i<len→j<e→aS (c' i j)=true) (ha:∀ i j,i<len→j<e→Aged new (c' i j))
  (h:∀ i j,i<len→j<e→Fn0 H k new (c i j) (c' i j)):Fn0 H k new (.fz q a c len e) (.fz true new c' len e)
 | slice {b off len e lo sz g:Nat} {c:T V} {d c':Nat→Nat→V} (hb:H.block b = .mk c lo sz g) (hl:lo≤off) (hz:off+len*e≤sz) (hd:∀ i j,i<len→j<e→c.get (off+(i*e+j))=some (d i j))
  (hs:∀ i j,i<len→j<e→aS (c' i j)=true) (ha:∀ i j,i<len→j<e→Aged new (c' i j)) (h:∀ i j,i<len→j<e→Fn0 H k new (d i j) (c' i j)):Fn0 H k new (.slice b off len e) (.fz true new c' len e)
inductive Fn1 (H:EH) (k new:Nat):V→V→Prop where
 | one {v v':V} (h:Fn0 H k new v v'):Fn1 H k new v v'
 | agg {n:Nat} {c c':T V} (d d':Nat→V) (h1:∀ i,i<n→c.get i=some (d i)) (h2:∀ i,i<n→c'.get i=some (d' i)) (hs:∀ i,i<n→aS (d' i)=true) (h:∀ i,i<n→Fn0 H k new (d i) (d' i)):Fn1 H k new (.agg n c) (.agg n c')
inductive FnV (H:EH) (k new:Nat):V→V→Prop where
 | one {v v':V} (h:Fn1 H k new v v'):FnV H k new v v'
 | tup {l l':List V} (hl:l.length=l'.length) (h:∀ i (h1:i<l.length) (h2:i<l'.length),Fn1 H k new l[i] l'[i]):FnV H k new (.tup l) (.tup l')
section
variable {H':EH} {k new:Nat} {R' R2:Ren} {w':World} (hr:Rel R' All H' w')
 (hnew:∀ a r cs,k<a→R'.cz a r=some cs→R2.cz new r=some cs)
 (hobj:∀ b r d o,H'.objs.get b=some o→R'.bm b=some (r,d)→∀ cs t fz,w'.heap[r]?=some (.cells cs t fz)→R2.cz new r=some cs)
include hr hnew hobj
theorem D8 {v v':V} (h:Fn0 H' k new v v'):∀ {x:Value},VR R' v x→VR R2 v' x:=by
 induction h with
 | bool b=>intro x hx;cases hx;exact .bool b
 | int kd n=>intro x hx;cases hx;exact .int kd n
 | nilSlice=>intro x hx;cases hx;exact .nilSlice
 | nilS=>intro x hx;cases hx;exact .fzN
 | fz h0 hs ha _ ih =>
  intro x hx
  cases hx with
  | fzN=>exact .fzN
  | fzE h0=>exact .fzE (fun q=>by cases q)
  | fz y hc hl hy hs' ha' hv _=>exact .fz y (hnew _ _ _ h0 hc) hl hy hs ha fun i j hi hj=>ih i j hi hj (hv i j hi hj)
 | slice hb hl hz hd hs ha _ ih =>
  rename_i b off len e lo sz g c d c' h
  intro x hx
  cases hx with
  | slice hm ho hle hzz =>
   rename_i r dd o cap
   obtain ⟨cs,t,fz,a1,a2,a3,a4⟩:=hr.row hb hm trivial
   have hcz:=hobj b r dd _ (au hb).1 hm cs t fz a1
   by_cases h0:len=0
   ·subst h0;exact .fzE (fun q=>by cases q)
   ·have hcap:cap≠0:=by omega
    have ho':=ho hcap
    have key:∀ i j,i<len→j<e→∃ y,cs[o+(i*e+j)]?=some y∧VR R' (d i j) y:=fun i j hi hj=>by
     have hlt:i*e+j<len*e:=by
      have:(i+1)*e≤len*e:=Nat.mul_le_mul_right _ hi
      rw [Nat.add_mul] at this;omega
     obtain ⟨p,x,y,e1,e2,e3,e4⟩:=a4 (off+(i*e+j)) (by omega) (by omega)
     rw [hd i j hi hj] at e1;cases e1
     rw [show off+(i*e+j)-dd=o+(i*e+j) by omega] at e3
     exact ⟨y,e3,e4⟩
    refine .fz (fun i j=>if h:i<len∧j<e then (key i j h.1 h.2).choose else undef) hcz hle (fun i j hi hj=>?_) hs ha fun i j hi hj=>?_
    ·show _=some (if h:i<len∧j<e then (key i j h.1 h.2).choose else undef)
     rw [dif_pos ⟨hi,hj⟩];exact (key i j hi hj).choose_spec.1
    ·show VR R2 (c' i j) (if h:i<len∧j<e then (key i j h.1 h.2).choose else undef)
     rw [dif_pos ⟨hi,hj⟩];exact ih i j hi hj (key i j hi hj).choose_spec.2
theorem ET {v v':V} (h:Fn1 H' k new v v') {x:Value} (hx:VR R' v x):VR R2 v' x:=by
 cases h with
 | one h=>exact D8 hr hnew hobj h hx
 | agg d d' h1 h2 hs h=>exact hx.agg_as d d' h1 h2 hs fun i hi y hy=>D8 hr hnew hobj (h i hi) hy
theorem Ip {v v':V} (h:FnV H' k new v v') {x:Value} (hx:VR R' v x):VR R2 v' x:=by
 cases h with
 | one h=>exact ET hr hnew hobj h hx
 | tup hl h =>
  cases hx with
  | tup hl' hv=>exact .tup (by omega) fun i h1 h2=>ET hr hnew hobj (h i (by omega) h1) (hv i (by omega) h2)
end
def uT (n:Nat) (v:V):V:=match v with | .fz _ _ c len e => .fz true n c len e | v=>v
def wX (n:Nat) (v:V):V:=match v with | .fz _ _ c len e => .fz true n (fun i j=>uT n (c i j)) len e | v=>v
def zy (n:Nat) (l:List V):List V:=List.rec (motive:=fun _=>List V) [] (fun v _ ih=>wX n v::ih) l
def qx (n:Nat) (v:V):V:=match v with | .tup l => .tup (zy n l) | v=>wX n v
structure CL where
 (g:FuncId) (das:List DA) (v:V)
def ji (v v':V):Bool:=match v,v' with
 | .bool x,.bool y=>fQ x y
 | .int k x,.int k' y=>cond (gI k k') (zA x y) false
 | .nilSlice,.nilSlice=>true
 | _,_=>false
def rowB (one:V→V→Bool) (H:EH) (v v':V):Bool:=match v,v' with
 | .slice b off len e,.fz _ _ c' len' e'=>cond (Nat.beq len len') (cond (Nat.beq e e') (match H.block b with
  | .mk c lo sz _=>cond (Nat.ble lo off) (cond (Nat.ble (Nat.add off (Nat.mul len e)) sz) (tq (fun i=>tq (fun j=>match c.get (Nat.add off (Nat.add (Nat.mul i e) j)) with | some v=>one v (c' i j) | none=>false) e) len) false) false
  | .no=>false) false) false
 | .nilSlice,.fz _ _ _ len _=>Nat.beq len 0
 | v,v'=>ji v v'
def G9 (H:EH) (v v':V):Bool:=rowB ji H v v'
def GZ (H:EH) (v v':V):Bool:=rowB (G9 H) H v v'
def cellsB (one:V→V→Bool) (c c':T V) (n:Nat):Bool:=tq (fun i=>match c.get i,c'.get i with | some v,some v'=>one v v' | _,_=>false) n
def qU (H:EH) (v v':V):Bool:=match v,v' with
 | .agg n c,.agg n' c'=>cond (Nat.beq n n') (cellsB ji c c' n) false
 | v,v'=>GZ H v v'
def Dy (H:EH) (l:List V):List V→Bool:=List.rec (motive:=fun _=>List V→Bool) (fun m=>match m with | []=>true | _=>false) (fun v _ ih m=>match m with | v'::m=>cond (qU H v v') (ih m) false | []=>false) l
def Hz (H:EH) (v v':V):Bool:=match v,v' with
 | .tup l,.tup l'=>Dy H l l'
 | v,v'=>qU H v v'
theorem iE {H:EH} {k new:Nat} {v v':V} (h:ji v v'=true):Fn0 H k new v v'∧aS v'=true∧∀ n,Aged n v':=by
 unfold ji at h
 split at h
 ·have:=jC h;subst this;exact ⟨.bool _,rfl,fun _ => .bool _⟩
 ·obtain ⟨h1,h2⟩:=ah h
  have:=rM h1;subst this
  have:=zx h2;subst this
  exact ⟨.int _ _,rfl,fun _ => .int _ _⟩
 ·exact ⟨.nilSlice,rfl,fun _ => .nilSlice⟩
 ·cases h
theorem qH {v v':V} (h:ji v v'=true) (new:Nat):uT new v'=v'∧wX new v'=v':=by
 unfold ji at h
 split at h
 ·exact ⟨rfl,rfl⟩
 ·exact ⟨rfl,rfl⟩
 ·exact ⟨rfl,rfl⟩
 ·cases h
theorem pK {one:V→V→Bool} {H:EH} {v v':V} (h:rowB one H v v'=true):ji v v'=true∨(v = .nilSlice∧∃ q a c e,v' = .fz q a c 0 e)∨∃ b off len e q a c' c lo sz g,v = .slice b off len e∧v' = .fz q a c' len e∧H.block b = .mk c lo sz g∧lo≤off∧off+len*e≤sz∧∀ i j,i<len→j<e→∃ x,c.get (off+(i*e+j))=some x∧one x (c' i j)=true:=by
 unfold rowB at h
 split at h
 ·rename_i b off len e q a c' len' e'
  obtain ⟨h1,hA⟩:=ah h
  obtain ⟨h2,hB⟩:=ah hA
  have e1:=nb h1
  have e2:=nb h2
  clear h hA h1 h2
  subst e1
  subst e2
  split at hB
  ·rename_i c lo sz g hb
   obtain ⟨h3,hC⟩:=ah hB
   obtain ⟨h4,h5⟩:=ah hC
   refine .inr (.inr ⟨b,off,len,e,q,a,c',c,lo,sz,g,rfl,rfl,hb,Nat.le_of_ble_eq_true h3,Nat.le_of_ble_eq_true h4,fun i j hi hj=>?_⟩)
   have:=bG (bG h5 i hi) j hj
   have this:(match c.get (off+(i*e+j)) with | some v=>one v (c' i j) | none=>false)=true:=this
   split at this
   ·rename_i x hx;exact ⟨x,hx,this⟩
   ·cases this
  ·cases hB
 ·rename_i q a c' len' e'
  have:=nb h;subst this
  exact .inr (.inl ⟨rfl,q,a,c',e',rfl⟩)
 ·exact .inl h
theorem DT {H:EH} {k new:Nat} {v v':V} (h:G9 H v v'=true):Fn0 H k new v (uT new v')∧aS (uT new v')=true∧Aged new (uT new v'):=by
 rcases pK h with h | ⟨rfl,q,a,c,e,rfl⟩ | ⟨b,off,len,e,q,a,c',c,lo,sz,g,rfl,rfl,hb,h1,h2,h3⟩
 ·rw [(qH h new).1]
  obtain ⟨a,b,c⟩:=iE (H:=H) (k:=k) (new:=new) h
  exact ⟨a,b,c _⟩
 ·exact ⟨.nilS,rfl,.fz _ (Nat.le_refl _) fun i j hi=>absurd hi (by omega)⟩
 ·have key:∀ i j,i<len→j<e→∃ x,c.get (off+(i*e+j))=some x∧Fn0 H k new x (c' i j)∧aS (c' i j)=true∧Aged new (c' i j):=fun i j hi hj=>by
   obtain ⟨x,q1,q2⟩:=h3 i j hi hj
   obtain ⟨a,b,c⟩:=iE (H:=H) (k:=k) (new:=new) q2
   exact ⟨x,q1,a,b,c _⟩
  refine ⟨.slice (d:=fun i j=>(c.get (off+(i*e+j))).getD .bad) hb h1 h2 (fun i j hi hj=>?_) (fun i j hi hj=>?_) (fun i j hi hj=>?_) (fun i j hi hj=>?_),rfl,.fz _ (Nat.le_refl _) fun i j hi hj=>?_⟩
  all_goals obtain ⟨x,q1,q2,q3,q4⟩:=key i j hi hj
  ·simp only [q1];rfl
  ·exact q3
  ·exact q4
  ·simp only [q1];exact q2
  ·exact q4
theorem DC {H:EH} {k new:Nat} {v v':V} (h:GZ H v v'=true):Fn0 H k new v (wX new v'):=by
 rcases pK h with h | ⟨rfl,q,a,c,e,rfl⟩ | ⟨b,off,len,e,q,a,c',c,lo,sz,g,rfl,rfl,hb,h1,h2,h3⟩
 ·rw [(qH h new).2];exact (iE h).1
 ·exact .nilS
 ·have key:∀ i j,i<len→j<e→∃ x,c.get (off+(i*e+j))=some x∧Fn0 H k new x (uT new (c' i j))∧aS (uT new (c' i j))=true∧Aged new (uT new (c' i j)):=fun i j hi hj=>by
   obtain ⟨x,q1,q2⟩:=h3 i j hi hj
   exact ⟨x,q1,DT q2⟩
  refine .slice (d:=fun i j=>(c.get (off+(i*e+j))).getD .bad) hb h1 h2 (fun i j hi hj=>?_) (fun i j hi hj=>?_) (fun i j hi hj=>?_) (fun i j hi hj=>?_)
  all_goals obtain ⟨x,q1,q2,q3,q4⟩:=key i j hi hj
  ·simp only [q1];rfl
  ·exact q3
  ·exact q4
  ·simp only [q1];exact q2
theorem wF {H:EH} {k new:Nat} {v v':V} (h:qU H v v'=true):Fn1 H k new v (wX new v'):=by
 unfold qU at h
 split at h
 ·rename_i n c n' c'
  obtain ⟨h1,h2⟩:=ah h
  have:=nb h1;subst this
  have key:∀ i,i<n→∃ x x',c.get i=some x∧c'.get i=some x'∧ji x x'=true:=fun i hi=>by
   have:=bG h2 i hi
   have this:(match c.get i,c'.get i with | some v,some v'=>ji v v' | _,_=>false)=true:=this
   split at this
   ·rename_i x x' h1 h2;exact ⟨x,x',h1,h2,this⟩
   ·cases this
  refine .agg (fun i=>(c.get i).getD .bad) (fun i=>(c'.get i).getD .bad) (fun i hi=>?_) (fun i hi=>?_) (fun i hi=>?_) (fun i hi=>?_)
  all_goals obtain ⟨x,x',q1,q2,q3⟩:=key i hi
  ·simp only [q1];rfl
  ·simp only [q2];rfl
  ·simp only [q2];exact (iE (H:=H) (k:=k) (new:=new) q3).2.1
  ·simp only [q1,q2];exact (iE q3).1
 ·exact .one (DC h)
theorem rZ {H:EH}:∀ {l l':List V},Dy H l l'=true→l.length=l'.length∧∀ i (h1:i<l.length) (h2:i<l'.length),qU H l[i] l'[i]=true
 | [],[],_=>⟨rfl,fun i h1=>by simp at h1⟩
 | [],_::_,h=>by cases h
 | _::_,[],h=>by cases h
 | v::l,v'::l',h=>by
  obtain ⟨h1,h2⟩:=ah (show cond (qU H v v') (Dy H l l') false=true from h)
  obtain ⟨e1,e2⟩:=rZ h2
  refine ⟨by simp [e1],fun i q1 q2=>?_⟩
  cases i with
  | zero=>exact h1
  | succ i=>exact e2 i (by simpa using q1) (by simpa using q2)
theorem BH (n:Nat) (l:List V):zy n l=l.map (wX n):=by
 induction l with
 | nil=>rfl
 | cons v l ih=>show wX n v::zy n l=_;rw [ih];rfl
theorem FH {H:EH} {k:Nat} {v v':V} (h:Hz H v v'=true):∀ new,FnV H k new v (qx new v'):=fun new=>by
 unfold Hz at h
 split at h
 ·rename_i l l'
  obtain ⟨e1,e2⟩:=rZ h
  show FnV H k new (.tup l) (.tup (zy new l'))
  rw [BH]
  exact .tup (by simp [e1]) fun i h1 h2=>by
   rw [List.getElem_map]
   exact wF (e2 i h1 (by simpa using h2))
 ·rename_i hn
  have h1:Fn1 H k new v (wX new v'):=wF h
  cases v' with
  | tup l' =>
   cases v with
   | tup l=>exact (hn l l' rfl rfl).elim
   | _=>cases h
  | _=>exact .one h1
end
end Go.Ev
