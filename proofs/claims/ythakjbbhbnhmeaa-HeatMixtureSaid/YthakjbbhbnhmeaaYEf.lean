/- Closed calls whose answers hold new rows, said of each call that looks the same, in whatever heap. -/
import Derived.Test.YthakjbbhbnhmeaaYEe
import Derived.Test.YthakjbbhbnhmeaaYEc
set_option linter.all false
set_option linter.unusedSimpArgs false
set_option linter.unusedVariables false
namespace Go.Ev
open Go
noncomputable section
variable {P:Program}
def I5 (k:Nat) (t:T EO):T EO:=Nat.rec (motive:=fun _=>T EO) t (fun i ih=>ih.del i) k
theorem Kz (t:T EO):∀ (k b:Nat),(I5 k t).get b=if b<k then none else t.get b:=by
 intro k
 induction k with
 | zero=>intro b;rw [if_neg (by omega)];rfl
 | succ k ih =>
  intro b
  show ((I5 k t).del k).get b=_
  rw [T.get_del,ih]
  by_cases e:b=k
  ·subst e;rw [if_pos rfl,if_pos (by omega)]
  ·rw [if_neg e]
   by_cases h:b<k
   ·rw [if_pos h,if_pos (by omega)]
   ·rw [if_neg h,if_neg (by omega)]
def OE (k:Nat) (H:EH):EH:=⟨I5 k H.objs,H.next,H.grps,H.low⟩
def QA (e:Ent) (r:Option Res):Bool:=match r with | some (.v v H')=>cond (Nat.ble (cu e.rows) H'.low) (U1 (OE (cu e.rows) H') v e.v) false | _=>false
theorem MF {rows:List (Nat×T V)} {args0 args:List V} {H:EH} {m:Mt} (h:dM rows H args0 args=some m) {R:Ren} {w:World} {args':Array Value} (hr:Rel R All H w) (ha:AL R args args') :
 Rel (dL R m) All (bH rows) w∧(∀ b,rows.length≤b→(dL R m).bm b=none)∧AL (dL R m) args0 args':=by
 obtain ⟨hm,hrows,hal⟩:=uN h
 have hobj:∀ b0 o r d,(bH rows).objs.get b0=some o→(dL R m).bm b0=some (r,d)→∃ sz0 c0 b c lo sz g,o = .cells c0 0 sz0 b0∧(b0,b,g)∈m∧R.bm b=some (r,d)∧H.block b = .mk c lo sz g∧lo=0∧sz0≤sz∧tH m c0 c sz0 0=true:=fun b0 o r d ho hb=>by
  obtain ⟨row,p1,p2,_⟩:=aX ho
  have hb:(dI m b0).bind R.bm=some (r,d):=hb
  cases hbm:dI m b0 with
  | none=>rw [hbm] at hb;cases hb
  | some b =>
   rw [hbm] at hb
   obtain ⟨g,hg⟩:=jP hbm
   have:=(hm.at_cons hg).2
   unfold nZ at this
   rw [bT,p1] at this
   split at this
   ·rename_i sz0 c0 c lo sz g' q1 q2
    cases q1
    rw [aA] at this
    by_cases hl:lo=0
    ·rw [if_pos hl,aG] at this
     by_cases hs:sz0≤sz
     ·rw [if_pos hs] at this
      cases this
      obtain ⟨sz1,c1,c',lo',sz',g',z1,z2,q3⟩:=kN hrows _ hg
      rw [bT,p1] at z1
      cases z1
      rw [q2] at z2
      cases z2
      exact ⟨sz0,c0,b,c,lo,sz,_,p2,hg,hb,q2,hl,hs,q3⟩
     ·rw [if_neg hs] at this;cases this
    ·rw [if_neg hl] at this;cases this
   ·cases this
 refine ⟨⟨fun b0 r d hb=>?_,fun b0 o r d ho hb=>?_,fun b0 b0' o o' r d d' ho ho' hb hb'=>?_,fun a r cs e=>(by cases e)⟩,fun b h1=>?_,hal R args' ha⟩
 ·have hb:(dI m b0).bind R.bm=some (r,d):=hb
  cases hbm:dI m b0 with
  | none=>rw [hbm] at hb;cases hb
  | some b=>rw [hbm] at hb;exact hr.img b r d hb
 ·obtain ⟨sz0,c0,b,c,lo,sz,g,rfl,hg,hb1,hbk,hl,hs,hrow⟩:=hobj b0 o r d ho hb
  obtain ⟨q1,q2⟩:=aH hbk
  obtain ⟨cs,t,fz,r1,r2,r3,r4⟩:=hr.obj b _ r d q1 hb1
  refine ⟨cs,t,fz,r1,r2,r3,fun _ _ i h1 h2=>?_⟩
  obtain ⟨d1,x,y,s1,s2,s3,s4⟩:=r4 trivial q2 i (by omega) (by omega)
  obtain ⟨x',y',t1,t2,t3⟩:=rY hrow i h2
  rw [Nat.zero_add] at t1 t2
  rw [s1] at t2;cases t2
  rcases t3 with ⟨rfl,t3⟩ | ⟨b0',b',o',l',e',rfl,rfl,t3⟩
  ·exact ⟨d1,x',y,t1,s2,s3,s4.down0 (R1:=R) (n:=0) ⟨fun b hb=>by omega,fun b r d hb=>by omega,fun a ha=>by omega⟩ t3⟩
  ·refine ⟨d1,_,y,t1,rfl,s3,?_⟩
   cases s4 with
   | slice v1 v2 v3 v4=>exact .slice (by show (dI m b0').bind R.bm=_;unfold dI;rw [← F9,t3];exact v1) v2 v3 v4
 ·obtain ⟨sz0,c0,b,c,lo,sz,g,rfl,hg,hb1,hbk,_⟩:=hobj b0 o r d ho hb
  obtain ⟨sz0',c0',b',c',lo',sz',g',rfl,hg',hb1',hbk',_⟩:=hobj b0' o' r d' ho' hb'
  have g1:=(aH hbk).1
  have g2:=(aH hbk').1
  rcases hr.inj b b' _ _ r d d' g1 g2 hb1 hb1' with q | ⟨_,_,_,q⟩
  ·subst q
   rw [g1] at g2;cases g2
   exact .inl (hm.roots hg hg')
  ·have q:g=g':=q
   subst q
   exact .inl (hm.roots hg hg')
 ·show (dI m b).bind R.bm=none
  cases hbm:dI m b with
  | none=>rfl
  | some b' =>
   obtain ⟨g,hg⟩:=jP hbm
   have:=(hm.at_cons hg).2
   unfold nZ at this
   rw [bT,List.getElem?_eq_none h1] at this
   cases this
theorem BP {f:Task→Option Res} (hs:bC P f) {e:Ent} (hrun:QA e (f (.call e.g e.args (bH e.rows)))=true) {args:List V} {H:EH} {m:Mt} (h:dM e.rows H e.args args=some m):SpecCall P e.g args H (mG H.next e.v) (bump H):=by
 unfold QA at hrun
 split at hrun
 ·rename_i v H' hev
  obtain ⟨a3,a1⟩:=ai hrun
  have a3:=Nat.le_of_ble_eq_true a3
  rw [dm] at a3 a1
  obtain ⟨v1,H1,e1,n1,hfn,k⟩:=hs _ _ hev
  cases e1
  have hnx:(bH e.rows).next=e.rows.length:=dm _
  refine ⟨Nat.le_succ _,hfn,fun R w args' n' hr hw hf ha=>?_⟩
  obtain ⟨hr0,hno,hal⟩:=MF h hr ha
  have hfn0:=hf H.next (Nat.le_refl _) (Nat.lt_succ_self _)
  have hfree:Free (dL R m) (bH e.rows) H':=fun b h1 _=>⟨hno b (by rw [hnx] at h1;exact h1),fun _=>rfl⟩
  refine CallsIn.mono (k (dL R m) w args' n' hr0 (nT _) hfree hal) fun en w' ⟨x,R',e1,e2,e3⟩=>?_
  have hkeep:∀ r,r<w.heap.size→w'.heap[r]?=w.heap[r]?:=fun r hr=>e3.fr.keep r hr fun b o d ho hb q=>by
   obtain ⟨row,_,rfl,hlt⟩:=aX ho
   have q:H'.low≤b:=q
   omega
  let R2:Ren:=⟨R.bm,R.zs,fun a r=>if a=H.next then (if w.heap.size≤r then (match w'.heap[r]? with | some (.cells cs _ _)=>some cs | _=>none) else none) else R.cz a r⟩
  have hR2:∀ r cs t fz,w.heap.size≤r→w'.heap[r]?=some (.cells cs t fz)→R2.cz H.next r=some cs:=fun r cs t fz h1 h2=>by
   show (if H.next=H.next then (if w.heap.size≤r then (match w'.heap[r]? with | some (.cells cs _ _)=>some cs | _=>none) else none) else R.cz H.next r)=some cs
   rw [if_pos rfl,if_pos h1,h2]
  have hcz:∀ a r cs,R2.cz a r=some cs→(a≠H.next∧R.cz a r=some cs)∨(a=H.next∧w.heap.size≤r∧∃ t fz,w'.heap[r]?=some (.cells cs t fz)):=fun a r cs e=>by
   have e:(if a=H.next then (if w.heap.size≤r then (match w'.heap[r]? with | some (.cells cs _ _)=>some cs | _=>none) else none) else R.cz a r)=some cs:=e
   split at e
   ·rename_i ea
    split at e
    ·rename_i hz
     split at e
     ·rename_i c t fz hc;cases e;exact .inr ⟨ea,hz,t,fz,hc⟩
     ·cases e
    ·cases e
   ·rename_i ea;exact .inl ⟨ea,e⟩
  have hrel':=SimA.rel e3
  have hgd:∀ b o,(OE e.rows.length H').objs.get b=some o→e.rows.length≤b∧H'.objs.get b=some o:=fun b o ho=>by
   have ho:(I5 e.rows.length H'.objs).get b=some o:=ho
   rw [Kz] at ho
   by_cases q:b<e.rows.length
   ·rw [if_pos q] at ho;cases ho
   ·rw [if_neg q] at ho;exact ⟨by omega,ho⟩
  have hrelD:Rel R' All (OE e.rows.length H') w':=⟨hrel'.img,fun b o r d ho hb=>(hrel'.obj b o r d (hgd b o ho).2 hb).mono (.refl _) hb rfl (fun _=>trivial) (fun v=>by cases o<;>exact v),
   fun b b' o o' r d d' ho ho'=>hrel'.inj b b' o o' r d d' (hgd b o ho).2 (hgd b' o' ho').2,hrel'.frz⟩
  have hv:VR R2 (mG H.next e.v) x:=by
   refine Qa (R':=R') (R2:=R2) (w':=w') (k:=0) hrelD (fun a r cs ha q=>?_) (fun b r d o ho hb cs t fz q=>?_) (RI a1 H.next) e2
   ·rcases e3.rx.czn a r cs q with z | z
    ·cases z
    ·obtain ⟨⟨t,fz,hc⟩,_⟩:=hrel'.frz a r cs q
     exact hR2 r cs t fz z hc
   ·refine hR2 r cs t fz ?_ q
    obtain ⟨g1,g2⟩:=hgd b o ho
    have hlt:=e3.wf.lt b o g2
    rcases e3.rx.neu b r d (by rw [hnx];exact g1) hlt hb with z | ⟨b0,o0,o1,z1,z2,z3,z4,z5,z6⟩
    ·exact z
    ·exfalso
     obtain ⟨row,_,rfl,hlt0⟩:=aX z1
     rw [g2] at z3;cases z3
     have z6:b0=ay b o:=z6
     rcases e3.es.neu b o g2 (by rw [hnx];exact g1) with y | y
     ·rw [hnx] at y;omega
     ·have y:H'.low≤ay b o:=y
      omega
  refine ⟨x,R2,e1,hv,⟨⟨Nat.le_succ _,Nat.le_refl _,fun b o h=>⟨o,h,rfl,rfl⟩,fun b o h _=>⟨h,rfl⟩,fun b o h _=>⟨o,h⟩,pG hw,fun g h=>h,fun b o h hb=>absurd (hw.lt b o h) (by omega)⟩,
   ⟨fun _ _=>rfl,fun _ _=>rfl,fun b r d h1 h2 e=>?_,fun a ha=>?_,fun a r cs e=>?_⟩,⟨e3.fr.os,e3.fr.tape,e3.fr.output,e3.fr.size,fun r hr _=>hkeep r hr⟩,
   ⟨fun b r d hb=>Nat.lt_of_lt_of_le (hr.img b r d hb) e3.fr.size,fun b o r d ho hb=>(hr.obj b o r d ho hb).mono (R':=R2) ⟨fun _ _ e=>e,fun _ _ _ _=>rfl,fun a r cs e=>?_⟩ hb (hkeep r (hr.img b r d hb)) (fun _=>trivial) (fun v=>by cases o<;>exact v),hr.inj,fun a r cs e=>?_⟩⟩⟩
  ·have h2:b<H.next+1:=h2
   have:b=H.next:=by omega
   subst this
   have e:R.bm H.next=some (r,d):=e
   rw [hfn0.1] at e;cases e
  ·funext r
   show (if a=H.next then _ else R.cz a r)=R.cz a r
   rw [if_neg (fun q=>ha ⟨by omega,by show a<H.next+1;omega⟩)]
  ·rcases hcz a r cs e with ⟨_,q⟩ | ⟨_,q,_⟩
   ·exact .inl q
   ·exact .inr q
  ·show (if a=H.next then _ else R.cz a r)=some cs
   rw [if_neg (fun q=>by rw [q,hfn0.2 r] at e;cases e)];exact e
  ·rcases hcz a r cs e with ⟨_,q⟩ | ⟨_,q,t,fz,hc⟩
   ·obtain ⟨⟨t,fz,z1⟩,z2⟩:=hr.frz a r cs q
    exact ⟨⟨t,fz,(hkeep r (hr.frz.lt q)).trans z1⟩,z2⟩
   ·refine ⟨⟨t,fz,hc⟩,fun b d z=>?_⟩
    have:=hr.img b r d z
    omega
 ·cases hrun
def Ents2OK (P:Program) (es:List Ent):Prop:=∀ e∈es,∀ (args:List V) (H:EH) (m:Mt),dM e.rows H e.args args=some m→SpecCall P e.g args H (mG H.next e.v) (bump H)
theorem Ents2OK.nil:Ents2OK P []:=fun _ h=>by cases h
theorem Ents2OK.cons {e:Ent} {es:List Ent} (h:∀ (args:List V) (H:EH) (m:Mt),dM e.rows H e.args args=some m→SpecCall P e.g args H (mG H.next e.v) (bump H)) (k:Ents2OK P es):Ents2OK P (e::es):=fun e' he=>by
 rcases List.mem_cons.1 he with rfl | he
 ·exact h
 ·exact k e' he
def oC (es:List Ent) (g:FuncId) (args:List V) (H:EH):Option (Bool×V):=List.rec (motive:=fun _=>Option (Bool×V)) none
 (fun e _ ih=>cond (Nat.beq e.g g) (cond (qG (dM e.rows H e.args args)) (some (true,mG H.next e.v)) ih) ih) es
def orE (a b:Option (Bool×V)):Option (Bool×V):=match a with | some r=>some r | none=>b
def TV (es es2:List Ent):Ext:=⟨fun g=>cond (kM es g) (some fun args H=>orE (xU es g args H) (oC es2 g args H)) (cond (kM es2 g) (some (oC es2 g)) none),false⟩
theorem vH {g:FuncId} {args:List V} {H:EH} {v:V}:∀ {es:List Ent},oC es g args H=some (true,v)→∃ e∈es,e.g=g∧(∃ m,dM e.rows H e.args args=some m)∧mG H.next e.v=v
 | [],h=>by cases h
 | e::es,h=>by
  have h:cond (Nat.beq e.g g) (cond (qG (dM e.rows H e.args args)) (some (true,mG H.next e.v)) (oC es g args H)) (oC es g args H)=some (true,v):=h
  have rest:oC es g args H=some (true,v)→∃ e'∈e::es,e'.g=g∧(∃ m,dM e'.rows H e'.args args=some m)∧mG H.next e'.v=v:=fun h=>by
   obtain ⟨e',h1,h2⟩:=vH h
   exact ⟨e',List.mem_cons_of_mem _ h1,h2⟩
  cases h1:Nat.beq e.g g with
  | false=>rw [h1] at h;exact rest h
  | true =>
   rw [h1] at h
   cases hm:dM e.rows H e.args args with
   | none=>rw [hm] at h;exact rest h
   | some m=>rw [hm] at h;cases h;exact ⟨e,List.mem_cons_self,nb h1,⟨m,hm⟩,rfl⟩
theorem MZ {es es2:List Ent} (h:EntsOK P es) (h2:Ents2OK P es2):cZ P (TV es es2):=fun g x args H v hx hv=>by
 have hx:cond (kM es g) (some fun args H=>orE (xU es g args H) (oC es2 g args H)) (cond (kM es2 g) (some (oC es2 g)) none)=some x:=hx
 have two:oC es2 g args H=some (true,v)→SpecCall P g args H v (bump H):=fun hv=>by
  obtain ⟨e,h1,rfl,⟨m,h3⟩,rfl⟩:=vH hv
  exact h2 e h1 args H m h3
 cases hn:kM es g with
 | false =>
  rw [hn] at hx
  cases hn2:kM es2 g with
  | false=>rw [hn2] at hx;cases hx
  | true=>rw [hn2] at hx;cases hx;exact two hv
 | true =>
  rw [hn] at hx
  cases hx
  have hv:orE (xU es g args H) (oC es2 g args H)=some (true,v):=hv
  cases ht:xU es g args H with
  | none=>rw [ht] at hv;exact two hv
  | some r =>
   rw [ht] at hv
   cases hv
   obtain ⟨e,h1,rfl,⟨m,h3⟩,rfl⟩:=sO ht
   exact (h e h1 args H m h3).bump
end
end Go.Ev
/- Calls whose loops over maps leave what hangs on the order: all orders are followed; where each gives the same value, the call does. -/
namespace Go.Ev
open Go
noncomputable section
variable {P:Program}
def Hg (tab:List (List Nat)):Nat→List Nat→Nat→List Nat
 | 0,_,i=>[i]
 | n+1,rem,i=>rem.flatMap fun j=>Hg tab n (rem.erase j) (gy tab i j)
theorem G7 {f:Task→Option Res} (hs:bC P f) {ro rr:Option Nat} {ml:ML} {c:MC} {Q:Ren} {rit rm:Nat} (hl:LC P f ro rr ml c Q rit rm) {body:Code} {i1 i2:Nat} {o1 o3:Oper} (hb:MLOk ml body i1 i2 o1 o3) {w0:World} {es':Array MapEntry} {z:List EE} (hz:LZ c Q rm w0 es' z) {n:Nat} {F:List Nat} {st:List St} {tab:List (List Nat)}
 (htab:tab.length=st.length) (hrow:∀ (i:Nat) (row:List Nat),tab[i]?=some row→∃ s,st[i]?=some s∧RowOk (stepM P f ro ml c s) c.es st row) {QP:Exit→Act→World→Prop}
 (hend:∀ i s seen A w A2,i∈F→st[i]?=some s→IM c Q w0 rit rm seen s A w→AR Q (((c.act s).put (some ml.t1) (.tup [.bool false])).put (some ml.t2) (.bool false)) A2→QP (.exit ml.id) A2 w) :
 ∀ (L:Nat) (rem:List Nat) (i:Nat) (s:St) (seen:Array Nat) (A:Act) (w:World),rem.length=L→rem.Nodup→(∀ x∈rem,x<c.es.length)→st[i]?=some s→(∀ x∈Hg tab L rem i,x∈F) →
  (∀ (j:Nat) (p:EE),z[j]?=some p→(j∈rem↔seen.contains p.2.born=false))→IM c Q w0 rit rm seen s A w→Code.roundsIn (FF rr) n P body QP (L+1) A w:=by
 have hnext:∀ i j,i<st.length→j<c.es.length→∃ s s' e,st[i]?=some s∧c.es[j]?=some e∧stepM P f ro ml c s e.1 e.2.1=some s'∧st[gy tab i j]?=some s':=fun i j hi hj=>by
  have h1:tab[i]?=some tab[i]:=List.getElem?_eq_some_iff.2 ⟨by omega,rfl⟩
  have h2:c.es[j]?=some c.es[j]:=List.getElem?_eq_some_iff.2 ⟨hj,rfl⟩
  obtain ⟨s,e1,e2,e3⟩:=hrow i _ h1
  obtain ⟨s',x,f1,f2,f3⟩:=e3 j _ h2
  refine ⟨s,s',c.es[j],e1,h2,f1,?_⟩
  rw [JQ tab h1 f2];exact f3
 intro L
 induction L with
 | zero =>
  intro rem i s seen A w hL hnd hlt hs0 hfin hmem hI
  have:rem=[]:=List.eq_nil_of_length_eq_zero hL
  subst this
  refine jd hl hb hz hI (fun _ A2 ha2=>hend i s seen A w A2 (hfin i (by simp [Hg])) hs0 hI ha2) fun j p hj hns=>?_
  have:=(hmem j p hj).2 hns
  cases this
 | succ L ih =>
  intro rem i s seen A w hL hnd hlt hs0 hfin hmem hI
  refine jd hl hb hz hI (fun hall=>?_) fun j p hj hns w1 A2 hrel ha2 hit hi hm hos htape hout hsize hkeep=>?_
  ·exfalso
   match rem,hL with
   | x::rem',_ =>
    have hx:=hlt x (by simp)
    have h2:z[x]?=some (z[x]'(by rw [hz.len];exact hx)):=List.getElem?_eq_some_iff.2 ⟨_,rfl⟩
    have h3:=(hmem x _ h2).1 (by simp)
    rw [hall x _ h2] at h3;cases h3
  ·have hjr:=(hmem j p hj).2 hns
   have hil:i<st.length:=(List.getElem?_eq_some_iff.1 hs0).1
   obtain ⟨s1,s',e1,p1,p2,p3,p4⟩:=hnext i j hil (hlt j hjr)
   rw [hs0] at p1;cases p1
   rw [hz.es hj] at p2;cases p2
   obtain ⟨a4,H4,hr,hmk⟩:=xC p3
   refine fQ hs hl hb (seen:=seen) (es':=es') (e:=p.2) hI.hk hr (di hmk).2.2.2.2.1 hrel ha2 hit hi hm (hz.back hj) hz.nd (hz.ok p (List.mem_of_getElem? hj)) fun ex A' w' R4 hsim hex=>?_
   cases ex<;>try exact hex.elim
   exact ih (rem.erase j) (gy tab i j) s' (seen.push p.2.born) A' w' (by rw [List.length_erase_of_mem hjr];omega) (hnd.erase _) (fun x hx=>hlt x (List.mem_of_mem_erase hx)) p4
    (fun x hx=>hfin x (by rw [Hg];exact List.mem_flatMap.2 ⟨j,hjr,hx⟩)) (mem_push hz hnd hmem hj) (lK hl (tb:=c.base) hI.hk hrel hi hos htape hout hsize hkeep hsim hex hmk)
def Fv {α:Type} (x:Option α) (l:Option (List α)):Option (List α):=match x,l with | some x,some l=>some (x::l) | _,_=>none
def jq {α:Type} (l:List (Option α)):Option (List α):=List.rec (motive:=fun _=>Option (List α)) (some []) (fun x _ ih=>Fv x ih) l
theorem jT {α:Type}:∀ {l:List (Option α)} {r:List α},jq l=some r→∀ x∈l,∃ y∈r,x=some y
 | [],r,h,x,hx=>by cases hx
 | x0::l,r,h,x,hx=>by
  have h:Fv x0 (jq l)=some r:=h
  cases x0 with
  | none=>cases h
  | some y0 =>
   cases hl:jq l with
   | none=>rw [hl] at h;cases h
   | some r' =>
    rw [hl] at h
    cases h
    rcases List.mem_cons.1 hx with rfl | hx
    ·exact ⟨y0,List.mem_cons_self,rfl⟩
    ·obtain ⟨y,h1,h2⟩:=jT hl x hx
     exact ⟨y,List.mem_cons_of_mem _ h1,h2⟩
theorem iZ {α:Type}:∀ {l:List (Option α)} {r:List α},jq l=some r→∀ y∈r,some y∈l
 | [],r,h,y,hy=>by cases h;cases hy
 | x0::l,r,h,y,hy=>by
  have h:Fv x0 (jq l)=some r:=h
  cases x0 with
  | none=>cases h
  | some y0 =>
   cases hl:jq l with
   | none=>rw [hl] at h;cases h
   | some r' =>
    rw [hl] at h
    cases h
    rcases List.mem_cons.1 hy with rfl | hy
    ·exact List.mem_cons_self
    ·exact List.mem_cons_of_mem _ (iZ hl y hy)
def NI {α:Type} (l:Option (List α)):Option (List α):=match l with | some (x::l)=>some (x::l) | _=>none
theorem Ik {α:Type} {l:Option (List α)} {r:List α} (h:NI l=some r):l=some r∧r≠[]:=by
 unfold NI at h
 split at h
 ·cases h;exact ⟨rfl,by simp⟩
 ·cases h
def ddN (l:List Nat):List Nat:=List.rec (motive:=fun _=>List Nat) [] (fun x _ ih=>cond (ih.any (Nat.beq x)) ih (x::ih)) l
theorem Ag:∀ {l:List Nat} {x:Nat},x∈l→x∈ddN l
 | y::l,x,h=>by
  show x∈cond ((ddN l).any (Nat.beq y)) (ddN l) (y::ddN l)
  cases q:(ddN l).any (Nat.beq y) with
  | false =>
   rcases List.mem_cons.1 h with rfl | h
   ·exact List.mem_cons_self
   ·exact List.mem_cons_of_mem _ (Ag h)
  | true =>
   rcases List.mem_cons.1 h with rfl | h
   ·obtain ⟨z,h1,h2⟩:=List.any_eq_true.1 q
    rw [nb h2];exact h1
   ·exact Ag h
def VF (ml:ML) (c:MC) (low itn:Nat) (r:Option (List St×List (List Nat))):Option (List Res):=match r with
 | some (st,tab)=>cond (Nat.ble (lenE c.es) 5) (NI (jq ((ddN (Hg tab (lenE c.es) (List.range (lenE c.es)) 0)).map fun i=>Kr ml c low itn (fF st i)))) none
 | none=>none
def Vs (P:Program) (f:Task→Option Res) (ro:Option Nat) (ml:ML):Qo (List Res):=fun c low itn s=>match s with
 | some s=>VF ml c low itn (bfs (stepM P f ro ml c) c.es 200 0 [s])
 | none=>none
def Ie (n:Nat):EH:=⟨.lf,n,.lf,0⟩
def fC (P:Program) (ro:Option Nat) (c:Code) (a:EA) (H:EH) (l:List Res):Prop :=
 l≠[]∧(∀ r∈l,(∀ v H',r ≠ .v v H')∧H.next≤r.H.next)∧∀ nx,(∀ r∈l,r.H.next≤nx) →
  ∀ R w A n rr,Rel R All H w→WF H→Free R H (Ie nx)→AR R a A→Ro R ro rr→c.wpIn (FF rr) n P (fun e A' w'=>∃ r∈l,PostC R H r w e A' w') A w
theorem Free.top {R:Ren} {H:EH} {n:Nat} (h:Free R H (Ie n)) {H2:EH} (e:H2.next≤n):Free R H H2:=fun b h1 h2=>h b h1 (Nat.lt_of_lt_of_le h2 e)
theorem LP {ro:Option Nat} {c:Code} {a:EA} {H:EH} {r:Res} (h:Spec P (.code ro c a H) r):fC P ro c a H [r]:=by
 obtain ⟨h1,h2,m,h3⟩:=h
 refine ⟨by simp,fun r' hr=>by rw [List.mem_singleton.1 hr];exact ⟨h1,h2⟩,fun nx hnx R w A n rr hr hw hf ha hro=>?_⟩
 exact wpM.wp ((h3 R w A n rr hr hw (hf.top (hnx r (List.mem_singleton.2 rfl))) ha hro).mono fun e A' w' q=>⟨r,List.mem_singleton.2 rfl,q⟩)
theorem GY {f:Task→Option Res} (hs:bC P f) {ro:Option Nat} {body:Code} {ml:ML} (hml:dH body=some ml) {a:EA} {H:EH} {l:List Res} (h:rZ (Vs P f ro ml) P f ro ml a H=some l):fC P ro (.loop body) a H l:=by
 obtain ⟨c,s0,itn,i1,i2,o1,o3,hb,h,hnx,start⟩:=qg (fun _ _ _=>rfl) hml h
 have h:VF ml c H.low itn (bfs (stepM P f ro ml c) c.es 200 0 [s0])=some l:=h
 have hlenE:∀ l:List (V×V×Nat),lenE l=l.length:=fun l=>by
  induction l with
  | nil=>rfl
  | cons x l ih=>show Nat.succ (lenE l)=_;rw [ih];rfl
 unfold VF at h
 split at h
 ·rename_i st tab hbfs
  obtain ⟨h,hne⟩:jq ((ddN (Hg tab (lenE c.es) (List.range (lenE c.es)) 0)).map fun i=>Kr ml c H.low itn (fF st i))=some l∧l≠[]:=by
   cases q:Nat.ble (lenE c.es) 5 with
   | false=>rw [q] at h;cases h
   | true=>rw [q] at h;exact Ik h
  obtain ⟨b1,b2,b3⟩:=Eh hbfs (Nat.zero_le _)
  have hst0:st[0]?=some s0:=nU b1 (by simp)
  have hmem:∀ r∈l,∃ s,r = .exit ml.id (((c.act s).put (some ml.t1) (.tup [.bool false])).put (some ml.t2) (.bool false)) (c.out s H.low itn):=fun r hr=>by
   obtain ⟨i,_,hi⟩:=List.mem_map.1 (iZ h r hr)
   unfold Kr at hi
   split at hi
   ·rename_i s _;cases hi;exact ⟨s,rfl⟩
   ·cases hi
  refine ⟨hne,fun r hr=>⟨fun v H' e=>?_,?_⟩,fun nx hb' R w A n rr hr hw hf ha hro=>?_⟩
  ·obtain ⟨s,rfl⟩:=hmem r hr;cases e
  ·obtain ⟨s,rfl⟩:=hmem r hr;exact hnx
  ·have hcx:c.nx≤nx:=by
    match l,hne with
    | r::_,_ =>
     obtain ⟨s,e⟩:=hmem r List.mem_cons_self
     have:=hb' r List.mem_cons_self
     rw [e] at this;exact this
   obtain ⟨rit,rm,es',z,hl,hz,hI0,hfin⟩:=start R w A rr hr hw (fun b q1 q2=>hf b q1 (Nat.lt_of_lt_of_le q2 hcx)) ha hro
   refine wpIn_loop_rounds (c.es.length+1) (G7 hs hl hb hz (F:=ddN (Hg tab (lenE c.es) (List.range (lenE c.es)) 0)) (st:=st) (tab:=tab) (by omega) (fun i row e=>by have:=b3 i row e;rwa [Nat.zero_add] at this) (fun i s seen A' w' A2 hi hs' hI ha2=>?_)
    c.es.length (List.range c.es.length) 0 s0 #[] A w (by simp) List.nodup_range (fun x hx=>List.mem_range.1 hx) hst0 (fun x hx=>Ag (by rw [hlenE];exact hx)) (fun j p he=>by
     have:=(List.getElem?_eq_some_iff.1 he).1
     rw [hz.len] at this
     simp [this]) hI0)
   obtain ⟨r,h1,h2⟩:=jT h (Kr ml c H.low itn (fF st i)) (List.mem_map.2 ⟨i,hi,rfl⟩)
   rw [bT,hs'] at h2
   have h2:some (Res.exit ml.id (((c.act s).put (some ml.t1) (.tup [.bool false])).put (some ml.t2) (.bool false)) (c.out s H.low itn))=some r:=h2
   cases h2
   exact ⟨_,h1,R,hfin _ _ _ _ hI,rfl,ha2⟩
 ·cases h
theorem nN {id:Nat} {r1 r:Res} (h:bU id (some r1)=some r) (k1:∀ v H',r1 ≠ .v v H'):(∀ v H',r ≠ .v v H')∧r1.H=r.H∧∀ R' e A,ExitR R' r1 e A→∀ Q:Exit→Act→World→Prop,∀ w',(∀ e',ExitR R' r e' A→Q e' A w')→Exit.inBlock id Q e A w':=by
 cases r1 with
 | v v H'=>exact absurd rfl (k1 v H')
 | normal a1 H1 =>
  have h:some (Res.normal a1 H1)=some r:=h
  cases h
  exact ⟨k1,rfl,fun R' e A x Q w' hq=>by cases e<;>first | exact x.elim | exact hq .normal x⟩
 | ret a1 H1 =>
  have h:some (Res.ret a1 H1)=some r:=h
  cases h
  exact ⟨k1,rfl,fun R' e A x Q w' hq=>by cases e<;>first | exact x.elim | exact hq .ret x⟩
 | exit id' a1 H1 =>
  have h:cond (Nat.beq id' id) (some (Res.normal a1 H1)) (some (.exit id' a1 H1))=some r:=h
  rw [aA] at h
  by_cases e:id'=id
  ·rw [if_pos e] at h
   cases h
   refine ⟨fun v H' e=>(by cases e),rfl,fun R' e' A x Q w' hq=>?_⟩
   cases e'<;>try exact x.elim
   obtain ⟨x1,x2⟩:=x
   show if _ then _ else _
   rw [if_pos (x1.trans e)]
   exact hq .normal x2
  ·rw [if_neg e] at h
   cases h
   refine ⟨k1,rfl,fun R' e' A x Q w' hq=>?_⟩
   cases e'<;>try exact x.elim
   obtain ⟨x1,x2⟩:=x
   show if _ then _ else _
   rw [if_neg (by rw [x1];exact e)]
   exact hq (.exit _) ⟨x1,x2⟩
def jD (H:EH) (itn:Nat):EH:=⟨H.objs.set itn (.iter none),H.next,H.grps,aS H.low itn⟩
def dIt (H:EH) (itn:Nat):EH:=⟨H.objs.del itn,H.next,H.grps,big⟩
def BK (H:EH) (g i:Nat):Bool:=fN (Nat.succ (Nat.add g i)) fun j=>match H.objs.get j with | some o=>cond (Nat.beq (ay j o) g) false true | none=>true
def Bz (H:EH) (g:Nat):Bool:=jF (BK H g) (Nat.sub H.next (Nat.succ g))
def okQ (ml:ML) (itn m:Nat) (a:EA) (H:EH):Bool:=cond (xY a.n ml) (cond (tV (a.get ml.it) itn) (cond (Bz H itn) (Nat.blt m H.low) false) false) false
def lowQ (H H4:EH) (itn:Nat):EH:=⟨H4.objs.set itn (.iter none),H4.next,H4.grps,aS (aS H.low itn) H4.low⟩
def sZ {α:Type} (l:Option (List (List α))):Option (List α):=match l with | some l=>some l.flatten | none=>none
def goQ (ml:ML) (itn m:Nat) (k:EA→EH→Option (List Res)) (H:EH) (r:Option Res):Option (List Res):=match r with
 | some (.normal a' H')=>cond (okQ ml itn m a' H') (k a' (lowQ H H' itn)) none
 | _=>none
def KX (P:Program) (f:Task→Option Res) (ro:Option Nat) (ml:ML) (itn m:Nat) (k:EA→EH→Option (List Res)) (a:EA) (H:EH) (e:Option (V×V×Nat)):Option (List Res):=match e with
 | some e=>goQ ml itn m k H (bJ P f ro ml a (dIt (jD H itn) itn) e.1 e.2.1)
 | none=>none
def fP (P:Program) (f:Task→Option Res) (ro:Option Nat) (ml:ML) (itn m:Nat) (es:List (V×V×Nat)):Nat→List Nat→EA→EH→Option (List Res)
 | 0,_,_,_=>none
 | n+1,rem,a,H=>match rem with
  | []=>some [.exit ml.id ((a.put (some ml.t1) (.tup [.bool false])).put (some ml.t2) (.bool false)) H]
  | j::rem'=>sZ (jq ((j::rem').map fun i=>KX P f ro ml itn m (fP P f ro ml itn m es n ((j::rem').erase i)) a H (fF es i)))
def Ap (P:Program) (f:Task→Option Res) (ro:Option Nat) (ml:ML) (a:EA) (H:EH):Option (List Res):=cond (xY a.n ml) (match a.get ml.it with
 | .ptr itn 0=>match H.objs.get itn with
  | some (.iter (some (m,c)))=>match H.objs.get m with
   | some (.map es clk)=>cond (Nat.beq c clk) (cond (Nat.ble (lenE es) 4) (fP P f ro ml itn m es 6 (List.range (lenE es)) a (jD H itn)) none) none
   | _=>none
  | _=>none
 | _=>none) none
section
variable {f:Task→Option Res} {ro rr:Option Nat} {ml:ML} {Q:Ren} {rit rm:Nat}
theorem tK {a:EA} (htm:ml.t1<a.n∧ml.t2<a.n∧ml.t3<a.n∧ml.t1≠ml.t2∧ml.it≠ml.t1∧ml.it≠ml.t2) {body:Code} {i1 i2:Nat} {o1 o3:Oper} (hb:MLOk ml body i1 i2 o1 o3) {A:Act} {w w1:World} {n:Nat} {tl:List Value} {vl:List V} {b:Bool} (hv:AL Q vl tl.toArray)
 (hact:AR Q a A) (hrun:(Instr.next (A.eval (.tmp ml.it)) false o1.type).run P w = .ok (.tuple (#[.bool b]++tl.toArray)) w1) {QP:Exit→Act→World→Prop}
 (h:∀ A2,AR Q ((a.put (some ml.t1) (.tup (.bool b::vl))).put (some ml.t2) (.bool b)) A2→A2.eval (.tmp ml.t2) = .bool b→A2.eval (.tmp ml.it)=A.eval (.tmp ml.it)→QP .normal A2 w1) :
 (Code.region i1 ml.ops1 false).wpIn (FF rr) n P QP A w:=by
 obtain ⟨t1,t2,t3,t12,ti1,ti2⟩:=htm
 refine wpIn_region_list ?_
 rw [hb.l1]
 refine nJ hb.o1.2.2 (sK (fun c e=>by rw [hb.o1.1] at e;cases e) (yX hb.o1.1 A.eval) hrun ?_)
 rw [hb.o1.2.1]
 have hvt:VR Q (.tup (.bool b::vl)) (.tuple (#[.bool b]++tl.toArray)):=by
  have:=AL.append (AL.one (VR.bool (R:=Q) b)) hv
  exact .tup this.1 this.2
 have ha1:=hact.put (some ml.t1) hvt
 have hx:VR Q (.tup (.bool b::vl)) ((A.put (some ml.t1) (.tuple (#[.bool b]++tl.toArray))).eval (.tmp ml.t1)):=by
  have:=ha1.eval (.tmp ml.t1)
  rwa [EA.put_at t1] at this
 obtain ⟨_,y,e1,e2⟩:=kP (P:=P) (w:=w1) (H:=Be) (H':=Be) (i:=0) (v := .bool b) hx rfl
 have hy:y = .bool b:=by cases e2;rfl
 subst hy
 refine nJ hb.o2.2.2 (sK (fun c e=>by rw [hb.o2.1] at e;cases e) (qj hb.o2.1 _) e1 ?_)
 rw [hb.o2.2.1]
 have ha2:=ha1.put (some ml.t2) (VR.bool (R:=Q) b)
 refine h _ ha2 ?_ ?_
 ·have:=ha2.eval (.tmp ml.t2)
  rw [EA.put_at (by rw [EA.put_n];exact t2)] at this
  generalize Act.eval _ _=z at this ⊢
  cases this;rfl
 ·have hput:∀ (B:Act) (t u:Nat) (x:Value),u≠t→(B.put (some t) x).eval (.tmp u)=B.eval (.tmp u):=fun B t u x hne=>by
   show (B.tmps.setIfInBounds t x).getD u undef=B.tmps.getD u undef
   simp only [Array.getD,Array.size_setIfInBounds]
   split
   ·exact Array.getElem_setIfInBounds_ne _ (Ne.symm hne)
   ·rfl
  rw [hput _ _ _ _ ti2,hput _ _ _ _ ti1]
theorem Ae (hs:bC P f) {body:Code} {i1 i2:Nat} {o1 o3:Oper} (hb:MLOk ml body i1 i2 o1 o3) {a:EA} {H0:EH} {r:Res} {A2:Act} {w1:World} {n clk:Nat} {k v:V} {seen:Array Nat} {es':Array MapEntry} {e:MapEntry}
 (hwf:WF H0) (hr:bJ P f ro ml a H0 k v=some r) (hfree:Free Q H0 r.H) (hro:Ro Q ro rr) (hrel:Rel Q All H0 w1) (ha2:AR Q ((a.put (some ml.t1) (.tup [.bool true,k,v])).put (some ml.t2) (.bool true)) A2) (hit:A2.eval (.tmp ml.it) = .pointer (some ⟨rit,0,none⟩))
 (hi:w1.heap[rit]?=some (.mapIter (some rm) clk (seen.push e.born) clk)) (hm:w1.heap[rm]?=some (.map es' clk)) (he:e∈es'.toList) (hn:(es'.toList.map (·.born)).Nodup) (hkv:VR Q k e.key∧VR Q v e.val) {QP:Exit→Act→World→Prop}
 (h:∀ ex A w R4,SimA Q R4 H0 r.H w1 w→ExitR R4 r ex A→QP ex A w) :
 (Code.block ml.cid (.seq (.region i2 ml.ops false) ml.rest)).wpIn (FF rr) n P QP A2 w1:=by
 unfold bJ at hr
 split at hr
 ·rename_i a3 H3 hev
  have hev:=oP hev
  refine wpIn_block (wpIn_seq (wpIn_region_list ?_))
  rw [hb.l2]
  refine nJ hb.o3.2.2 (sK (fun c e=>by rw [hb.o3.1] at e;cases e) (xI hb.o3.1 _) (by rw [hit];exact oq hi hm he hn) ?_)
  rw [hb.o3.2.1]
  have hvt:VR Q (.tup [k,v]) (.tuple #[e.key,e.val]):=by
   have:=AL.append (AL.one hkv.1) (AL.one hkv.2)
   exact .tup this.1 this.2
  have ha3:=ha2.put (some ml.t3) hvt
  obtain ⟨a3',H3',e3,n3,k3⟩:=nK hs ml.ops ml.tl _ _ _ hev
  cases e3
  cases hf4:f (.code ro ml.rest a3 H3) with
  | none=>rw [hf4] at hr;cases hr
  | some r4 =>
   rw [hf4] at hr
   obtain ⟨p1,p2,m,p3⟩:=hs _ _ hf4
   have hr4:r4.H=r.H:=rC hr
   have hfree4:Free Q H0 r4.H:=by rw [hr4];exact hfree
   have hfree3:Free Q H0 H3:=hfree4.less p2
   refine k3 Q w1 _ n rr hrel hwf hfree3 ha3 _ fun R' w' A' ha' hsim'=>?_
   have hle:=hsim'.le hrel hfree3
   have hw4:=wpM.wp (p3 R' w' A' n rr hsim'.rel hsim'.wf (hsim'.free hfree4) ha' (hro.mono hle))
   refine Go.wpIn_mono hw4 fun ex A4 w4 ⟨R4,s4,x4⟩=>?_
   have hsim:=hsim'.trans s4
   rw [hr4] at hsim
   obtain ⟨_,_,out⟩:=nN hr p1
   exact out R4 ex A4 x4 _ w4 fun e' x'=>h e' A4 w4 R4 hsim x'
 ·cases hr
end
structure QI (H:EH) (itn m clk:Nat) (es:List (V×V×Nat)) (z:List EE) (es':Array MapEntry) (rit rm:Nat) (seen:Array Nat) (Q:Ren) (w:World):Prop where
 rel:Rel Q All H w
 wf:WF H
 it:H.objs.get itn=some (.iter none)
 qit:Q.bm itn=some (rit,0)
 mp:∃ e c,H.objs.get m=some (.map e c)
 qm:Q.bm m=some (rm,0)
 wi:w.heap[rit]?=some (.mapIter (some rm) clk seen clk)
 lz:LZ ⟨.lf,0,.lf,0,[],.lf,m,clk,es,0,itn,0,0,[]⟩ Q rm w es' z
theorem FX {H:EH} {g:Nat} (h:Bz H g=true) {b:Nat} {o:EO} (ho:H.objs.get b=some o) (hb:g<b) (hn:b<H.next):ay b o≠g:=fun e=>by
 have h:jF (BK H g) (H.next-(g+1))=true:=h
 have:=bK h (b-(g+1)) (by omega)
 have e2:Nat.succ (Nat.add g (b-(g+1)))=b:=by show g+(b-(g+1))+1=b;omega
 unfold BK at this
 rw [aW,e2,ho] at this
 have this:cond (Nat.beq (ay b o) g) false true=true:=this
 rw [e,Nat.beq_refl] at this
 cases this
theorem JS (H:EH) (itn b:Nat):(dIt H itn).objs.get b=if b=itn then none else H.objs.get b:=T.get_del _ _ _
theorem dh {H:EH} {itn b:Nat} {o:EO} (h:(dIt H itn).objs.get b=some o):b≠itn∧H.objs.get b=some o:=by
 rw [JS] at h
 split at h
 ·cases h
 ·rename_i q;exact ⟨q,h⟩
theorem Ij {H:EH} {itn b:Nat} {o:EO} (h:H.objs.get b=some o) (q:b≠itn):(dIt H itn).objs.get b=some o:=by rw [JS,if_neg q];exact h
theorem VU {H:EH} (h:WF H) (itn:Nat):WF (dIt H itn):=⟨fun b o g=>h.lt b o (dh g).2,fun b o g=>h.root b o (dh g).2,fun g hg b b' o o' h1 h2 h3 h4=>h.uniq g hg b b' o o' (dh h1).2 (dh h2).2 h3 h4,h.gdom⟩
theorem QT {R:Ren} {H:EH} {w:World} (h:Rel R All H w) (itn:Nat):Rel R All (dIt H itn) w:=⟨h.img,fun b o r d g=>h.obj b o r d (dh g).2,fun b b' o o' r d d' h1 h2=>h.inj b b' o o' r d d' (dh h1).2 (dh h2).2,h.frz⟩
theorem SimA.lowQ {Q R4:Ren} {H Hn H4:EH} {itn rit:Nat} {w w4:World} (hn:Hn.low=aS H.low itn) (hit:Hn.objs.get itn=some (.iter none)) (hq:Q.bm itn=some (rit,0)) (hrel:Rel Q All Hn w) (hwf:WF Hn) (hno:Bz H4 itn=true)
 {x1:Option Nat} {x2 x4:Nat} {x3:Array Nat} (hi:w.heap[rit]?=some (.mapIter x1 x2 x3 x4)) (s:SimA Q R4 (dIt Hn itn) H4 w w4):SimA Q R4 Hn (lowQ H H4 itn) w w4∧w4.heap[rit]?=w.heap[rit]?:=by
 have hl:(Ev.lowQ H H4 itn).low≤H4.low∧(Ev.lowQ H H4 itn).low≤Hn.low∧(Ev.lowQ H H4 itn).low≤itn:=by
  show aS (aS H.low itn) H4.low≤H4.low∧aS (aS H.low itn) H4.low≤Hn.low∧aS (aS H.low itn) H4.low≤itn
  rw [hn];simp only [dR];omega
 have hlt:itn<Hn.next:=hwf.lt itn _ hit
 have hw4:WF H4:=s.es.wf
 have set_ne:∀ b,b≠itn→(Ev.lowQ H H4 itn).objs.get b=H4.objs.get b:=fun b q=>T.get_set_ne _ _ q
 have set_eq:(Ev.lowQ H H4 itn).objs.get itn=some (.iter none):=T.get_set_eq _ _ _
 have only:∀ b o d,Hn.objs.get b=some o→Q.bm b=some (rit,d)→b=itn:=fun b o d h1 h2=>by
  rcases hrel.inj b itn o _ rit d 0 h1 hit h2 hq with u | ⟨_,_,u,_⟩
  ·exact u
  ·have u:(4:Nat)=0:=u;omega
 have hkeep:w4.heap[rit]?=w.heap[rit]?:=s.fr.keep rit (hrel.img _ _ _ hq) fun b o d ho hb' z'=>by
  obtain ⟨q,ho⟩:=dh ho
  exact q (only b o d ho hb')
 have hq4:R4.bm itn=some (rit,0):=by rw [s.rx.same itn (by show ¬ (Hn.next≤itn∧_);omega)];exact hq
 have inv:∀ b o,(Ev.lowQ H H4 itn).objs.get b=some o→(b=itn∧o = .iter none)∨(b≠itn∧H4.objs.get b=some o):=fun b o h=>by
  by_cases q:b=itn
  ·subst q;rw [set_eq] at h;cases h;exact .inl ⟨rfl,rfl⟩
  ·rw [set_ne b q] at h;exact .inr ⟨q,h⟩
 have only4:∀ b o d,b≠itn→H4.objs.get b=some o→R4.bm b=some (rit,d)→False:=fun b o d q h1 h2=>by
  by_cases hb:Hn.next≤b
  ·rcases s.rx.neu b rit d hb (hw4.lt b o h1) h2 with u | ⟨b0,o0,o',u1,u2,_⟩
   ·have:=hrel.img _ _ _ hq;omega
   ·obtain ⟨q',u1⟩:=dh u1
    exact q' (only b0 o0 d u1 u2)
  ·rw [s.rx.same b (by show ¬ (Hn.next≤b∧_);omega)] at h2
   obtain ⟨o0,g⟩:=s.es.back b o h1 (by show b<Hn.next;omega)
   exact q (only b o0 d (dh g).2 h2)
 have rt:∀ b o,b≠itn→H4.objs.get b=some o→ay b o≠itn:=fun b o q h=>by
  by_cases hb:itn<b
  ·exact FX hno h hb (hw4.lt b o h)
  ·have:=hw4.root b o h;omega
 refine ⟨⟨⟨s.es.next,hl.2.1,fun b o h=>?_,fun b o h hw=>?_,fun b o' h hb=>?_,⟨fun b o h=>?_,fun b o h=>?_,fun g hg b b' o o' h1 h2 h3 h4=>?_,hw4.gdom⟩,fun g h=>h,fun b o h hb=>?_⟩,
  ⟨s.rx.same,s.rx.zs,fun b r d h1 h2 h3=>?_,s.rx.cz,s.rx.czn⟩,⟨s.fr.os,s.fr.tape,s.fr.output,s.fr.size,fun r hr hk=>s.fr.keep r hr fun b o d ho hb q=>hk b o d (dh ho).2 hb (by have q:H4.low≤ay b o:=q;show _≤_;omega)⟩,⟨(Sim.rel s).img,fun b o r d h hb=>?_,fun b b' o o' r d d' h1 h2 h3 h4=>?_,(Sim.rel s).frz⟩⟩,hkeep⟩
 ·by_cases q:b=itn
  ·subst q;rw [hit] at h;cases h;exact ⟨_,set_eq,rfl,rfl⟩
  ·obtain ⟨o',g1,g2⟩:=s.es.old b o (Ij h q)
   exact ⟨o',by rw [set_ne b q];exact g1,g2⟩
 ·by_cases q:b=itn
  ·subst q;rw [hit] at h;cases h
   exact absurd (show (Ev.lowQ H H4 b).low≤b from hl.2.2) hw
  ·obtain ⟨g1,g2⟩:=s.es.keep b o (Ij h q) fun z=>hw (by have z:H4.low≤ay b o:=z;show _≤_;omega)
   exact ⟨by rw [set_ne b q];exact g1,g2⟩
 ·rcases inv b o' h with ⟨rfl,_⟩ | ⟨q,h⟩
  ·exact ⟨_,hit⟩
  ·obtain ⟨o,g⟩:=s.es.back b o' h hb
   exact ⟨o,(dh g).2⟩
 ·rcases inv b o h with ⟨rfl,_⟩ | ⟨q,h⟩
  ·exact Nat.lt_of_lt_of_le hlt s.es.next
  ·exact hw4.lt b o h
 ·rcases inv b o h with ⟨rfl,rfl⟩ | ⟨q,h⟩
  ·exact Nat.le_refl _
  ·exact hw4.root b o h
 ·rcases inv b o h1 with ⟨rfl,rfl⟩ | ⟨q1,g1⟩<;>rcases inv b' o' h2 with ⟨e2,rfl⟩ | ⟨q2,g2⟩
  ·exact e2.symm
  ·have h3:b=g:=h3
   exact absurd (h4.trans h3.symm) (rt b' o' q2 g2)
  ·subst e2
   have h4:b'=g:=h4
   exact absurd (h3.trans h4.symm) (rt b o q1 g1)
  ·exact hw4.uniq g hg b b' o o' g1 g2 h3 h4
 ·rcases inv b o h with ⟨rfl,rfl⟩ | ⟨q,h⟩
  ·omega
  ·exact (s.es.neu b o h hb).imp id fun z=>by have z:H4.low≤ay b o:=z;show _≤_;omega
 ·rcases s.rx.neu b r d h1 h2 h3 with u | ⟨b0,o0,o,u1,u2,u3,u4⟩
  ·exact .inl u
  ·exact .inr ⟨b0,o0,o,(dh u1).2,u2,by rw [set_ne b (by intro e;subst e;have h1:Hn.next≤b:=h1;omega)];exact u3,u4⟩
 ·rcases inv b o h with ⟨rfl,rfl⟩ | ⟨q,h⟩
  ·rw [hq4] at hb;cases hb
   exact ⟨rfl,x1,x2,x3,x4,by rw [hkeep];exact hi,fun _=>trivial⟩
  ·exact (Sim.rel s).obj b o r d h hb
 ·rcases inv b o h1 with ⟨rfl,rfl⟩ | ⟨q1,g1⟩<;>rcases inv b' o' h2 with ⟨e2,rfl⟩ | ⟨q2,g2⟩
  ·exact .inl e2.symm
  ·rw [hq4] at h3;cases h3
   exact (only4 b' o' d' q2 g2 h4).elim
  ·subst e2
   rw [hq4] at h4;cases h4
   exact (only4 b o d q1 g1 h3).elim
  ·exact (Sim.rel s).inj b b' o o' r d d' g1 g2 h3 h4
theorem EOk.mono {R R':Ren} (hle:R.le R') {p:EE} (h:EOk R p):EOk R' p:=⟨h.1.mono hle,h.2.mono hle⟩
theorem TG {ml:ML} {itn m:Nat} {a:EA} {H:EH} (h:okQ ml itn m a H=true):xY a.n ml=true∧a.get ml.it = .ptr itn 0∧Bz H itn=true∧m<H.low:=by
 unfold okQ at h
 obtain ⟨h1,h⟩:=ai h
 obtain ⟨h2,h⟩:=ai h
 obtain ⟨h3,h4⟩:=ai h
 exact ⟨h1,Ed h2,h3,bQ h4⟩
theorem xX {f:Task→Option Res} (hs:bC P f) {ro:Option Nat} {ml:ML} {body:Code} {i1 i2:Nat} {o1 o3:Oper} (hb:MLOk ml body i1 i2 o1 o3) {itn m clk:Nat} {es:List (V×V×Nat)}:∀ (n:Nat) (rem:List Nat) (a:EA) (H:EH) (l:List Res),fP P f ro ml itn m es n rem a H=some l →
 l≠[]∧(∀ r∈l,(∀ v H',r ≠ .v v H')∧H.next≤r.H.next)∧(xY a.n ml=true→a.get ml.it = .ptr itn 0→rem.Nodup→(∀ x∈rem,x<es.length)→∀ nx,(∀ r∈l,r.H.next≤nx) →
  ∀ Q w A k rr z es' rit rm seen,QI H itn m clk es z es' rit rm seen Q w→Free Q H (Ie nx)→AR Q a A→Ro Q ro rr→(∀ (j:Nat) (p:EE),z[j]?=some p→(j∈rem↔seen.contains p.2.born=false)) →
   Code.roundsIn (FF rr) k P body (fun e A' w'=>∃ r∈l,PostC Q H r w e A' w') (rem.length+1) A w):=by
 intro n
 induction n with
 | zero=>intro rem a H l h;cases h
 | succ n ih =>
  intro rem a H l h
  -- the head
  have head:xY a.n ml=true→a.get ml.it = .ptr itn 0→∀ {Q:Ren} {w:World} {A:Act} {k:Nat} {rr:Option Nat} {z:List EE} {es':Array MapEntry} {rit rm:Nat} {seen:Array Nat} {QP:Exit→Act→World→Prop} {L:Nat},QI H itn m clk es z es' rit rm seen Q w→AR Q a A →
   ((∀ (j:Nat) (p:EE),z[j]?=some p→seen.contains p.2.born=true)→∀ A2,AR Q ((a.put (some ml.t1) (.tup [.bool false])).put (some ml.t2) (.bool false)) A2→QP (.exit ml.id) A2 w) →
   (∀ (j:Nat) (p:EE),z[j]?=some p→seen.contains p.2.born=false→∀ w1 A2,WU w rit (.mapIter (some rm) clk (seen.push p.2.born) clk) w1→AR Q ((a.put (some ml.t1) (.tup [.bool true,p.1.1,p.1.2.1])).put (some ml.t2) (.bool true)) A2→A2.eval (.tmp ml.it) = .pointer (some ⟨rit,0,none⟩) →
    (Code.block ml.cid (.seq (.region i2 ml.ops false) ml.rest)).wpIn (FF rr) k P (Exit.then (Code.roundsIn (FF rr) k P body QP L) QP) A2 w1) →
   Code.roundsIn (FF rr) k P body QP (L+1) A w:=by
   intro htm hptr Q w A k rr z es' rit rm seen QP L hI hact h0 h1
   have htm:=EQ htm
   have hz:=hI.lz
   have hitv:A.eval (.tmp ml.it) = .pointer (some ⟨rit,0,none⟩):=by
    have hv:VR Q (a.eval (.tmp ml.it)) (A.eval (.tmp ml.it)):=hact.eval (.tmp ml.it)
    have e:a.eval (.tmp ml.it) = .ptr itn 0:=hptr
    rw [e] at hv
    generalize A.eval (.tmp ml.it)=x at hv
    cases hv with
    | ptr hm ho =>
     rw [hI.qit] at hm
     cases hm
     have ho:_=0:=ho
     simp at ho
     subst ho;rfl
   rw [roundsIn_succ]
   generalize hX:Exit.then (Code.roundsIn (FF rr) k P body QP _) QP=X at h1 ⊢
   have hXe:∀ id A w,X (.exit id) A w=QP (.exit id) A w:=fun _ _ _=>by rw [← hX];rfl
   rw [hb.body]
   rcases run_next_any (P:=P) hI.wi hz.at0 hz.lt o1.type with ⟨hsz,hrun⟩ | ⟨e,he,w1,hu,hrun⟩
   ·refine wpIn_seq (tK htm hb (tl:=[]) (vl:=[]) (b:=false) (AL.nil _) hact (by rw [hitv];exact hrun) fun A2 ha2 ht _=>?_)
    refine wpIn_seq (wpIn_cond_false ht (wpIn_exit ?_))
    show X (.exit ml.id) A2 w
    rw [hXe]
    refine h0 (fun j p hj=>?_) A2 ha2
    cases hc:seen.contains p.2.born with
    | true=>rfl
    | false =>
     exfalso
     have:p.2∈(es'.filter fun e => !seen.contains e.born).toList:=by
      simp only [Array.toList_filter,List.mem_filter]
      exact ⟨hz.back hj,by rw [hc];rfl⟩
     have hsz:(es'.filter fun e => !seen.contains e.born).size=0:=hsz
     have:(es'.filter fun e => !seen.contains e.born).toList.length≠0:=fun q=>by rw [List.eq_nil_of_length_eq_zero q] at this;cases this
     simp only [Array.length_toList] at this
     exact this hsz
   ·have he:e∈(es'.filter fun e => !seen.contains e.born).toList:=he
    simp only [Array.toList_filter,List.mem_filter] at he
    obtain ⟨he1,he2⟩:=he
    obtain ⟨j,p,hj,rfl⟩:=hz.to he1
    obtain ⟨g2,g3⟩:=hz.ok p (List.mem_of_getElem? hj)
    refine wpIn_seq (tK htm hb (tl:=[p.2.key,p.2.val]) (vl:=[p.1.1,p.1.2.1]) (b:=true) (AL.append (AL.one g2) (AL.one g3)) hact (by rw [hitv];exact hrun) fun A2 ha2 ht hit=>?_)
    refine wpIn_seq (wpIn_cond_true ht (wpIn_skip ?_))
    exact h1 j p hj (by simpa using he2) w1 A2 hu ha2 (by rw [hit];exact hitv)
  cases rem with
  | nil =>
   have h:some [Res.exit ml.id ((a.put (some ml.t1) (.tup [.bool false])).put (some ml.t2) (.bool false)) H]=some l:=h
   cases h
   refine ⟨by simp,fun r hr=>by rw [List.mem_singleton.1 hr];exact ⟨fun v H' e=>(by cases e),Nat.le_refl _⟩,fun htm hptr _ _ nx hnx Q w A k rr z es' rit rm seen hI hf ha hro hmem=>?_⟩
   refine head htm hptr hI ha (fun _ A2 ha2=>⟨_,List.mem_singleton.2 rfl,Q,.refl hI.wf hI.rel,rfl,ha2⟩) fun j p hj hns=>?_
   have:=(hmem j p hj).2 hns
   cases this
  | cons j0 rem' =>
   generalize hrem:j0::rem'=rem at h
   have h:sZ (jq (rem.map fun i=>KX P f ro ml itn m (fP P f ro ml itn m es n (rem.erase i)) a H (fF es i)))=some l:=by rw [← hrem] at h ⊢;exact h
   cases hal:jq (rem.map fun i=>KX P f ro ml itn m (fP P f ro ml itn m es n (rem.erase i)) a H (fF es i)) with
   | none=>rw [hal] at h;cases h
   | some ll =>
    rw [hal] at h
    have h:some ll.flatten=some l:=h
    cases h
    -- what a round comes to
    have one:∀ i lr,KX P f ro ml itn m (fP P f ro ml itn m es n (rem.erase i)) a H (fF es i)=some lr→∃ e a4 H4,es[i]?=some e∧bJ P f ro ml a (dIt (jD H itn) itn) e.1 e.2.1=some (.normal a4 H4)∧okQ ml itn m a4 H4=true∧fP P f ro ml itn m es n (rem.erase i) a4 (lowQ H H4 itn)=some lr:=fun i lr q=>by
     rw [bT] at q
     cases he:es[i]? with
     | none=>rw [he] at q;cases q
     | some e =>
      rw [he] at q
      have q:goQ ml itn m (fP P f ro ml itn m es n (rem.erase i)) H (bJ P f ro ml a (dIt (jD H itn) itn) e.1 e.2.1)=some lr:=q
      unfold goQ at q
      split at q
      ·rename_i a4 H4 hr4
       cases hok:okQ ml itn m a4 H4 with
       | false=>rw [hok] at q;cases q
       | true=>rw [hok] at q;exact ⟨e,a4,H4,rfl,hr4,hok,q⟩
      ·cases q
    have back:∀ r'∈ll.flatten,∃ i∈rem,∃ lr,r'∈lr∧KX P f ro ml itn m (fP P f ro ml itn m es n (rem.erase i)) a H (fF es i)=some lr:=fun r' hr'=>by
     obtain ⟨lr,q1,q2⟩:=List.mem_flatten.1 hr'
     obtain ⟨i,p1,p2⟩:=List.mem_map.1 (iZ hal lr q1)
     exact ⟨i,p1,lr,q2,p2⟩
    have each:∀ i∈rem,∃ lr∈ll,KX P f ro ml itn m (fP P f ro ml itn m es n (rem.erase i)) a H (fF es i)=some lr:=fun i hi=>jT hal _ (List.mem_map.2 ⟨i,hi,rfl⟩)
    have nx4:∀ {e:V×V×Nat} {a4:EA} {H4:EH},bJ P f ro ml a (dIt (jD H itn) itn) e.1 e.2.1=some (.normal a4 H4)→H.next≤H4.next:=fun {e a4 H4} q=>by
     unfold bJ at q
     split at q
     ·rename_i a3 H3 hev
      obtain ⟨a3',H3',e3,n3,_⟩:=nK hs ml.ops ml.tl _ _ _ (oP hev)
      cases e3
      cases hf4:f (.code ro ml.rest a3 H3) with
      | none=>rw [hf4] at q;cases q
      | some r4 =>
       rw [hf4] at q
       obtain ⟨_,p2,_⟩:=hs _ _ hf4
       rw [rC q] at p2
       exact Nat.le_trans n3 p2
     ·cases q
    refine ⟨?_,fun r' hr'=>?_,fun htm hptr hnd hlt nx hnx Q w A k rr z es' rit rm seen hI hf ha hro hmem=>?_⟩
    ·obtain ⟨lr,q1,q2⟩:=each j0 (by rw [← hrem];exact List.mem_cons_self)
     obtain ⟨e,a4,H4,_,_,_,q3⟩:=one j0 lr q2
     obtain ⟨k1,_⟩:=ih _ _ _ _ q3
     match lr,k1 with
     | r'::lr',_=>exact List.ne_nil_of_mem (List.mem_flatten.2 ⟨_,q1,List.mem_cons_self⟩)
    ·obtain ⟨i,p1,lr,p2,p3⟩:=back r' hr'
     obtain ⟨e,a4,H4,_,q2,_,q3⟩:=one i lr p3
     obtain ⟨_,k2,_⟩:=ih _ _ _ _ q3
     exact ⟨(k2 r' p2).1,Nat.le_trans (nx4 q2) (k2 r' p2).2⟩
    ·refine head htm hptr hI ha (fun hall A2 _=>?_) fun j p hj hns w1 A2 hu ha2 hit=>?_
     ·exfalso
      have h0:j0∈rem:=by rw [← hrem];exact List.mem_cons_self
      have hx:=hlt j0 h0
      have h2:z[j0]?=some (z[j0]'(by rw [hI.lz.len];exact hx)):=List.getElem?_eq_some_iff.2 ⟨_,rfl⟩
      have h3:=(hmem j0 _ h2).1 h0
      rw [hall j0 _ h2] at h3;cases h3
     ·have hjr:j∈rem:=(hmem j p hj).2 hns
      obtain ⟨lr,q1,q2⟩:=each j hjr
      obtain ⟨e,a4,H4,he,hr4,hok,q3⟩:=one j lr q2
      have hze:=hI.lz.es hj
      have hze:es[j]?=some p.1:=hze
      rw [he] at hze
      cases hze
      obtain ⟨o1',o2',o3',o4'⟩:=TG hok
      obtain ⟨k1,k2,k3⟩:=ih _ _ _ _ q3
      -- the iterator's step
      have sim1:SimA Q Q H (jD H itn) w w1:=(nH hI.rel hI.wf hI.it hI.qit (by show (4:Nat)≠0;omega) (o' := .iter none) rfl _ ⟨rfl,_,_,_,_,hu.neu,fun _=>trivial⟩ hu).toA
      have hwn:WF (dIt (jD H itn) itn):=VU sim1.wf itn
      have hrn:Rel Q All (dIt (jD H itn) itn) w1:=QT sim1.rel itn
      have hb4:H4.next≤nx:=by
       match lr,k1,k2,q1 with
       | r'::lr',_,k2,q1=>exact Nat.le_trans (k2 r' List.mem_cons_self).2 (hnx r' (List.mem_flatten.2 ⟨_,q1,List.mem_cons_self⟩))
      have hfr:Free Q (dIt (jD H itn) itn) H4:=fun b u1 u2=>hf b u1 (Nat.lt_of_lt_of_le u2 hb4)
      have hmi:m≠itn:=fun q=>by
       obtain ⟨e,c,q'⟩:=hI.mp
       rw [q,hI.it] at q';cases q'
      have hne:rm≠rit:=fun q=>by
       have:=hI.lz.at0
       rw [q,hI.wi] at this;cases this
      have hm1:w1.heap[rm]?=some (.map es' clk):=by rw [hu.old rm hne];exact hI.lz.at0
      refine Ae hs hb (seen:=seen) (es':=es') (e:=p.2) (clk:=clk) hwn hr4 hfr hro hrn ha2 hit hu.neu hm1 (hI.lz.back hj) hI.lz.nd (hI.lz.ok p (List.mem_of_getElem? hj)) fun ex A4 w4 R4 hsim hex=>?_
      cases ex<;>try exact hex.elim
      have hex:AR R4 a4 A4:=hex
      obtain ⟨sim2,hkp⟩:=SimA.lowQ (H:=H) rfl (T.get_set_eq _ _ _) hI.qit sim1.rel sim1.wf o3' hu.neu hsim
      have sim:=sim1.trans sim2
      have hle:=hsim.le hrn hfr
      have hitl:itn<H.next:=hI.wf.lt itn _ hI.it
      obtain ⟨em,cm,hmp⟩:=hI.mp
      have hml:m<H.next:=hI.wf.lt m _ hmp
      have gMp:(dIt (jD H itn) itn).objs.get m=some (.map em cm):=Ij (by
       show (H.objs.set itn (.iter none)).get m=_
       rw [T.get_set_ne _ _ hmi];exact hmp) hmi
      have hsame:∀ b,b<H.next→R4.bm b=Q.bm b:=fun b hb'=>hsim.rx.same b (by show ¬ (H.next≤b∧_);omega)
      have keepW:∀ r b0 o0,(dIt (jD H itn) itn).objs.get b0=some o0→aQ o0≠0→Q.bm b0=some (r,0)→b0<H4.low→ay b0 o0=b0→w4.heap[r]?=w1.heap[r]?:=fun r b0 o0 g0 hk q0 hl0 hr0=>by
       refine hsim.fr.keep r (hrn.img _ _ _ q0) fun b o d ho hb' z'=>?_
       rcases hrn.inj b b0 o o0 r d 0 ho g0 hb' q0 with u | ⟨_,_,u,_⟩
       ·subst u
        rw [g0] at ho;cases ho
        have z':H4.low≤ay b o0:=z'
        omega
       ·exact hk u
      have hwi4:w4.heap[rit]?=some (.mapIter (some rm) clk (seen.push p.2.born) clk):=by
       rw [hkp];exact hu.neu
      have hwm4:w4.heap[rm]?=some (.map es' clk):=by
       rw [keepW rm m _ gMp (by show (1:Nat)≠0;omega) hI.qm o4' rfl];exact hm1
      have hI4:QI (lowQ H H4 itn) itn m clk es z es' rit rm (seen.push p.2.born) R4 w4:=⟨sim2.rel,sim2.wf,T.get_set_eq _ _ _,by rw [hsame itn hitl];exact hI.qit,
       ⟨em,cm,by show (H4.objs.set itn (.iter none)).get m=_;rw [T.get_set_ne _ _ hmi];exact (hsim.es.keep m _ gMp fun q=>by have q:H4.low≤m:=q;omega).1⟩,by rw [hsame m hml];exact hI.qm,hwi4,⟨hwm4,hI.lz.fst,hI.lz.snd,fun p' hp'=>(hI.lz.ok p' hp').mono hle,hI.lz.nd,hI.lz.lt⟩⟩
      have hlen:(rem.erase j).length+1=rem.length:=by
       rw [List.length_erase_of_mem hjr]
       have:rem≠[]:=List.ne_nil_of_mem hjr
       have:rem.length≠0:=fun q=>this (List.eq_nil_of_length_eq_zero q)
       omega
      have:=k3 o1' o2' (hnd.erase _) (fun x hx=>hlt x (List.mem_of_mem_erase hx)) nx (fun r hr=>hnx r (List.mem_flatten.2 ⟨lr,q1,hr⟩)) R4 w4 A4 k rr z es' rit rm _ hI4 (fun b u1 u2=>(hsim.free (H2:=Ie nx) (fun b u1 u2=>hf b u1 u2)) b u1 u2) hex (hro.mono hle)
       (mem_push hI.lz hnd hmem hj)
      rw [hlen] at this
      exact dV (fun e A' w' ⟨r,u1,u2⟩=>⟨r,List.mem_flatten.2 ⟨lr,q1,u1⟩,PostC.trans sim _ _ _ u2⟩) _ _ _ this
theorem Gu {f : Task → Option Res} (hs : bC P f) {ro : Option Nat} {body : Code} {ml : ML} (hml : dH body = some ml) {a : EA} {H : EH} {l : List Res} (h : Ap P f ro ml a H = some l) : fC P ro (.loop body) a H l := by
  obtain ⟨i1, i2, o1, o3, hb⟩ := qX hml
  have hlenE : ∀ l : List (V × V × Nat), lenE l = l.length := fun l => by
    induction l with
    | nil => rfl
    | cons x l ih => show Nat.succ (lenE l) = _; rw [ih]; rfl
  unfold Ap at h
  cases ht : xY a.n ml with
  | false => rw [ht] at h; cases h
  | true =>
  rw [ht] at h
  simp only [cond_true] at h
  split at h
  · rename_i itn hit
    split at h
    · rename_i m c0 hio
      split at h
      · rename_i es clk hmo
        cases k1 : Nat.beq c0 clk with
        | false => rw [k1] at h; cases h
        | true =>
        rw [k1] at h
        simp only [cond_true] at h
        have := nb k1
        subst this
        cases k2 : Nat.ble (lenE es) 4 with
        | false => rw [k2] at h; cases h
        | true =>
        rw [k2] at h
        have h : fP P f ro ml itn m es 6 (List.range (lenE es)) a (jD H itn) = some l := h
        obtain ⟨g1, g2, g3⟩ := xX (clk := c0) hs hb _ _ _ _ _ h
        refine ⟨g1, g2, fun nx hnx R w A n rr hr hw hf ha hro => ?_⟩
        have hvit : VR R (a.get ml.it) (A.eval (.tmp ml.it)) := ha.eval (.tmp ml.it)
        rw [hit] at hvit
        obtain ⟨rit, hrit⟩ : ∃ rit, R.bm itn = some (rit, 0) := by
          generalize A.eval (.tmp ml.it) = x at hvit
          cases hvit with
          | ptr hm ho => rename_i r d o; have hd : d = 0 := by omega
                         subst hd; exact ⟨_, hm⟩
        obtain ⟨_, ia, isn, ise, ila, ih1, ih2⟩ := hr.obj itn _ rit 0 hio hrit
        obtain ⟨rfl, rfl, rfl, rm, rfl, hrm⟩ := ih2 trivial
        obtain ⟨_, es', clk', hmw, hm2⟩ := hr.obj m _ rm 0 hmo hrm
        obtain ⟨rfl, hm3⟩ := hm2 trivial
        obtain ⟨⟨z, hz1, hz2, hz3⟩, hz4, hz5⟩ := hm3
        have hmi : m ≠ itn := fun q => by rw [q, hio] at hmo; cases hmo
        have hu : WU w rit (.mapIter (some rm) clk' #[] clk') w := ⟨rfl, ih1, fun _ _ => rfl, rfl, rfl, rfl⟩
        have sim0 : SimA R R H (jD H itn) w w := (nH hr hw hio hrit (by show (4 : Nat) ≠ 0; omega) (o' := .iter none) rfl _ ⟨rfl, _, _, _, _, ih1, fun _ => trivial⟩ hu).toA
        have hI : QI (jD H itn) itn m clk' es z es' rit rm #[] R w := ⟨sim0.rel, sim0.wf, T.get_set_eq _ _ _, hrit, ⟨es, clk', by show (H.objs.set itn (.iter none)).get m = _; rw [T.get_set_ne _ _ hmi]; exact hmo⟩, hrm, ih1, ⟨hmw, hz1, hz2, hz3, hz4, hz5⟩⟩
        have hlen : z.length = es.length := by rw [← hz1]; simp
        refine wpIn_loop_rounds ((List.range (lenE es)).length + 1) (dV (fun e A' w' ⟨r, u1, u2⟩ => ⟨r, u1, PostC.trans sim0 _ _ _ u2⟩) _ _ _ (g3 ht hit List.nodup_range (fun x hx => by rw [← hlenE]; exact List.mem_range.1 hx) nx hnx R w A n rr z es' rit rm #[] hI (fun b u1 u2 => hf b u1 u2) ha hro fun j p hj => ?_))
        have := (List.getElem?_eq_some_iff.1 hj).1
        rw [hlen, ← hlenE] at this
        simp [this]
      · cases h
    · cases h
  · cases h
def iK (k:EA→EH→Option (List Res)) (r:Res):Option (List Res):=match r with | .normal a H=>k a H | r=>some [r]
theorem o8 {ro:Option Nat} {y:Code} {k:EA→EH→Option (List Res)} (hk:∀ a H l,k a H=some l→fC P ro y a H l) {r:Res} {lr:List Res} (h:iK k r=some lr):(∃ a1 H1,r = .normal a1 H1∧fC P ro y a1 H1 lr)∨(lr=[r]∧∀ a1 H1,r ≠ .normal a1 H1):=by
 cases r with
 | normal a1 H1=>exact .inl ⟨a1,H1,rfl,hk a1 H1 lr h⟩
 | v v H' =>
  have h:some [Res.v v H']=some lr:=h
  cases h;exact .inr ⟨rfl,fun _ _ e=>by cases e⟩
 | exit id a1 H1 =>
  have h:some [Res.exit id a1 H1]=some lr:=h
  cases h;exact .inr ⟨rfl,fun _ _ e=>by cases e⟩
 | ret a1 H1 =>
  have h:some [Res.ret a1 H1]=some lr:=h
  cases h;exact .inr ⟨rfl,fun _ _ e=>by cases e⟩
theorem Me {ro:Option Nat} {x y:Code} {a:EA} {H:EH} {l1 l:List Res} (h1:fC P ro x a H l1) {k:EA→EH→Option (List Res)} (hk:∀ a H l,k a H=some l→fC P ro y a H l) (h:sZ (jq (l1.map (iK k)))=some l):fC P ro (.seq x y) a H l:=by
 obtain ⟨g0,g1,g4⟩:=h1
 cases hal:jq (l1.map (iK k)) with
 | none=>rw [hal] at h;cases h
 | some ll =>
  rw [hal] at h
  have h:some ll.flatten=some l:=h
  cases h
  have each:∀ r∈l1,∃ lr∈ll,iK k r=some lr:=fun r hr=>jT hal (iK k r) (List.mem_map.2 ⟨r,hr,rfl⟩)
  have back:∀ r'∈ll.flatten,∃ r∈l1,∃ lr,r'∈lr∧iK k r=some lr:=fun r' hr'=>by
   obtain ⟨lr,q1,q2⟩:=List.mem_flatten.1 hr'
   obtain ⟨r,p1,p2⟩:=List.mem_map.1 (iZ hal lr q1)
   exact ⟨r,p1,lr,q2,p2⟩
  -- each outcome of the first is below one of both
  have below:∀ r∈l1,∃ r'∈ll.flatten,r.H.next≤r'.H.next:=fun r hr=>by
   obtain ⟨lr,q1,q2⟩:=each r hr
   rcases o8 hk q2 with ⟨a1,H1,rfl,k1,k2,_⟩ | ⟨rfl,_⟩
   ·match lr,k1 with
    | r'::lr',_=>exact ⟨r',List.mem_flatten.2 ⟨_,q1,List.mem_cons_self⟩,(k2 r' List.mem_cons_self).2⟩
   ·exact ⟨r,List.mem_flatten.2 ⟨_,q1,List.mem_singleton.2 rfl⟩,Nat.le_refl _⟩
  refine ⟨?_,fun r' hr'=>?_,fun nx hnx R w A n rr hr hw hf ha hro=>?_⟩
  ·match l1,g0 with
   | r::_,_ =>
    obtain ⟨r',q,_⟩:=below r List.mem_cons_self
    exact List.ne_nil_of_mem q
  ·obtain ⟨r,p1,lr,p2,p3⟩:=back r' hr'
   rcases o8 hk p3 with ⟨a1,H1,rfl,_,k2,_⟩ | ⟨rfl,_⟩
   ·exact ⟨(k2 r' p2).1,Nat.le_trans (g1 _ p1).2 (k2 r' p2).2⟩
   ·rw [List.mem_singleton.1 p2];exact g1 _ p1
  ·have hb1:∀ r∈l1,r.H.next≤nx:=fun r hr=>by
    obtain ⟨r',q1,q2⟩:=below r hr
    exact Nat.le_trans q2 (hnx r' q1)
   refine wpIn_seq (Go.wpIn_mono (g4 nx hb1 R w A n rr hr hw hf ha hro) fun e A1 w1 ⟨r,p1,R1,s1,x1⟩=>?_)
   obtain ⟨lr,q1,q2⟩:=each r p1
   rcases o8 hk q2 with ⟨a1,H1,rfl,_,_,k3⟩ | ⟨rfl,hnn⟩
   ·cases e<;>try exact x1.elim
    have hle:=s1.le hr (hf.top (hb1 _ p1))
    have hb2:∀ r'∈lr,r'.H.next≤nx:=fun r' hr'=>hnx r' (List.mem_flatten.2 ⟨lr,q1,hr'⟩)
    exact Go.wpIn_mono (k3 nx hb2 R1 w1 A1 n rr s1.rel s1.wf (s1.free hf) x1 (hro.mono hle)) fun e A' w' ⟨r',u1,u2⟩=>⟨r',List.mem_flatten.2 ⟨lr,q1,u1⟩,PostC.trans s1 _ _ _ u2⟩
   ·have out:∃ r'∈ll.flatten,PostC R H r' w e A1 w1:=⟨r,List.mem_flatten.2 ⟨_,q1,List.mem_singleton.2 rfl⟩,R1,s1,x1⟩
    cases r with
    | normal a1 H1=>exact absurd rfl (hnn a1 H1)
    | v v H'=>exact absurd rfl ((g1 _ p1).1 v H')
    | exit id a1 H1=>cases e<;>first | exact x1.elim | exact out
    | ret a1 H1=>cases e<;>first | exact x1.elim | exact out
theorem Fb {ro:Option Nat} {id:Nat} {c:Code} {a:EA} {H:EH} {l1 l:List Res} (h1:fC P ro c a H l1) (h:jq (l1.map fun r=>bU id (some r))=some l):fC P ro (.block id c) a H l:=by
 obtain ⟨g0,g1,g4⟩:=h1
 have back:∀ r∈l,∃ r1∈l1,bU id (some r1)=some r:=fun r hr=>by
  obtain ⟨r1,p1,p2⟩:=List.mem_map.1 (iZ h r hr)
  exact ⟨r1,p1,p2⟩
 have each:∀ r1∈l1,∃ r∈l,bU id (some r1)=some r:=fun r1 p1=>jT h (bU id (some r1)) (List.mem_map.2 ⟨r1,p1,rfl⟩)
 refine ⟨?_,fun r hr=>?_,fun nx hnx R w A n rr hr hw hf ha hro=>?_⟩
 ·match l1,g0 with
  | r1::_,_ =>
   obtain ⟨r,q,_⟩:=each r1 List.mem_cons_self
   exact List.ne_nil_of_mem q
 ·obtain ⟨r1,p1,p2⟩:=back r hr
  obtain ⟨z0,z1,_⟩:=nN p2 (g1 r1 p1).1
  exact ⟨z0,by rw [← z1];exact (g1 r1 p1).2⟩
 ·have hb1:∀ r1∈l1,r1.H.next≤nx:=fun r1 p1=>by
   obtain ⟨r,q1,q2⟩:=each r1 p1
   rw [(nN q2 (g1 r1 p1).1).2.1];exact hnx r q1
  refine wpIn_block (Go.wpIn_mono (g4 nx hb1 R w A n rr hr hw hf ha hro) fun e A1 w1 ⟨r1,p1,R1,s1,x1⟩=>?_)
  obtain ⟨r,q1,q2⟩:=each r1 p1
  obtain ⟨_,z1,z2⟩:=nN q2 (g1 r1 p1).1
  exact z2 R1 e A1 x1 _ w1 fun e' x'=>⟨r,q1,R1,by rw [← z1];exact s1,x'⟩
def uU (P:Program) (fn:Func) (H:EH) (v:V) (l:List Res):Bool:=List.rec (motive:=fun _=>Bool) true
 (fun r _ ih=>match aV P fn (some r) with | some (.v v' H')=>cond (eqR v' v) (cond (Nat.ble H.next H'.low) (cond (Nat.ble H'.next r.H.next) ih false) false) false | _=>false) l
def xQ (l:List Res):Nat:=List.rec (motive:=fun _=>Nat) 0 (fun r _ ih=>KO r.H.next ih) l
def U2 (P:Program) (fn:Func) (H:EH) (l:Option (List Res)):Option Res:=match l with
 | some (r::l)=>(match aV P fn (some r) with
  | some (.v v _)=>cond (oldR v) (cond (uU P fn H v (r::l)) (fN (xQ (r::l)) fun n=>cond (Nat.ble H.next n) (some (.v v ⟨H.objs,n,H.grps,H.low⟩)) none) none) none
  | _=>none)
 | _=>none
theorem zS {fn:Func} {H:EH} {v:V}:∀ {l:List Res},uU P fn H v l=true→∀ r∈l,∃ H',aV P fn (some r)=some (.v v H')∧H.next≤H'.low∧H'.next≤r.H.next
 | [],_,r,hr=>by cases hr
 | x::l,h,r,hr=>by
  have h:(match aV P fn (some x) with | some (.v v' H')=>cond (eqR v' v) (cond (Nat.ble H.next H'.low) (cond (Nat.ble H'.next x.H.next) (uU P fn H v l) false) false) false | _=>false)=true:=h
  split at h
  ·rename_i v' H' hx
   obtain ⟨h1,h⟩:=ai h
   obtain ⟨h2,h⟩:=ai h
   obtain ⟨h3,h4⟩:=ai h
   rcases List.mem_cons.1 hr with rfl | hr
   ·rw [He h1] at hx
    exact ⟨H',hx,Nat.le_of_ble_eq_true h2,Nat.le_of_ble_eq_true h3⟩
   ·exact zS h4 r hr
  ·cases h
theorem AZ:∀ {l:List Res},∀ r∈l,r.H.next≤xQ l
 | [],r,hr=>by cases hr
 | x::l,r,hr=>by
  show r.H.next≤KO x.H.next (xQ l)
  have e:∀ a b:Nat,a≤KO a b∧b≤KO a b:=fun a b=>by
   unfold KO
   rw [aG]
   by_cases q:a≤b
   ·rw [if_pos q];exact ⟨q,Nat.le_refl _⟩
   ·rw [if_neg q];exact ⟨Nat.le_refl _,by omega⟩
  rcases List.mem_cons.1 hr with rfl | hr
  ·exact (e _ _).1
  ·exact Nat.le_trans (AZ r hr) (e _ _).2
end
end Go.Ev
/- Calls whose outcomes hang on the order of maps: loops around such loops, and an answer that is a new row. -/
namespace Go.Ev
open Go
noncomputable section
variable {P:Program}
abbrev WG:=Nat→Option Nat→(Exit→Act→World→Prop)→Act→World→Prop
def Du (W:WG) (ro:Option Nat) (a:EA) (H:EH) (l:List Res):Prop :=
 l≠[]∧(∀ r∈l,(∀ v H',r ≠ .v v H')∧H.next≤r.H.next)∧∀ nx,(∀ r∈l,r.H.next≤nx) →
  ∀ R w A n rr,Rel R All H w→WF H→Free R H (Ie nx)→AR R a A→Ro R ro rr→W n rr (fun e A' w'=>∃ r∈l,PostC R H r w e A' w') A w
theorem mQ {W:WG} {ro:Option Nat} {k:EA→EH→Option (List Res)} (hk:∀ a H l,k a H=some l→Du W ro a H l) {r:Res} {lr:List Res} (h:iK k r=some lr):(∃ a1 H1,r = .normal a1 H1∧Du W ro a1 H1 lr)∨(lr=[r]∧∀ a1 H1,r ≠ .normal a1 H1):=by
 cases r with
 | normal a1 H1=>exact .inl ⟨a1,H1,rfl,hk a1 H1 lr h⟩
 | v v H' =>
  have h:some [Res.v v H']=some lr:=h
  cases h;exact .inr ⟨rfl,fun _ _ e=>by cases e⟩
 | exit id a1 H1 =>
  have h:some [Res.exit id a1 H1]=some lr:=h
  cases h;exact .inr ⟨rfl,fun _ _ e=>by cases e⟩
 | ret a1 H1 =>
  have h:some [Res.ret a1 H1]=some lr:=h
  cases h;exact .inr ⟨rfl,fun _ _ e=>by cases e⟩
theorem Kw {W:WG} (hW:∀ n rr Q Q' A w,(∀ e A w,Q e A w→Q' e A w)→W n rr Q A w→W n rr Q' A w) {ro:Option Nat} {x:Code} {a:EA} {H:EH} {l1 l:List Res} (h1:fC P ro x a H l1) {k:EA→EH→Option (List Res)} (hk:∀ a H l,k a H=some l→Du W ro a H l) (h:sZ (jq (l1.map (iK k)))=some l):Du (fun n rr Q A w=>x.wpIn (FF rr) n P (Exit.then (W n rr Q) Q) A w) ro a H l:=by
 obtain ⟨g0,g1,g4⟩:=h1
 cases hal:jq (l1.map (iK k)) with
 | none=>rw [hal] at h;cases h
 | some ll =>
  rw [hal] at h
  have h:some ll.flatten=some l:=h
  cases h
  have each:∀ r∈l1,∃ lr∈ll,iK k r=some lr:=fun r hr=>jT hal (iK k r) (List.mem_map.2 ⟨r,hr,rfl⟩)
  have back:∀ r'∈ll.flatten,∃ r∈l1,∃ lr,r'∈lr∧iK k r=some lr:=fun r' hr'=>by
   obtain ⟨lr,q1,q2⟩:=List.mem_flatten.1 hr'
   obtain ⟨r,p1,p2⟩:=List.mem_map.1 (iZ hal lr q1)
   exact ⟨r,p1,lr,q2,p2⟩
  -- each outcome of the first is below one of both
  have below:∀ r∈l1,∃ r'∈ll.flatten,r.H.next≤r'.H.next:=fun r hr=>by
   obtain ⟨lr,q1,q2⟩:=each r hr
   rcases mQ hk q2 with ⟨a1,H1,rfl,k1,k2,_⟩ | ⟨rfl,_⟩
   ·match lr,k1 with
    | r'::lr',_=>exact ⟨r',List.mem_flatten.2 ⟨_,q1,List.mem_cons_self⟩,(k2 r' List.mem_cons_self).2⟩
   ·exact ⟨r,List.mem_flatten.2 ⟨_,q1,List.mem_singleton.2 rfl⟩,Nat.le_refl _⟩
  refine ⟨?_,fun r' hr'=>?_,fun nx hnx R w A n rr hr hw hf ha hro=>?_⟩
  ·match l1,g0 with
   | r::_,_ =>
    obtain ⟨r',q,_⟩:=below r List.mem_cons_self
    exact List.ne_nil_of_mem q
  ·obtain ⟨r,p1,lr,p2,p3⟩:=back r' hr'
   rcases mQ hk p3 with ⟨a1,H1,rfl,_,k2,_⟩ | ⟨rfl,_⟩
   ·exact ⟨(k2 r' p2).1,Nat.le_trans (g1 _ p1).2 (k2 r' p2).2⟩
   ·rw [List.mem_singleton.1 p2];exact g1 _ p1
  ·have hb1:∀ r∈l1,r.H.next≤nx:=fun r hr=>by
    obtain ⟨r',q1,q2⟩:=below r hr
    exact Nat.le_trans q2 (hnx r' q1)
   refine Go.wpIn_mono (g4 nx hb1 R w A n rr hr hw hf ha hro) fun e A1 w1 ⟨r,p1,R1,s1,x1⟩=>?_
   obtain ⟨lr,q1,q2⟩:=each r p1
   rcases mQ hk q2 with ⟨a1,H1,rfl,_,_,k3⟩ | ⟨rfl,hnn⟩
   ·cases e<;>try exact x1.elim
    have hle:=s1.le hr (hf.top (hb1 _ p1))
    have hb2:∀ r'∈lr,r'.H.next≤nx:=fun r' hr'=>hnx r' (List.mem_flatten.2 ⟨lr,q1,hr'⟩)
    exact hW _ _ _ _ _ _ (fun e A' w' ⟨r',u1,u2⟩=>⟨r',List.mem_flatten.2 ⟨lr,q1,u1⟩,PostC.trans s1 _ _ _ u2⟩) (k3 nx hb2 R1 w1 A1 n rr s1.rel s1.wf (s1.free hf) x1 (hro.mono hle))
   ·have out:∃ r'∈ll.flatten,PostC R H r' w e A1 w1:=⟨r,List.mem_flatten.2 ⟨_,q1,List.mem_singleton.2 rfl⟩,R1,s1,x1⟩
    cases r with
    | normal a1 H1=>exact absurd rfl (hnn a1 H1)
    | v v H'=>exact absurd rfl ((g1 _ p1).1 v H')
    | exit id a1 H1=>cases e<;>first | exact x1.elim | exact out
    | ret a1 H1=>cases e<;>first | exact x1.elim | exact out
theorem Ih {ro:Option Nat} {o:Operand} {x y:Code} {a:EA} {H:EH} {l:List Res} {b:Bool} (hb:a.eval o = .bool b) (h:fC P ro (cond b x y) a H l):fC P ro (.cond o x y) a H l:=by
 refine ⟨h.1,h.2.1,fun nx hnx R w A n rr hr hw hf ha hro=>?_⟩
 have hv:=ha.eval o
 rw [hb] at hv
 have hA:A.eval o = .bool b:=by
  generalize A.eval o=z at hv ⊢
  cases hv;rfl
 have k:=h.2.2 nx hnx R w A n rr hr hw hf ha hro
 cases b with
 | true=>exact wpIn_cond_true hA k
 | false=>exact wpIn_cond_false hA k
def zJ (k:EA→EH→Option (List Res)):Nat→EA→EH→Option (List Res)
 | 0,_,_=>none
 | m+1,a,H=>match k a H with | some l=>sZ (jq (l.map (iK (zJ k m)))) | none=>none
theorem Cm {k:EA→EH→Option (List Res)} {ro:Option Nat} {body:Code} (hk:∀ a H l,k a H=some l→fC P ro body a H l):∀ (m:Nat) (a:EA) (H:EH) (l:List Res),zJ k m a H=some l→Du (fun n rr Q A w=>Code.roundsIn (FF rr) n P body Q m A w) ro a H l:=by
 intro m
 induction m with
 | zero=>intro a H l h;cases h
 | succ m ih =>
  intro a H l h
  have h:(match k a H with | some l=>sZ (jq (l.map (iK (zJ k m)))) | none=>none)=some l:=h
  cases h1:k a H with
  | none=>rw [h1] at h;cases h
  | some l1 =>
   rw [h1] at h
   exact Kw (W:=fun n rr Q A w=>Code.roundsIn (FF rr) n P body Q m A w) (fun n rr Q Q' A w hq h=>dV hq m A w h) (hk a H l1 h1) ih h
theorem Bh {k:EA→EH→Option (List Res)} {ro:Option Nat} {body:Code} (hk:∀ a H l,k a H=some l→fC P ro body a H l) {m:Nat} {a:EA} {H:EH} {l:List Res} (h:zJ k m a H=some l):fC P ro (.loop body) a H l:=by
 obtain ⟨g0,g1,g2⟩:=Cm hk m a H l h
 exact ⟨g0,g1,fun nx hnx R w A n rr hr hw hf ha hro=>wpIn_loop_rounds m (g2 nx hnx R w A n rr hr hw hf ha hro)⟩
def ET:Nat→Code→Bool
 | 0,_=>true
 | n+1,c=>match c with
  | .seq x y=>cond (ET n x) true (ET n y)
  | .block _ x=>ET n x
  | .cond _ x y=>cond (ET n x) true (ET n y)
  | .loop b=>match dH b with | some _=>true | none=>ET n b
  | _=>false
def Rj (r:Option Res):Option (List Res):=match r with | some r=>some [r] | none=>none
def evM (P:Program) (f:Task→Option Res) (ro:Option Nat) (q:Bool):Nat→Code→EA→EH→Option (List Res)
 | 0,c,a,H=>Rj (f (.code ro c a H))
 | n+1,c,a,H=>cond (ET 30 c) (match c with
  | .seq x y=>(match evM P f ro q n x a H with | some l=>sZ (jq (l.map (iK (evM P f ro q n y)))) | none=>none)
  | .block id c=>(match evM P f ro q n c a H with | some l=>jq (l.map fun r=>bU id (some r)) | none=>none)
  | .cond o x y=>(match a.eval o with | .bool b=>evM P f ro q n (cond b x y) a H | _=>none)
  | .loop body=>(match dH body with | some ml=>cond q (Ap P f ro ml a H) (rZ (Vs P f ro ml) P f ro ml a H) | none=>zJ (evM P f ro q n body) 40 a H)
  | _=>none) (Rj (f (.code ro c a H)))
theorem wW {f:Task→Option Res} (hs:bC P f) {ro:Option Nat} {c:Code} {a:EA} {H:EH} {l:List Res} (h:Rj (f (.code ro c a H))=some l):fC P ro c a H l:=by
 unfold Rj at h
 split at h
 ·rename_i r hr;cases h;exact LP (hs _ _ hr)
 ·cases h
theorem KT {f:Task→Option Res} (hs:bC P f) (ro:Option Nat) (q:Bool):∀ (n:Nat) (c:Code) (a:EA) (H:EH) (l:List Res),evM P f ro q n c a H=some l→fC P ro c a H l:=by
 intro n
 induction n with
 | zero=>intro c a H l h;exact wW hs h
 | succ n ih =>
  intro c a H l h
  unfold evM at h
  cases hm:ET 30 c with
  | false=>rw [hm] at h;exact wW hs h
  | true =>
   rw [hm] at h
   cases c with
   | seq x y =>
    have h:(match evM P f ro q n x a H with | some l=>sZ (jq (l.map (iK (evM P f ro q n y)))) | none=>none)=some l:=h
    cases h1:evM P f ro q n x a H with
    | none=>rw [h1] at h;cases h
    | some l1=>rw [h1] at h;exact Me (ih x a H l1 h1) (fun a H l=>ih y a H l) h
   | block id c =>
    have h:(match evM P f ro q n c a H with | some l=>jq (l.map fun r=>bU id (some r)) | none=>none)=some l:=h
    cases h1:evM P f ro q n c a H with
    | none=>rw [h1] at h;cases h
    | some l1=>rw [h1] at h;exact Fb (ih c a H l1 h1) h
   | cond o x y =>
    have h:(match a.eval o with | .bool b=>evM P f ro q n (cond b x y) a H | _=>none)=some l:=h
    split at h
    ·rename_i b hb;exact Ih hb (ih _ _ _ _ h)
    ·cases h
   | loop body =>
    have h:(match dH body with | some ml=>cond q (Ap P f ro ml a H) (rZ (Vs P f ro ml) P f ro ml a H) | none=>zJ (evM P f ro q n body) 40 a H)=some l:=h
    cases hml:dH body with
    | none=>rw [hml] at h;exact Bh (fun a H l=>ih body a H l) h
    | some ml =>
     rw [hml] at h
     cases q with
     | true=>exact Gu hs hml h
     | false=>exact GY hs hml h
   | _=>cases h
theorem Pj {v v':V} (h:jf v v'=true) {R:Ren} {y:Value} (hv:VR R v y) (R2:Ren):VR R2 v' y∧bn v'=true:=by
 unfold jf at h
 split at h
 ·have:=kQ h;subst this;cases hv;exact ⟨.bool _,rfl⟩
 ·obtain ⟨h1,h2⟩:=ai h
  have:=ng h1;subst this
  have:=AU h2;subst this
  cases hv;exact ⟨.int _ _,rfl⟩
 ·cases hv;exact ⟨.nilSlice,rfl⟩
 ·cases h
def Zn (c c0:T V) (off m:Nat):Bool:=jF (fun i=>match c.get (Nat.add off i),c0.get (Nat.add off i) with | some x,some y=>jf x y | _,_=>false) m
def isRow (n:Nat) (H':EH) (c0:T V) (off len e:Nat) (v:V):Bool:=match v with
 | .slice b o l e'=>cond (Nat.ble n b) (cond (Nat.beq o off) (cond (Nat.beq l len) (cond (Nat.beq e' e) (match H'.block b with
  | .mk c lo sz _=>cond (Nat.ble lo off) (cond (Nat.ble (Nat.add off (Nat.mul len e)) sz) (Zn c c0 off (Nat.mul len e)) false) false
  | .no=>false) false) false) false) false
 | _=>false
theorem Fp {n:Nat} {H':EH} {c0:T V} {off len e:Nat} {v:V} (h:isRow n H' c0 off len e v=true):∃ b c lo sz g,v = .slice b off len e∧n≤b∧H'.block b = .mk c lo sz g∧lo≤off∧off+len*e≤sz∧∀ i,off≤i→i<off+len*e→∃ x y,c.get i=some x∧c0.get i=some y∧jf x y=true:=by
 unfold isRow at h
 split at h
 ·rename_i b o l e'
  obtain ⟨h1,h⟩:=ai h
  obtain ⟨h2,h⟩:=ai h
  obtain ⟨h3,h⟩:=ai h
  obtain ⟨h4,h⟩:=ai h
  have:=nb h2;subst this
  have:=nb h3;subst this
  have:=nb h4;subst this
  split at h
  ·rename_i c lo sz g hb
   obtain ⟨h5,h⟩:=ai h
   obtain ⟨h6,h7⟩:=ai h
   refine ⟨b,c,lo,sz,g,rfl,Nat.le_of_ble_eq_true h1,hb,Nat.le_of_ble_eq_true h5,Nat.le_of_ble_eq_true h6,fun i hi hj=>?_⟩
   have:=bK h7 (i-o) (by show i-o<l*e';omega)
   have this:(match c.get (o+(i-o)),c0.get (o+(i-o)) with | some x,some y=>jf x y | _,_=>false)=true:=this
   rw [show o+(i-o)=i by omega] at this
   split at this
   ·rename_i x y q1 q2;exact ⟨x,y,q1,q2,this⟩
   ·cases this
  ·cases h
 ·cases h
def zL (H:EH) (c0:T V) (off len e top:Nat):EH:=⟨H.objs.set top (.cells c0 off (Nat.add off (Nat.mul len e)) top),Nat.succ top,H.grps,H.low⟩
theorem N9 {R R':Ren} {H H':EH} {w w':World} {c0:T V} {off len e top:Nat} {v:V} {x:Value} (hr:Rel R All H w) (hw:WF H) (hf:Free R H (Ie (top+1))) (htop:H.next≤top) (hlow:H.next≤H'.low)
 (e3:SimA R R' (lowTo H big) H' w w') (hv:VR R' v x) (hrow:isRow H.next H' c0 off len e v=true):∃ R2,VR R2 (.slice top off len e) x∧SimA R R2 H (zL H c0 off len e top) w w':=by
 obtain ⟨b,c,lo,sz,g,rfl,hnb,hb,hlo,hsz,hc⟩:=Fp hrow
 have hrel':Rel R' All H' w':=SimA.rel e3
 have hkeep:∀ r,r<w.heap.size→w'.heap[r]?=w.heap[r]?:=fun r hr'=>e3.fr.keep r hr' fun b o d ho hb' z=>by
  have z:H'.low≤ay b o:=z
  have:=hw.lt b o ho
  have:=hw.root b o ho
  omega
 have hfree:∀ b,H.next≤b→b<top+1→R.bm b=none:=fun b h1 h2=>(hf b h1 h2).1
 obtain ⟨q1,q2⟩:=aH hb
 cases hv with
 | slice hm ho hle hzz =>
  rename_i r d o cap
  obtain ⟨cs,t,fz,a1,a2,a3,a4⟩:=hrel'.row hb hm trivial
  have hobj':=hrel'.obj b _ r d q1 hm
  obtain ⟨cs',t',fz',b1,b2,b3,_⟩:=hobj'
  have hnew:w.heap.size≤r:=by
   rcases e3.rx.neu b r d hnb (e3.wf.lt b _ q1) hm with z | ⟨b0,o0,o1,z1,z2,z3,z4,z5,z6⟩
   ·exact z
   ·exfalso
    rw [q1] at z3;cases z3
    have h1:=hw.lt b0 o0 z1
    have h2:=hw.root b0 o0 z1
    rcases e3.es.neu b _ q1 hnb with y | y
    ·have y:H.next≤ay b (.cells c lo sz g):=y
     omega
    ·have y:H'.low≤ay b (.cells c lo sz g):=y
     omega
  let R2:Ren:=⟨fun b'=>if b'=top then some (r,d) else R.bm b',R'.zs,R.cz⟩
  have hR2:R2.bm top=some (r,d):=by show (if top=top then some (r,d) else R.bm top)=_;rw [if_pos rfl]
  have hR2n:∀ b',b'≠top→R2.bm b'=R.bm b':=fun b' h=>by show (if b'=top then some (r,d) else R.bm b')=_;rw [if_neg h]
  have hle2:R.le R2:=⟨fun b' y e=>by
   by_cases q:b'=top
   ·subst q;rw [hfree b' htop (Nat.lt_succ_self _)] at e;cases e
   ·rw [hR2n b' q];exact e,fun b' r' d' e=>e3.rx.zs r' (hr.img b' r' d' e),fun a r cs e=>e⟩
  have hget:∀ b' o',(zL H c0 off len e top).objs.get b'=some o'→(b'=top∧o' = .cells c0 off (off+len*e) top)∨(b'≠top∧H.objs.get b'=some o'):=fun b' o' h=>by
   by_cases q:b'=top
   ·subst q
    have h:(H.objs.set b' (.cells c0 off (off+len*e) b')).get b'=some o':=h
    rw [T.get_set_eq] at h
    cases h;exact .inl ⟨rfl,rfl⟩
   ·have h:(H.objs.set top (.cells c0 off (off+len*e) top)).get b'=some o':=h
    rw [T.get_set_ne _ _ q] at h
    exact .inr ⟨q,h⟩
  have hold:∀ b' o',H.objs.get b'=some o'→b'≠top∧(zL H c0 off len e top).objs.get b'=some o':=fun b' o' h=>by
   have q:b'≠top:=by have:=hw.lt b' o' h;omega
   refine ⟨q,?_⟩
   show (H.objs.set top (.cells c0 off (off+len*e) top)).get b'=some o'
   rw [T.get_set_ne _ _ q];exact h
  have himg:r<w'.heap.size:=hrel'.img b r d hm
  refine ⟨R2,.slice hR2 ho hle hzz,⟨⟨Nat.le_succ_of_le htop,Nat.le_refl _,fun b' o' h=>⟨o',(hold b' o' h).2,rfl,rfl⟩,fun b' o' h _=>⟨(hold b' o' h).2,rfl⟩,fun b' o' h h1=>?_,⟨fun b' o' h=>?_,fun b' o' h=>?_,fun g hg b1 b2 o1 o2 h1 h2 h3 h4=>?_,fun g x h=>Nat.lt_of_lt_of_le (hw.gdom g x h) (Nat.le_succ_of_le htop)⟩,fun g h=>h,fun b' o' h h1=>?_⟩,
   ⟨fun b' h=>hR2n b' (fun q=>h (by subst q;exact ⟨htop,Nat.lt_succ_self _⟩)),fun r' h=>e3.rx.zs r' h,fun b' r' d' h1 h2 h=>?_,fun _ _=>rfl,fun _ _ _ e => .inl e⟩,
   ⟨e3.fr.os,e3.fr.tape,e3.fr.output,e3.fr.size,fun r hr' _=>hkeep r hr'⟩,⟨fun b' r' d' h=>?_,fun b' o' r' d' h h1=>?_,fun b1 b2 o1 o2 r' d1 d2 h1 h2 h3 h4=>?_,?_⟩⟩⟩
  ·rcases hget b' o' h with ⟨rfl,_⟩ | ⟨_,q⟩
   ·omega
   ·exact ⟨_,q⟩
  ·rcases hget b' o' h with ⟨rfl,_⟩ | ⟨_,q⟩
   ·exact Nat.lt_succ_self _
   ·exact Nat.lt_of_lt_of_le (hw.lt b' o' q) (Nat.le_succ_of_le htop)
  ·rcases hget b' o' h with ⟨rfl,rfl⟩ | ⟨_,q⟩
   ·exact Nat.le_refl _
   ·exact hw.root b' o' q
  ·rcases hget b1 o1 h1 with ⟨rfl,rfl⟩ | ⟨n1,g1⟩<;>rcases hget b2 o2 h2 with ⟨e2,rfl⟩ | ⟨n2,g2⟩
   ·exact e2.symm
   ·have k1:=hw.root b2 o2 g2
    have k2:=hw.lt b2 o2 g2
    have h3:b1=g:=h3
    omega
   ·have k1:=hw.root b1 o1 g1
    have k2:=hw.lt b1 o1 g1
    have h4:top=g:=h4
    omega
   ·exact hw.uniq g hg b1 b2 o1 o2 g1 g2 h3 h4
  ·rcases hget b' o' h with ⟨rfl,rfl⟩ | ⟨_,q⟩
   ·exact .inl htop
   ·have:=hw.lt b' o' q;omega
  ·by_cases q:b'=top
   ·subst q;rw [hR2] at h;cases h;exact .inl hnew
   ·rw [hR2n b' q,hfree b' h1 h2] at h;cases h
  ·by_cases q:b'=top
   ·subst q;rw [hR2] at h;cases h;exact himg
   ·rw [hR2n b' q] at h
    exact Nat.lt_of_lt_of_le (hr.img b' r' d' h) e3.fr.size
  ·rcases hget b' o' h with ⟨rfl,rfl⟩ | ⟨q,g1⟩
   ·rw [hR2] at h1;cases h1
    refine ⟨cs',t',fz',b1,b2,b3,fun _ _ i hi hj=>?_⟩
    obtain ⟨x1,y1,c1,c2,c3⟩:=hc i hi hj
    obtain ⟨p1,x2,y2,d1,d2,d3,d4⟩:=a4 i (by omega) (by omega)
    rw [c1] at d1;cases d1
    obtain ⟨v1,v2⟩:=Pj c3 d4 R2
    rw [a1] at b1
    cases b1
    exact ⟨p1,y1,y2,c2,v2,d3,v1⟩
   ·rw [hR2n b' q] at h1
    exact (hr.obj b' o' r' d' g1 h1).mono hle2 h1 (hkeep r' (hr.img b' r' d' h1)) (fun _=>trivial) (fun v=>by cases o'<;>exact v)
  ·have far:∀ b' r' d',R.bm b'=some (r',d')→r'≠r:=fun b' r' d' h q=>by have:=hr.img b' r' d' h;omega
   rcases hget b1 o1 h1 with ⟨rfl,rfl⟩ | ⟨n1,g1⟩<;>rcases hget b2 o2 h2 with ⟨e2,rfl⟩ | ⟨n2,g2⟩
   ·exact .inl e2.symm
   ·rw [hR2] at h3;cases h3
    rw [hR2n b2 n2] at h4
    exact absurd rfl (far _ _ _ h4)
   ·subst e2
    rw [hR2] at h4;cases h4
    rw [hR2n b1 n1] at h3
    exact absurd rfl (far _ _ _ h3)
   ·rw [hR2n b1 n1] at h3
    rw [hR2n b2 n2] at h4
    exact hr.inj b1 b2 o1 o2 r' d1 d2 g1 g2 h3 h4
  ·refine hr.frz.step rfl (fun r h1 _=>hkeep r h1) fun b' r' d' h=>?_
   by_cases q:b'=top
   ·subst q;rw [hR2] at h;cases h;exact .inl hnew
   ·rw [hR2n b' q] at h;exact .inr ⟨b',d',h⟩
theorem Jd {R:Ren} {H:EH} {w:World} (h:Rel R All H w):Rel R All (lowTo H big) w:=⟨h.img,h.obj,h.inj,h.frz⟩
theorem Nw {H:EH} (h:WF H):WF (lowTo H big):=⟨h.lt,h.root,h.uniq,h.gdom⟩
def EW (P:Program) (fn:Func) (H:EH) (c0:T V) (off len e:Nat) (l:List Res):Bool:=List.rec (motive:=fun _=>Bool) true
 (fun r _ ih=>match aV P fn (some r) with | some (.v v' H')=>cond (isRow H.next H' c0 off len e v') (cond (Nat.ble H.next H'.low) (cond (Nat.ble H'.next r.H.next) ih false) false) false | _=>false) l
theorem y7 {fn:Func} {H:EH} {c0:T V} {off len e:Nat}:∀ {l:List Res},EW P fn H c0 off len e l=true→∀ r∈l,∃ v' H',aV P fn (some r)=some (.v v' H')∧isRow H.next H' c0 off len e v'=true∧H.next≤H'.low∧H'.next≤r.H.next
 | [],_,r,hr=>by cases hr
 | x::l,h,r,hr=>by
  have h:(match aV P fn (some x) with | some (.v v' H')=>cond (isRow H.next H' c0 off len e v') (cond (Nat.ble H.next H'.low) (cond (Nat.ble H'.next x.H.next) (EW P fn H c0 off len e l) false) false) false | _=>false)=true:=h
  split at h
  ·rename_i v' H' hx
   obtain ⟨h1,h⟩:=ai h
   obtain ⟨h2,h⟩:=ai h
   obtain ⟨h3,h4⟩:=ai h
   rcases List.mem_cons.1 hr with rfl | hr
   ·exact ⟨v',H',hx,h1,Nat.le_of_ble_eq_true h2,Nat.le_of_ble_eq_true h3⟩
   ·exact y7 h4 r hr
  ·cases h
def Rk (P:Program) (fn:Func) (H:EH) (l:List Res) (b off len e:Nat) (H1:EH):Option Res:=match H1.block b with
 | .mk c0 _ _ _=>cond (EW P fn H c0 off len e l) (fN (xQ l) fun n=>cond (Nat.ble H.next n) (some (.v (.slice n off len e) (zL H c0 off len e n))) none) none
 | .no=>none
theorem FO {fn : Func} {c : Code} {g : FuncId} {args : List V} {H : EH} {l : List Res} {r : Res} {b off len e : Nat} {H1 : EH} (hfn : P.funcs[g]? = some fn) (hname' : fn.name ≠ "runtime.NumGoroutine") (hc : fn.body = some c) (hlen : args.length ≤ fn.ntmps)
    (hb:fC P none c ⟨initT false args,fn.ntmps,[]⟩ (lowTo H big) l) (h:Rk P fn H l b off len e H1=some r):Spec P (.call g args H) r:=by
  obtain ⟨g0,g1,g4⟩:=hb
  unfold Rk at h
  split at h
  · rename_i c0 lo sz gg hblk
    obtain ⟨o2,h⟩:EW P fn H c0 off len e l=true∧(fN (xQ l) fun n=>cond (Nat.ble H.next n) (some (Res.v (.slice n off len e) (zL H c0 off len e n))) none)=some r:=by
      cases q:EW P fn H c0 off len e l with
      | false=>rw [q] at h;cases h
      | true=>rw [q] at h;exact ⟨rfl,h⟩
    rw [aW] at h
    generalize htop:xQ l=top at h
    rw [aG] at h
    by_cases q:H.next≤top
    · rw [if_pos q] at h
      cases h
      have hbnd:∀ r∈l,r.H.next≤top:=fun r hr=>by rw [← htop];exact AZ r hr
      refine ⟨_,_,rfl,Nat.le_succ_of_le q,⟨fn,c,hfn,hname',hc⟩,fun R w args' n hr hw hf ha=>?_⟩
      have hf1:Free R H (Ie (top+1)):=fun b u1 u2=>hf b u1 u2
      refine callsIn_of_wp_marks hfn hc trivial ?_
      refine wpIn_mono (g4 top hbnd R w _ n none (Jd hr) (Nw hw) (fun b u1 u2=>hf b u1 (Nat.lt_succ_of_lt u2)) (AR.enter ha hlen) trivial) fun e' A w' ⟨ri,hri,R',hsim,hex⟩=>?_
      obtain ⟨v',H',hbody,hrow,hlow,hnx'⟩:=y7 o2 ri hri
      have key:∀ a H1,(ri = .normal a H1∨ri = .ret a H1)→leave P fn a H1=some (.v v' H')→AR R' a A→LeavesInM Fence.wide n P fn A.tmps (DD R H (.slice top off len e) (zL H c0 off len e top) w) A.defers .returning w':=by
        intro a H1 hrb hl ha'
        obtain ⟨v2,H2,e2,n2,k⟩:=mX hl
        cases e2
        have hH:ri.H=H1:=by rcases hrb with rfl | rfl<;>rfl
        rw [hH] at hsim
        refine k R' w' A n hsim.rel hsim.wf ha' _ fun x w'' hx hs'=>?_
        obtain ⟨R2,p1,p2⟩:=N9 hr hw hf1 q hlow (hsim.trans hs') hx hrow
        exact ⟨x,R2,rfl,p1,p2⟩
      cases ri with
      | normal a H1=>cases e'<;>first | exact hex.elim | exact key a H1 (.inl rfl) hbody hex
      | ret a H1=>cases e'<;>first | exact hex.elim | exact key a H1 (.inr rfl) hbody hex
      | v v1 H1=>exact absurd rfl ((g1 _ hri).1 v1 H1)
      | exit id a H1=>cases hbody
    · rw [if_neg q] at h;cases h
  · cases h
theorem G8 {fn : Func} {c : Code} {g : FuncId} {args : List V} {H : EH} {l : List Res} {r : Res} (hfn : P.funcs[g]? = some fn) (hname' : fn.name ≠ "runtime.NumGoroutine") (hc : fn.body = some c) (hlen : args.length ≤ fn.ntmps)
    (hb:fC P none c ⟨initT false args,fn.ntmps,[]⟩ (lowTo H big) l) (h:U2 P fn H (some l)=some r):Spec P (.call g args H) r:=by
  obtain ⟨_,g1,g4⟩:=hb
  cases l with
  | nil=>cases h
  | cons r0 l0 =>
    have h:(match aV P fn (some r0) with
      | some (.v v _)=>cond (oldR v) (cond (uU P fn H v (r0::l0)) (fN (xQ (r0::l0)) fun n=>cond (Nat.ble H.next n) (some (Res.v v ⟨H.objs,n,H.grps,H.low⟩)) none) none) none
      | _=>none)=some r:=h
    split at h
    · rename_i v H0 hv0
      obtain ⟨o1,h⟩:oldR v=true∧cond (uU P fn H v (r0::l0)) (fN (xQ (r0::l0)) fun n=>cond (Nat.ble H.next n) (some (Res.v v ⟨H.objs,n,H.grps,H.low⟩)) none) none=some r:=by
        cases q:oldR v with
        | false=>rw [q] at h;cases h
        | true=>rw [q] at h;exact ⟨rfl,h⟩
      obtain ⟨o2,h⟩:uU P fn H v (r0::l0)=true∧(fN (xQ (r0::l0)) fun n=>cond (Nat.ble H.next n) (some (Res.v v ⟨H.objs,n,H.grps,H.low⟩)) none)=some r:=by
        cases q:uU P fn H v (r0::l0) with
        | false=>rw [q] at h;cases h
        | true=>rw [q] at h;exact ⟨rfl,h⟩
      rw [aW] at h
      generalize htop:xQ (r0::l0)=top at h
      rw [aG] at h
      by_cases q:H.next≤top
      · rw [if_pos q] at h
        cases h
        have hbnd:∀ r∈r0::l0,r.H.next≤top:=fun r hr=>by rw [← htop];exact AZ r hr
        refine ⟨v,_,rfl,q,⟨fn,c,hfn,hname',hc⟩,fun R w args' n hr hw hf ha=>?_⟩
        refine callsIn_of_wp_marks hfn hc trivial ?_
        refine wpIn_mono (g4 top hbnd R w _ n none (Jd hr) (Nw hw) hf (AR.enter ha hlen) trivial) fun e A w' ⟨ri,hri,R',hsim,hex⟩=>?_
        obtain ⟨H',hbody,hlow,hnx'⟩:=zS o2 ri hri
        have key:∀ a H1,(ri = .normal a H1∨ri = .ret a H1)→leave P fn a H1=some (.v v H')→AR R' a A→LeavesInM Fence.wide n P fn A.tmps (DD R H v ⟨H.objs,top,H.grps,H.low⟩ w) A.defers .returning w':=by
          intro a H1 hrb hl ha'
          obtain ⟨v2,H2,e2,n2,k⟩:=mX hl
          cases e2
          have hH:ri.H=H1:=by rcases hrb with rfl | rfl<;>rfl
          rw [hH] at hsim
          refine k R' w' A n hsim.rel hsim.wf ha' _ fun x w'' hx hs'=>⟨x,R,rfl,hx.closed o1,?_⟩
          have e3:=hsim.trans hs'
          have hkeep:∀ r,r<w.heap.size→w''.heap[r]?=w.heap[r]?:=fun r hr'=>e3.fr.keep r hr' fun b o d ho hb' z=>by
            have z:H'.low≤ay b o:=z
            have:=hw.lt b o ho
            have:=hw.root b o ho
            omega
          refine ⟨⟨q,Nat.le_refl _,fun b o h=>⟨o,h,rfl,rfl⟩,fun b o h _=>⟨h,rfl⟩,fun b o h _=>⟨o,h⟩,⟨fun b o h=>Nat.lt_of_lt_of_le (hw.lt b o h) q,hw.root,hw.uniq,fun g x h=>Nat.lt_of_lt_of_le (hw.gdom g x h) q⟩,fun g h=>h,fun b o h hb'=>absurd (hw.lt b o h) (by omega)⟩,
            ⟨fun _ _=>rfl,fun _ _=>rfl,fun b r d h1 h2 e=>?_,fun _ _=>rfl,fun _ _ _ e => .inl e⟩,⟨e3.fr.os,e3.fr.tape,e3.fr.output,e3.fr.size,fun r hr' _=>hkeep r hr'⟩,
            ⟨fun b r d hb'=>Nat.lt_of_lt_of_le (hr.img b r d hb') e3.fr.size,fun b o r d ho hb'=>(hr.obj b o r d ho hb').mono (.refl _) hb' (hkeep r (hr.img b r d hb')) (fun _=>trivial) (fun v=>by cases o<;>exact v),hr.inj,
              hr.frz.step rfl (fun r h1 _=>hkeep r h1) fun b r d e => .inr ⟨b,d,e⟩⟩⟩
          have:=(hf b h1 h2).1
          rw [this] at e;cases e
        cases ri with
        | normal a H1=>cases e<;>first | exact hex.elim | exact key a H1 (.inl rfl) hbody hex
        | ret a H1=>cases e<;>first | exact hex.elim | exact key a H1 (.inr rfl) hbody hex
        | v v1 H1=>exact absurd rfl ((g1 _ hri).1 v1 H1)
        | exit id a H1=>cases hbody
      · rw [if_neg q] at h;cases h
    · cases h
def Zo (P:Program) (fn:Func) (H:EH) (l:Option (List Res)):Option Res:=match l with
 | some (r::l)=>(match aV P fn (some r) with
  | some (.v (.slice b off len e) H1)=>Rk P fn H (r::l) b off len e H1
  | _=>U2 P fn H (some (r::l)))
 | _=>none
def zD (P:Program) (f:Task→Option Res) (q:Bool) (g:FuncId) (args:List V) (H:EH):Option Res:=match P.funcs[g]? with
  | some fn => cond (decide (fn.name = "runtime.NumGoroutine")) none (match fn.body with
    | some c=>cond (Nat.ble (lenV args) fn.ntmps) (Zo P fn H (evM P f none q 30 c ⟨initT false args,fn.ntmps,[]⟩ (lowTo H big))) none
    | none=>none)
  | none=>none
theorem sV {f:Task→Option Res} (hs:bC P f) {q:Bool} {g:FuncId} {args:List V} {H:EH} {r:Res} (h:zD P f q g args H=some r):Spec P (.call g args H) r:=by
  unfold zD at h
  split at h
  · rename_i fn hfn
    rw [cond_eq_ite] at h
    split at h
    · cases h
    · rename_i hname
      have hname' : fn.name ≠ "runtime.NumGoroutine" := by simpa using hname
      split at h
      · rename_i c hc
        rw [aG] at h
        split at h
        · rename_i hlen
          rw [uC] at hlen
          cases hb:evM P f none q 30 c ⟨initT false args,fn.ntmps,[]⟩ (lowTo H big) with
          | none=>rw [hb] at h;cases h
          | some l =>
            rw [hb] at h
            have hsp:=KT hs none q 30 _ _ _ _ hb
            cases l with
            | nil=>cases h
            | cons r0 l0 =>
              have h:(match aV P fn (some r0) with
                | some (.v (.slice b off len e) H1)=>Rk P fn H (r0::l0) b off len e H1
                | _=>U2 P fn H (some (r0::l0)))=some r:=h
              split at h
              · exact FO hfn hname' hc hlen hsp h
              · exact G8 hfn hname' hc hlen hsp h
        · cases h
      · cases h
  · cases h
def orR (a b:Option Res):Option Res:=match a with | some r=>some r | none=>b
def Vt (P:Program) (f:Task→Option Res) (t:Task):Option Res:=match t with | .call g args H=>orR (zD P f false g args H) (zD P f true g args H) | _=>none
def sQ (P:Program) (X:Ext) (f:Task→Option Res) (t:Task):Option Res:=match step P X f t with
 | some r=>some r
 | none=>Vt P f t
end
end Go.Ev
/- Closed calls that write one map, and nothing else that is old: said of each call that looks the same, in whatever heap; the answer is flat, or a new map. -/
namespace Go.Ev
open Go
noncomputable section
variable {P:Program}
structure Ent3 where
 (g:FuncId) (args:List V) (rows:List (Nat×T V)) (es:List (V×V×Nat)) (clk:Nat) (v:V) (es1:List (V×V×Nat)) (clk1:Nat) (nw:Option (List (V×V×Nat)×Nat))
def heap3 (rows:List (Nat×T V)) (es:List (V×V×Nat)) (clk:Nat):EH:=fN (cu rows) fun k=>fE es fun es=>⟨(bH rows).objs.set k (.map es clk),Nat.succ k,.lf,big⟩
theorem mW (rows:List (Nat×T V)) (es:List (V×V×Nat)) (clk:Nat):heap3 rows es clk=⟨(bH rows).objs.set rows.length (.map es clk),rows.length+1,.lf,big⟩:=by
 unfold heap3;rw [aW,qE,dm]
def mt3 (k b:Nat) (rows:List (Nat×T V)) (H:EH) (x0 x:V) (m:Mt):Option Mt:=match x0,x with
 | .map k0,.map b0=>cond (Nat.beq k0 k) (cond (Nat.beq b0 b) (some m) none) none
 | x0,x=>mt0 rows H x0 x m
def U4 (k b:Nat) (rows:List (Nat×T V)) (H:EH) (c0 c:T V) (n:Nat):Nat→Mt→Option Mt:=Nat.rec (motive:=fun _=>Nat→Mt→Option Mt) (fun _ m=>some m)
 (fun _ ih i m=>match c0.get i,c.get i with | some x,some y=>(match mt3 k b rows H x y m with | some m=>ih (Nat.succ i) m | none=>none) | _,_=>none) n
def Tm (k b:Nat) (rows:List (Nat×T V)) (H:EH) (x0 x:V) (m:Mt):Option Mt:=match x0,x with
 | .agg n c0,.agg n' c=>cond (Nat.beq n n') (U4 k b rows H c0 c n 0 m) none
 | x0,x=>mt3 k b rows H x0 x m
def UZ (k b:Nat) (rows:List (Nat×T V)) (H:EH) (l0:List V):List V→Mt→Option Mt:=List.rec (motive:=fun _=>List V→Mt→Option Mt) (fun l m=>match l with | []=>some m | _=>none)
 (fun x0 _ ih l m=>match l with | x::l=>(match Tm k b rows H x0 x m with | some m=>ih l m | none=>none) | []=>none) l0
def jE (k b:Nat) (rows:List (Nat×T V)) (H:EH) (l0 l:List V):Option Mt:=match UZ k b rows H l0 l [] with
 | some m=>(match Jk rows H m m with | some m2=>cond (kX rows H m2 m2) (some m2) none | none=>none)
 | none=>none
def Y0 (c:T V) (n:Nat):Nat→Option Nat:=Nat.rec (motive:=fun _=>Nat→Option Nat) (fun _=>none) (fun _ ih i=>match c.get i with | some (.map b)=>some b | _=>ih (Nat.succ i)) n
def YS (v:V):Option Nat:=match v with | .map b=>some b | .agg n c=>Y0 c n 0 | _=>none
def Zj (l:List V):Option Nat:=List.rec (motive:=fun _=>Option Nat) none (fun x _ ih=>match YS x with | some b=>some b | none=>ih) l
def fJ (R:Ren) (m:Mt) (k b:Nat):Ren:=⟨fun b0=>if b0=k then R.bm b else (dI m b0).bind R.bm,R.zs,fun _ _=>none⟩
theorem IJ {rows:List (Nat×T V)} {H:EH} {m:Mt} (hm:MtOk rows H m) {b0 b:Nat} (h:dI m b0=some b):b0<rows.length:=by
 obtain ⟨g,hg⟩:=jP h
 have:=(hm.at_cons hg).2
 unfold nZ at this
 rw [bT] at this
 rcases Nat.lt_or_ge b0 rows.length with q | q
 ·exact q
 ·rw [List.getElem?_eq_none q] at this;cases this
theorem IK {rows:List (Nat×T V)} {H:EH} {R:Ren} {m:Mt} (hm:MtOk rows H m) (b:Nat):(dL R m).le (fJ R m rows.length b):=by
 refine ⟨fun b0 x e=>?_,fun _ _ _ _=>rfl,fun a r cs e=>by cases e⟩
 have e:(dI m b0).bind R.bm=some x:=e
 show (if b0=rows.length then R.bm b else (dI m b0).bind R.bm)=some x
 cases hb:dI m b0 with
 | none=>rw [hb] at e;cases e
 | some b1 =>
  have:=IJ hm hb
  rw [if_neg (by omega),← hb];exact e
theorem CG {k b:Nat} {rows:List (Nat×T V)} {H:EH} (hk:k=rows.length) {x0 x:V} {m m':Mt} (h:mt3 k b rows H x0 x m=some m') (hm:MtOk rows H m):Suf m m'∧MtOk rows H m'∧bn x0=bn x ∧
 ∀ (R:Ren) (m2:Mt),Suf m' m2→MtOk rows H m2→∀ y,VR R x y→VR (fJ R m2 k b) x0 y:=by
 subst hk
 unfold mt3 at h
 split at h
 ·rename_i k0 b0
  cases q1:Nat.beq k0 rows.length with
  | false=>rw [q1] at h;cases h
  | true =>
  rw [q1] at h
  cases q2:Nat.beq b0 b with
  | false=>rw [q2] at h;cases h
  | true =>
  rw [q2] at h
  cases h
  have:=nb q1;subst this
  have:=nb q2;subst this
  refine ⟨.refl _,hm,rfl,fun R m2 _ _ y hy=>?_⟩
  cases hy with
  | map p=>exact .map (by show (if rows.length=rows.length then R.bm b0 else _)=_;rw [if_pos rfl];exact p)
 ·have hsc:bn x0=bn x:=by
   unfold mt0 at h
   split at h
   ·rfl
   ·cases q:lI 0 x0 with
    | false=>rw [q] at h;cases h
    | true =>
     rw [q] at h
     have h:cond (eq0 x0 x) (some m) none=some m':=h
     cases q':eq0 x0 x with
     | false=>rw [q'] at h;cases h
     | true=>rw [sS q']
  obtain ⟨k1,k2,k3⟩:=wE h hm
  exact ⟨k1,k2,hsc,fun R m2 hs h2 y hy=>(k3 R m2 hs h2 y hy).mono (IK h2 b)⟩
theorem KI {k b:Nat} {rows:List (Nat×T V)} {H:EH} (hk:k=rows.length) {c0 c:T V}:∀ {n i:Nat} {m m':Mt},U4 k b rows H c0 c n i m=some m'→MtOk rows H m→Suf m m'∧MtOk rows H m' ∧
 ∀ j,j<n→∃ x0 x,c0.get (i+j)=some x0∧c.get (i+j)=some x∧bn x0=bn x∧∀ (R:Ren) (m2:Mt),Suf m' m2→MtOk rows H m2→∀ y,VR R x y→VR (fJ R m2 k b) x0 y:=by
 intro n
 induction n with
 | zero=>intro i m m' h hm;cases h;exact ⟨.refl _,hm,fun j hj=>by omega⟩
 | succ n ih =>
  intro i m m' h hm
  have h:(match c0.get i,c.get i with | some x,some y=>(match mt3 k b rows H x y m with | some m=>U4 k b rows H c0 c n (i+1) m | none=>none) | _,_=>none)=some m':=h
  split at h
  ·rename_i x0 x h0 h1
   split at h
   ·rename_i m1 h2
    obtain ⟨k1,k2,hsc,k3⟩:=CG hk h2 hm
    obtain ⟨q1,q2,q3⟩:=ih h k2
    refine ⟨k1.trans q1,q2,fun j hj=>?_⟩
    cases j with
    | zero=>exact ⟨x0,x,h0,h1,hsc,fun R m2 hs=>k3 R m2 (q1.trans hs)⟩
    | succ j=>rw [show i+(j+1)=i+1+j by omega];exact q3 j (by omega)
   ·cases h
  ·cases h
theorem KG {k b:Nat} {rows:List (Nat×T V)} {H:EH} (hk:k=rows.length) {x0 x:V} {m m':Mt} (h:Tm k b rows H x0 x m=some m') (hm:MtOk rows H m):Suf m m'∧MtOk rows H m' ∧
 ∀ (R:Ren) (m2:Mt),Suf m' m2→MtOk rows H m2→∀ y,VR R x y→VR (fJ R m2 k b) x0 y:=by
 unfold Tm at h
 split at h
 ·rename_i n c0 n' c
  cases h1:Nat.beq n n' with
  | false=>rw [h1] at h;cases h
  | true =>
   rw [h1] at h
   have:=nb h1;subst this
   obtain ⟨k1,k2,k3⟩:=KI hk h hm
   refine ⟨k1,k2,fun R m2 hs h2 y hy=>?_⟩
   cases hy with
   | agg g p1 p2 p3 p4 =>
    rename_i cs
    have hd:∀ i,i<n→∃ x0,c0.get i=some x0:=fun i hi=>by
     obtain ⟨x0,x,e1,_⟩:=k3 i hi
     exact ⟨x0,by rw [Nat.zero_add] at e1;exact e1⟩
    refine .agg (fun i=>getD' c0 i) p1 (fun i hi=>?_) (fun i hi=>?_) (fun i hi=>?_)
    ·obtain ⟨x0,e⟩:=hd i hi;unfold getD';rw [e]
    ·obtain ⟨x0,x,e1,e2,e3,_⟩:=k3 i hi
     rw [Nat.zero_add] at e1 e2
     unfold getD';rw [e1]
     show bn x0=true
     rw [p2 i hi] at e2;cases e2
     rw [e3];exact p3 i hi
    ·obtain ⟨x0,x,e1,e2,e3,e4⟩:=k3 i (by omega)
     rw [Nat.zero_add] at e1 e2
     unfold getD';rw [e1]
     rw [p2 i (by omega)] at e2;cases e2
     exact e4 R m2 hs h2 _ (p4 i hi)
 ·obtain ⟨k1,k2,_,k3⟩:=CG hk h hm
  exact ⟨k1,k2,k3⟩
theorem yV {k b:Nat} {rows:List (Nat×T V)} {H:EH} (hk:k=rows.length):∀ {l0 l:List V} {m m':Mt},UZ k b rows H l0 l m=some m'→MtOk rows H m→Suf m m'∧MtOk rows H m' ∧
 ∀ (R:Ren) (m2:Mt),Suf m' m2→MtOk rows H m2→∀ ys,AL R l ys→AL (fJ R m2 k b) l0 ys
 | [],[],m,m',h,hm=>by cases h;exact ⟨.refl _,hm,fun R m2 _ _ ys hy=>⟨hy.1,fun i h1=>by simp at h1⟩⟩
 | [],_::_,m,m',h,hm=>by cases h
 | _::_,[],m,m',h,hm=>by cases h
 | x0::l0,x::l,m,m',h,hm=>by
  have h:(match Tm k b rows H x0 x m with | some m=>UZ k b rows H l0 l m | none=>none)=some m':=h
  split at h
  ·rename_i m1 h1
   obtain ⟨k1,k2,k3⟩:=KG hk h1 hm
   obtain ⟨q1,q2,q3⟩:=yV hk h k2
   refine ⟨k1.trans q1,q2,fun R m2 hs h2 ys hy=>?_⟩
   have hsz:=hy.1
   have ht:AL R l (ys.extract 1 ys.size):=⟨by simp at hsz ⊢;omega,fun i a1 a2=>by
    have:=hy.2 (i+1) (by simpa using a1) (by simp at hsz a2 ⊢;omega)
    simpa [Nat.add_comm] using this⟩
   have:=q3 R m2 hs h2 _ ht
   refine ⟨by simp at hsz ⊢;have:=this.1;simp at this;omega,fun i a1 a2=>?_⟩
   cases i with
   | zero=>exact k3 R m2 (q1.trans hs) h2 _ (hy.2 0 (by simp) a2)
   | succ i =>
    have:=this.2 i (by simpa using a1) (by simp;omega)
    simpa [Nat.add_comm] using this
  ·cases h
theorem EY {k b:Nat} {rows:List (Nat×T V)} {H:EH} (hk:k=rows.length) {l0 l:List V} {m:Mt} (h:jE k b rows H l0 l=some m):MtOk rows H m∧kX rows H m m=true∧∀ (R:Ren) ys,AL R l ys→AL (fJ R m k b) l0 ys:=by
 unfold jE at h
 split at h
 ·rename_i m1 h1
  split at h
  ·rename_i m2 h2
   cases h3:kX rows H m2 m2 with
   | false=>rw [h3] at h;cases h
   | true =>
    rw [h3] at h
    cases h
    obtain ⟨_,k2,k3⟩:=yV hk h1 trivial
    obtain ⟨q1,q2⟩:=oG h2 k2
    exact ⟨q2,h3,fun R ys hy=>k3 R m q1 q2 ys hy⟩
  ·cases h
 ·cases h
theorem Fj {rows:List (Nat×T V)} {H:EH} {m:Mt} (hm:MtOk rows H m) (hrows:kX rows H m m=true) {R:Ren} {w:World} (hr:Rel R All H w) :
 Rel (dL R m) All (bH rows) w∧∀ b0 o r d,(bH rows).objs.get b0=some o→(dL R m).bm b0=some (r,d)→∃ b c lo sz g,R.bm b=some (r,d)∧H.objs.get b=some (.cells c lo sz g):=by
 have hobj:∀ b0 o r d,(bH rows).objs.get b0=some o→(dL R m).bm b0=some (r,d)→∃ sz0 c0 b c lo sz g,o = .cells c0 0 sz0 b0∧(b0,b,g)∈m∧R.bm b=some (r,d)∧H.block b = .mk c lo sz g∧lo=0∧sz0≤sz∧tH m c0 c sz0 0=true:=fun b0 o r d ho hb=>by
  obtain ⟨row,p1,p2,_⟩:=aX ho
  have hb:(dI m b0).bind R.bm=some (r,d):=hb
  cases hbm:dI m b0 with
  | none=>rw [hbm] at hb;cases hb
  | some b =>
   rw [hbm] at hb
   obtain ⟨g,hg⟩:=jP hbm
   have:=(hm.at_cons hg).2
   unfold nZ at this
   rw [bT,p1] at this
   split at this
   ·rename_i sz0 c0 c lo sz g' q1 q2
    cases q1
    rw [aA] at this
    by_cases hl:lo=0
    ·rw [if_pos hl,aG] at this
     by_cases hs:sz0≤sz
     ·rw [if_pos hs] at this
      cases this
      obtain ⟨sz1,c1,c',lo',sz',g',z1,z2,q3⟩:=kN hrows _ hg
      rw [bT,p1] at z1
      cases z1
      rw [q2] at z2
      cases z2
      exact ⟨sz0,c0,b,c,lo,sz,_,p2,hg,hb,q2,hl,hs,q3⟩
     ·rw [if_neg hs] at this;cases this
    ·rw [if_neg hl] at this;cases this
   ·cases this
 refine ⟨⟨fun b0 r d hb=>?_,fun b0 o r d ho hb=>?_,fun b0 b0' o o' r d d' ho ho' hb hb'=>?_,fun a r cs e=>(by cases e)⟩,fun b0 o r d ho hb=>?_⟩
 ·have hb:(dI m b0).bind R.bm=some (r,d):=hb
  cases hbm:dI m b0 with
  | none=>rw [hbm] at hb;cases hb
  | some b=>rw [hbm] at hb;exact hr.img b r d hb
 ·obtain ⟨sz0,c0,b,c,lo,sz,g,rfl,hg,hb1,hbk,hl,hs,hrow⟩:=hobj b0 o r d ho hb
  obtain ⟨q1,q2⟩:=aH hbk
  obtain ⟨cs,t,fz,r1,r2,r3,r4⟩:=hr.obj b _ r d q1 hb1
  refine ⟨cs,t,fz,r1,r2,r3,fun _ _ i h1 h2=>?_⟩
  obtain ⟨d1,x,y,s1,s2,s3,s4⟩:=r4 trivial q2 i (by omega) (by omega)
  obtain ⟨x',y',t1,t2,t3⟩:=rY hrow i h2
  rw [Nat.zero_add] at t1 t2
  rw [s1] at t2;cases t2
  rcases t3 with ⟨rfl,t3⟩ | ⟨b0',b',o',l',e',rfl,rfl,t3⟩
  ·exact ⟨d1,x',y,t1,s2,s3,s4.down0 (R1:=R) (n:=0) ⟨fun b hb=>by omega,fun b r d hb=>by omega,fun a ha=>by omega⟩ t3⟩
  ·refine ⟨d1,_,y,t1,rfl,s3,?_⟩
   cases s4 with
   | slice v1 v2 v3 v4=>exact .slice (by show (dI m b0').bind R.bm=_;unfold dI;rw [← F9,t3];exact v1) v2 v3 v4
 ·obtain ⟨sz0,c0,b,c,lo,sz,g,rfl,hg,hb1,hbk,_⟩:=hobj b0 o r d ho hb
  obtain ⟨sz0',c0',b',c',lo',sz',g',rfl,hg',hb1',hbk',_⟩:=hobj b0' o' r d' ho' hb'
  have g1:=(aH hbk).1
  have g2:=(aH hbk').1
  rcases hr.inj b b' _ _ r d d' g1 g2 hb1 hb1' with q | ⟨_,_,_,q⟩
  ·subst q
   rw [g1] at g2;cases g2
   exact .inl (hm.roots hg hg')
  ·have q:g=g':=q
   subst q
   exact .inl (hm.roots hg hg')
 ·obtain ⟨sz0,c0,b,c,lo,sz,g,_,_,hb1,hbk,_⟩:=hobj b0 o r d ho hb
  exact ⟨b,c,lo,sz,g,hb1,(aH hbk).1⟩
theorem nM (rows:List (Nat×T V)) (es:List (V×V×Nat)) (clk b:Nat):(heap3 rows es clk).objs.get b=if b=rows.length then some (.map es clk) else (bH rows).objs.get b:=by
 rw [mW]
 show ((bH rows).objs.set rows.length (.map es clk)).get b=_
 rw [T.get_set]
theorem dn0 (R R1:Ren):Dn 0 R R1:=⟨fun b hb=>by omega,fun b r d hb=>by omega,fun a ha=>by omega⟩
theorem start3 {rows:List (Nat×T V)} {es:List (V×V×Nat)} {clk:Nat} {args0 args:List V} {H:EH} {m:Mt} {b:Nat} (h:jE rows.length b rows H args0 args=some m) (hb:H.objs.get b=some (.map es clk)) (ho:A7 0 es=true) {R:Ren} {w:World} {args':Array Value} (hr:Rel R All H w) (ha:AL R args args') :
 Rel (fJ R m rows.length b) All (heap3 rows es clk) w∧(∀ b',rows.length+1≤b'→(fJ R m rows.length b).bm b'=none)∧AL (fJ R m rows.length b) args0 args':=by
 obtain ⟨hm,hrows,hal⟩:=EY rfl h
 obtain ⟨h0,hcell⟩:=Fj hm hrows hr
 have hle:=IK (R:=R) hm b
 have hbk:(fJ R m rows.length b).bm rows.length=R.bm b:=if_pos rfl
 have hne:∀ b0,b0≠rows.length→(fJ R m rows.length b).bm b0=(dL R m).bm b0:=fun b0 q=>if_neg q
 refine ⟨⟨fun b0 r d e=>?_,fun b0 o r d ho' e=>?_,fun b0 b0' o o' r d d' p p' e e'=>?_,fun a r cs e=>(by cases e)⟩,fun b' q=>?_,hal R args' ha⟩
 ·by_cases q:b0=rows.length
  ·subst q;rw [hbk] at e;exact hr.img b r d e
  ·rw [hne b0 q] at e;exact h0.img b0 r d e
 ·rw [nM] at ho'
  by_cases q:b0=rows.length
  ·subst q
   rw [if_pos rfl] at ho'
   cases ho'
   rw [hbk] at e
   obtain ⟨z1,es',clk',z2,z3⟩:=hr.obj b _ r d hb e
   obtain ⟨z4,z5⟩:=z3 trivial
   exact ⟨z1,es',clk',z2,fun _=>⟨z4,z5.down (dn0 _ _) ho⟩⟩
  ·rw [if_neg q] at ho'
   rw [hne b0 q] at e
   refine (h0.obj b0 o r d ho' e).mono hle e rfl (fun _=>trivial) (fun v=>?_)
   obtain ⟨row,_,rfl,_⟩:=aX ho'
   rw [mW] at v
   exact v
 ·rw [nM] at p p'
  by_cases q:b0=rows.length<;>by_cases q':b0'=rows.length
  ·exact .inl (q.trans q'.symm)
  ·exfalso
   rw [if_pos q] at p
   rw [if_neg q'] at p'
   subst q
   rw [hbk] at e
   rw [hne b0' q'] at e'
   obtain ⟨b1,c,lo,sz,g,f1,f2⟩:=hcell b0' o' r d' p' e'
   rcases hr.inj b b1 _ _ r d d' hb f2 e f1 with y | ⟨_,y,_,_⟩
   ·subst y;rw [hb] at f2;cases f2
   ·cases y
  ·exfalso
   rw [if_neg q] at p
   rw [if_pos q'] at p'
   subst q'
   rw [hbk] at e'
   rw [hne b0 q] at e
   obtain ⟨b1,c,lo,sz,g,f1,f2⟩:=hcell b0 o r d p e
   rcases hr.inj b b1 _ _ r d' d hb f2 e' f1 with y | ⟨_,y,_,_⟩
   ·subst y;rw [hb] at f2;cases f2
   ·cases y
  ·rw [if_neg q] at p
   rw [if_neg q'] at p'
   rw [hne b0 q] at e
   rw [hne b0' q'] at e'
   exact h0.inj b0 b0' o o' r d d' p p' e e'
 ·rw [hne b' (by omega)]
  show (dI m b').bind R.bm=none
  cases hbm:dI m b' with
  | none=>rfl
  | some b1=>have:=IJ hm hbm;omega
theorem Py (rows:List (Nat×T V)) (es:List (V×V×Nat)) (clk:Nat):WF (heap3 rows es clk):=by
 have hn:(heap3 rows es clk).next=rows.length+1:=by rw [mW]
 have hg:(heap3 rows es clk).grps = .lf:=by rw [mW]
 have h0:=nT rows
 have hn0:(bH rows).next=rows.length:=dm _
 have hc:∀ b o,(heap3 rows es clk).objs.get b=some o→(b=rows.length∧o = .map es clk)∨(b<rows.length∧(bH rows).objs.get b=some o):=fun b o h=>by
  rw [nM] at h
  by_cases q:b=rows.length
  ·rw [if_pos q] at h;cases h;exact .inl ⟨q,rfl⟩
  ·rw [if_neg q] at h
   have:=h0.lt b o h
   exact .inr ⟨by omega,h⟩
 refine ⟨fun b o h=>?_,fun b o h=>?_,fun g _ b b' o o' h1 h2 e1 e2=>?_,fun g x e=>by rw [hg] at e;cases e⟩
 ·rw [hn];rcases hc b o h with ⟨q,_⟩ | ⟨q,_⟩<;>omega
 ·rcases hc b o h with ⟨_,rfl⟩ | ⟨_,q⟩
  ·exact Nat.le_refl _
  ·exact h0.root b o q
 ·rcases hc b o h1 with ⟨q1,rfl⟩ | ⟨q1,p1⟩<;>rcases hc b' o' h2 with ⟨q2,rfl⟩ | ⟨q2,p2⟩
  ·exact q1.trans q2.symm
  ·have e1:b=g:=e1
   have:=h0.root b' o' p2
   omega
  ·have e2:b'=g:=e2
   have:=h0.root b o p1
   omega
  ·exact h0.uniq g rfl b b' o o' p1 p2 e1 e2
def iC (H:EH) (b:Nat) (es1:List (V×V×Nat)) (clk1:Nat) (no:Option (List (V×V×Nat)×Nat)):EH:=match no with
 | none=>fN (Nat.succ H.next) fun nx=>fE es1 fun es1=>⟨H.objs.set b (.map es1 clk1),nx,H.grps,aS H.low b⟩
 | some (es2,clk2)=>fN (Nat.succ H.next) fun nx=>fE es1 fun es1=>fE es2 fun es2=>⟨(H.objs.set b (.map es1 clk1)).set H.next (.map es2 clk2),nx,H.grps,aS H.low b⟩
theorem Ql {H:EH} (hw:WF H) {b:Nat} {es1:List (V×V×Nat)} {clk1:Nat} {no:Option (List (V×V×Nat)×Nat)} {o0:EO} (hb:H.objs.get b=some o0) :
 (iC H b es1 clk1 no).next=H.next+1∧(iC H b es1 clk1 no).grps=H.grps∧(iC H b es1 clk1 no).low=aS H.low b ∧
 (∀ x o,(iC H b es1 clk1 no).objs.get x=some o→(x=b∧o = .map es1 clk1)∨(x=H.next∧∃ es2 clk2,no=some (es2,clk2)∧o = .map es2 clk2)∨(x≠b∧x<H.next∧H.objs.get x=some o)) ∧
 (∀ x o,H.objs.get x=some o→(iC H b es1 clk1 no).objs.get x=some (if x=b then .map es1 clk1 else o)):=by
 have hlt:=hw.lt b o0 hb
 cases no with
 | none =>
  have e:iC H b es1 clk1 none=⟨H.objs.set b (.map es1 clk1),H.next+1,H.grps,aS H.low b⟩:=by unfold iC;simp only [aW,qE]
  rw [e]
  refine ⟨rfl,rfl,rfl,fun x o h=>?_,fun x o h=>?_⟩
  ·have h:(H.objs.set b (.map es1 clk1)).get x=some o:=h
   rw [T.get_set] at h
   by_cases q:x=b
   ·rw [if_pos q] at h;cases h;exact .inl ⟨q,rfl⟩
   ·rw [if_neg q] at h;exact .inr (.inr ⟨q,hw.lt x o h,h⟩)
  ·show (H.objs.set b (.map es1 clk1)).get x=_
   rw [T.get_set]
   by_cases q:x=b
   ·rw [if_pos q,if_pos q]
   ·rw [if_neg q,if_neg q];exact h
 | some p =>
  obtain ⟨es2,clk2⟩:=p
  have e:iC H b es1 clk1 (some (es2,clk2))=⟨(H.objs.set b (.map es1 clk1)).set H.next (.map es2 clk2),H.next+1,H.grps,aS H.low b⟩:=by unfold iC;simp only [aW,qE]
  rw [e]
  refine ⟨rfl,rfl,rfl,fun x o h=>?_,fun x o h=>?_⟩
  ·have h:((H.objs.set b (.map es1 clk1)).set H.next (.map es2 clk2)).get x=some o:=h
   rw [T.get_set] at h
   by_cases q0:x=H.next
   ·rw [if_pos q0] at h;cases h;exact .inr (.inl ⟨q0,es2,clk2,rfl,rfl⟩)
   ·rw [if_neg q0,T.get_set] at h
    by_cases q:x=b
    ·rw [if_pos q] at h;cases h;exact .inl ⟨q,rfl⟩
    ·rw [if_neg q] at h;exact .inr (.inr ⟨q,hw.lt x o h,h⟩)
  ·have:=hw.lt x o h
   show ((H.objs.set b (.map es1 clk1)).set H.next (.map es2 clk2)).get x=_
   rw [T.get_set,if_neg (by omega),T.get_set]
   by_cases q:x=b
   ·rw [if_pos q,if_pos q]
   ·rw [if_neg q,if_neg q];exact h
def Ib (R:Ren) (n:Nat) (nm:Option (Nat×Nat)):Ren:=⟨fun x=>if x=n then nm else R.bm x,R.zs,R.cz⟩
theorem Uk {R:Ren} {H:EH} {w w':World} {b:Nat} {es es1:List (V×V×Nat)} {clk clk1:Nat} {nm:Option (Nat×Nat)} {no:Option (List (V×V×Nat)×Nat)}
 (hr:Rel R All H w) (hw:WF H) (hb:H.objs.get b=some (.map es clk)) (hfn:R.bm H.next=none) (hos:w'.os=w.os) (htape:w'.tape=w.tape) (hout:w'.output=w.output) (hsize:w.heap.size≤w'.heap.size)
 (hkeep:∀ r,r<w.heap.size→(∀ d,R.bm b≠some (r,d))→w'.heap[r]?=w.heap[r]?)
 (h1:∀ r d,R.bm b=some (r,d)→∀ R2 s vd,OR R2 s vd (.map es1 clk1) r d w')
 (hnm:∀ r d,nm=some (r,d)→w.heap.size≤r∧r<w'.heap.size∧∀ es2 clk2,no=some (es2,clk2)→∀ R2 s vd,OR R2 s vd (.map es2 clk2) r d w') :
 SimA R (Ib R H.next nm) H (iC H b es1 clk1 no) w w':=by
 obtain ⟨onx,ogr,olow,og,ob⟩:=Ql (es1:=es1) (clk1:=clk1) (no:=no) hw hb
 have hbl:=hw.lt b _ hb
 have hmin1:aS H.low b≤H.low:=by unfold aS;rw [aG];split<;>omega
 have hmin2:aS H.low b≤b:=by unfold aS;rw [aG];split<;>omega
 have hbm:∀ x,x≠H.next→(Ib R H.next nm).bm x=R.bm x:=fun x q=>if_neg q
 have hbn:(Ib R H.next nm).bm H.next=nm:=if_pos rfl
 have hle:R.le (Ib R H.next nm):=⟨fun x y e=>by
  by_cases q:x=H.next
  ·subst q;rw [hfn] at e;cases e
  ·rw [hbm x q];exact e,fun _ _ _ _=>rfl,fun _ _ _ e=>e⟩
 -- what is old and not the map is kept
 have hold:∀ x o r d,x≠b→H.objs.get x=some o→R.bm x=some (r,d)→w'.heap[r]?=w.heap[r]?:=fun x o r d hx ho e=>hkeep r (hr.img x r d e) fun d' q=>by
  rcases hr.inj b x _ _ r d' d hb ho q e with y | ⟨_,y,_,_⟩
  ·exact hx y.symm
  ·cases y
 refine ⟨⟨by rw [onx];exact Nat.le_succ _,by rw [olow];exact hmin1,fun x o h=>⟨_,ob x o h,?_,?_⟩,fun x o h hn=>?_,fun x o h hx=>?_,⟨fun x o h=>?_,fun x o h=>?_,fun g hg x x' o o' h1 h2 e1 e2=>?_,fun g x e=>?_⟩,fun g h=>h,fun x o h hx=>?_⟩,
  ⟨fun x hx=>hbm x fun q=>hx ⟨by omega,by rw [onx];omega⟩,fun _ _=>rfl,fun x r d hx1 hx2 e=>?_,fun _ _=>rfl,fun a r cs e => .inl e⟩,⟨hos,htape,hout,hsize,fun r hr' hn=>hkeep r hr' fun d q=>hn b _ d hb q (by show (iC H b es1 clk1 no).low≤b;rw [olow];exact hmin2)⟩,
  ⟨fun x r d e=>?_,fun x o r d ho e=>?_,fun x x' o o' r d d' ho ho' e e'=>?_,fun a r cs e=>?_⟩⟩
 ·by_cases q:x=b
  ·subst q;rw [if_pos rfl];rw [hb] at h;cases h;rfl
  ·rw [if_neg q]
 ·by_cases q:x=b
  ·subst q;rw [if_pos rfl];rw [hb] at h;cases h;rfl
  ·rw [if_neg q]
 ·have hx:x≠b:=fun q=>by
   subst q
   rw [hb] at h;cases h
   exact hn (by show (iC H x es1 clk1 no).low≤x;rw [olow];exact hmin2)
  exact ⟨by rw [ob x o h,if_neg hx],by rw [ogr]⟩
 ·rcases og x o h with ⟨rfl,_⟩ | ⟨rfl,_⟩ | ⟨_,_,q⟩
  ·exact ⟨_,hb⟩
  ·omega
  ·exact ⟨_,q⟩
 ·rw [onx]
  rcases og x o h with ⟨rfl,_⟩ | ⟨rfl,_⟩ | ⟨_,q,_⟩<;>omega
 ·rcases og x o h with ⟨_,rfl⟩ | ⟨_,_,_,_,rfl⟩ | ⟨_,_,q⟩
  ·exact Nat.le_refl _
  ·exact Nat.le_refl _
  ·exact hw.root x o q
 ·rw [ogr] at hg
  have hroot:∀ x o,(iC H b es1 clk1 no).objs.get x=some o→ay x o=g→(x=H.next∧g=H.next)∨∃ o2,H.objs.get x=some o2∧ay x o2=g:=fun x o h e=>by
   rcases og x o h with ⟨rfl,rfl⟩ | ⟨rfl,_,_,_,rfl⟩ | ⟨_,_,q⟩
   ·exact .inr ⟨_,hb,e⟩
   ·exact .inl ⟨rfl,e.symm⟩
   ·exact .inr ⟨_,q,e⟩
  rcases hroot x o h1 e1 with ⟨q1,q2⟩ | ⟨o2,q1,q2⟩<;>rcases hroot x' o' h2 e2 with ⟨p1,p2⟩ | ⟨o3,p1,p2⟩
  ·exact q1.trans p1.symm
  ·have:=hw.root x' _ p1
   have:=hw.lt x' _ p1
   omega
  ·have:=hw.root x _ q1
   have:=hw.lt x _ q1
   omega
  ·exact hw.uniq g hg x x' o2 o3 q1 p1 q2 p2
 ·rw [ogr] at e
  have:=hw.gdom g x e
  rw [onx];omega
 ·rcases og x o h with ⟨rfl,_⟩ | ⟨rfl,_,_,_,rfl⟩ | ⟨_,q,_⟩
  ·omega
  ·exact .inl (Nat.le_refl _)
  ·omega
 ·rw [onx] at hx2
  have:x=H.next:=by omega
  subst this
  rw [hbn] at e
  exact .inl (hnm r d e).1
 ·by_cases q:x=H.next
  ·subst q;rw [hbn] at e;exact (hnm r d e).2.1
  ·rw [hbm x q] at e;exact Nat.lt_of_lt_of_le (hr.img x r d e) hsize
 ·rcases og x o ho with ⟨rfl,rfl⟩ | ⟨rfl,es2,clk2,q,rfl⟩ | ⟨q1,q2,q⟩
  ·rw [hbm _ (by omega)] at e
   exact h1 r d e _ _ _
  ·rw [hbn] at e
   exact (hnm r d e).2.2 es2 clk2 q _ _ _
  ·rw [hbm _ (by omega)] at e
   exact (hr.obj x o r d q e).mono hle e (hold x o r d q1 q e) (fun _=>trivial) (fun v=>by
    cases o<;>first | exact v | (have v:(iC H b es1 clk1 no).valid _ _ _=true:=v;show H.valid _ _ _=true;unfold EH.valid at v ⊢;rw [ogr] at v;exact v))
 ·have hcl:∀ x o r d,(iC H b es1 clk1 no).objs.get x=some o→(Ib R H.next nm).bm x=some (r,d)→(x=H.next∧w.heap.size≤r∧aQ o=1)∨(x≠H.next∧R.bm x=some (r,d)∧∃ o2,H.objs.get x=some o2∧aQ o2=aQ o∧ay x o2=ay x o):=fun x o r d h e=>by
   rcases og x o h with ⟨rfl,rfl⟩ | ⟨rfl,_,_,_,rfl⟩ | ⟨_,q2,q⟩
   ·rw [hbm _ (by omega)] at e
    exact .inr ⟨by omega,e,_,hb,rfl,rfl⟩
   ·rw [hbn] at e
    exact .inl ⟨rfl,(hnm r d e).1,rfl⟩
   ·rw [hbm _ (by omega)] at e
    exact .inr ⟨by omega,e,_,q,rfl,rfl⟩
  rcases hcl x o r d ho e with ⟨q1,q2,_⟩ | ⟨q1,q2,o2,q3,q4,q5⟩<;>rcases hcl x' o' r d' ho' e' with ⟨p1,p2,_⟩ | ⟨p1,p2,o3,p3,p4,p5⟩
  ·exact .inl (q1.trans p1.symm)
  ·have:=hr.img x' r d' p2;omega
  ·have:=hr.img x r d q2;omega
  ·rcases hr.inj x x' o2 o3 r d d' q3 p3 q2 p2 with y | ⟨y1,y2,y3,y4⟩
   ·exact .inl y
   ·exact .inr ⟨y1,q4▸y2,p4▸y3,by rw [← q5,← p5];exact y4⟩
 ·have e:R.cz a r=some cs:=e
  obtain ⟨⟨t,fz,z1⟩,z2⟩:=hr.frz a r cs e
  have hlt:=hr.frz.lt e
  refine ⟨⟨t,fz,(hkeep r hlt fun d q=>z2 b d q).trans z1⟩,fun x d q=>?_⟩
  by_cases qx:x=H.next
  ·subst qx;rw [hbn] at q;have:=(hnm r d q).1;omega
  ·rw [hbm x qx] at q;exact z2 x d q
def mapIs (H:EH) (k:Nat) (es:List (V×V×Nat)) (clk:Nat):Bool:=match H.objs.get k with | some (.map es' clk')=>cond (Nat.beq clk' clk) (cond (eqE es' es) (A7 0 es) false) false | _=>false
theorem wY {H:EH} {k:Nat} {es:List (V×V×Nat)} {clk:Nat} (h:mapIs H k es clk=true):H.objs.get k=some (.map es clk)∧A7 0 es=true:=by
 unfold mapIs at h
 split at h
 ·rename_i es' clk' e
  obtain ⟨h1,h⟩:=ai h
  obtain ⟨h2,h3⟩:=ai h
  have:=nb h1;subst this
  have:=AY h2;subst this
  exact ⟨e,h3⟩
 ·cases h
def Xr (e:Ent3) (H':EH) (v:V):Bool:=match e.nw with
 | none=>cond (eqR v e.v) (oldR v) false
 | some (es2,clk2)=>match v with | .map j=>cond (Nat.blt (cu e.rows) j) (mapIs H' j es2 clk2) false | _=>false
def QF (e:Ent3) (r:Option Res):Bool:=match r with
 | some (.v v H')=>cond (Nat.ble (cu e.rows) H'.low) (cond (mapIs H' (cu e.rows) e.es1 e.clk1) (cond (A7 0 e.es) (Xr e H' v) false) false) false
 | _=>false
def x8 (e:Ent3) (H:EH):V:=match e.nw with | none=>e.v | some _ => .map H.next
theorem QB {R':Ren} {H':EH} {w':World} (hrel:Rel R' All H' w') {k:Nat} {es:List (V×V×Nat)} {clk:Nat} (h:H'.objs.get k=some (.map es clk)) (ho:A7 0 es=true) {r d:Nat} (e:R'.bm k=some (r,d)) (R2:Ren) (s:Prop) (vd:Bool):OR R2 s vd (.map es clk) r d w':=by
 obtain ⟨z1,es',clk',z2,z3⟩:=hrel.obj k _ r d h e
 obtain ⟨z4,z5⟩:=z3 trivial
 exact ⟨z1,es',clk',z2,fun _=>⟨z4,z5.down (dn0 _ _) ho⟩⟩
theorem Cc {f:Task→Option Res} (hs:bC P f) {e:Ent3} (hrun:QF e (f (.call e.g e.args (heap3 e.rows e.es e.clk)))=true) {args:List V} {H:EH} {m:Mt} {b:Nat} (hb:H.objs.get b=some (.map e.es e.clk))
 (h:jE (cu e.rows) b e.rows H e.args args=some m):SpecCall P e.g args H (x8 e H) (iC H b e.es1 e.clk1 e.nw):=by
 unfold QF at hrun
 split at hrun
 ·rename_i v H' hev
  obtain ⟨a1,hrun⟩:=ai hrun
  obtain ⟨a2,hrun⟩:=ai hrun
  obtain ⟨a3,a4⟩:=ai hrun
  have a1:=Nat.le_of_ble_eq_true a1
  rw [dm] at a1 a2 h
  obtain ⟨m1,m2⟩:=wY a2
  obtain ⟨v1,H1,e1,n1,hfn,k⟩:=hs _ _ hev
  cases e1
  have hnx:(heap3 e.rows e.es e.clk).next=e.rows.length+1:=by rw [mW]
  refine ⟨?_,hfn,fun R w args' n' hr hw hf ha=>?_⟩
  ·cases hno:e.nw with
   | none=>unfold iC;simp only [aW,qE];exact Nat.le_succ _
   | some p=>unfold iC;simp only [aW,qE];exact Nat.le_succ _
  ·have hone:(iC H b e.es1 e.clk1 e.nw).next=H.next+1:=by
    cases hno:e.nw with
    | none=>unfold iC;simp only [aW,qE]
    | some p=>unfold iC;simp only [aW,qE]
   have hfn0:=(hf H.next (Nat.le_refl _) (by rw [hone];exact Nat.lt_succ_self _)).1
   obtain ⟨hr0,hno,hal⟩:=start3 h hb a3 hr ha
   have hbk:(fJ R m e.rows.length b).bm e.rows.length=R.bm b:=if_pos rfl
   have hfree:Free (fJ R m e.rows.length b) (heap3 e.rows e.es e.clk) H':=fun b' q _=>⟨hno b' (by rw [hnx] at q;exact q),fun _=>rfl⟩
   refine CallsIn.mono (k (fJ R m e.rows.length b) w args' n' hr0 (Py _ _ _) hfree hal) fun en w' ⟨x,R',e1,e2,e3⟩=>?_
   have hkeep:∀ r,r<w.heap.size→(∀ d,R.bm b≠some (r,d))→w'.heap[r]?=w.heap[r]?:=fun r hr' hn=>e3.fr.keep r hr' fun b0 o d ho hb0 q=>by
    rw [nM] at ho
    by_cases q0:b0=e.rows.length
    ·subst q0;rw [hbk] at hb0;exact hn d hb0
    ·rw [if_neg q0] at ho
     obtain ⟨row,_,rfl,hlt⟩:=aX ho
     have q:H'.low≤b0:=q
     omega
   have hrel':=SimA.rel e3
   have hK:R'.bm e.rows.length=R.bm b:=(e3.rx.same _ (by rw [hnx];omega)).trans hbk
   have h1:∀ r d,R.bm b=some (r,d)→∀ R2 s vd,OR R2 s vd (.map e.es1 e.clk1) r d w':=fun r d q R2 s vd=>QB hrel' m1 m2 (hK.trans q) R2 s vd
   unfold Xr at a4
   cases hnw:e.nw with
   | none =>
    rw [hnw] at a4
    obtain ⟨b1,b2⟩:=ai a4
    have:=He b1
    subst this
    have hv:x8 e H=e.v:=by unfold x8;rw [hnw]
    rw [hv]
    exact ⟨x,Ib R H.next none,e1,e2.closed b2,Uk hr hw hb hfn0 e3.fr.os e3.fr.tape e3.fr.output e3.fr.size hkeep h1 fun r d q=>by cases q⟩
   | some p =>
    obtain ⟨es2,clk2⟩:=p
    rw [hnw] at a4
    have hv:x8 e H = .map H.next:=by unfold x8;rw [hnw]
    rw [hv]
    cases v with
    | map j =>
     obtain ⟨b1,b2⟩:=ai (show cond (Nat.blt (cu e.rows) j) (mapIs H' j es2 clk2) false=true from a4)
     rw [dm] at b1
     have b1:e.rows.length<j:=Nat.le_of_ble_eq_true b1
     obtain ⟨b3,b4⟩:=wY b2
     cases e2 with
     | map e2 =>
      rename_i r
      refine ⟨_,Ib R H.next (R'.bm j),e1,.map (by show (if H.next=H.next then R'.bm j else _)=_;rw [if_pos rfl];exact e2),Uk hr hw hb hfn0 e3.fr.os e3.fr.tape e3.fr.output e3.fr.size hkeep h1 fun r' d q=>?_⟩
      have q:R'.bm j=some (r',d):=q
      refine ⟨?_,hrel'.img j r' d q,fun es3 clk3 q3 R2 s vd=>?_⟩
      ·rcases e3.rx.neu j r' d (by rw [hnx];omega) (e3.es.wf.lt j _ b3) q with y | ⟨b0,o0,o,y1,y2,y3,y4,y5,y6⟩
       ·exact y
       ·rw [b3] at y3;cases y3;cases y5
      ·cases q3
       exact QB hrel' b3 b4 q R2 s vd
    | _=>cases a4
 ·cases hrun
def pM:=FuncId→List V→EH→Option (V×EH)
def oM (P:Program) (Y:pM):Prop:=∀ g args H v H',Y g args H=some (v,H')→SpecCall P g args H v H'
def Uw (P:Program) (X:Ext) (Y:pM) (f:Task→Option Res) (t:Task):Option Res:=match t with
 | .call g args H=>(match Y g args H with | some (v,H')=>some (.v v H') | none=>sQ P X f (.call g args H))
 | .callV fv args H=>sQ P X f (.callV fv args H)
 | .code ro c a H=>sQ P X f (.code ro c a H)
def evY (P:Program) (X:Ext) (Y:pM) (n:Nat):Task→Option Res:=Nat.rec (fun _=>none) (fun _ ih=>Uw P X Y ih) n
theorem kR (hD:aF P) {X:Ext} (hX:cZ P X) {f:Task→Option Res} (hs:bC P f):bC P (sQ P X f):=fun t r h=>by
 unfold sQ at h
 split at h
 ·rename_i r' hr;cases h
  exact wX hD hX hs _ _ hr
 ·cases t with
  | call g args H =>
   have h:orR (zD P f false g args H) (zD P f true g args H)=some r:=h
   unfold orR at h
   split at h
   ·rename_i r' hr;cases h;exact sV hs hr
   ·exact sV hs h
  | _=>cases h
theorem jM (hD:aF P) {X:Ext} (hX:cZ P X) {Y:pM} (hY:oM P Y):∀ n,bC P (evY P X Y n)
 | 0=>fun t r h=>by cases h
 | n+1=>fun t r h=>by
  have h:Uw P X Y (evY P X Y n) t=some r:=h
  cases t with
  | call g args H =>
   have h:(match Y g args H with | some (v,H')=>some (.v v H') | none=>sQ P X (evY P X Y n) (.call g args H))=some r:=h
   split at h
   ·rename_i v H' hy;cases h
    exact ⟨v,H',rfl,hY g args H v H' hy⟩
   ·exact kR hD hX (jM hD hX hY n) _ _ h
  | callV fv args H=>exact kR hD hX (jM hD hX hY n) _ _ h
  | code ro c a H=>exact kR hD hX (jM hD hX hY n) _ _ h
def NE (e:Ent3) (args:List V) (H:EH):Option (V×EH):=match Zj args with
 | some b=>(match H.objs.get b with
  | some (.map es clk)=>cond (Nat.beq clk e.clk) (cond (eqE es e.es) (cond (qG (jE (cu e.rows) b e.rows H e.args args)) (some (x8 e H,iC H b e.es1 e.clk1 e.nw)) none) none) none
  | _=>none)
 | none=>none
def ents3 (l:List Ent3):pM:=fun g args H=>List.rec (motive:=fun _=>Option (V×EH)) none (fun e _ ih=>cond (Nat.beq e.g g) (match NE e args H with | some r=>some r | none=>ih) ih) l
def Ents3OK (P:Program) (l:List Ent3):Prop:=∀ e∈l,∀ (args:List V) (H:EH) (m:Mt) (b:Nat),H.objs.get b=some (.map e.es e.clk)→jE (cu e.rows) b e.rows H e.args args=some m→SpecCall P e.g args H (x8 e H) (iC H b e.es1 e.clk1 e.nw)
theorem Ents3OK.nil:Ents3OK P []:=fun _ h=>by cases h
theorem Ents3OK.cons {e:Ent3} {l:List Ent3} (h:∀ (args:List V) (H:EH) (m:Mt) (b:Nat),H.objs.get b=some (.map e.es e.clk)→jE (cu e.rows) b e.rows H e.args args=some m→SpecCall P e.g args H (x8 e H) (iC H b e.es1 e.clk1 e.nw)) (k:Ents3OK P l):Ents3OK P (e::l):=fun e' he=>by
 rcases List.mem_cons.1 he with rfl | he
 ·exact h
 ·exact k e' he
theorem Lj {e:Ent3} {args:List V} {H H':EH} {v:V} (h:NE e args H=some (v,H')):∃ b m,H.objs.get b=some (.map e.es e.clk)∧jE (cu e.rows) b e.rows H e.args args=some m∧v=x8 e H∧H'=iC H b e.es1 e.clk1 e.nw:=by
 unfold NE at h
 split at h
 ·rename_i b _
  split at h
  ·rename_i es clk hb
   cases h1:Nat.beq clk e.clk with
   | false=>rw [h1] at h;cases h
   | true =>
    rw [h1] at h
    cases h2:eqE es e.es with
    | false=>rw [h2] at h;cases h
    | true =>
     rw [h2] at h
     cases hm:jE (cu e.rows) b e.rows H e.args args with
     | none=>rw [hm] at h;cases h
     | some m =>
      rw [hm] at h
      cases h
      have:=nb h1;subst this
      have:=AY h2;subst this
      exact ⟨b,m,hb,hm,rfl,rfl⟩
  ·cases h
 ·cases h
theorem qI:∀ {l:List Ent3},Ents3OK P l→oM P (ents3 l)
 | [],_,g,args,H,v,H',h=>by cases h
 | e::l,hl,g,args,H,v,H',h=>by
  have h:cond (Nat.beq e.g g) (match NE e args H with | some r=>some r | none=>ents3 l g args H) (ents3 l g args H)=some (v,H'):=h
  have rest:ents3 l g args H=some (v,H')→SpecCall P g args H v H':=qI (fun e' he=>hl e' (List.mem_cons_of_mem _ he)) g args H v H'
  cases h1:Nat.beq e.g g with
  | false=>rw [h1] at h;exact rest h
  | true =>
   rw [h1] at h
   have h:(match NE e args H with | some r=>some r | none=>ents3 l g args H)=some (v,H'):=h
   split at h
   ·rename_i r hr
    cases h
    obtain ⟨b,m,q1,q2,rfl,rfl⟩:=Lj hr
    have:=nb h1;subst this
    exact hl e List.mem_cons_self args H m b q1 q2
   ·exact rest h
def dX (P:Program) (X:Ext) (n:Nat) (e:Ent3):Bool:=QF e (ev P X n (.call e.g e.args (heap3 e.rows e.es e.clk)))
theorem bZ (hD:aF P) {X:Ext} (hX:cZ P X) {n:Nat} {e:Ent3} (hrun:dX P X n e=true) (args:List V) (H:EH) (m:Mt) (b:Nat) (hb:H.objs.get b=some (.map e.es e.clk)) (h:jE (cu e.rows) b e.rows H e.args args=some m) :
 SpecCall P e.g args H (x8 e H) (iC H b e.es1 e.clk1 e.nw):=Cc (jX hD hX n) hrun hb h
def I4 (P:Program) (X:Ext) (Y:pM) (n:Nat) (e:Ent):Bool:=QQ e (evY P X Y n (.call e.g e.args (bH e.rows)))
def qp (P:Program) (X:Ext) (Y:pM) (n:Nat) (e:Ent):Bool:=QA e (evY P X Y n (.call e.g e.args (bH e.rows)))
theorem Gn (hD:aF P) {X:Ext} (hX:cZ P X) {Y:pM} (hY:oM P Y) {e:Ent} {n:Nat} (hrun:I4 P X Y n e=true) {args:List V} {H:EH} {m:Mt} (h:dM e.rows H e.args args=some m):SpecCall P e.g args H e.v H:=vO (jM hD hX hY n) hrun h
theorem lV (hD:aF P) {X:Ext} (hX:cZ P X) {Y:pM} (hY:oM P Y) {e:Ent} {n:Nat} (hrun:qp P X Y n e=true) {args:List V} {H:EH} {m:Mt} (h:dM e.rows H e.args args=some m):SpecCall P e.g args H (mG H.next e.v) (bump H):=BP (jM hD hX hY n) hrun h
theorem Yu {R:Ren} {H:EH} {w w':World} (hr:Rel R All H w) (hw:WF H) (hos:w'.os=w.os) (htape:w'.tape=w.tape) (hout:w'.output=w.output) (hsize:w.heap.size≤w'.heap.size) (hkeep:∀ r,r<w.heap.size→w'.heap[r]?=w.heap[r]?):SimA R R H H w w' :=
 ⟨⟨Nat.le_refl _,Nat.le_refl _,fun b o h=>⟨o,h,rfl,rfl⟩,fun b o h _=>⟨h,rfl⟩,fun b o h _=>⟨o,h⟩,hw,fun g h=>h,fun b o h hb=>absurd (hw.lt b o h) (by omega)⟩,
  ⟨fun _ _=>rfl,fun _ _=>rfl,fun b r d h1 h2 _=>(by omega),fun _ _=>rfl,fun a r cs e => .inl e⟩,⟨hos,htape,hout,hsize,fun r hr' _=>hkeep r hr'⟩,
  ⟨fun b r d e=>Nat.lt_of_lt_of_le (hr.img b r d e) hsize,fun b o r d ho e=>(hr.obj b o r d ho e).mono (.refl _) e (hkeep r (hr.img b r d e)) (fun _=>trivial) id,hr.inj,fun a r cs e=>by
   obtain ⟨⟨t,fz,z1⟩,z2⟩:=hr.frz a r cs e
   exact ⟨⟨t,fz,(hkeep r (hr.frz.lt e)).trans z1⟩,z2⟩⟩⟩
def FD (r:Option Res):Bool:=match r with | some (.v (.bool b) _)=>b | _=>false
theorem MG (hD:aF P) {X:Ext} (hX:cZ P X) {n:Nat} {g:FuncId} (h:FD (ev P X n (.call g [.nilSlice,.bad] (bH [])))=true) (fv:V) (H:EH):SpecCall P g [.nilSlice,fv] H (.bool true) H:=by
 unfold FD at h
 split at h
 ·rename_i b H' hev
  subst h
  obtain ⟨v1,H1,e1,n1,hfn,k⟩:=jX hD hX n _ _ hev
  cases e1
  refine ⟨Nat.le_refl _,hfn,fun R w args' n' hr hw hf ha=>?_⟩
  have h0:Rel (dL R []) All (bH []) w:=⟨fun b r d e=>(by cases e),fun b o r d ho=>(by obtain ⟨_,q,_⟩:=aX ho;cases q),fun b b' o o' r d d' ho=>(by obtain ⟨_,q,_⟩:=aX ho;cases q),fun a r cs e=>(by cases e)⟩
  have hal:AL (dL R []) [.nilSlice,.bad] args':=by
   refine ⟨ha.1,fun i h1 h2=>?_⟩
   have h3:i=0∨i=1:=by simp at h1;omega
   rcases h3 with rfl | rfl
   ·have q:=ha.2 0 (by simp) h2
    have q:VR R .nilSlice args'[0]:=q
    show VR _ .nilSlice args'[0]
    generalize args'[0]=x at q ⊢
    cases q;exact .nilSlice
   ·exact .bad _
  refine CallsIn.mono (k (dL R []) w args' n' h0 (nT _) (fun b _ _=>⟨rfl,fun _=>rfl⟩) hal) fun en w' ⟨x,R',e1,e2,e3⟩=>?_
  cases e2
  exact ⟨_,R,e1,.bool true,Yu hr hw e3.fr.os e3.fr.tape e3.fr.output e3.fr.size fun r hr'=>e3.fr.keep r hr' fun b o d ho=>(by obtain ⟨_,q,_⟩:=aX ho;cases q)⟩
 ·cases h
end
end Go.Ev
