/- Closed calls whose answers hold new rows, said of each call that looks the same, in whatever heap. -/
import Derived.Test.YtifhcelhancnmaaYEe
import Derived.Test.YtifhcelhancnmaaYEc
set_option linter.all false
set_option linter.unusedSimpArgs false
set_option linter.unusedVariables false
namespace Go.Ev
open Go
noncomputable section
variable {P:Program}
def CY (k:Nat) (t:T EO):T EO:=Nat.rec (motive:=fun _=>T EO) t (fun i ih=>ih.del i) k
theorem Ed (t:T EO):∀ (k b:Nat),(CY k t).get b=if b<k then none else t.get b:=by
 intro k
 induction k with
 | zero=>intro b;rw [if_neg (by omega)];rfl
 | succ k ih =>
  intro b
  show ((CY k t).del k).get b=_
  rw [T.get_del,ih]
  by_cases e:b=k
  ·subst e;rw [if_pos rfl,if_pos (by omega)]
  ·rw [if_neg e]
   by_cases h:b<k
   ·rw [if_pos h,if_pos (by omega)]
   ·rw [if_neg h,if_neg (by omega)]
def Fe (k:Nat) (H:EH):EH:=⟨CY k H.objs,H.next,H.grps,H.low⟩
def CG (e:Ent) (r:Option Res):Bool:=match r with | some (.v v H')=>cond (Nat.ble (gy e.rows) H'.low) (Kw (Fe (gy e.rows) H') v e.v) false | _=>false
theorem EL {rows:List (Nat×T V)} {args0 args:List V} {H:EH} {m:Mt} (h:bK rows H args0 args=some m) {R:Ren} {w:World} {args':Array Value} (hr:Rel R All H w) (ha:AL R args args') :
 Rel (fF R m) All (bU rows) w∧(∀ b,rows.length≤b→(fF R m).bm b=none)∧AL (fF R m) args0 args':=by
 obtain ⟨hm,hrows,hal⟩:=rJ h
 have hobj:∀ b0 o r d,(bU rows).objs.get b0=some o→(fF R m).bm b0=some (r,d)→∃ sz0 c0 b c lo sz g,o = .cells c0 0 sz0 b0∧(b0,b,g)∈m∧R.bm b=some (r,d)∧H.block b = .mk c lo sz g∧lo=0∧sz0≤sz∧qM m c0 c sz0 0=true:=fun b0 o r d ho hb=>by
  obtain ⟨row,p1,p2,_⟩:=aQ ho
  have hb:(fH m b0).bind R.bm=some (r,d):=hb
  cases hbm:fH m b0 with
  | none=>rw [hbm] at hb;cases hb
  | some b =>
   rw [hbm] at hb
   obtain ⟨g,hg⟩:=lQ hbm
   have:=(hm.at_cons hg).2
   unfold oJ at this
   rw [aT,p1] at this
   split at this
   ·rename_i sz0 c0 c lo sz g' q1 q2
    cases q1
    rw [ah] at this
    by_cases hl:lo=0
    ·rw [if_pos hl,aj] at this
     by_cases hs:sz0≤sz
     ·rw [if_pos hs] at this
      cases this
      obtain ⟨sz1,c1,c',lo',sz',g',z1,z2,q3⟩:=kG hrows _ hg
      rw [aT,p1] at z1
      cases z1
      rw [q2] at z2
      cases z2
      exact ⟨sz0,c0,b,c,lo,sz,_,p2,hg,hb,q2,hl,hs,q3⟩
     ·rw [if_neg hs] at this;cases this
    ·rw [if_neg hl] at this;cases this
   ·cases this
 refine ⟨⟨fun b0 r d hb=>?_,fun b0 o r d ho hb=>?_,fun b0 b0' o o' r d d' ho ho' hb hb'=>?_,fun a r cs e=>(by cases e)⟩,fun b h1=>?_,hal R args' ha⟩
 ·have hb:(fH m b0).bind R.bm=some (r,d):=hb
  cases hbm:fH m b0 with
  | none=>rw [hbm] at hb;cases hb
  | some b=>rw [hbm] at hb;exact hr.img b r d hb
 ·obtain ⟨sz0,c0,b,c,lo,sz,g,rfl,hg,hb1,hbk,hl,hs,hrow⟩:=hobj b0 o r d ho hb
  obtain ⟨q1,q2⟩:=ak hbk
  obtain ⟨cs,t,fz,r1,r2,r3,r4⟩:=hr.obj b _ r d q1 hb1
  refine ⟨cs,t,fz,r1,r2,r3,fun _ _ i h1 h2=>?_⟩
  obtain ⟨d1,x,y,s1,s2,s3,s4⟩:=r4 trivial q2 i (by omega) (by omega)
  obtain ⟨x',y',t1,t2,t3⟩:=uN hrow i h2
  rw [Nat.zero_add] at t1 t2
  rw [s1] at t2;cases t2
  rcases t3 with ⟨rfl,t3⟩ | ⟨b0',b',o',l',e',rfl,rfl,t3⟩
  ·exact ⟨d1,x',y,t1,s2,s3,s4.down0 (R1:=R) (n:=0) ⟨fun b hb=>by omega,fun b r d hb=>by omega,fun a ha=>by omega⟩ t3⟩
  ·refine ⟨d1,_,y,t1,rfl,s3,?_⟩
   cases s4 with
   | slice v1 v2 v3 v4=>exact .slice (by show (fH m b0').bind R.bm=_;unfold fH;rw [← GY,t3];exact v1) v2 v3 v4
 ·obtain ⟨sz0,c0,b,c,lo,sz,g,rfl,hg,hb1,hbk,_⟩:=hobj b0 o r d ho hb
  obtain ⟨sz0',c0',b',c',lo',sz',g',rfl,hg',hb1',hbk',_⟩:=hobj b0' o' r d' ho' hb'
  have g1:=(ak hbk).1
  have g2:=(ak hbk').1
  rcases hr.inj b b' _ _ r d d' g1 g2 hb1 hb1' with q | ⟨_,_,_,q⟩
  ·subst q
   rw [g1] at g2;cases g2
   exact .inl (hm.roots hg hg')
  ·have q:g=g':=q
   subst q
   exact .inl (hm.roots hg hg')
 ·show (fH m b).bind R.bm=none
  cases hbm:fH m b with
  | none=>rfl
  | some b' =>
   obtain ⟨g,hg⟩:=lQ hbm
   have:=(hm.at_cons hg).2
   unfold oJ at this
   rw [aT,List.getElem?_eq_none h1] at this
   cases this
theorem nT {f:Task→Option Res} (hs:az P f) {e:Ent} (hrun:CG e (f (.call e.g e.args (bU e.rows)))=true) {args:List V} {H:EH} {m:Mt} (h:bK e.rows H e.args args=some m):SpecCall P e.g args H (qP H.next e.v) (bump H):=by
 unfold CG at hrun
 split at hrun
 ·rename_i v H' hev
  obtain ⟨a3,a1⟩:=ag hrun
  have a3:=Nat.le_of_ble_eq_true a3
  rw [fU] at a3 a1
  obtain ⟨v1,H1,e1,n1,hfn,k⟩:=hs _ _ hev
  cases e1
  have hnx:(bU e.rows).next=e.rows.length:=fU _
  refine ⟨Nat.le_succ _,hfn,fun R w args' n' hr hw hf ha=>?_⟩
  obtain ⟨hr0,hno,hal⟩:=EL h hr ha
  have hfn0:=hf H.next (Nat.le_refl _) (Nat.lt_succ_self _)
  have hfree:Free (fF R m) (bU e.rows) H':=fun b h1 _=>⟨hno b (by rw [hnx] at h1;exact h1),fun _=>rfl⟩
  refine CallsIn.mono (k (fF R m) w args' n' hr0 (ui _) hfree hal) fun en w' ⟨x,R',e1,e2,e3⟩=>?_
  have hkeep:∀ r,r<w.heap.size→w'.heap[r]?=w.heap[r]?:=fun r hr=>e3.fr.keep r hr fun b o d ho hb q=>by
   obtain ⟨row,_,rfl,hlt⟩:=aQ ho
   have q:H'.low≤b:=q
   omega
  let R2:Ren:=⟨R.bm,R.zs,fun a r=>if a=H.next then (if w.heap.size≤r then (match w'.heap[r]? with | some (.cells cs _ _)=>some cs | _=>none) else none) else R.cz a r⟩
  have hR2:∀ r cs t fz,w.heap.size≤r→w'.heap[r]?=some (.cells cs t fz)→R2.cz H.next r=some cs:=fun r cs t fz h1 h2=>by
   show (if H.next=H.next then (if w.heap.size≤r then (match w'.heap[r]? with | some (.cells cs _ _)=>some cs | _=>none) else none) else R.cz H.next r)=some cs
   rw [if_pos rfl,if_pos h1,h2]
  have hcz:∀ a r cs,R2.cz a r=some cs→(a≠H.next∧R.cz a r=some cs)∨(a=H.next∧w.heap.size≤r∧∃ t fz,w'.heap[r]?=some (.cells cs t fz)):=fun a r cs e=>by
   have e:(if a=H.next then (if w.heap.size≤r then (match w'.heap[r]? with | some (.cells cs _ _)=>some cs | _=>none) else none) else R.cz a r)=some cs:=e
   split at e
   ·rename_i ea
    split at e
    ·rename_i hz
     split at e
     ·rename_i c t fz hc;cases e;exact .inr ⟨ea,hz,t,fz,hc⟩
     ·cases e
    ·cases e
   ·rename_i ea;exact .inl ⟨ea,e⟩
  have hrel':=SimA.rel e3
  have hgd:∀ b o,(Fe e.rows.length H').objs.get b=some o→e.rows.length≤b∧H'.objs.get b=some o:=fun b o ho=>by
   have ho:(CY e.rows.length H'.objs).get b=some o:=ho
   rw [Ed] at ho
   by_cases q:b<e.rows.length
   ·rw [if_pos q] at ho;cases ho
   ·rw [if_neg q] at ho;exact ⟨by omega,ho⟩
  have hrelD:Rel R' All (Fe e.rows.length H') w':=⟨hrel'.img,fun b o r d ho hb=>(hrel'.obj b o r d (hgd b o ho).2 hb).mono (.refl _) hb rfl (fun _=>trivial) (fun v=>by cases o<;>exact v),
   fun b b' o o' r d d' ho ho'=>hrel'.inj b b' o o' r d d' (hgd b o ho).2 (hgd b' o' ho').2,hrel'.frz⟩
  have hv:VR R2 (qP H.next e.v) x:=by
   refine JS (R':=R') (R2:=R2) (w':=w') (k:=0) hrelD (fun a r cs ha q=>?_) (fun b r d o ho hb cs t fz q=>?_) (IW a1 H.next) e2
   ·rcases e3.rx.czn a r cs q with z | z
    ·cases z
    ·obtain ⟨⟨t,fz,hc⟩,_⟩:=hrel'.frz a r cs q
     exact hR2 r cs t fz z hc
   ·refine hR2 r cs t fz ?_ q
    obtain ⟨g1,g2⟩:=hgd b o ho
    have hlt:=e3.wf.lt b o g2
    rcases e3.rx.neu b r d (by rw [hnx];exact g1) hlt hb with z | ⟨b0,o0,o1,z1,z2,z3,z4,z5,z6⟩
    ·exact z
    ·exfalso
     obtain ⟨row,_,rfl,hlt0⟩:=aQ z1
     rw [g2] at z3;cases z3
     have z6:b0=ai b o:=z6
     rcases e3.es.neu b o g2 (by rw [hnx];exact g1) with y | y
     ·rw [hnx] at y;omega
     ·have y:H'.low≤ai b o:=y
      omega
  refine ⟨x,R2,e1,hv,⟨⟨Nat.le_succ _,Nat.le_refl _,fun b o h=>⟨o,h,rfl,rfl⟩,fun b o h _=>⟨h,rfl⟩,fun b o h _=>⟨o,h⟩,BR hw,fun g h=>h,fun b o h hb=>absurd (hw.lt b o h) (by omega)⟩,
   ⟨fun _ _=>rfl,fun _ _=>rfl,fun b r d h1 h2 e=>?_,fun a ha=>?_,fun a r cs e=>?_⟩,⟨e3.fr.os,e3.fr.tape,e3.fr.output,e3.fr.size,fun r hr _=>hkeep r hr⟩,
   ⟨fun b r d hb=>Nat.lt_of_lt_of_le (hr.img b r d hb) e3.fr.size,fun b o r d ho hb=>(hr.obj b o r d ho hb).mono (R':=R2) ⟨fun _ _ e=>e,fun _ _ _ _=>rfl,fun a r cs e=>?_⟩ hb (hkeep r (hr.img b r d hb)) (fun _=>trivial) (fun v=>by cases o<;>exact v),hr.inj,fun a r cs e=>?_⟩⟩⟩
  ·have h2:b<H.next+1:=h2
   have:b=H.next:=by omega
   subst this
   have e:R.bm H.next=some (r,d):=e
   rw [hfn0.1] at e;cases e
  ·funext r
   show (if a=H.next then _ else R.cz a r)=R.cz a r
   rw [if_neg (fun q=>ha ⟨by omega,by show a<H.next+1;omega⟩)]
  ·rcases hcz a r cs e with ⟨_,q⟩ | ⟨_,q,_⟩
   ·exact .inl q
   ·exact .inr q
  ·show (if a=H.next then _ else R.cz a r)=some cs
   rw [if_neg (fun q=>by rw [q,hfn0.2 r] at e;cases e)];exact e
  ·rcases hcz a r cs e with ⟨_,q⟩ | ⟨_,q,t,fz,hc⟩
   ·obtain ⟨⟨t,fz,z1⟩,z2⟩:=hr.frz a r cs q
    exact ⟨⟨t,fz,(hkeep r (hr.frz.lt q)).trans z1⟩,z2⟩
   ·refine ⟨⟨t,fz,hc⟩,fun b d z=>?_⟩
    have:=hr.img b r d z
    omega
 ·cases hrun
def Ents2OK (P:Program) (es:List Ent):Prop:=∀ e∈es,∀ (args:List V) (H:EH) (m:Mt),bK e.rows H e.args args=some m→SpecCall P e.g args H (qP H.next e.v) (bump H)
theorem Ents2OK.nil:Ents2OK P []:=fun _ h=>by cases h
theorem Ents2OK.cons {e:Ent} {es:List Ent} (h:∀ (args:List V) (H:EH) (m:Mt),bK e.rows H e.args args=some m→SpecCall P e.g args H (qP H.next e.v) (bump H)) (k:Ents2OK P es):Ents2OK P (e::es):=fun e' he=>by
 rcases List.mem_cons.1 he with rfl | he
 ·exact h
 ·exact k e' he
def kC (es:List Ent) (g:FuncId) (args:List V) (H:EH):Option (Bool×V):=List.rec (motive:=fun _=>Option (Bool×V)) none
 (fun e _ ih=>cond (Nat.beq e.g g) (cond (o8 (bK e.rows H e.args args)) (some (true,qP H.next e.v)) ih) ih) es
def orE (a b:Option (Bool×V)):Option (Bool×V):=match a with | some r=>some r | none=>b
def Gq (es es2:List Ent):Ext:=⟨fun g=>cond (iO es g) (some fun args H=>orE (sH es g args H) (kC es2 g args H)) (cond (iO es2 g) (some (kC es2 g)) none),false⟩
theorem qJ {g:FuncId} {args:List V} {H:EH} {v:V}:∀ {es:List Ent},kC es g args H=some (true,v)→∃ e∈es,e.g=g∧(∃ m,bK e.rows H e.args args=some m)∧qP H.next e.v=v
 | [],h=>by cases h
 | e::es,h=>by
  have h:cond (Nat.beq e.g g) (cond (o8 (bK e.rows H e.args args)) (some (true,qP H.next e.v)) (kC es g args H)) (kC es g args H)=some (true,v):=h
  have rest:kC es g args H=some (true,v)→∃ e'∈e::es,e'.g=g∧(∃ m,bK e'.rows H e'.args args=some m)∧qP H.next e'.v=v:=fun h=>by
   obtain ⟨e',h1,h2⟩:=qJ h
   exact ⟨e',List.mem_cons_of_mem _ h1,h2⟩
  cases h1:Nat.beq e.g g with
  | false=>rw [h1] at h;exact rest h
  | true =>
   rw [h1] at h
   cases hm:bK e.rows H e.args args with
   | none=>rw [hm] at h;exact rest h
   | some m=>rw [hm] at h;cases h;exact ⟨e,List.mem_cons_self,nb h1,⟨m,hm⟩,rfl⟩
theorem yJ {es es2:List Ent} (h:EntsOK P es) (h2:Ents2OK P es2):gJ P (Gq es es2):=fun g x args H v hx hv=>by
 have hx:cond (iO es g) (some fun args H=>orE (sH es g args H) (kC es2 g args H)) (cond (iO es2 g) (some (kC es2 g)) none)=some x:=hx
 have two:kC es2 g args H=some (true,v)→SpecCall P g args H v (bump H):=fun hv=>by
  obtain ⟨e,h1,rfl,⟨m,h3⟩,rfl⟩:=qJ hv
  exact h2 e h1 args H m h3
 cases hn:iO es g with
 | false =>
  rw [hn] at hx
  cases hn2:iO es2 g with
  | false=>rw [hn2] at hx;cases hx
  | true=>rw [hn2] at hx;cases hx;exact two hv
 | true =>
  rw [hn] at hx
  cases hx
  have hv:orE (sH es g args H) (kC es2 g args H)=some (true,v):=hv
  cases ht:sH es g args H with
  | none=>rw [ht] at hv;exact two hv
  | some r =>
   rw [ht] at hv
   cases hv
   obtain ⟨e,h1,rfl,⟨m,h3⟩,rfl⟩:=nK ht
   exact (h e h1 args H m h3).bump
end
end Go.Ev
/- Calls whose loops over maps leave what hangs on the order: all orders are followed; where each gives the same value, the call does. -/
namespace Go.Ev
open Go
noncomputable section
variable {P:Program}
def zy (tab:List (List Nat)):Nat→List Nat→Nat→List Nat
 | 0,_,i=>[i]
 | n+1,rem,i=>rem.flatMap fun j=>zy tab n (rem.erase j) (dI tab i j)
theorem BA {f:Task→Option Res} (hs:az P f) {ro rr:Option Nat} {ml:ML} {c:MC} {Q:Ren} {rit rm:Nat} (hl:LC P f ro rr ml c Q rit rm) {body:Code} {i1 i2:Nat} {o1 o3:Oper} (hb:MLOk ml body i1 i2 o1 o3) {w0:World} {es':Array MapEntry} {z:List EE} (hz:LZ c Q rm w0 es' z) {n:Nat} {F:List Nat} {st:List St} {tab:List (List Nat)}
 (htab:tab.length=st.length) (hrow:∀ (i:Nat) (row:List Nat),tab[i]?=some row→∃ s,st[i]?=some s∧RowOk (stepM P f ro ml c s) c.es st row) {QP:Exit→Act→World→Prop}
 (hend:∀ i s seen A w A2,i∈F→st[i]?=some s→IM c Q w0 rit rm seen s A w→AR Q (((c.act s).put (some ml.t1) (.tup [.bool false])).put (some ml.t2) (.bool false)) A2→QP (.exit ml.id) A2 w) :
 ∀ (L:Nat) (rem:List Nat) (i:Nat) (s:St) (seen:Array Nat) (A:Act) (w:World),rem.length=L→rem.Nodup→(∀ x∈rem,x<c.es.length)→st[i]?=some s→(∀ x∈zy tab L rem i,x∈F) →
  (∀ (j:Nat) (p:EE),z[j]?=some p→(j∈rem↔seen.contains p.2.born=false))→IM c Q w0 rit rm seen s A w→Code.roundsIn (FF rr) n P body QP (L+1) A w:=by
 have hnext:∀ i j,i<st.length→j<c.es.length→∃ s s' e,st[i]?=some s∧c.es[j]?=some e∧stepM P f ro ml c s e.1 e.2.1=some s'∧st[dI tab i j]?=some s':=fun i j hi hj=>by
  have h1:tab[i]?=some tab[i]:=List.getElem?_eq_some_iff.2 ⟨by omega,rfl⟩
  have h2:c.es[j]?=some c.es[j]:=List.getElem?_eq_some_iff.2 ⟨hj,rfl⟩
  obtain ⟨s,e1,e2,e3⟩:=hrow i _ h1
  obtain ⟨s',x,f1,f2,f3⟩:=e3 j _ h2
  refine ⟨s,s',c.es[j],e1,h2,f1,?_⟩
  rw [Cc tab h1 f2];exact f3
 intro L
 induction L with
 | zero =>
  intro rem i s seen A w hL hnd hlt hs0 hfin hmem hI
  have:rem=[]:=List.eq_nil_of_length_eq_zero hL
  subst this
  refine fQ hl hb hz hI (fun _ A2 ha2=>hend i s seen A w A2 (hfin i (by simp [zy])) hs0 hI ha2) fun j p hj hns=>?_
  have:=(hmem j p hj).2 hns
  cases this
 | succ L ih =>
  intro rem i s seen A w hL hnd hlt hs0 hfin hmem hI
  refine fQ hl hb hz hI (fun hall=>?_) fun j p hj hns w1 A2 hrel ha2 hit hi hm hos htape hout hsize hkeep=>?_
  ·exfalso
   match rem,hL with
   | x::rem',_ =>
    have hx:=hlt x (by simp)
    have h2:z[x]?=some (z[x]'(by rw [hz.len];exact hx)):=List.getElem?_eq_some_iff.2 ⟨_,rfl⟩
    have h3:=(hmem x _ h2).1 (by simp)
    rw [hall x _ h2] at h3;cases h3
  ·have hjr:=(hmem j p hj).2 hns
   have hil:i<st.length:=(List.getElem?_eq_some_iff.1 hs0).1
   obtain ⟨s1,s',e1,p1,p2,p3,p4⟩:=hnext i j hil (hlt j hjr)
   rw [hs0] at p1;cases p1
   rw [hz.es hj] at p2;cases p2
   obtain ⟨a4,H4,hr,hmk⟩:=rD p3
   refine dh hs hl hb (seen:=seen) (es':=es') (e:=p.2) hI.hk hr (aW hmk).2.2.2.2.1 hrel ha2 hit hi hm (hz.back hj) hz.nd (hz.ok p (List.mem_of_getElem? hj)) fun ex A' w' R4 hsim hex=>?_
   cases ex<;>try exact hex.elim
   exact ih (rem.erase j) (dI tab i j) s' (seen.push p.2.born) A' w' (by rw [List.length_erase_of_mem hjr];omega) (hnd.erase _) (fun x hx=>hlt x (List.mem_of_mem_erase hx)) p4
    (fun x hx=>hfin x (by rw [zy];exact List.mem_flatMap.2 ⟨j,hjr,hx⟩)) (mem_push hz hnd hmem hj) (jH hl (tb:=c.base) hI.hk hrel hi hos htape hout hsize hkeep hsim hex hmk)
def Ar {α:Type} (x:Option α) (l:Option (List α)):Option (List α):=match x,l with | some x,some l=>some (x::l) | _,_=>none
def bQ {α:Type} (l:List (Option α)):Option (List α):=List.rec (motive:=fun _=>Option (List α)) (some []) (fun x _ ih=>Ar x ih) l
theorem dB {α:Type}:∀ {l:List (Option α)} {r:List α},bQ l=some r→∀ x∈l,∃ y∈r,x=some y
 | [],r,h,x,hx=>by cases hx
 | x0::l,r,h,x,hx=>by
  have h:Ar x0 (bQ l)=some r:=h
  cases x0 with
  | none=>cases h
  | some y0 =>
   cases hl:bQ l with
   | none=>rw [hl] at h;cases h
   | some r' =>
    rw [hl] at h
    cases h
    rcases List.mem_cons.1 hx with rfl | hx
    ·exact ⟨y0,List.mem_cons_self,rfl⟩
    ·obtain ⟨y,h1,h2⟩:=dB hl x hx
     exact ⟨y,List.mem_cons_of_mem _ h1,h2⟩
theorem bI {α:Type}:∀ {l:List (Option α)} {r:List α},bQ l=some r→∀ y∈r,some y∈l
 | [],r,h,y,hy=>by cases h;cases hy
 | x0::l,r,h,y,hy=>by
  have h:Ar x0 (bQ l)=some r:=h
  cases x0 with
  | none=>cases h
  | some y0 =>
   cases hl:bQ l with
   | none=>rw [hl] at h;cases h
   | some r' =>
    rw [hl] at h
    cases h
    rcases List.mem_cons.1 hy with rfl | hy
    ·exact List.mem_cons_self
    ·exact List.mem_cons_of_mem _ (bI hl y hy)
def FI {α:Type} (l:Option (List α)):Option (List α):=match l with | some (x::l)=>some (x::l) | _=>none
theorem Aa {α:Type} {l:Option (List α)} {r:List α} (h:FI l=some r):l=some r∧r≠[]:=by
 unfold FI at h
 split at h
 ·cases h;exact ⟨rfl,by simp⟩
 ·cases h
def ddN (l:List Nat):List Nat:=List.rec (motive:=fun _=>List Nat) [] (fun x _ ih=>cond (ih.any (Nat.beq x)) ih (x::ih)) l
theorem vH:∀ {l:List Nat} {x:Nat},x∈l→x∈ddN l
 | y::l,x,h=>by
  show x∈cond ((ddN l).any (Nat.beq y)) (ddN l) (y::ddN l)
  cases q:(ddN l).any (Nat.beq y) with
  | false =>
   rcases List.mem_cons.1 h with rfl | h
   ·exact List.mem_cons_self
   ·exact List.mem_cons_of_mem _ (vH h)
  | true =>
   rcases List.mem_cons.1 h with rfl | h
   ·obtain ⟨z,h1,h2⟩:=List.any_eq_true.1 q
    rw [nb h2];exact h1
   ·exact vH h
def JX (ml:ML) (c:MC) (low itn:Nat) (r:Option (List St×List (List Nat))):Option (List Res):=match r with
 | some (st,tab)=>cond (Nat.ble (dX c.es) 5) (FI (bQ ((ddN (zy tab (dX c.es) (List.range (dX c.es)) 0)).map fun i=>Eh ml c low itn (cO st i)))) none
 | none=>none
def Kq (P:Program) (f:Task→Option Res) (ro:Option Nat) (ml:ML):Gm (List Res):=fun c low itn s=>match s with
 | some s=>JX ml c low itn (bfs (stepM P f ro ml c) c.es 200 0 [s])
 | none=>none
def nH (n:Nat):EH:=⟨.lf,n,.lf,0⟩
def bz (P:Program) (ro:Option Nat) (c:Code) (a:EA) (H:EH) (l:List Res):Prop :=
 l≠[]∧(∀ r∈l,(∀ v H',r ≠ .v v H')∧H.next≤r.H.next)∧∀ nx,(∀ r∈l,r.H.next≤nx) →
  ∀ R w A n rr,Rel R All H w→WF H→Free R H (nH nx)→AR R a A→Ro R ro rr→c.wpIn (FF rr) n P (fun e A' w'=>∃ r∈l,PostC R H r w e A' w') A w
theorem Free.top {R:Ren} {H:EH} {n:Nat} (h:Free R H (nH n)) {H2:EH} (e:H2.next≤n):Free R H H2:=fun b h1 h2=>h b h1 (Nat.lt_of_lt_of_le h2 e)
theorem Em {ro:Option Nat} {c:Code} {a:EA} {H:EH} {r:Res} (h:Spec P (.code ro c a H) r):bz P ro c a H [r]:=by
 obtain ⟨h1,h2,m,h3⟩:=h
 refine ⟨by simp,fun r' hr=>by rw [List.mem_singleton.1 hr];exact ⟨h1,h2⟩,fun nx hnx R w A n rr hr hw hf ha hro=>?_⟩
 exact wpM.wp ((h3 R w A n rr hr hw (hf.top (hnx r (List.mem_singleton.2 rfl))) ha hro).mono fun e A' w' q=>⟨r,List.mem_singleton.2 rfl,q⟩)
theorem AA {f:Task→Option Res} (hs:az P f) {ro:Option Nat} {body:Code} {ml:ML} (hml:bn body=some ml) {a:EA} {H:EH} {l:List Res} (h:mZ (Kq P f ro ml) P f ro ml a H=some l):bz P ro (.loop body) a H l:=by
 obtain ⟨c,s0,itn,i1,i2,o1,o3,hb,h,hnx,start⟩:=lC (fun _ _ _=>rfl) hml h
 have h:JX ml c H.low itn (bfs (stepM P f ro ml c) c.es 200 0 [s0])=some l:=h
 have hlenE:∀ l:List (V×V×Nat),dX l=l.length:=fun l=>by
  induction l with
  | nil=>rfl
  | cons x l ih=>show Nat.succ (dX l)=_;rw [ih];rfl
 unfold JX at h
 split at h
 ·rename_i st tab hbfs
  obtain ⟨h,hne⟩:bQ ((ddN (zy tab (dX c.es) (List.range (dX c.es)) 0)).map fun i=>Eh ml c H.low itn (cO st i))=some l∧l≠[]:=by
   cases q:Nat.ble (dX c.es) 5 with
   | false=>rw [q] at h;cases h
   | true=>rw [q] at h;exact Aa h
  obtain ⟨b1,b2,b3⟩:=yf hbfs (Nat.zero_le _)
  have hst0:st[0]?=some s0:=jW b1 (by simp)
  have hmem:∀ r∈l,∃ s,r = .exit ml.id (((c.act s).put (some ml.t1) (.tup [.bool false])).put (some ml.t2) (.bool false)) (c.out s H.low itn):=fun r hr=>by
   obtain ⟨i,_,hi⟩:=List.mem_map.1 (bI h r hr)
   unfold Eh at hi
   split at hi
   ·rename_i s _;cases hi;exact ⟨s,rfl⟩
   ·cases hi
  refine ⟨hne,fun r hr=>⟨fun v H' e=>?_,?_⟩,fun nx hb' R w A n rr hr hw hf ha hro=>?_⟩
  ·obtain ⟨s,rfl⟩:=hmem r hr;cases e
  ·obtain ⟨s,rfl⟩:=hmem r hr;exact hnx
  ·have hcx:c.nx≤nx:=by
    match l,hne with
    | r::_,_ =>
     obtain ⟨s,e⟩:=hmem r List.mem_cons_self
     have:=hb' r List.mem_cons_self
     rw [e] at this;exact this
   obtain ⟨rit,rm,es',z,hl,hz,hI0,hfin⟩:=start R w A rr hr hw (fun b q1 q2=>hf b q1 (Nat.lt_of_lt_of_le q2 hcx)) ha hro
   refine wpIn_loop_rounds (c.es.length+1) (BA hs hl hb hz (F:=ddN (zy tab (dX c.es) (List.range (dX c.es)) 0)) (st:=st) (tab:=tab) (by omega) (fun i row e=>by have:=b3 i row e;rwa [Nat.zero_add] at this) (fun i s seen A' w' A2 hi hs' hI ha2=>?_)
    c.es.length (List.range c.es.length) 0 s0 #[] A w (by simp) List.nodup_range (fun x hx=>List.mem_range.1 hx) hst0 (fun x hx=>vH (by rw [hlenE];exact hx)) (fun j p he=>by
     have:=(List.getElem?_eq_some_iff.1 he).1
     rw [hz.len] at this
     simp [this]) hI0)
   obtain ⟨r,h1,h2⟩:=dB h (Eh ml c H.low itn (cO st i)) (List.mem_map.2 ⟨i,hi,rfl⟩)
   rw [aT,hs'] at h2
   have h2:some (Res.exit ml.id (((c.act s).put (some ml.t1) (.tup [.bool false])).put (some ml.t2) (.bool false)) (c.out s H.low itn))=some r:=h2
   cases h2
   exact ⟨_,h1,R,hfin _ _ _ _ hI,rfl,ha2⟩
 ·cases h
theorem jX {id:Nat} {r1 r:Res} (h:bH id (some r1)=some r) (k1:∀ v H',r1 ≠ .v v H'):(∀ v H',r ≠ .v v H')∧r1.H=r.H∧∀ R' e A,kD R' r1 e A→∀ Q:Exit→Act→World→Prop,∀ w',(∀ e',kD R' r e' A→Q e' A w')→Exit.inBlock id Q e A w':=by
 cases r1 with
 | v v H'=>exact absurd rfl (k1 v H')
 | normal a1 H1 =>
  have h:some (Res.normal a1 H1)=some r:=h
  cases h
  exact ⟨k1,rfl,fun R' e A x Q w' hq=>by cases e<;>first | exact x.elim | exact hq .normal x⟩
 | ret a1 H1 =>
  have h:some (Res.ret a1 H1)=some r:=h
  cases h
  exact ⟨k1,rfl,fun R' e A x Q w' hq=>by cases e<;>first | exact x.elim | exact hq .ret x⟩
 | exit id' a1 H1 =>
  have h:cond (Nat.beq id' id) (some (Res.normal a1 H1)) (some (.exit id' a1 H1))=some r:=h
  rw [ah] at h
  by_cases e:id'=id
  ·rw [if_pos e] at h
   cases h
   refine ⟨fun v H' e=>(by cases e),rfl,fun R' e' A x Q w' hq=>?_⟩
   cases e'<;>try exact x.elim
   obtain ⟨x1,x2⟩:=x
   show if _ then _ else _
   rw [if_pos (x1.trans e)]
   exact hq .normal x2
  ·rw [if_neg e] at h
   cases h
   refine ⟨k1,rfl,fun R' e' A x Q w' hq=>?_⟩
   cases e'<;>try exact x.elim
   obtain ⟨x1,x2⟩:=x
   show if _ then _ else _
   rw [if_neg (by rw [x1];exact e)]
   exact hq (.exit _) ⟨x1,x2⟩
def gB (H:EH) (itn:Nat):EH:=⟨H.objs.set itn (.iter none),H.next,H.grps,aA H.low itn⟩
def zD (H:EH) (itn:Nat):EH:=⟨H.objs.del itn,H.next,H.grps,big⟩
def wo (H:EH) (g i:Nat):Bool:=fN (Nat.succ (Nat.add g i)) fun j=>match H.objs.get j with | some o=>cond (Nat.beq (ai j o) g) false true | none=>true
def vU (H:EH) (g:Nat):Bool:=oQ (wo H g) (Nat.sub H.next (Nat.succ g))
def okQ (ml:ML) (itn m:Nat) (a:EA) (H:EH):Bool:=cond (sU a.n ml) (cond (og (a.get ml.it) itn) (cond (vU H itn) (Nat.blt m H.low) false) false) false
def lowQ (H H4:EH) (itn:Nat):EH:=⟨H4.objs.set itn (.iter none),H4.next,H4.grps,aA (aA H.low itn) H4.low⟩
def ja {α:Type} (l:Option (List (List α))):Option (List α):=match l with | some l=>some l.flatten | none=>none
def goQ (ml:ML) (itn m:Nat) (k:EA→EH→Option (List Res)) (H:EH) (r:Option Res):Option (List Res):=match r with
 | some (.normal a' H')=>cond (okQ ml itn m a' H') (k a' (lowQ H H' itn)) none
 | _=>none
def Dx (P:Program) (f:Task→Option Res) (ro:Option Nat) (ml:ML) (itn m:Nat) (k:EA→EH→Option (List Res)) (a:EA) (H:EH) (e:Option (V×V×Nat)):Option (List Res):=match e with
 | some e=>goQ ml itn m k H (aC P f ro ml a (zD (gB H itn) itn) e.1 e.2.1)
 | none=>none
def cZ (P:Program) (f:Task→Option Res) (ro:Option Nat) (ml:ML) (itn m:Nat) (es:List (V×V×Nat)):Nat→List Nat→EA→EH→Option (List Res)
 | 0,_,_,_=>none
 | n+1,rem,a,H=>match rem with
  | []=>some [.exit ml.id ((a.put (some ml.t1) (.tup [.bool false])).put (some ml.t2) (.bool false)) H]
  | j::rem'=>ja (bQ ((j::rem').map fun i=>Dx P f ro ml itn m (cZ P f ro ml itn m es n ((j::rem').erase i)) a H (cO es i)))
def pJ (P:Program) (f:Task→Option Res) (ro:Option Nat) (ml:ML) (a:EA) (H:EH):Option (List Res):=cond (sU a.n ml) (match a.get ml.it with
 | .ptr itn 0=>match H.objs.get itn with
  | some (.iter (some (m,c)))=>match H.objs.get m with
   | some (.map es clk)=>cond (Nat.beq c clk) (cond (Nat.ble (dX es) 4) (cZ P f ro ml itn m es 6 (List.range (dX es)) a (gB H itn)) none) none
   | _=>none
  | _=>none
 | _=>none) none
section
variable {f:Task→Option Res} {ro rr:Option Nat} {ml:ML} {Q:Ren} {rit rm:Nat}
theorem nX {a:EA} (htm:ml.t1<a.n∧ml.t2<a.n∧ml.t3<a.n∧ml.t1≠ml.t2∧ml.it≠ml.t1∧ml.it≠ml.t2) {body:Code} {i1 i2:Nat} {o1 o3:Oper} (hb:MLOk ml body i1 i2 o1 o3) {A:Act} {w w1:World} {n:Nat} {tl:List Value} {vl:List V} {b:Bool} (hv:AL Q vl tl.toArray)
 (hact:AR Q a A) (hrun:(Instr.next (A.eval (.tmp ml.it)) false o1.type).run P w = .ok (.tuple (#[.bool b]++tl.toArray)) w1) {QP:Exit→Act→World→Prop}
 (h:∀ A2,AR Q ((a.put (some ml.t1) (.tup (.bool b::vl))).put (some ml.t2) (.bool b)) A2→A2.eval (.tmp ml.t2) = .bool b→A2.eval (.tmp ml.it)=A.eval (.tmp ml.it)→QP .normal A2 w1) :
 (Code.region i1 ml.ops1 false).wpIn (FF rr) n P QP A w:=by
 obtain ⟨t1,t2,t3,t12,ti1,ti2⟩:=htm
 refine wpIn_region_list ?_
 rw [hb.l1]
 refine jJ hb.o1.2.2 (ng (fun c e=>by rw [hb.o1.1] at e;cases e) (uz hb.o1.1 A.eval) hrun ?_)
 rw [hb.o1.2.1]
 have hvt:VR Q (.tup (.bool b::vl)) (.tuple (#[.bool b]++tl.toArray)):=by
  have:=AL.append (AL.one (VR.bool (R:=Q) b)) hv
  exact .tup this.1 this.2
 have ha1:=hact.put (some ml.t1) hvt
 have hx:VR Q (.tup (.bool b::vl)) ((A.put (some ml.t1) (.tuple (#[.bool b]++tl.toArray))).eval (.tmp ml.t1)):=by
  have:=ha1.eval (.tmp ml.t1)
  rwa [EA.put_at t1] at this
 obtain ⟨_,y,e1,e2⟩:=iZ (P:=P) (w:=w1) (H:=kR) (H':=kR) (i:=0) (v := .bool b) hx rfl
 have hy:y = .bool b:=by cases e2;rfl
 subst hy
 refine jJ hb.o2.2.2 (ng (fun c e=>by rw [hb.o2.1] at e;cases e) (lJ hb.o2.1 _) e1 ?_)
 rw [hb.o2.2.1]
 have ha2:=ha1.put (some ml.t2) (VR.bool (R:=Q) b)
 refine h _ ha2 ?_ ?_
 ·have:=ha2.eval (.tmp ml.t2)
  rw [EA.put_at (by rw [EA.put_n];exact t2)] at this
  generalize Act.eval _ _=z at this ⊢
  cases this;rfl
 ·have hput:∀ (B:Act) (t u:Nat) (x:Value),u≠t→(B.put (some t) x).eval (.tmp u)=B.eval (.tmp u):=fun B t u x hne=>by
   show (B.tmps.setIfInBounds t x).getD u undef=B.tmps.getD u undef
   simp only [Array.getD,Array.size_setIfInBounds]
   split
   ·exact Array.getElem_setIfInBounds_ne _ (Ne.symm hne)
   ·rfl
  rw [hput _ _ _ _ ti2,hput _ _ _ _ ti1]
theorem ve (hs:az P f) {body:Code} {i1 i2:Nat} {o1 o3:Oper} (hb:MLOk ml body i1 i2 o1 o3) {a:EA} {H0:EH} {r:Res} {A2:Act} {w1:World} {n clk:Nat} {k v:V} {seen:Array Nat} {es':Array MapEntry} {e:MapEntry}
 (hwf:WF H0) (hr:aC P f ro ml a H0 k v=some r) (hfree:Free Q H0 r.H) (hro:Ro Q ro rr) (hrel:Rel Q All H0 w1) (ha2:AR Q ((a.put (some ml.t1) (.tup [.bool true,k,v])).put (some ml.t2) (.bool true)) A2) (hit:A2.eval (.tmp ml.it) = .pointer (some ⟨rit,0,none⟩))
 (hi:w1.heap[rit]?=some (.mapIter (some rm) clk (seen.push e.born) clk)) (hm:w1.heap[rm]?=some (.map es' clk)) (he:e∈es'.toList) (hn:(es'.toList.map (·.born)).Nodup) (hkv:VR Q k e.key∧VR Q v e.val) {QP:Exit→Act→World→Prop}
 (h:∀ ex A w R4,SimA Q R4 H0 r.H w1 w→kD R4 r ex A→QP ex A w) :
 (Code.block ml.cid (.seq (.region i2 ml.ops false) ml.rest)).wpIn (FF rr) n P QP A2 w1:=by
 unfold aC at hr
 split at hr
 ·rename_i a3 H3 hev
  have hev:=kK hev
  refine wpIn_block (wpIn_seq (wpIn_region_list ?_))
  rw [hb.l2]
  refine jJ hb.o3.2.2 (ng (fun c e=>by rw [hb.o3.1] at e;cases e) (qx hb.o3.1 _) (by rw [hit];exact kE hi hm he hn) ?_)
  rw [hb.o3.2.1]
  have hvt:VR Q (.tup [k,v]) (.tuple #[e.key,e.val]):=by
   have:=AL.append (AL.one hkv.1) (AL.one hkv.2)
   exact .tup this.1 this.2
  have ha3:=ha2.put (some ml.t3) hvt
  obtain ⟨a3',H3',e3,n3,k3⟩:=jO hs ml.ops ml.tl _ _ _ hev
  cases e3
  cases hf4:f (.code ro ml.rest a3 H3) with
  | none=>rw [hf4] at hr;cases hr
  | some r4 =>
   rw [hf4] at hr
   obtain ⟨p1,p2,m,p3⟩:=hs _ _ hf4
   have hr4:r4.H=r.H:=nJ hr
   have hfree4:Free Q H0 r4.H:=by rw [hr4];exact hfree
   have hfree3:Free Q H0 H3:=hfree4.less p2
   refine k3 Q w1 _ n rr hrel hwf hfree3 ha3 _ fun R' w' A' ha' hsim'=>?_
   have hle:=hsim'.le hrel hfree3
   have hw4:=wpM.wp (p3 R' w' A' n rr hsim'.rel hsim'.wf (hsim'.free hfree4) ha' (hro.mono hle))
   refine Go.wpIn_mono hw4 fun ex A4 w4 ⟨R4,s4,x4⟩=>?_
   have hsim:=hsim'.trans s4
   rw [hr4] at hsim
   obtain ⟨_,_,out⟩:=jX hr p1
   exact out R4 ex A4 x4 _ w4 fun e' x'=>h e' A4 w4 R4 hsim x'
 ·cases hr
end
structure QI (H:EH) (itn m clk:Nat) (es:List (V×V×Nat)) (z:List EE) (es':Array MapEntry) (rit rm:Nat) (seen:Array Nat) (Q:Ren) (w:World):Prop where
 rel:Rel Q All H w
 wf:WF H
 it:H.objs.get itn=some (.iter none)
 qit:Q.bm itn=some (rit,0)
 mp:∃ e c,H.objs.get m=some (.map e c)
 qm:Q.bm m=some (rm,0)
 wi:w.heap[rit]?=some (.mapIter (some rm) clk seen clk)
 lz:LZ ⟨.lf,0,.lf,0,[],.lf,m,clk,es,0,itn,0,0,[]⟩ Q rm w es' z
theorem zA {H:EH} {g:Nat} (h:vU H g=true) {b:Nat} {o:EO} (ho:H.objs.get b=some o) (hb:g<b) (hn:b<H.next):ai b o≠g:=fun e=>by
 have h:oQ (wo H g) (H.next-(g+1))=true:=h
 have:=bg h (b-(g+1)) (by omega)
 have e2:Nat.succ (Nat.add g (b-(g+1)))=b:=by show g+(b-(g+1))+1=b;omega
 unfold wo at this
 rw [aG,e2,ho] at this
 have this:cond (Nat.beq (ai b o) g) false true=true:=this
 rw [e,Nat.beq_refl] at this
 cases this
theorem Cj (H:EH) (itn b:Nat):(zD H itn).objs.get b=if b=itn then none else H.objs.get b:=T.get_del _ _ _
theorem aU {H:EH} {itn b:Nat} {o:EO} (h:(zD H itn).objs.get b=some o):b≠itn∧H.objs.get b=some o:=by
 rw [Cj] at h
 split at h
 ·cases h
 ·rename_i q;exact ⟨q,h⟩
theorem Af {H:EH} {itn b:Nat} {o:EO} (h:H.objs.get b=some o) (q:b≠itn):(zD H itn).objs.get b=some o:=by rw [Cj,if_neg q];exact h
theorem JR {H:EH} (h:WF H) (itn:Nat):WF (zD H itn):=⟨fun b o g=>h.lt b o (aU g).2,fun b o g=>h.root b o (aU g).2,fun g hg b b' o o' h1 h2 h3 h4=>h.uniq g hg b b' o o' (aU h1).2 (aU h2).2 h3 h4,h.gdom⟩
theorem Io {R:Ren} {H:EH} {w:World} (h:Rel R All H w) (itn:Nat):Rel R All (zD H itn) w:=⟨h.img,fun b o r d g=>h.obj b o r d (aU g).2,fun b b' o o' r d d' h1 h2=>h.inj b b' o o' r d d' (aU h1).2 (aU h2).2,h.frz⟩
theorem SimA.lowQ {Q R4:Ren} {H Hn H4:EH} {itn rit:Nat} {w w4:World} (hn:Hn.low=aA H.low itn) (hit:Hn.objs.get itn=some (.iter none)) (hq:Q.bm itn=some (rit,0)) (hrel:Rel Q All Hn w) (hwf:WF Hn) (hno:vU H4 itn=true)
 {x1:Option Nat} {x2 x4:Nat} {x3:Array Nat} (hi:w.heap[rit]?=some (.mapIter x1 x2 x3 x4)) (s:SimA Q R4 (zD Hn itn) H4 w w4):SimA Q R4 Hn (lowQ H H4 itn) w w4∧w4.heap[rit]?=w.heap[rit]?:=by
 have hl:(Ev.lowQ H H4 itn).low≤H4.low∧(Ev.lowQ H H4 itn).low≤Hn.low∧(Ev.lowQ H H4 itn).low≤itn:=by
  show aA (aA H.low itn) H4.low≤H4.low∧aA (aA H.low itn) H4.low≤Hn.low∧aA (aA H.low itn) H4.low≤itn
  rw [hn];simp only [bP];omega
 have hlt:itn<Hn.next:=hwf.lt itn _ hit
 have hw4:WF H4:=s.es.wf
 have set_ne:∀ b,b≠itn→(Ev.lowQ H H4 itn).objs.get b=H4.objs.get b:=fun b q=>T.get_set_ne _ _ q
 have set_eq:(Ev.lowQ H H4 itn).objs.get itn=some (.iter none):=T.get_set_eq _ _ _
 have only:∀ b o d,Hn.objs.get b=some o→Q.bm b=some (rit,d)→b=itn:=fun b o d h1 h2=>by
  rcases hrel.inj b itn o _ rit d 0 h1 hit h2 hq with u | ⟨_,_,u,_⟩
  ·exact u
  ·have u:(4:Nat)=0:=u;omega
 have hkeep:w4.heap[rit]?=w.heap[rit]?:=s.fr.keep rit (hrel.img _ _ _ hq) fun b o d ho hb' z'=>by
  obtain ⟨q,ho⟩:=aU ho
  exact q (only b o d ho hb')
 have hq4:R4.bm itn=some (rit,0):=by rw [s.rx.same itn (by show ¬ (Hn.next≤itn∧_);omega)];exact hq
 have inv:∀ b o,(Ev.lowQ H H4 itn).objs.get b=some o→(b=itn∧o = .iter none)∨(b≠itn∧H4.objs.get b=some o):=fun b o h=>by
  by_cases q:b=itn
  ·subst q;rw [set_eq] at h;cases h;exact .inl ⟨rfl,rfl⟩
  ·rw [set_ne b q] at h;exact .inr ⟨q,h⟩
 have only4:∀ b o d,b≠itn→H4.objs.get b=some o→R4.bm b=some (rit,d)→False:=fun b o d q h1 h2=>by
  by_cases hb:Hn.next≤b
  ·rcases s.rx.neu b rit d hb (hw4.lt b o h1) h2 with u | ⟨b0,o0,o',u1,u2,_⟩
   ·have:=hrel.img _ _ _ hq;omega
   ·obtain ⟨q',u1⟩:=aU u1
    exact q' (only b0 o0 d u1 u2)
  ·rw [s.rx.same b (by show ¬ (Hn.next≤b∧_);omega)] at h2
   obtain ⟨o0,g⟩:=s.es.back b o h1 (by show b<Hn.next;omega)
   exact q (only b o0 d (aU g).2 h2)
 have rt:∀ b o,b≠itn→H4.objs.get b=some o→ai b o≠itn:=fun b o q h=>by
  by_cases hb:itn<b
  ·exact zA hno h hb (hw4.lt b o h)
  ·have:=hw4.root b o h;omega
 refine ⟨⟨⟨s.es.next,hl.2.1,fun b o h=>?_,fun b o h hw=>?_,fun b o' h hb=>?_,⟨fun b o h=>?_,fun b o h=>?_,fun g hg b b' o o' h1 h2 h3 h4=>?_,hw4.gdom⟩,fun g h=>h,fun b o h hb=>?_⟩,
  ⟨s.rx.same,s.rx.zs,fun b r d h1 h2 h3=>?_,s.rx.cz,s.rx.czn⟩,⟨s.fr.os,s.fr.tape,s.fr.output,s.fr.size,fun r hr hk=>s.fr.keep r hr fun b o d ho hb q=>hk b o d (aU ho).2 hb (by have q:H4.low≤ai b o:=q;show _≤_;omega)⟩,⟨(Sim.rel s).img,fun b o r d h hb=>?_,fun b b' o o' r d d' h1 h2 h3 h4=>?_,(Sim.rel s).frz⟩⟩,hkeep⟩
 ·by_cases q:b=itn
  ·subst q;rw [hit] at h;cases h;exact ⟨_,set_eq,rfl,rfl⟩
  ·obtain ⟨o',g1,g2⟩:=s.es.old b o (Af h q)
   exact ⟨o',by rw [set_ne b q];exact g1,g2⟩
 ·by_cases q:b=itn
  ·subst q;rw [hit] at h;cases h
   exact absurd (show (Ev.lowQ H H4 b).low≤b from hl.2.2) hw
  ·obtain ⟨g1,g2⟩:=s.es.keep b o (Af h q) fun z=>hw (by have z:H4.low≤ai b o:=z;show _≤_;omega)
   exact ⟨by rw [set_ne b q];exact g1,g2⟩
 ·rcases inv b o' h with ⟨rfl,_⟩ | ⟨q,h⟩
  ·exact ⟨_,hit⟩
  ·obtain ⟨o,g⟩:=s.es.back b o' h hb
   exact ⟨o,(aU g).2⟩
 ·rcases inv b o h with ⟨rfl,_⟩ | ⟨q,h⟩
  ·exact Nat.lt_of_lt_of_le hlt s.es.next
  ·exact hw4.lt b o h
 ·rcases inv b o h with ⟨rfl,rfl⟩ | ⟨q,h⟩
  ·exact Nat.le_refl _
  ·exact hw4.root b o h
 ·rcases inv b o h1 with ⟨rfl,rfl⟩ | ⟨q1,g1⟩<;>rcases inv b' o' h2 with ⟨e2,rfl⟩ | ⟨q2,g2⟩
  ·exact e2.symm
  ·have h3:b=g:=h3
   exact absurd (h4.trans h3.symm) (rt b' o' q2 g2)
  ·subst e2
   have h4:b'=g:=h4
   exact absurd (h3.trans h4.symm) (rt b o q1 g1)
  ·exact hw4.uniq g hg b b' o o' g1 g2 h3 h4
 ·rcases inv b o h with ⟨rfl,rfl⟩ | ⟨q,h⟩
  ·omega
  ·exact (s.es.neu b o h hb).imp id fun z=>by have z:H4.low≤ai b o:=z;show _≤_;omega
 ·rcases s.rx.neu b r d h1 h2 h3 with u | ⟨b0,o0,o,u1,u2,u3,u4⟩
  ·exact .inl u
  ·exact .inr ⟨b0,o0,o,(aU u1).2,u2,by rw [set_ne b (by intro e;subst e;have h1:Hn.next≤b:=h1;omega)];exact u3,u4⟩
 ·rcases inv b o h with ⟨rfl,rfl⟩ | ⟨q,h⟩
  ·rw [hq4] at hb;cases hb
   exact ⟨rfl,x1,x2,x3,x4,by rw [hkeep];exact hi,fun _=>trivial⟩
  ·exact (Sim.rel s).obj b o r d h hb
 ·rcases inv b o h1 with ⟨rfl,rfl⟩ | ⟨q1,g1⟩<;>rcases inv b' o' h2 with ⟨e2,rfl⟩ | ⟨q2,g2⟩
  ·exact .inl e2.symm
  ·rw [hq4] at h3;cases h3
   exact (only4 b' o' d' q2 g2 h4).elim
  ·subst e2
   rw [hq4] at h4;cases h4
   exact (only4 b o d q1 g1 h3).elim
  ·exact (Sim.rel s).inj b b' o o' r d d' g1 g2 h3 h4
theorem EOk.mono {R R':Ren} (hle:R.le R') {p:EE} (h:EOk R p):EOk R' p:=⟨h.1.mono hle,h.2.mono hle⟩
theorem IU {ml:ML} {itn m:Nat} {a:EA} {H:EH} (h:okQ ml itn m a H=true):sU a.n ml=true∧a.get ml.it = .ptr itn 0∧vU H itn=true∧m<H.low:=by
 unfold okQ at h
 obtain ⟨h1,h⟩:=ag h
 obtain ⟨h2,h⟩:=ag h
 obtain ⟨h3,h4⟩:=ag h
 exact ⟨h1,xg h2,h3,aV h4⟩
theorem sV {f:Task→Option Res} (hs:az P f) {ro:Option Nat} {ml:ML} {body:Code} {i1 i2:Nat} {o1 o3:Oper} (hb:MLOk ml body i1 i2 o1 o3) {itn m clk:Nat} {es:List (V×V×Nat)}:∀ (n:Nat) (rem:List Nat) (a:EA) (H:EH) (l:List Res),cZ P f ro ml itn m es n rem a H=some l →
 l≠[]∧(∀ r∈l,(∀ v H',r ≠ .v v H')∧H.next≤r.H.next)∧(sU a.n ml=true→a.get ml.it = .ptr itn 0→rem.Nodup→(∀ x∈rem,x<es.length)→∀ nx,(∀ r∈l,r.H.next≤nx) →
  ∀ Q w A k rr z es' rit rm seen,QI H itn m clk es z es' rit rm seen Q w→Free Q H (nH nx)→AR Q a A→Ro Q ro rr→(∀ (j:Nat) (p:EE),z[j]?=some p→(j∈rem↔seen.contains p.2.born=false)) →
   Code.roundsIn (FF rr) k P body (fun e A' w'=>∃ r∈l,PostC Q H r w e A' w') (rem.length+1) A w):=by
 intro n
 induction n with
 | zero=>intro rem a H l h;cases h
 | succ n ih =>
  intro rem a H l h
  -- the head
  have head:sU a.n ml=true→a.get ml.it = .ptr itn 0→∀ {Q:Ren} {w:World} {A:Act} {k:Nat} {rr:Option Nat} {z:List EE} {es':Array MapEntry} {rit rm:Nat} {seen:Array Nat} {QP:Exit→Act→World→Prop} {L:Nat},QI H itn m clk es z es' rit rm seen Q w→AR Q a A →
   ((∀ (j:Nat) (p:EE),z[j]?=some p→seen.contains p.2.born=true)→∀ A2,AR Q ((a.put (some ml.t1) (.tup [.bool false])).put (some ml.t2) (.bool false)) A2→QP (.exit ml.id) A2 w) →
   (∀ (j:Nat) (p:EE),z[j]?=some p→seen.contains p.2.born=false→∀ w1 A2,WU w rit (.mapIter (some rm) clk (seen.push p.2.born) clk) w1→AR Q ((a.put (some ml.t1) (.tup [.bool true,p.1.1,p.1.2.1])).put (some ml.t2) (.bool true)) A2→A2.eval (.tmp ml.it) = .pointer (some ⟨rit,0,none⟩) →
    (Code.block ml.cid (.seq (.region i2 ml.ops false) ml.rest)).wpIn (FF rr) k P (Exit.then (Code.roundsIn (FF rr) k P body QP L) QP) A2 w1) →
   Code.roundsIn (FF rr) k P body QP (L+1) A w:=by
   intro htm hptr Q w A k rr z es' rit rm seen QP L hI hact h0 h1
   have htm:=yg htm
   have hz:=hI.lz
   have hitv:A.eval (.tmp ml.it) = .pointer (some ⟨rit,0,none⟩):=by
    have hv:VR Q (a.eval (.tmp ml.it)) (A.eval (.tmp ml.it)):=hact.eval (.tmp ml.it)
    have e:a.eval (.tmp ml.it) = .ptr itn 0:=hptr
    rw [e] at hv
    generalize A.eval (.tmp ml.it)=x at hv
    cases hv with
    | ptr hm ho =>
     rw [hI.qit] at hm
     cases hm
     have ho:_=0:=ho
     simp at ho
     subst ho;rfl
   rw [roundsIn_succ]
   generalize hX:Exit.then (Code.roundsIn (FF rr) k P body QP _) QP=X at h1 ⊢
   have hXe:∀ id A w,X (.exit id) A w=QP (.exit id) A w:=fun _ _ _=>by rw [← hX];rfl
   rw [hb.body]
   rcases run_next_any (P:=P) hI.wi hz.at0 hz.lt o1.type with ⟨hsz,hrun⟩ | ⟨e,he,w1,hu,hrun⟩
   ·refine wpIn_seq (nX htm hb (tl:=[]) (vl:=[]) (b:=false) (AL.nil _) hact (by rw [hitv];exact hrun) fun A2 ha2 ht _=>?_)
    refine wpIn_seq (wpIn_cond_false ht (wpIn_exit ?_))
    show X (.exit ml.id) A2 w
    rw [hXe]
    refine h0 (fun j p hj=>?_) A2 ha2
    cases hc:seen.contains p.2.born with
    | true=>rfl
    | false =>
     exfalso
     have:p.2∈(es'.filter fun e => !seen.contains e.born).toList:=by
      simp only [Array.toList_filter,List.mem_filter]
      exact ⟨hz.back hj,by rw [hc];rfl⟩
     have hsz:(es'.filter fun e => !seen.contains e.born).size=0:=hsz
     have:(es'.filter fun e => !seen.contains e.born).toList.length≠0:=fun q=>by rw [List.eq_nil_of_length_eq_zero q] at this;cases this
     simp only [Array.length_toList] at this
     exact this hsz
   ·have he:e∈(es'.filter fun e => !seen.contains e.born).toList:=he
    simp only [Array.toList_filter,List.mem_filter] at he
    obtain ⟨he1,he2⟩:=he
    obtain ⟨j,p,hj,rfl⟩:=hz.to he1
    obtain ⟨g2,g3⟩:=hz.ok p (List.mem_of_getElem? hj)
    refine wpIn_seq (nX htm hb (tl:=[p.2.key,p.2.val]) (vl:=[p.1.1,p.1.2.1]) (b:=true) (AL.append (AL.one g2) (AL.one g3)) hact (by rw [hitv];exact hrun) fun A2 ha2 ht hit=>?_)
    refine wpIn_seq (wpIn_cond_true ht (wpIn_skip ?_))
    exact h1 j p hj (by simpa using he2) w1 A2 hu ha2 (by rw [hit];exact hitv)
  cases rem with
  | nil =>
   have h:some [Res.exit ml.id ((a.put (some ml.t1) (.tup [.bool false])).put (some ml.t2) (.bool false)) H]=some l:=h
   cases h
   refine ⟨by simp,fun r hr=>by rw [List.mem_singleton.1 hr];exact ⟨fun v H' e=>(by cases e),Nat.le_refl _⟩,fun htm hptr _ _ nx hnx Q w A k rr z es' rit rm seen hI hf ha hro hmem=>?_⟩
   refine head htm hptr hI ha (fun _ A2 ha2=>⟨_,List.mem_singleton.2 rfl,Q,.refl hI.wf hI.rel,rfl,ha2⟩) fun j p hj hns=>?_
   have:=(hmem j p hj).2 hns
   cases this
  | cons j0 rem' =>
   generalize hrem:j0::rem'=rem at h
   have h:ja (bQ (rem.map fun i=>Dx P f ro ml itn m (cZ P f ro ml itn m es n (rem.erase i)) a H (cO es i)))=some l:=by rw [← hrem] at h ⊢;exact h
   cases hal:bQ (rem.map fun i=>Dx P f ro ml itn m (cZ P f ro ml itn m es n (rem.erase i)) a H (cO es i)) with
   | none=>rw [hal] at h;cases h
   | some ll =>
    rw [hal] at h
    have h:some ll.flatten=some l:=h
    cases h
    -- what a round comes to
    have one:∀ i lr,Dx P f ro ml itn m (cZ P f ro ml itn m es n (rem.erase i)) a H (cO es i)=some lr→∃ e a4 H4,es[i]?=some e∧aC P f ro ml a (zD (gB H itn) itn) e.1 e.2.1=some (.normal a4 H4)∧okQ ml itn m a4 H4=true∧cZ P f ro ml itn m es n (rem.erase i) a4 (lowQ H H4 itn)=some lr:=fun i lr q=>by
     rw [aT] at q
     cases he:es[i]? with
     | none=>rw [he] at q;cases q
     | some e =>
      rw [he] at q
      have q:goQ ml itn m (cZ P f ro ml itn m es n (rem.erase i)) H (aC P f ro ml a (zD (gB H itn) itn) e.1 e.2.1)=some lr:=q
      unfold goQ at q
      split at q
      ·rename_i a4 H4 hr4
       cases hok:okQ ml itn m a4 H4 with
       | false=>rw [hok] at q;cases q
       | true=>rw [hok] at q;exact ⟨e,a4,H4,rfl,hr4,hok,q⟩
      ·cases q
    have back:∀ r'∈ll.flatten,∃ i∈rem,∃ lr,r'∈lr∧Dx P f ro ml itn m (cZ P f ro ml itn m es n (rem.erase i)) a H (cO es i)=some lr:=fun r' hr'=>by
     obtain ⟨lr,q1,q2⟩:=List.mem_flatten.1 hr'
     obtain ⟨i,p1,p2⟩:=List.mem_map.1 (bI hal lr q1)
     exact ⟨i,p1,lr,q2,p2⟩
    have each:∀ i∈rem,∃ lr∈ll,Dx P f ro ml itn m (cZ P f ro ml itn m es n (rem.erase i)) a H (cO es i)=some lr:=fun i hi=>dB hal _ (List.mem_map.2 ⟨i,hi,rfl⟩)
    have nx4:∀ {e:V×V×Nat} {a4:EA} {H4:EH},aC P f ro ml a (zD (gB H itn) itn) e.1 e.2.1=some (.normal a4 H4)→H.next≤H4.next:=fun {e a4 H4} q=>by
     unfold aC at q
     split at q
     ·rename_i a3 H3 hev
      obtain ⟨a3',H3',e3,n3,_⟩:=jO hs ml.ops ml.tl _ _ _ (kK hev)
      cases e3
      cases hf4:f (.code ro ml.rest a3 H3) with
      | none=>rw [hf4] at q;cases q
      | some r4 =>
       rw [hf4] at q
       obtain ⟨_,p2,_⟩:=hs _ _ hf4
       rw [nJ q] at p2
       exact Nat.le_trans n3 p2
     ·cases q
    refine ⟨?_,fun r' hr'=>?_,fun htm hptr hnd hlt nx hnx Q w A k rr z es' rit rm seen hI hf ha hro hmem=>?_⟩
    ·obtain ⟨lr,q1,q2⟩:=each j0 (by rw [← hrem];exact List.mem_cons_self)
     obtain ⟨e,a4,H4,_,_,_,q3⟩:=one j0 lr q2
     obtain ⟨k1,_⟩:=ih _ _ _ _ q3
     match lr,k1 with
     | r'::lr',_=>exact List.ne_nil_of_mem (List.mem_flatten.2 ⟨_,q1,List.mem_cons_self⟩)
    ·obtain ⟨i,p1,lr,p2,p3⟩:=back r' hr'
     obtain ⟨e,a4,H4,_,q2,_,q3⟩:=one i lr p3
     obtain ⟨_,k2,_⟩:=ih _ _ _ _ q3
     exact ⟨(k2 r' p2).1,Nat.le_trans (nx4 q2) (k2 r' p2).2⟩
    ·refine head htm hptr hI ha (fun hall A2 _=>?_) fun j p hj hns w1 A2 hu ha2 hit=>?_
     ·exfalso
      have h0:j0∈rem:=by rw [← hrem];exact List.mem_cons_self
      have hx:=hlt j0 h0
      have h2:z[j0]?=some (z[j0]'(by rw [hI.lz.len];exact hx)):=List.getElem?_eq_some_iff.2 ⟨_,rfl⟩
      have h3:=(hmem j0 _ h2).1 h0
      rw [hall j0 _ h2] at h3;cases h3
     ·have hjr:j∈rem:=(hmem j p hj).2 hns
      obtain ⟨lr,q1,q2⟩:=each j hjr
      obtain ⟨e,a4,H4,he,hr4,hok,q3⟩:=one j lr q2
      have hze:=hI.lz.es hj
      have hze:es[j]?=some p.1:=hze
      rw [he] at hze
      cases hze
      obtain ⟨o1',o2',o3',o4'⟩:=IU hok
      obtain ⟨k1,k2,k3⟩:=ih _ _ _ _ q3
      -- the iterator's step
      have sim1:SimA Q Q H (gB H itn) w w1:=(jK hI.rel hI.wf hI.it hI.qit (by show (4:Nat)≠0;omega) (o' := .iter none) rfl _ ⟨rfl,_,_,_,_,hu.neu,fun _=>trivial⟩ hu).toA
      have hwn:WF (zD (gB H itn) itn):=JR sim1.wf itn
      have hrn:Rel Q All (zD (gB H itn) itn) w1:=Io sim1.rel itn
      have hb4:H4.next≤nx:=by
       match lr,k1,k2,q1 with
       | r'::lr',_,k2,q1=>exact Nat.le_trans (k2 r' List.mem_cons_self).2 (hnx r' (List.mem_flatten.2 ⟨_,q1,List.mem_cons_self⟩))
      have hfr:Free Q (zD (gB H itn) itn) H4:=fun b u1 u2=>hf b u1 (Nat.lt_of_lt_of_le u2 hb4)
      have hmi:m≠itn:=fun q=>by
       obtain ⟨e,c,q'⟩:=hI.mp
       rw [q,hI.it] at q';cases q'
      have hne:rm≠rit:=fun q=>by
       have:=hI.lz.at0
       rw [q,hI.wi] at this;cases this
      have hm1:w1.heap[rm]?=some (.map es' clk):=by rw [hu.old rm hne];exact hI.lz.at0
      refine ve hs hb (seen:=seen) (es':=es') (e:=p.2) (clk:=clk) hwn hr4 hfr hro hrn ha2 hit hu.neu hm1 (hI.lz.back hj) hI.lz.nd (hI.lz.ok p (List.mem_of_getElem? hj)) fun ex A4 w4 R4 hsim hex=>?_
      cases ex<;>try exact hex.elim
      have hex:AR R4 a4 A4:=hex
      obtain ⟨sim2,hkp⟩:=SimA.lowQ (H:=H) rfl (T.get_set_eq _ _ _) hI.qit sim1.rel sim1.wf o3' hu.neu hsim
      have sim:=sim1.trans sim2
      have hle:=hsim.le hrn hfr
      have hitl:itn<H.next:=hI.wf.lt itn _ hI.it
      obtain ⟨em,cm,hmp⟩:=hI.mp
      have hml:m<H.next:=hI.wf.lt m _ hmp
      have gMp:(zD (gB H itn) itn).objs.get m=some (.map em cm):=Af (by
       show (H.objs.set itn (.iter none)).get m=_
       rw [T.get_set_ne _ _ hmi];exact hmp) hmi
      have hsame:∀ b,b<H.next→R4.bm b=Q.bm b:=fun b hb'=>hsim.rx.same b (by show ¬ (H.next≤b∧_);omega)
      have keepW:∀ r b0 o0,(zD (gB H itn) itn).objs.get b0=some o0→au o0≠0→Q.bm b0=some (r,0)→b0<H4.low→ai b0 o0=b0→w4.heap[r]?=w1.heap[r]?:=fun r b0 o0 g0 hk q0 hl0 hr0=>by
       refine hsim.fr.keep r (hrn.img _ _ _ q0) fun b o d ho hb' z'=>?_
       rcases hrn.inj b b0 o o0 r d 0 ho g0 hb' q0 with u | ⟨_,_,u,_⟩
       ·subst u
        rw [g0] at ho;cases ho
        have z':H4.low≤ai b o0:=z'
        omega
       ·exact hk u
      have hwi4:w4.heap[rit]?=some (.mapIter (some rm) clk (seen.push p.2.born) clk):=by
       rw [hkp];exact hu.neu
      have hwm4:w4.heap[rm]?=some (.map es' clk):=by
       rw [keepW rm m _ gMp (by show (1:Nat)≠0;omega) hI.qm o4' rfl];exact hm1
      have hI4:QI (lowQ H H4 itn) itn m clk es z es' rit rm (seen.push p.2.born) R4 w4:=⟨sim2.rel,sim2.wf,T.get_set_eq _ _ _,by rw [hsame itn hitl];exact hI.qit,
       ⟨em,cm,by show (H4.objs.set itn (.iter none)).get m=_;rw [T.get_set_ne _ _ hmi];exact (hsim.es.keep m _ gMp fun q=>by have q:H4.low≤m:=q;omega).1⟩,by rw [hsame m hml];exact hI.qm,hwi4,⟨hwm4,hI.lz.fst,hI.lz.snd,fun p' hp'=>(hI.lz.ok p' hp').mono hle,hI.lz.nd,hI.lz.lt⟩⟩
      have hlen:(rem.erase j).length+1=rem.length:=by
       rw [List.length_erase_of_mem hjr]
       have:rem≠[]:=List.ne_nil_of_mem hjr
       have:rem.length≠0:=fun q=>this (List.eq_nil_of_length_eq_zero q)
       omega
      have:=k3 o1' o2' (hnd.erase _) (fun x hx=>hlt x (List.mem_of_mem_erase hx)) nx (fun r hr=>hnx r (List.mem_flatten.2 ⟨lr,q1,hr⟩)) R4 w4 A4 k rr z es' rit rm _ hI4 (fun b u1 u2=>(hsim.free (H2:=nH nx) (fun b u1 u2=>hf b u1 u2)) b u1 u2) hex (hro.mono hle)
       (mem_push hI.lz hnd hmem hj)
      rw [hlen] at this
      exact dN (fun e A' w' ⟨r,u1,u2⟩=>⟨r,List.mem_flatten.2 ⟨lr,q1,u1⟩,PostC.trans sim _ _ _ u2⟩) _ _ _ this
theorem qZ {f : Task → Option Res} (hs : az P f) {ro : Option Nat} {body : Code} {ml : ML} (hml : bn body = some ml) {a : EA} {H : EH} {l : List Res} (h : pJ P f ro ml a H = some l) : bz P ro (.loop body) a H l := by
  obtain ⟨i1, i2, o1, o3, hb⟩ := lV hml
  have hlenE : ∀ l : List (V × V × Nat), dX l = l.length := fun l => by
    induction l with
    | nil => rfl
    | cons x l ih => show Nat.succ (dX l) = _; rw [ih]; rfl
  unfold pJ at h
  cases ht : sU a.n ml with
  | false => rw [ht] at h; cases h
  | true =>
  rw [ht] at h
  simp only [cond_true] at h
  split at h
  · rename_i itn hit
    split at h
    · rename_i m c0 hio
      split at h
      · rename_i es clk hmo
        cases k1 : Nat.beq c0 clk with
        | false => rw [k1] at h; cases h
        | true =>
        rw [k1] at h
        simp only [cond_true] at h
        have := nb k1
        subst this
        cases k2 : Nat.ble (dX es) 4 with
        | false => rw [k2] at h; cases h
        | true =>
        rw [k2] at h
        have h : cZ P f ro ml itn m es 6 (List.range (dX es)) a (gB H itn) = some l := h
        obtain ⟨g1, g2, g3⟩ := sV (clk := c0) hs hb _ _ _ _ _ h
        refine ⟨g1, g2, fun nx hnx R w A n rr hr hw hf ha hro => ?_⟩
        have hvit : VR R (a.get ml.it) (A.eval (.tmp ml.it)) := ha.eval (.tmp ml.it)
        rw [hit] at hvit
        obtain ⟨rit, hrit⟩ : ∃ rit, R.bm itn = some (rit, 0) := by
          generalize A.eval (.tmp ml.it) = x at hvit
          cases hvit with
          | ptr hm ho => rename_i r d o; have hd : d = 0 := by omega
                         subst hd; exact ⟨_, hm⟩
        obtain ⟨_, ia, isn, ise, ila, ih1, ih2⟩ := hr.obj itn _ rit 0 hio hrit
        obtain ⟨rfl, rfl, rfl, rm, rfl, hrm⟩ := ih2 trivial
        obtain ⟨_, es', clk', hmw, hm2⟩ := hr.obj m _ rm 0 hmo hrm
        obtain ⟨rfl, hm3⟩ := hm2 trivial
        obtain ⟨⟨z, hz1, hz2, hz3⟩, hz4, hz5⟩ := hm3
        have hmi : m ≠ itn := fun q => by rw [q, hio] at hmo; cases hmo
        have hu : WU w rit (.mapIter (some rm) clk' #[] clk') w := ⟨rfl, ih1, fun _ _ => rfl, rfl, rfl, rfl⟩
        have sim0 : SimA R R H (gB H itn) w w := (jK hr hw hio hrit (by show (4 : Nat) ≠ 0; omega) (o' := .iter none) rfl _ ⟨rfl, _, _, _, _, ih1, fun _ => trivial⟩ hu).toA
        have hI : QI (gB H itn) itn m clk' es z es' rit rm #[] R w := ⟨sim0.rel, sim0.wf, T.get_set_eq _ _ _, hrit, ⟨es, clk', by show (H.objs.set itn (.iter none)).get m = _; rw [T.get_set_ne _ _ hmi]; exact hmo⟩, hrm, ih1, ⟨hmw, hz1, hz2, hz3, hz4, hz5⟩⟩
        have hlen : z.length = es.length := by rw [← hz1]; simp
        refine wpIn_loop_rounds ((List.range (dX es)).length + 1) (dN (fun e A' w' ⟨r, u1, u2⟩ => ⟨r, u1, PostC.trans sim0 _ _ _ u2⟩) _ _ _ (g3 ht hit List.nodup_range (fun x hx => by rw [← hlenE]; exact List.mem_range.1 hx) nx hnx R w A n rr z es' rit rm #[] hI (fun b u1 u2 => hf b u1 u2) ha hro fun j p hj => ?_))
        have := (List.getElem?_eq_some_iff.1 hj).1
        rw [hlen, ← hlenE] at this
        simp [this]
      · cases h
    · cases h
  · cases h
def dD (k:EA→EH→Option (List Res)) (r:Res):Option (List Res):=match r with | .normal a H=>k a H | r=>some [r]
theorem kN {ro:Option Nat} {y:Code} {k:EA→EH→Option (List Res)} (hk:∀ a H l,k a H=some l→bz P ro y a H l) {r:Res} {lr:List Res} (h:dD k r=some lr):(∃ a1 H1,r = .normal a1 H1∧bz P ro y a1 H1 lr)∨(lr=[r]∧∀ a1 H1,r ≠ .normal a1 H1):=by
 cases r with
 | normal a1 H1=>exact .inl ⟨a1,H1,rfl,hk a1 H1 lr h⟩
 | v v H' =>
  have h:some [Res.v v H']=some lr:=h
  cases h;exact .inr ⟨rfl,fun _ _ e=>by cases e⟩
 | exit id a1 H1 =>
  have h:some [Res.exit id a1 H1]=some lr:=h
  cases h;exact .inr ⟨rfl,fun _ _ e=>by cases e⟩
 | ret a1 H1 =>
  have h:some [Res.ret a1 H1]=some lr:=h
  cases h;exact .inr ⟨rfl,fun _ _ e=>by cases e⟩
theorem uJ {ro:Option Nat} {x y:Code} {a:EA} {H:EH} {l1 l:List Res} (h1:bz P ro x a H l1) {k:EA→EH→Option (List Res)} (hk:∀ a H l,k a H=some l→bz P ro y a H l) (h:ja (bQ (l1.map (dD k)))=some l):bz P ro (.seq x y) a H l:=by
 obtain ⟨g0,g1,g4⟩:=h1
 cases hal:bQ (l1.map (dD k)) with
 | none=>rw [hal] at h;cases h
 | some ll =>
  rw [hal] at h
  have h:some ll.flatten=some l:=h
  cases h
  have each:∀ r∈l1,∃ lr∈ll,dD k r=some lr:=fun r hr=>dB hal (dD k r) (List.mem_map.2 ⟨r,hr,rfl⟩)
  have back:∀ r'∈ll.flatten,∃ r∈l1,∃ lr,r'∈lr∧dD k r=some lr:=fun r' hr'=>by
   obtain ⟨lr,q1,q2⟩:=List.mem_flatten.1 hr'
   obtain ⟨r,p1,p2⟩:=List.mem_map.1 (bI hal lr q1)
   exact ⟨r,p1,lr,q2,p2⟩
  -- each outcome of the first is below one of both
  have below:∀ r∈l1,∃ r'∈ll.flatten,r.H.next≤r'.H.next:=fun r hr=>by
   obtain ⟨lr,q1,q2⟩:=each r hr
   rcases kN hk q2 with ⟨a1,H1,rfl,k1,k2,_⟩ | ⟨rfl,_⟩
   ·match lr,k1 with
    | r'::lr',_=>exact ⟨r',List.mem_flatten.2 ⟨_,q1,List.mem_cons_self⟩,(k2 r' List.mem_cons_self).2⟩
   ·exact ⟨r,List.mem_flatten.2 ⟨_,q1,List.mem_singleton.2 rfl⟩,Nat.le_refl _⟩
  refine ⟨?_,fun r' hr'=>?_,fun nx hnx R w A n rr hr hw hf ha hro=>?_⟩
  ·match l1,g0 with
   | r::_,_ =>
    obtain ⟨r',q,_⟩:=below r List.mem_cons_self
    exact List.ne_nil_of_mem q
  ·obtain ⟨r,p1,lr,p2,p3⟩:=back r' hr'
   rcases kN hk p3 with ⟨a1,H1,rfl,_,k2,_⟩ | ⟨rfl,_⟩
   ·exact ⟨(k2 r' p2).1,Nat.le_trans (g1 _ p1).2 (k2 r' p2).2⟩
   ·rw [List.mem_singleton.1 p2];exact g1 _ p1
  ·have hb1:∀ r∈l1,r.H.next≤nx:=fun r hr=>by
    obtain ⟨r',q1,q2⟩:=below r hr
    exact Nat.le_trans q2 (hnx r' q1)
   refine wpIn_seq (Go.wpIn_mono (g4 nx hb1 R w A n rr hr hw hf ha hro) fun e A1 w1 ⟨r,p1,R1,s1,x1⟩=>?_)
   obtain ⟨lr,q1,q2⟩:=each r p1
   rcases kN hk q2 with ⟨a1,H1,rfl,_,_,k3⟩ | ⟨rfl,hnn⟩
   ·cases e<;>try exact x1.elim
    have hle:=s1.le hr (hf.top (hb1 _ p1))
    have hb2:∀ r'∈lr,r'.H.next≤nx:=fun r' hr'=>hnx r' (List.mem_flatten.2 ⟨lr,q1,hr'⟩)
    exact Go.wpIn_mono (k3 nx hb2 R1 w1 A1 n rr s1.rel s1.wf (s1.free hf) x1 (hro.mono hle)) fun e A' w' ⟨r',u1,u2⟩=>⟨r',List.mem_flatten.2 ⟨lr,q1,u1⟩,PostC.trans s1 _ _ _ u2⟩
   ·have out:∃ r'∈ll.flatten,PostC R H r' w e A1 w1:=⟨r,List.mem_flatten.2 ⟨_,q1,List.mem_singleton.2 rfl⟩,R1,s1,x1⟩
    cases r with
    | normal a1 H1=>exact absurd rfl (hnn a1 H1)
    | v v H'=>exact absurd rfl ((g1 _ p1).1 v H')
    | exit id a1 H1=>cases e<;>first | exact x1.elim | exact out
    | ret a1 H1=>cases e<;>first | exact x1.elim | exact out
theorem nV {ro:Option Nat} {id:Nat} {c:Code} {a:EA} {H:EH} {l1 l:List Res} (h1:bz P ro c a H l1) (h:bQ (l1.map fun r=>bH id (some r))=some l):bz P ro (.block id c) a H l:=by
 obtain ⟨g0,g1,g4⟩:=h1
 have back:∀ r∈l,∃ r1∈l1,bH id (some r1)=some r:=fun r hr=>by
  obtain ⟨r1,p1,p2⟩:=List.mem_map.1 (bI h r hr)
  exact ⟨r1,p1,p2⟩
 have each:∀ r1∈l1,∃ r∈l,bH id (some r1)=some r:=fun r1 p1=>dB h (bH id (some r1)) (List.mem_map.2 ⟨r1,p1,rfl⟩)
 refine ⟨?_,fun r hr=>?_,fun nx hnx R w A n rr hr hw hf ha hro=>?_⟩
 ·match l1,g0 with
  | r1::_,_ =>
   obtain ⟨r,q,_⟩:=each r1 List.mem_cons_self
   exact List.ne_nil_of_mem q
 ·obtain ⟨r1,p1,p2⟩:=back r hr
  obtain ⟨z0,z1,_⟩:=jX p2 (g1 r1 p1).1
  exact ⟨z0,by rw [← z1];exact (g1 r1 p1).2⟩
 ·have hb1:∀ r1∈l1,r1.H.next≤nx:=fun r1 p1=>by
   obtain ⟨r,q1,q2⟩:=each r1 p1
   rw [(jX q2 (g1 r1 p1).1).2.1];exact hnx r q1
  refine wpIn_block (Go.wpIn_mono (g4 nx hb1 R w A n rr hr hw hf ha hro) fun e A1 w1 ⟨r1,p1,R1,s1,x1⟩=>?_)
  obtain ⟨r,q1,q2⟩:=each r1 p1
  obtain ⟨_,z1,z2⟩:=jX q2 (g1 r1 p1).1
  exact z2 R1 e A1 x1 _ w1 fun e' x'=>⟨r,q1,R1,by rw [← z1];exact s1,x'⟩
def ql (P:Program) (fn:Func) (H:EH) (v:V) (l:List Res):Bool:=List.rec (motive:=fun _=>Bool) true
 (fun r _ ih=>match ay P fn (some r) with | some (.v v' H')=>cond (eqR v' v) (cond (Nat.ble H.next H'.low) (cond (Nat.ble H'.next r.H.next) ih false) false) false | _=>false) l
def sO (l:List Res):Nat:=List.rec (motive:=fun _=>Nat) 0 (fun r _ ih=>Eg r.H.next ih) l
def Jk (P:Program) (fn:Func) (H:EH) (l:Option (List Res)):Option Res:=match l with
 | some (r::l)=>(match ay P fn (some r) with
  | some (.v v _)=>cond (oldR v) (cond (ql P fn H v (r::l)) (fN (sO (r::l)) fun n=>cond (Nat.ble H.next n) (some (.v v ⟨H.objs,n,H.grps,H.low⟩)) none) none) none
  | _=>none)
 | _=>none
theorem tK {fn:Func} {H:EH} {v:V}:∀ {l:List Res},ql P fn H v l=true→∀ r∈l,∃ H',ay P fn (some r)=some (.v v H')∧H.next≤H'.low∧H'.next≤r.H.next
 | [],_,r,hr=>by cases hr
 | x::l,h,r,hr=>by
  have h:(match ay P fn (some x) with | some (.v v' H')=>cond (eqR v' v) (cond (Nat.ble H.next H'.low) (cond (Nat.ble H'.next x.H.next) (ql P fn H v l) false) false) false | _=>false)=true:=h
  split at h
  ·rename_i v' H' hx
   obtain ⟨h1,h⟩:=ag h
   obtain ⟨h2,h⟩:=ag h
   obtain ⟨h3,h4⟩:=ag h
   rcases List.mem_cons.1 hr with rfl | hr
   ·rw [GX h1] at hx
    exact ⟨H',hx,Nat.le_of_ble_eq_true h2,Nat.le_of_ble_eq_true h3⟩
   ·exact tK h4 r hr
  ·cases h
theorem wz:∀ {l:List Res},∀ r∈l,r.H.next≤sO l
 | [],r,hr=>by cases hr
 | x::l,r,hr=>by
  show r.H.next≤Eg x.H.next (sO l)
  have e:∀ a b:Nat,a≤Eg a b∧b≤Eg a b:=fun a b=>by
   unfold Eg
   rw [aj]
   by_cases q:a≤b
   ·rw [if_pos q];exact ⟨q,Nat.le_refl _⟩
   ·rw [if_neg q];exact ⟨Nat.le_refl _,by omega⟩
  rcases List.mem_cons.1 hr with rfl | hr
  ·exact (e _ _).1
  ·exact Nat.le_trans (wz r hr) (e _ _).2
end
end Go.Ev
/- Calls whose outcomes hang on the order of maps: loops around such loops, and an answer that is a new row. -/
namespace Go.Ev
open Go
noncomputable section
variable {P:Program}
abbrev WG:=Nat→Option Nat→(Exit→Act→World→Prop)→Act→World→Prop
def yz (W:WG) (ro:Option Nat) (a:EA) (H:EH) (l:List Res):Prop :=
 l≠[]∧(∀ r∈l,(∀ v H',r ≠ .v v H')∧H.next≤r.H.next)∧∀ nx,(∀ r∈l,r.H.next≤nx) →
  ∀ R w A n rr,Rel R All H w→WF H→Free R H (nH nx)→AR R a A→Ro R ro rr→W n rr (fun e A' w'=>∃ r∈l,PostC R H r w e A' w') A w
theorem jf {W:WG} {ro:Option Nat} {k:EA→EH→Option (List Res)} (hk:∀ a H l,k a H=some l→yz W ro a H l) {r:Res} {lr:List Res} (h:dD k r=some lr):(∃ a1 H1,r = .normal a1 H1∧yz W ro a1 H1 lr)∨(lr=[r]∧∀ a1 H1,r ≠ .normal a1 H1):=by
 cases r with
 | normal a1 H1=>exact .inl ⟨a1,H1,rfl,hk a1 H1 lr h⟩
 | v v H' =>
  have h:some [Res.v v H']=some lr:=h
  cases h;exact .inr ⟨rfl,fun _ _ e=>by cases e⟩
 | exit id a1 H1 =>
  have h:some [Res.exit id a1 H1]=some lr:=h
  cases h;exact .inr ⟨rfl,fun _ _ e=>by cases e⟩
 | ret a1 H1 =>
  have h:some [Res.ret a1 H1]=some lr:=h
  cases h;exact .inr ⟨rfl,fun _ _ e=>by cases e⟩
theorem Dk {W:WG} (hW:∀ n rr Q Q' A w,(∀ e A w,Q e A w→Q' e A w)→W n rr Q A w→W n rr Q' A w) {ro:Option Nat} {x:Code} {a:EA} {H:EH} {l1 l:List Res} (h1:bz P ro x a H l1) {k:EA→EH→Option (List Res)} (hk:∀ a H l,k a H=some l→yz W ro a H l) (h:ja (bQ (l1.map (dD k)))=some l):yz (fun n rr Q A w=>x.wpIn (FF rr) n P (Exit.then (W n rr Q) Q) A w) ro a H l:=by
 obtain ⟨g0,g1,g4⟩:=h1
 cases hal:bQ (l1.map (dD k)) with
 | none=>rw [hal] at h;cases h
 | some ll =>
  rw [hal] at h
  have h:some ll.flatten=some l:=h
  cases h
  have each:∀ r∈l1,∃ lr∈ll,dD k r=some lr:=fun r hr=>dB hal (dD k r) (List.mem_map.2 ⟨r,hr,rfl⟩)
  have back:∀ r'∈ll.flatten,∃ r∈l1,∃ lr,r'∈lr∧dD k r=some lr:=fun r' hr'=>by
   obtain ⟨lr,q1,q2⟩:=List.mem_flatten.1 hr'
   obtain ⟨r,p1,p2⟩:=List.mem_map.1 (bI hal lr q1)
   exact ⟨r,p1,lr,q2,p2⟩
  -- each outcome of the first is below one of both
  have below:∀ r∈l1,∃ r'∈ll.flatten,r.H.next≤r'.H.next:=fun r hr=>by
   obtain ⟨lr,q1,q2⟩:=each r hr
   rcases jf hk q2 with ⟨a1,H1,rfl,k1,k2,_⟩ | ⟨rfl,_⟩
   ·match lr,k1 with
    | r'::lr',_=>exact ⟨r',List.mem_flatten.2 ⟨_,q1,List.mem_cons_self⟩,(k2 r' List.mem_cons_self).2⟩
   ·exact ⟨r,List.mem_flatten.2 ⟨_,q1,List.mem_singleton.2 rfl⟩,Nat.le_refl _⟩
  refine ⟨?_,fun r' hr'=>?_,fun nx hnx R w A n rr hr hw hf ha hro=>?_⟩
  ·match l1,g0 with
   | r::_,_ =>
    obtain ⟨r',q,_⟩:=below r List.mem_cons_self
    exact List.ne_nil_of_mem q
  ·obtain ⟨r,p1,lr,p2,p3⟩:=back r' hr'
   rcases jf hk p3 with ⟨a1,H1,rfl,_,k2,_⟩ | ⟨rfl,_⟩
   ·exact ⟨(k2 r' p2).1,Nat.le_trans (g1 _ p1).2 (k2 r' p2).2⟩
   ·rw [List.mem_singleton.1 p2];exact g1 _ p1
  ·have hb1:∀ r∈l1,r.H.next≤nx:=fun r hr=>by
    obtain ⟨r',q1,q2⟩:=below r hr
    exact Nat.le_trans q2 (hnx r' q1)
   refine Go.wpIn_mono (g4 nx hb1 R w A n rr hr hw hf ha hro) fun e A1 w1 ⟨r,p1,R1,s1,x1⟩=>?_
   obtain ⟨lr,q1,q2⟩:=each r p1
   rcases jf hk q2 with ⟨a1,H1,rfl,_,_,k3⟩ | ⟨rfl,hnn⟩
   ·cases e<;>try exact x1.elim
    have hle:=s1.le hr (hf.top (hb1 _ p1))
    have hb2:∀ r'∈lr,r'.H.next≤nx:=fun r' hr'=>hnx r' (List.mem_flatten.2 ⟨lr,q1,hr'⟩)
    exact hW _ _ _ _ _ _ (fun e A' w' ⟨r',u1,u2⟩=>⟨r',List.mem_flatten.2 ⟨lr,q1,u1⟩,PostC.trans s1 _ _ _ u2⟩) (k3 nx hb2 R1 w1 A1 n rr s1.rel s1.wf (s1.free hf) x1 (hro.mono hle))
   ·have out:∃ r'∈ll.flatten,PostC R H r' w e A1 w1:=⟨r,List.mem_flatten.2 ⟨_,q1,List.mem_singleton.2 rfl⟩,R1,s1,x1⟩
    cases r with
    | normal a1 H1=>exact absurd rfl (hnn a1 H1)
    | v v H'=>exact absurd rfl ((g1 _ p1).1 v H')
    | exit id a1 H1=>cases e<;>first | exact x1.elim | exact out
    | ret a1 H1=>cases e<;>first | exact x1.elim | exact out
theorem rP {ro:Option Nat} {o:Operand} {x y:Code} {a:EA} {H:EH} {l:List Res} {b:Bool} (hb:a.eval o = .bool b) (h:bz P ro (cond b x y) a H l):bz P ro (.cond o x y) a H l:=by
 refine ⟨h.1,h.2.1,fun nx hnx R w A n rr hr hw hf ha hro=>?_⟩
 have hv:=ha.eval o
 rw [hb] at hv
 have hA:A.eval o = .bool b:=by
  generalize A.eval o=z at hv ⊢
  cases hv;rfl
 have k:=h.2.2 nx hnx R w A n rr hr hw hf ha hro
 cases b with
 | true=>exact wpIn_cond_true hA k
 | false=>exact wpIn_cond_false hA k
def uM (k:EA→EH→Option (List Res)):Nat→EA→EH→Option (List Res)
 | 0,_,_=>none
 | m+1,a,H=>match k a H with | some l=>ja (bQ (l.map (dD (uM k m)))) | none=>none
theorem yY {k:EA→EH→Option (List Res)} {ro:Option Nat} {body:Code} (hk:∀ a H l,k a H=some l→bz P ro body a H l):∀ (m:Nat) (a:EA) (H:EH) (l:List Res),uM k m a H=some l→yz (fun n rr Q A w=>Code.roundsIn (FF rr) n P body Q m A w) ro a H l:=by
 intro m
 induction m with
 | zero=>intro a H l h;cases h
 | succ m ih =>
  intro a H l h
  have h:(match k a H with | some l=>ja (bQ (l.map (dD (uM k m)))) | none=>none)=some l:=h
  cases h1:k a H with
  | none=>rw [h1] at h;cases h
  | some l1 =>
   rw [h1] at h
   exact Dk (W:=fun n rr Q A w=>Code.roundsIn (FF rr) n P body Q m A w) (fun n rr Q Q' A w hq h=>dN hq m A w h) (hk a H l1 h1) ih h
theorem ww {k:EA→EH→Option (List Res)} {ro:Option Nat} {body:Code} (hk:∀ a H l,k a H=some l→bz P ro body a H l) {m:Nat} {a:EA} {H:EH} {l:List Res} (h:uM k m a H=some l):bz P ro (.loop body) a H l:=by
 obtain ⟨g0,g1,g2⟩:=yY hk m a H l h
 exact ⟨g0,g1,fun nx hnx R w A n rr hr hw hf ha hro=>wpIn_loop_rounds m (g2 nx hnx R w A n rr hr hw hf ha hro)⟩
def xZ:Nat→Code→Bool
 | 0,_=>true
 | n+1,c=>match c with
  | .seq x y=>cond (xZ n x) true (xZ n y)
  | .block _ x=>xZ n x
  | .cond _ x y=>cond (xZ n x) true (xZ n y)
  | .loop b=>match bn b with | some _=>true | none=>xZ n b
  | _=>false
def yM (r:Option Res):Option (List Res):=match r with | some r=>some [r] | none=>none
def zk (P:Program) (f:Task→Option Res) (ro:Option Nat) (q:Bool):Nat→Code→EA→EH→Option (List Res)
 | 0,c,a,H=>yM (f (.code ro c a H))
 | n+1,c,a,H=>cond (xZ 30 c) (match c with
  | .seq x y=>(match zk P f ro q n x a H with | some l=>ja (bQ (l.map (dD (zk P f ro q n y)))) | none=>none)
  | .block id c=>(match zk P f ro q n c a H with | some l=>bQ (l.map fun r=>bH id (some r)) | none=>none)
  | .cond o x y=>(match a.eval o with | .bool b=>zk P f ro q n (cond b x y) a H | _=>none)
  | .loop body=>(match bn body with | some ml=>cond q (pJ P f ro ml a H) (mZ (Kq P f ro ml) P f ro ml a H) | none=>uM (zk P f ro q n body) 40 a H)
  | _=>none) (yM (f (.code ro c a H)))
theorem dH {f:Task→Option Res} (hs:az P f) {ro:Option Nat} {c:Code} {a:EA} {H:EH} {l:List Res} (h:yM (f (.code ro c a H))=some l):bz P ro c a H l:=by
 unfold yM at h
 split at h
 ·rename_i r hr;cases h;exact Em (hs _ _ hr)
 ·cases h
theorem Ej {f:Task→Option Res} (hs:az P f) (ro:Option Nat) (q:Bool):∀ (n:Nat) (c:Code) (a:EA) (H:EH) (l:List Res),zk P f ro q n c a H=some l→bz P ro c a H l:=by
 intro n
 induction n with
 | zero=>intro c a H l h;exact dH hs h
 | succ n ih =>
  intro c a H l h
  unfold zk at h
  cases hm:xZ 30 c with
  | false=>rw [hm] at h;exact dH hs h
  | true =>
   rw [hm] at h
   cases c with
   | seq x y =>
    have h:(match zk P f ro q n x a H with | some l=>ja (bQ (l.map (dD (zk P f ro q n y)))) | none=>none)=some l:=h
    cases h1:zk P f ro q n x a H with
    | none=>rw [h1] at h;cases h
    | some l1=>rw [h1] at h;exact uJ (ih x a H l1 h1) (fun a H l=>ih y a H l) h
   | block id c =>
    have h:(match zk P f ro q n c a H with | some l=>bQ (l.map fun r=>bH id (some r)) | none=>none)=some l:=h
    cases h1:zk P f ro q n c a H with
    | none=>rw [h1] at h;cases h
    | some l1=>rw [h1] at h;exact nV (ih c a H l1 h1) h
   | cond o x y =>
    have h:(match a.eval o with | .bool b=>zk P f ro q n (cond b x y) a H | _=>none)=some l:=h
    split at h
    ·rename_i b hb;exact rP hb (ih _ _ _ _ h)
    ·cases h
   | loop body =>
    have h:(match bn body with | some ml=>cond q (pJ P f ro ml a H) (mZ (Kq P f ro ml) P f ro ml a H) | none=>uM (zk P f ro q n body) 40 a H)=some l:=h
    cases hml:bn body with
    | none=>rw [hml] at h;exact ww (fun a H l=>ih body a H l) h
    | some ml =>
     rw [hml] at h
     cases q with
     | true=>exact qZ hs hml h
     | false=>exact AA hs hml h
   | _=>cases h
theorem EW {v v':V} (h:gm v v'=true) {R:Ren} {y:Value} (hv:VR R v y) (R2:Ren):VR R2 v' y∧aS v'=true:=by
 unfold gm at h
 split at h
 ·have:=iP h;subst this;cases hv;exact ⟨.bool _,rfl⟩
 ·obtain ⟨h1,h2⟩:=ag h
  have:=ni h1;subst this
  have:=wC h2;subst this
  cases hv;exact ⟨.int _ _,rfl⟩
 ·cases hv;exact ⟨.nilSlice,rfl⟩
 ·cases h
def LP (c c0:T V) (off m:Nat):Bool:=oQ (fun i=>match c.get (Nat.add off i),c0.get (Nat.add off i) with | some x,some y=>gm x y | _,_=>false) m
def isRow (n:Nat) (H':EH) (c0:T V) (off len e:Nat) (v:V):Bool:=match v with
 | .slice b o l e'=>cond (Nat.ble n b) (cond (Nat.beq o off) (cond (Nat.beq l len) (cond (Nat.beq e' e) (match H'.block b with
  | .mk c lo sz _=>cond (Nat.ble lo off) (cond (Nat.ble (Nat.add off (Nat.mul len e)) sz) (LP c c0 off (Nat.mul len e)) false) false
  | .no=>false) false) false) false) false
 | _=>false
theorem zl {n:Nat} {H':EH} {c0:T V} {off len e:Nat} {v:V} (h:isRow n H' c0 off len e v=true):∃ b c lo sz g,v = .slice b off len e∧n≤b∧H'.block b = .mk c lo sz g∧lo≤off∧off+len*e≤sz∧∀ i,off≤i→i<off+len*e→∃ x y,c.get i=some x∧c0.get i=some y∧gm x y=true:=by
 unfold isRow at h
 split at h
 ·rename_i b o l e'
  obtain ⟨h1,h⟩:=ag h
  obtain ⟨h2,h⟩:=ag h
  obtain ⟨h3,h⟩:=ag h
  obtain ⟨h4,h⟩:=ag h
  have:=nb h2;subst this
  have:=nb h3;subst this
  have:=nb h4;subst this
  split at h
  ·rename_i c lo sz g hb
   obtain ⟨h5,h⟩:=ag h
   obtain ⟨h6,h7⟩:=ag h
   refine ⟨b,c,lo,sz,g,rfl,Nat.le_of_ble_eq_true h1,hb,Nat.le_of_ble_eq_true h5,Nat.le_of_ble_eq_true h6,fun i hi hj=>?_⟩
   have:=bg h7 (i-o) (by show i-o<l*e';omega)
   have this:(match c.get (o+(i-o)),c0.get (o+(i-o)) with | some x,some y=>gm x y | _,_=>false)=true:=this
   rw [show o+(i-o)=i by omega] at this
   split at this
   ·rename_i x y q1 q2;exact ⟨x,y,q1,q2,this⟩
   ·cases this
  ·cases h
 ·cases h
def uq (H:EH) (c0:T V) (off len e top:Nat):EH:=⟨H.objs.set top (.cells c0 off (Nat.add off (Nat.mul len e)) top),Nat.succ top,H.grps,H.low⟩
theorem FX {R R':Ren} {H H':EH} {w w':World} {c0:T V} {off len e top:Nat} {v:V} {x:Value} (hr:Rel R All H w) (hw:WF H) (hf:Free R H (nH (top+1))) (htop:H.next≤top) (hlow:H.next≤H'.low)
 (e3:SimA R R' (lowTo H big) H' w w') (hv:VR R' v x) (hrow:isRow H.next H' c0 off len e v=true):∃ R2,VR R2 (.slice top off len e) x∧SimA R R2 H (uq H c0 off len e top) w w':=by
 obtain ⟨b,c,lo,sz,g,rfl,hnb,hb,hlo,hsz,hc⟩:=zl hrow
 have hrel':Rel R' All H' w':=SimA.rel e3
 have hkeep:∀ r,r<w.heap.size→w'.heap[r]?=w.heap[r]?:=fun r hr'=>e3.fr.keep r hr' fun b o d ho hb' z=>by
  have z:H'.low≤ai b o:=z
  have:=hw.lt b o ho
  have:=hw.root b o ho
  omega
 have hfree:∀ b,H.next≤b→b<top+1→R.bm b=none:=fun b h1 h2=>(hf b h1 h2).1
 obtain ⟨q1,q2⟩:=ak hb
 cases hv with
 | slice hm ho hle hzz =>
  rename_i r d o cap
  obtain ⟨cs,t,fz,a1,a2,a3,a4⟩:=hrel'.row hb hm trivial
  have hobj':=hrel'.obj b _ r d q1 hm
  obtain ⟨cs',t',fz',b1,b2,b3,_⟩:=hobj'
  have hnew:w.heap.size≤r:=by
   rcases e3.rx.neu b r d hnb (e3.wf.lt b _ q1) hm with z | ⟨b0,o0,o1,z1,z2,z3,z4,z5,z6⟩
   ·exact z
   ·exfalso
    rw [q1] at z3;cases z3
    have h1:=hw.lt b0 o0 z1
    have h2:=hw.root b0 o0 z1
    rcases e3.es.neu b _ q1 hnb with y | y
    ·have y:H.next≤ai b (.cells c lo sz g):=y
     omega
    ·have y:H'.low≤ai b (.cells c lo sz g):=y
     omega
  let R2:Ren:=⟨fun b'=>if b'=top then some (r,d) else R.bm b',R'.zs,R.cz⟩
  have hR2:R2.bm top=some (r,d):=by show (if top=top then some (r,d) else R.bm top)=_;rw [if_pos rfl]
  have hR2n:∀ b',b'≠top→R2.bm b'=R.bm b':=fun b' h=>by show (if b'=top then some (r,d) else R.bm b')=_;rw [if_neg h]
  have hle2:R.le R2:=⟨fun b' y e=>by
   by_cases q:b'=top
   ·subst q;rw [hfree b' htop (Nat.lt_succ_self _)] at e;cases e
   ·rw [hR2n b' q];exact e,fun b' r' d' e=>e3.rx.zs r' (hr.img b' r' d' e),fun a r cs e=>e⟩
  have hget:∀ b' o',(uq H c0 off len e top).objs.get b'=some o'→(b'=top∧o' = .cells c0 off (off+len*e) top)∨(b'≠top∧H.objs.get b'=some o'):=fun b' o' h=>by
   by_cases q:b'=top
   ·subst q
    have h:(H.objs.set b' (.cells c0 off (off+len*e) b')).get b'=some o':=h
    rw [T.get_set_eq] at h
    cases h;exact .inl ⟨rfl,rfl⟩
   ·have h:(H.objs.set top (.cells c0 off (off+len*e) top)).get b'=some o':=h
    rw [T.get_set_ne _ _ q] at h
    exact .inr ⟨q,h⟩
  have hold:∀ b' o',H.objs.get b'=some o'→b'≠top∧(uq H c0 off len e top).objs.get b'=some o':=fun b' o' h=>by
   have q:b'≠top:=by have:=hw.lt b' o' h;omega
   refine ⟨q,?_⟩
   show (H.objs.set top (.cells c0 off (off+len*e) top)).get b'=some o'
   rw [T.get_set_ne _ _ q];exact h
  have himg:r<w'.heap.size:=hrel'.img b r d hm
  refine ⟨R2,.slice hR2 ho hle hzz,⟨⟨Nat.le_succ_of_le htop,Nat.le_refl _,fun b' o' h=>⟨o',(hold b' o' h).2,rfl,rfl⟩,fun b' o' h _=>⟨(hold b' o' h).2,rfl⟩,fun b' o' h h1=>?_,⟨fun b' o' h=>?_,fun b' o' h=>?_,fun g hg b1 b2 o1 o2 h1 h2 h3 h4=>?_,fun g x h=>Nat.lt_of_lt_of_le (hw.gdom g x h) (Nat.le_succ_of_le htop)⟩,fun g h=>h,fun b' o' h h1=>?_⟩,
   ⟨fun b' h=>hR2n b' (fun q=>h (by subst q;exact ⟨htop,Nat.lt_succ_self _⟩)),fun r' h=>e3.rx.zs r' h,fun b' r' d' h1 h2 h=>?_,fun _ _=>rfl,fun _ _ _ e => .inl e⟩,
   ⟨e3.fr.os,e3.fr.tape,e3.fr.output,e3.fr.size,fun r hr' _=>hkeep r hr'⟩,⟨fun b' r' d' h=>?_,fun b' o' r' d' h h1=>?_,fun b1 b2 o1 o2 r' d1 d2 h1 h2 h3 h4=>?_,?_⟩⟩⟩
  ·rcases hget b' o' h with ⟨rfl,_⟩ | ⟨_,q⟩
   ·omega
   ·exact ⟨_,q⟩
  ·rcases hget b' o' h with ⟨rfl,_⟩ | ⟨_,q⟩
   ·exact Nat.lt_succ_self _
   ·exact Nat.lt_of_lt_of_le (hw.lt b' o' q) (Nat.le_succ_of_le htop)
  ·rcases hget b' o' h with ⟨rfl,rfl⟩ | ⟨_,q⟩
   ·exact Nat.le_refl _
   ·exact hw.root b' o' q
  ·rcases hget b1 o1 h1 with ⟨rfl,rfl⟩ | ⟨n1,g1⟩<;>rcases hget b2 o2 h2 with ⟨e2,rfl⟩ | ⟨n2,g2⟩
   ·exact e2.symm
   ·have k1:=hw.root b2 o2 g2
    have k2:=hw.lt b2 o2 g2
    have h3:b1=g:=h3
    omega
   ·have k1:=hw.root b1 o1 g1
    have k2:=hw.lt b1 o1 g1
    have h4:top=g:=h4
    omega
   ·exact hw.uniq g hg b1 b2 o1 o2 g1 g2 h3 h4
  ·rcases hget b' o' h with ⟨rfl,rfl⟩ | ⟨_,q⟩
   ·exact .inl htop
   ·have:=hw.lt b' o' q;omega
  ·by_cases q:b'=top
   ·subst q;rw [hR2] at h;cases h;exact .inl hnew
   ·rw [hR2n b' q,hfree b' h1 h2] at h;cases h
  ·by_cases q:b'=top
   ·subst q;rw [hR2] at h;cases h;exact himg
   ·rw [hR2n b' q] at h
    exact Nat.lt_of_lt_of_le (hr.img b' r' d' h) e3.fr.size
  ·rcases hget b' o' h with ⟨rfl,rfl⟩ | ⟨q,g1⟩
   ·rw [hR2] at h1;cases h1
    refine ⟨cs',t',fz',b1,b2,b3,fun _ _ i hi hj=>?_⟩
    obtain ⟨x1,y1,c1,c2,c3⟩:=hc i hi hj
    obtain ⟨p1,x2,y2,d1,d2,d3,d4⟩:=a4 i (by omega) (by omega)
    rw [c1] at d1;cases d1
    obtain ⟨v1,v2⟩:=EW c3 d4 R2
    rw [a1] at b1
    cases b1
    exact ⟨p1,y1,y2,c2,v2,d3,v1⟩
   ·rw [hR2n b' q] at h1
    exact (hr.obj b' o' r' d' g1 h1).mono hle2 h1 (hkeep r' (hr.img b' r' d' h1)) (fun _=>trivial) (fun v=>by cases o'<;>exact v)
  ·have far:∀ b' r' d',R.bm b'=some (r',d')→r'≠r:=fun b' r' d' h q=>by have:=hr.img b' r' d' h;omega
   rcases hget b1 o1 h1 with ⟨rfl,rfl⟩ | ⟨n1,g1⟩<;>rcases hget b2 o2 h2 with ⟨e2,rfl⟩ | ⟨n2,g2⟩
   ·exact .inl e2.symm
   ·rw [hR2] at h3;cases h3
    rw [hR2n b2 n2] at h4
    exact absurd rfl (far _ _ _ h4)
   ·subst e2
    rw [hR2] at h4;cases h4
    rw [hR2n b1 n1] at h3
    exact absurd rfl (far _ _ _ h3)
   ·rw [hR2n b1 n1] at h3
    rw [hR2n b2 n2] at h4
    exact hr.inj b1 b2 o1 o2 r' d1 d2 g1 g2 h3 h4
  ·refine hr.frz.step rfl (fun r h1 _=>hkeep r h1) fun b' r' d' h=>?_
   by_cases q:b'=top
   ·subst q;rw [hR2] at h;cases h;exact .inl hnew
   ·rw [hR2n b' q] at h;exact .inr ⟨b',d',h⟩
theorem CW {R:Ren} {H:EH} {w:World} (h:Rel R All H w):Rel R All (lowTo H big) w:=⟨h.img,h.obj,h.inj,h.frz⟩
theorem Fp {H:EH} (h:WF H):WF (lowTo H big):=⟨h.lt,h.root,h.uniq,h.gdom⟩
def xN (P:Program) (fn:Func) (H:EH) (c0:T V) (off len e:Nat) (l:List Res):Bool:=List.rec (motive:=fun _=>Bool) true
 (fun r _ ih=>match ay P fn (some r) with | some (.v v' H')=>cond (isRow H.next H' c0 off len e v') (cond (Nat.ble H.next H'.low) (cond (Nat.ble H'.next r.H.next) ih false) false) false | _=>false) l
theorem ut {fn:Func} {H:EH} {c0:T V} {off len e:Nat}:∀ {l:List Res},xN P fn H c0 off len e l=true→∀ r∈l,∃ v' H',ay P fn (some r)=some (.v v' H')∧isRow H.next H' c0 off len e v'=true∧H.next≤H'.low∧H'.next≤r.H.next
 | [],_,r,hr=>by cases hr
 | x::l,h,r,hr=>by
  have h:(match ay P fn (some x) with | some (.v v' H')=>cond (isRow H.next H' c0 off len e v') (cond (Nat.ble H.next H'.low) (cond (Nat.ble H'.next x.H.next) (xN P fn H c0 off len e l) false) false) false | _=>false)=true:=h
  split at h
  ·rename_i v' H' hx
   obtain ⟨h1,h⟩:=ag h
   obtain ⟨h2,h⟩:=ag h
   obtain ⟨h3,h4⟩:=ag h
   rcases List.mem_cons.1 hr with rfl | hr
   ·exact ⟨v',H',hx,h1,Nat.le_of_ble_eq_true h2,Nat.le_of_ble_eq_true h3⟩
   ·exact ut h4 r hr
  ·cases h
def FB (P:Program) (fn:Func) (H:EH) (l:List Res) (b off len e:Nat) (H1:EH):Option Res:=match H1.block b with
 | .mk c0 _ _ _=>cond (xN P fn H c0 off len e l) (fN (sO l) fun n=>cond (Nat.ble H.next n) (some (.v (.slice n off len e) (uq H c0 off len e n))) none) none
 | .no=>none
theorem rq {fn : Func} {c : Code} {g : FuncId} {args : List V} {H : EH} {l : List Res} {r : Res} {b off len e : Nat} {H1 : EH} (hfn : P.funcs[g]? = some fn) (hname' : fn.name ≠ "runtime.NumGoroutine") (hc : fn.body = some c) (hlen : args.length ≤ fn.ntmps)
    (hb:bz P none c ⟨fP false args,fn.ntmps,[]⟩ (lowTo H big) l) (h:FB P fn H l b off len e H1=some r):Spec P (.call g args H) r:=by
  obtain ⟨g0,g1,g4⟩:=hb
  unfold FB at h
  split at h
  · rename_i c0 lo sz gg hblk
    obtain ⟨o2,h⟩:xN P fn H c0 off len e l=true∧(fN (sO l) fun n=>cond (Nat.ble H.next n) (some (Res.v (.slice n off len e) (uq H c0 off len e n))) none)=some r:=by
      cases q:xN P fn H c0 off len e l with
      | false=>rw [q] at h;cases h
      | true=>rw [q] at h;exact ⟨rfl,h⟩
    rw [aG] at h
    generalize htop:sO l=top at h
    rw [aj] at h
    by_cases q:H.next≤top
    · rw [if_pos q] at h
      cases h
      have hbnd:∀ r∈l,r.H.next≤top:=fun r hr=>by rw [← htop];exact wz r hr
      refine ⟨_,_,rfl,Nat.le_succ_of_le q,⟨fn,c,hfn,hname',hc⟩,fun R w args' n hr hw hf ha=>?_⟩
      have hf1:Free R H (nH (top+1)):=fun b u1 u2=>hf b u1 u2
      refine callsIn_of_wp_marks hfn hc trivial ?_
      refine wpIn_mono (g4 top hbnd R w _ n none (CW hr) (Fp hw) (fun b u1 u2=>hf b u1 (Nat.lt_succ_of_lt u2)) (AR.enter ha hlen) trivial) fun e' A w' ⟨ri,hri,R',hsim,hex⟩=>?_
      obtain ⟨v',H',hbody,hrow,hlow,hnx'⟩:=ut o2 ri hri
      have key:∀ a H1,(ri = .normal a H1∨ri = .ret a H1)→leave P fn a H1=some (.v v' H')→AR R' a A→LeavesInM Fence.wide n P fn A.tmps (qH R H (.slice top off len e) (uq H c0 off len e top) w) A.defers .returning w':=by
        intro a H1 hrb hl ha'
        obtain ⟨v2,H2,e2,n2,k⟩:=bZ hl
        cases e2
        have hH:ri.H=H1:=by rcases hrb with rfl | rfl<;>rfl
        rw [hH] at hsim
        refine k R' w' A n hsim.rel hsim.wf ha' _ fun x w'' hx hs'=>?_
        obtain ⟨R2,p1,p2⟩:=FX hr hw hf1 q hlow (hsim.trans hs') hx hrow
        exact ⟨x,R2,rfl,p1,p2⟩
      cases ri with
      | normal a H1=>cases e'<;>first | exact hex.elim | exact key a H1 (.inl rfl) hbody hex
      | ret a H1=>cases e'<;>first | exact hex.elim | exact key a H1 (.inr rfl) hbody hex
      | v v1 H1=>exact absurd rfl ((g1 _ hri).1 v1 H1)
      | exit id a H1=>cases hbody
    · rw [if_neg q] at h;cases h
  · cases h
theorem qL {fn : Func} {c : Code} {g : FuncId} {args : List V} {H : EH} {l : List Res} {r : Res} (hfn : P.funcs[g]? = some fn) (hname' : fn.name ≠ "runtime.NumGoroutine") (hc : fn.body = some c) (hlen : args.length ≤ fn.ntmps)
    (hb:bz P none c ⟨fP false args,fn.ntmps,[]⟩ (lowTo H big) l) (h:Jk P fn H (some l)=some r):Spec P (.call g args H) r:=by
  obtain ⟨_,g1,g4⟩:=hb
  cases l with
  | nil=>cases h
  | cons r0 l0 =>
    have h:(match ay P fn (some r0) with
      | some (.v v _)=>cond (oldR v) (cond (ql P fn H v (r0::l0)) (fN (sO (r0::l0)) fun n=>cond (Nat.ble H.next n) (some (Res.v v ⟨H.objs,n,H.grps,H.low⟩)) none) none) none
      | _=>none)=some r:=h
    split at h
    · rename_i v H0 hv0
      obtain ⟨o1,h⟩:oldR v=true∧cond (ql P fn H v (r0::l0)) (fN (sO (r0::l0)) fun n=>cond (Nat.ble H.next n) (some (Res.v v ⟨H.objs,n,H.grps,H.low⟩)) none) none=some r:=by
        cases q:oldR v with
        | false=>rw [q] at h;cases h
        | true=>rw [q] at h;exact ⟨rfl,h⟩
      obtain ⟨o2,h⟩:ql P fn H v (r0::l0)=true∧(fN (sO (r0::l0)) fun n=>cond (Nat.ble H.next n) (some (Res.v v ⟨H.objs,n,H.grps,H.low⟩)) none)=some r:=by
        cases q:ql P fn H v (r0::l0) with
        | false=>rw [q] at h;cases h
        | true=>rw [q] at h;exact ⟨rfl,h⟩
      rw [aG] at h
      generalize htop:sO (r0::l0)=top at h
      rw [aj] at h
      by_cases q:H.next≤top
      · rw [if_pos q] at h
        cases h
        have hbnd:∀ r∈r0::l0,r.H.next≤top:=fun r hr=>by rw [← htop];exact wz r hr
        refine ⟨v,_,rfl,q,⟨fn,c,hfn,hname',hc⟩,fun R w args' n hr hw hf ha=>?_⟩
        refine callsIn_of_wp_marks hfn hc trivial ?_
        refine wpIn_mono (g4 top hbnd R w _ n none (CW hr) (Fp hw) hf (AR.enter ha hlen) trivial) fun e A w' ⟨ri,hri,R',hsim,hex⟩=>?_
        obtain ⟨H',hbody,hlow,hnx'⟩:=tK o2 ri hri
        have key:∀ a H1,(ri = .normal a H1∨ri = .ret a H1)→leave P fn a H1=some (.v v H')→AR R' a A→LeavesInM Fence.wide n P fn A.tmps (qH R H v ⟨H.objs,top,H.grps,H.low⟩ w) A.defers .returning w':=by
          intro a H1 hrb hl ha'
          obtain ⟨v2,H2,e2,n2,k⟩:=bZ hl
          cases e2
          have hH:ri.H=H1:=by rcases hrb with rfl | rfl<;>rfl
          rw [hH] at hsim
          refine k R' w' A n hsim.rel hsim.wf ha' _ fun x w'' hx hs'=>⟨x,R,rfl,hx.closed o1,?_⟩
          have e3:=hsim.trans hs'
          have hkeep:∀ r,r<w.heap.size→w''.heap[r]?=w.heap[r]?:=fun r hr'=>e3.fr.keep r hr' fun b o d ho hb' z=>by
            have z:H'.low≤ai b o:=z
            have:=hw.lt b o ho
            have:=hw.root b o ho
            omega
          refine ⟨⟨q,Nat.le_refl _,fun b o h=>⟨o,h,rfl,rfl⟩,fun b o h _=>⟨h,rfl⟩,fun b o h _=>⟨o,h⟩,⟨fun b o h=>Nat.lt_of_lt_of_le (hw.lt b o h) q,hw.root,hw.uniq,fun g x h=>Nat.lt_of_lt_of_le (hw.gdom g x h) q⟩,fun g h=>h,fun b o h hb'=>absurd (hw.lt b o h) (by omega)⟩,
            ⟨fun _ _=>rfl,fun _ _=>rfl,fun b r d h1 h2 e=>?_,fun _ _=>rfl,fun _ _ _ e => .inl e⟩,⟨e3.fr.os,e3.fr.tape,e3.fr.output,e3.fr.size,fun r hr' _=>hkeep r hr'⟩,
            ⟨fun b r d hb'=>Nat.lt_of_lt_of_le (hr.img b r d hb') e3.fr.size,fun b o r d ho hb'=>(hr.obj b o r d ho hb').mono (.refl _) hb' (hkeep r (hr.img b r d hb')) (fun _=>trivial) (fun v=>by cases o<;>exact v),hr.inj,
              hr.frz.step rfl (fun r h1 _=>hkeep r h1) fun b r d e => .inr ⟨b,d,e⟩⟩⟩
          have:=(hf b h1 h2).1
          rw [this] at e;cases e
        cases ri with
        | normal a H1=>cases e<;>first | exact hex.elim | exact key a H1 (.inl rfl) hbody hex
        | ret a H1=>cases e<;>first | exact hex.elim | exact key a H1 (.inr rfl) hbody hex
        | v v1 H1=>exact absurd rfl ((g1 _ hri).1 v1 H1)
        | exit id a H1=>cases hbody
      · rw [if_neg q] at h;cases h
    · cases h
def KI (P:Program) (fn:Func) (H:EH) (l:Option (List Res)):Option Res:=match l with
 | some (r::l)=>(match ay P fn (some r) with
  | some (.v (.slice b off len e) H1)=>FB P fn H (r::l) b off len e H1
  | _=>Jk P fn H (some (r::l)))
 | _=>none
def oI (P:Program) (f:Task→Option Res) (q:Bool) (g:FuncId) (args:List V) (H:EH):Option Res:=match P.funcs[g]? with
  | some fn => cond (decide (fn.name = "runtime.NumGoroutine")) none (match fn.body with
    | some c=>cond (Nat.ble (lenV args) fn.ntmps) (KI P fn H (zk P f none q 30 c ⟨fP false args,fn.ntmps,[]⟩ (lowTo H big))) none
    | none=>none)
  | none=>none
theorem gQ {f:Task→Option Res} (hs:az P f) {q:Bool} {g:FuncId} {args:List V} {H:EH} {r:Res} (h:oI P f q g args H=some r):Spec P (.call g args H) r:=by
  unfold oI at h
  split at h
  · rename_i fn hfn
    rw [cond_eq_ite] at h
    split at h
    · cases h
    · rename_i hname
      have hname' : fn.name ≠ "runtime.NumGoroutine" := by simpa using hname
      split at h
      · rename_i c hc
        rw [aj] at h
        split at h
        · rename_i hlen
          rw [lH] at hlen
          cases hb:zk P f none q 30 c ⟨fP false args,fn.ntmps,[]⟩ (lowTo H big) with
          | none=>rw [hb] at h;cases h
          | some l =>
            rw [hb] at h
            have hsp:=Ej hs none q 30 _ _ _ _ hb
            cases l with
            | nil=>cases h
            | cons r0 l0 =>
              have h:(match ay P fn (some r0) with
                | some (.v (.slice b off len e) H1)=>FB P fn H (r0::l0) b off len e H1
                | _=>Jk P fn H (some (r0::l0)))=some r:=h
              split at h
              · exact rq hfn hname' hc hlen hsp h
              · exact qL hfn hname' hc hlen hsp h
        · cases h
      · cases h
  · cases h
def orR (a b:Option Res):Option Res:=match a with | some r=>some r | none=>b
def Ai (P:Program) (f:Task→Option Res) (t:Task):Option Res:=match t with | .call g args H=>orR (oI P f false g args H) (oI P f true g args H) | _=>none
def qK (P:Program) (X:Ext) (f:Task→Option Res) (t:Task):Option Res:=match step P X f t with
 | some r=>some r
 | none=>Ai P f t
def DC (P:Program) (X:Ext) (n:Nat):Task→Option Res:=Nat.rec (fun _=>none) (fun _ ih=>qK P X ih) n
theorem iR (hD:aI P) {X:Ext} (hX:gJ P X):∀ n,az P (DC P X n)
 | 0=>fun t r h=>by cases h
 | n+1=>fun t r h=>by
  have h:(match step P X (DC P X n) t with | some r=>some r | none=>Ai P (DC P X n) t)=some r:=h
  split at h
  ·rename_i r' hr;cases h
   exact kS hD hX (iR hD hX n) _ _ hr
  ·cases t with
   | call g args H =>
    have h:orR (oI P (DC P X n) false g args H) (oI P (DC P X n) true g args H)=some r:=h
    unfold orR at h
    split at h
    ·rename_i r' hr;cases h;exact gQ (iR hD hX n) hr
    ·exact gQ (iR hD hX n) h
   | _=>cases h
def dU (P:Program) (X:Ext) (n:Nat) (e:Ent):Bool:=CG e (DC P X n (.call e.g e.args (bU e.rows)))
theorem bG (hD:aI P) {X:Ext} (hX:gJ P X) {e:Ent} {n:Nat} (hrun:dU P X n e=true) {args:List V} {H:EH} {m:Mt} (h:bK e.rows H e.args args=some m):SpecCall P e.g args H (qP H.next e.v) (bump H):=nT (iR hD hX n) hrun h
end
end Go.Ev
/- Calls with several outcomes, as they hang on the order of a map: followed up to a caller whose answer is the same in all of them. -/
namespace Go.Ev
open Go
noncomputable section
variable {P:Program}
def uK (P:Program) (g:FuncId) (args:List V) (H:EH) (l:List Res):Prop :=
  l ≠ [] ∧ (∀ r ∈ l, (∃ v H', r = .v v H') ∧ H.next ≤ r.H.next) ∧ (∃ fn c, P.funcs[g]? = some fn ∧ fn.name ≠ "runtime.NumGoroutine" ∧ fn.body = some c) ∧
  ∀ nx,(∀ r∈l,r.H.next≤nx)→∀ R w args' n,Rel R All H w→WF H→Free R H (nH nx)→AL R args args'→CallsIn Fence.wide n P g args' w (fun e w'=>∃ v H',Res.v v H'∈l∧qH R H v H' w e w')
abbrev rW:=FuncId→List V→EH→Option (List Res)
def KE (P:Program) (cl:rW):Prop:=∀ g args H l,cl g args H=some l→uK P g args H l
def Jj (a b:Option (List Res)):Option (List Res):=match a with | some l=>some l | none=>b
def Fa (k:V→EH→Option (List Res)) (r:Res):Option (List Res):=match r with | .v v H=>k v H | _=>none
def Ho (cl:rW) (fv:V) (args:List V) (H:EH) (k:V→EH→Option (List Res)):Option (List Res):=match fv with
 | .func g first captured=>(match cl g (app3 first args captured) H with | some l=>ja (bQ (l.map (Fa k))) | none=>none)
 | _=>none
def opsL (P:Program) (f:Task→Option Res) (cl:rW) (ops:Array Oper):List Oper→EA→EH→Option (List Res)
 | [],a,H=>some [.normal a H]
 | o::l,a,H=>match aP ops a o.guard with
  | .yes=>(match jZ P f a H o.op with
   | some p=>opsL P f cl ops l (a.put o.dst p.1) p.2
   | none=>(match kZ o.op with
    | .heavy g args=>Ho cl (a.eval g) (mapO a args.toList) H fun v H1=>opsL P f cl ops l (a.put o.dst v) H1
    | _=>none))
  | .no=>opsL P f cl ops l (a.put o.dst skp) H
  | .unk=>none
theorem DL {α:Type} {x:Option (List (List α))} {l:List α} (h:ja x=some l):∃ ll,x=some ll∧l=ll.flatten:=by
 cases x with
 | none=>cases h
 | some ll=>exact ⟨ll,rfl,(Option.some.inj h).symm⟩
theorem zn {f:Task→Option Res} (hs:az P f) {cl:rW} (hcl:KE P cl) (ops:Array Oper):∀ (l:List Oper) (a:EA) (H:EH) (lr:List Res),opsL P f cl ops l a H=some lr →
 lr≠[]∧(∀ r∈lr,(∃ a' H',r = .normal a' H')∧H.next≤r.H.next)∧∀ nx,(∀ r∈lr,r.H.next≤nx)→∀ R w A n rr,Rel R All H w→WF H→Free R H (nH nx)→AR R a A→∀ (Q:Exit→Act→World→Prop),
  (∀ a' H',Res.normal a' H'∈lr→∀ R' w' A',AR R' a' A'→SimA R R' H H' w w'→Q .normal A' w')→wpListIn (FF rr) n P ops Q l A w:=by
 intro l
 induction l with
 | nil =>
  intro a H lr h
  have h:some [Res.normal a H]=some lr:=h
  cases h
  exact ⟨by simp,fun r hr=>by rw [List.mem_singleton.1 hr];exact ⟨⟨a,H,rfl⟩,Nat.le_refl _⟩,fun nx _ R w A n rr hr hw _ ha Q hQ=>hQ a H (by simp) R w A ha (.refl hw hr)⟩
 | cons o l ih =>
  intro a H lr h
  unfold opsL at h
  cases hwt:aP ops a o.guard with
  | yes =>
   rw [hwt] at h
   simp only at h
   cases ho:jZ P f a H o.op with
   | some p =>
    obtain ⟨v,H1⟩:=p
    rw [ho] at h
    simp only at h
    obtain ⟨n1,k1⟩:=qy hs ho
    obtain ⟨g0,g1,k2⟩:=ih _ _ _ h
    refine ⟨g0,fun r hr=>⟨(g1 r hr).1,Nat.le_trans n1 (g1 r hr).2⟩,fun nx hnx R w A n rr hr hw hf ha Q hQ=>?_⟩
    have hb:H1.next≤nx:=by
     match lr,g0 with
     | r::_,_=>exact Nat.le_trans (g1 r List.mem_cons_self).2 (hnx r List.mem_cons_self)
    show if _ then _ else _
    rw [if_pos (jg ha hwt)]
    refine k1 R w A n rr hr hw (hf.top hb) ha _ _ fun R1 w1 x hx hsim=>?_
    have hle:=hsim.le hr (hf.top hb)
    refine k2 nx hnx R1 w1 _ n rr hsim.rel hsim.wf (hsim.free (H2:=nH nx) hf) ((ha.mono hle).put _ hx) Q fun a' H' hm R' w' A' ha' hsim'=>?_
    exact hQ a' H' hm R' w' A' ha' (hsim.trans hsim')
   | none =>
    rw [ho] at h
    simp only at h
    cases hk:kZ o.op with
    | light=>rw [hk] at h;cases h
    | heavy g args =>
     rw [hk] at h
     simp only at h
     obtain ⟨dst,op,type,pos,after,guard⟩:=o
     obtain ⟨ts,rfl⟩:=nN hk
     unfold Ho at h
     split at h
     ·rename_i gi first captured hfv
      split at h
      ·rename_i l1 hc1
       obtain ⟨s0,s1,⟨fn,c,c1,c2,c3⟩,s4⟩:=hcl _ _ _ _ hc1
       obtain ⟨ll,hal,rfl⟩:=DL h
       have each:∀ r∈l1,∃ lr∈ll,Fa (fun v H1=>opsL P f cl ops l (a.put dst v) H1) r=some lr:=fun r hr=>dB hal _ (List.mem_map.2 ⟨r,hr,rfl⟩)
       have back:∀ r'∈ll.flatten,∃ r∈l1,∃ lr,r'∈lr∧Fa (fun v H1=>opsL P f cl ops l (a.put dst v) H1) r=some lr:=fun r' hr'=>by
        obtain ⟨lr,q1,q2⟩:=List.mem_flatten.1 hr'
        obtain ⟨r,p1,p2⟩:=List.mem_map.1 (bI hal lr q1)
        exact ⟨r,p1,lr,q2,p2⟩
       have below:∀ r∈l1,∃ r'∈ll.flatten,r.H.next≤r'.H.next:=fun r hr=>by
        obtain ⟨lr,q1,q2⟩:=each r hr
        obtain ⟨⟨v,H1,rfl⟩,_⟩:=s1 r hr
        obtain ⟨k0,k1,_⟩:=ih _ _ _ (show opsL P f cl ops l (a.put dst v) H1=some lr from q2)
        match lr,k0 with
        | r'::lr',_=>exact ⟨r',List.mem_flatten.2 ⟨_,q1,List.mem_cons_self⟩,(k1 r' List.mem_cons_self).2⟩
       refine ⟨?_,fun r' hr'=>?_,fun nx hnx R w A n rr hr hw hf ha Q hQ=>?_⟩
       ·match l1,s0 with
        | r::_,_ =>
         obtain ⟨r',q,_⟩:=below r List.mem_cons_self
         exact List.ne_nil_of_mem q
       ·obtain ⟨r,p1,lr,p2,p3⟩:=back r' hr'
        obtain ⟨⟨v,H1,rfl⟩,n1⟩:=s1 r p1
        obtain ⟨_,k1,_⟩:=ih _ _ _ (show opsL P f cl ops l (a.put dst v) H1=some lr from p3)
        exact ⟨(k1 r' p2).1,Nat.le_trans n1 (k1 r' p2).2⟩
       ·have hb1:∀ r∈l1,r.H.next≤nx:=fun r hr=>by
         obtain ⟨r',q1,q2⟩:=below r hr
         exact Nat.le_trans q2 (hnx r' q1)
        show if _ then _ else _
        rw [if_pos (jg ha hwt)]
        have hv:=ha.eval g
        rw [hfv] at hv
        obtain ⟨l',m',e1,e2,e3⟩:∃ l' m',A.eval g = .func (.func gi) l' m'∧AL R first l'∧AL R captured m':=by
         generalize A.eval g=z at hv
         cases hv with
         | func hl hv hm hv'=>exact ⟨_,_,rfl,⟨hl,hv⟩,⟨hm,hv'⟩⟩
        refine ⟨fun f _=>jc rr f,?_⟩
        have h1:=eF (P:=P) c1 c2 c3 (l'++args.map A.eval++m') w
        have h1:(do let d←Deferred.ofValue (A.eval g) (args.map A.eval);invoke d.target d.args:Sem Next).run P w = .ok (.enter gi (l'++args.map A.eval++m')) w:=by rw [e1];exact h1
        rw [iK,Oper.semAt_eq rr A.eval _ (fun c e=>by cases e),mM,h1]
        refine ⟨(fun e=>by rw [jy] at e;cases e),(je (P:=P) (rr:=rr) (s4 nx hb1 R w _ (n-1) hr hw hf (AL.app3 e2 (AL.mapO fun x _=>ha.eval x) e3))).mono fun e w2 ⟨v,H1,hm1,x,R',ee,hx,hsim⟩=>?_⟩
        subst ee
        obtain ⟨lr,q1,q2⟩:=each _ hm1
        have hle:=hsim.le hr (hf.top (hb1 _ hm1))
        obtain ⟨_,_,k2⟩:=ih _ _ _ (show opsL P f cl ops l (a.put dst v) H1=some lr from q2)
        refine k2 nx (fun r hr=>hnx r (List.mem_flatten.2 ⟨lr,q1,hr⟩)) R' w2 _ n rr hsim.rel hsim.wf (hsim.free (H2:=nH nx) hf) ((ha.mono hle).put _ hx) Q fun a' H' hm R'' w' A' ha' hsim'=>?_
        exact hQ a' H' (List.mem_flatten.2 ⟨lr,q1,hm⟩) R'' w' A' ha' (hsim.trans hsim')
      ·cases h
     ·cases h
  | no =>
   rw [hwt] at h
   simp only at h
   obtain ⟨g0,g1,k2⟩:=ih _ _ _ h
   refine ⟨g0,g1,fun nx hnx R w A n rr hr hw hf ha Q hQ=>?_⟩
   show if _ then _ else _
   rw [if_neg (by rw [qi ha hwt];simp)]
   exact ⟨fun f _=>jc rr f,k2 nx hnx R w _ n rr hr hw hf (ha.put _ (VR.skp R)) Q hQ⟩
  | unk=>rw [hwt] at h;cases h
def G9 (l:Nat) (a1:EA) (r:Res):Option Res:=match r with
 | .v _ H2=>(match H2.objs.get l with
  | some (.loop st none tm n ps as bd df)=>cond (jT st) (some (.normal a1 (di H2 l .exhausted none tm n ps as bd df))) none
  | _=>none)
 | _=>none
def zZ (cl:rW) (g:Operand) (ps:Array Tmp) (as bd:Code) (a:EA) (H:EH):Option (List Res) :=
 fN H.next fun d=>fN (Nat.succ d) fun l=>match a.eval g with
  | .func gi first captured=>(match cl gi (app3 first [.yld l] captured) ⟨(H.objs.set d (.dfr true)).set l (.loop .ready none a.tm a.n ps as bd d),Nat.succ l,H.grps,H.low⟩ with
   | some lr=>bQ (lr.map (G9 l ⟨a.tm,a.n,d::a.df⟩))
   | none=>none)
  | _=>none
theorem mV {l:Nat} {a1:EA} {r r':Res} (h:G9 l a1 r=some r'):∃ v H2 st tm n ps as bd df,r = .v v H2∧H2.objs.get l=some (.loop st none tm n ps as bd df)∧jT st=true∧r' = .normal a1 (di H2 l .exhausted none tm n ps as bd df):=by
 unfold G9 at h
 split at h
 ·rename_i v H2
  split at h
  ·rename_i st tm n ps as bd df hl
   cases hb:jT st with
   | false=>rw [hb] at h;cases h
   | true=>rw [hb] at h;cases h;exact ⟨v,H2,st,tm,n,ps,as,bd,df,rfl,hl,hb,rfl⟩
  ·cases h
 ·cases h
theorem vz {cl:rW} (hcl:KE P cl) {g:Operand} {ps:Array Tmp} {as bd:Code} {a:EA} {H:EH} {l:List Res} (h:zZ cl g ps as bd a H=some l):bz P none (.rangeFunc g ps as bd) a H l:=by
 unfold zZ at h
 rw [aG,aG] at h
 split at h
 ·rename_i gi first captured hfv
  split at h
  ·rename_i lr hc
   obtain ⟨s0,s1,⟨fn',c',c1,c2,c3⟩,s4⟩:=hcl _ _ _ _ hc
   generalize hHd:(⟨H.objs.set H.next (.dfr true),Nat.succ H.next,H.grps,H.low⟩:EH)=Hd at *
   have hn:Hd.next=H.next+1:=by rw [← hHd]
   generalize hH1:(⟨(H.objs.set H.next (.dfr true)).set (Nat.succ H.next) (.loop .ready none a.tm a.n ps as bd H.next),Nat.succ (Nat.succ H.next),H.grps,H.low⟩:EH)=H1 at *
   have hH1':(⟨Hd.objs.set Hd.next (.loop .ready none a.tm a.n ps as bd H.next),Nat.succ Hd.next,Hd.grps,Hd.low⟩:EH)=H1:=by rw [← hH1,← hHd]
   have hn1:H1.next=H.next+2:=by rw [← hH1]
   have each:∀ r∈lr,∃ r'∈l,G9 (Nat.succ H.next) ⟨a.tm,a.n,H.next::a.df⟩ r=some r':=fun r hr=>dB h _ (List.mem_map.2 ⟨r,hr,rfl⟩)
   have back:∀ r'∈l,∃ r∈lr,G9 (Nat.succ H.next) ⟨a.tm,a.n,H.next::a.df⟩ r=some r':=fun r' hr'=>by
    obtain ⟨r,p1,p2⟩:=List.mem_map.1 (bI h r' hr')
    exact ⟨r,p1,p2⟩
   refine ⟨?_,fun r' hr'=>?_,fun nx hnx R w A n rr hr hw hf ha hro=>?_⟩
   ·match lr,s0 with
    | r::_,_ =>
     obtain ⟨r',q,_⟩:=each r List.mem_cons_self
     exact List.ne_nil_of_mem q
   ·obtain ⟨r,p1,p2⟩:=back r' hr'
    obtain ⟨v,H2,st,tm,n,ps',as',bd',df',rfl,hl2,hnb,rfl⟩:=mV p2
    have:=(s1 _ p1).2
    exact ⟨(fun v H' e=>by cases e),(by show H.next≤H2.next;have:H1.next≤H2.next:=this;omega)⟩
   ·have hb1:∀ r∈lr,r.H.next≤nx:=fun r hr=>by
     obtain ⟨r',q1,q2⟩:=each r hr
     obtain ⟨v,H2,st,tm,n,ps',as',bd',df',rfl,hl2,hnb,rfl⟩:=mV q2
     have:=hnx _ q1
     exact this
    have hnx1:H1.next≤nx:=by
     match lr,s0 with
     | r::_,_=>exact Nat.le_trans (s1 r List.mem_cons_self).2 (hb1 r List.mem_cons_self)
    cases rr with
    | some lr=>exact hro.elim
    | none =>
     refine wpIn_rangeFunc fun fn _=>?_
     obtain ⟨R0,sim0,hm0,_⟩:=iW hr hw (hf _ (Nat.le_refl _) (by show H.next<nx;omega)).1 (.dfr true) rfl (.deferred (some [])) 0 (fun R' hle hb _=>⟨rfl,_,(WA.alloc w _).neu,fun _=>rfl⟩) (WA.alloc w _)
     have sim0:=sim0.toA
     rw [hHd] at sim0
     have hle0:=sim0.le hr (hf.top (by omega))
     have hf0:Free R0 Hd (nH nx):=sim0.free hf
     have ha0:AR R0 a A:=ha.mono hle0
     have ha1:AR R0 ⟨a.tm,a.n,H.next::a.df⟩ { A with defers:=[rZ w.heap.size]++A.defers }:=⟨ha.tm.mono hle0,⟨_,hm0,rfl⟩,ha.df.mono hle0⟩
     have hsz:(w.alloc (.deferred (some []))).heap.size=w.heap.size+1:=(WA.alloc w _).size
     obtain ⟨w0,hw0⟩:∃ w0,w.alloc (.deferred (some []))=w0:=⟨_,rfl⟩
     have sim0:SimA R R0 H Hd w w0:=by rw [← hw0];exact sim0
     rw [hw0] at hsz
     have hvA:=ha0.eval g
     rw [hfv] at hvA
     obtain ⟨R1,simN,hm1,_⟩:=iW sim0.rel sim0.wf (hf0 _ (Nat.le_refl _) (by show Hd.next<nx;omega)).1 (.loop .ready none a.tm a.n ps as bd H.next) rfl
      (.loop { state := .ready,pending:=none,fn,tmps:=A.tmps,params:=ps,assign:=as,body:=bd,defers:=w.heap.size }) 0
      (fun R' hle hb _=>⟨rfl,_,(WA.alloc w0 _).neu,fun _=>⟨rfl,rfl,rfl,rfl,rfl,ha0.tm.mono hle,hle.bm _ _ hm0⟩⟩) (WA.alloc w0 _)
     have simN:=simN.toA
     rw [hH1'] at simN
     have hle1:=simN.le sim0.rel (hf0.top (by omega))
     have hf1:Free R1 H1 (nH nx):=simN.free hf0
     obtain ⟨l',m',e1,e2,e3⟩:∃ l' m',A.eval g = .func (.func gi) l' m'∧AL R0 first l'∧AL R0 captured m':=by
      generalize A.eval g=z at hvA
      cases hvA with
      | func hl hv hm hv'=>exact ⟨_,_,rfl,⟨hl,hv⟩,⟨hm,hv'⟩⟩
     refine ⟨w0.heap.size,[rZ w.heap.size],w0.alloc (.loop { state := .ready,pending:=none,fn,tmps:=A.tmps,params:=ps,assign:=as,body:=bd,defers:=w.heap.size }),{ target := .fn (.func gi) m',args:=l'++#[.func (.yield w0.heap.size) #[] #[]] },w0.alloc (.loop { state := .ready,pending:=none,fn,tmps:=A.tmps,params:=ps,assign:=as,body:=bd,defers:=w.heap.size }),gi,l'++#[.func (.yield w0.heap.size) #[] #[]]++m',w0.alloc (.loop { state := .ready,pending:=none,fn,tmps:=A.tmps,params:=ps,assign:=as,body:=bd,defers:=w.heap.size }),?_,?_,fun f' _=>jc none f',?_,(fun e=>by cases e),?_⟩
     ·have:=run_enterLoop_outer (P:=P) (w:=w) fn A.tmps ps as bd
      rw [hw0,← hsz] at this
      exact this
     ·show (Deferred.ofValue (A.eval g) (#[Operand.const (.func (.yield w0.heap.size) #[] #[])].map A.eval)).run P _=_
      rw [e1,show (#[Operand.const (.func (.yield w0.heap.size) #[] #[])].map A.eval)=#[.func (.yield w0.heap.size) #[] #[]] by simp [Act.eval]]
      rfl
     ·exact eF c1 c2 c3 _ _
     ·refine je (CallsIn.mono (s4 nx hb1 R1 _ _ (n-1) simN.rel simN.wf hf1 (AL.app3 (e2.mono hle1) (AL.one (.yld (show R1.bm (Nat.succ H.next)=some (w0.heap.size,0) by rw [hn] at hm1;exact hm1))) (e3.mono hle1))) fun e w3 ⟨v,H2,hmem,x,R2,ee,hx,sim2⟩=>?_)
      subst ee
      obtain ⟨r',q1,q2⟩:=each _ hmem
      obtain ⟨v',H2',st,tm,n',ps',as',bd',df',e0,hl2,hnb,rfl⟩:=mV q2
      cases e0
      have hle2:=sim2.le simN.rel (hf1.top (hb1 _ hmem))
      have hm2:=hle2.bm _ _ hm1
      rw [hn] at hm2
      obtain ⟨_,L2,z1,z2,z3,z4,z5,z6,z7,z8⟩:=jP sim2.rel hl2 hm2
      have simL:=gK sim2.rel sim2.wf hl2 hm2 z1 z4 z5 z6 z7 z8 .exhausted L2.pending
      refine ⟨L2.pending,_,run_endLoop z1 (by rw [z2];intro e;rw [e] at hnb;cases hnb),?_⟩
      rw [z3] at simL ⊢
      refine ⟨_,q1,R2,((sim0.trans simN).trans sim2).trans simL,(ha1.mono (hle1.trans hle2))⟩
  ·cases h
 ·cases h
def ku (P:Program) (f:Task→Option Res):Nat→Code→EA→EH→Option (List Res)
  | 0,_,_,_=>none
  | n+1,c,a,H =>
    let cl:rW:=fun g args H=>match P.funcs[g]? with
      | some fn => cond (decide (fn.name = "runtime.NumGoroutine")) none (match fn.body with
        | some c=>cond (Nat.ble (lenV args) fn.ntmps) (match ku P f n c ⟨fP false args,fn.ntmps,[]⟩ H with | some l=>bQ (l.map fun r=>ay P fn (some r)) | none=>none) none
        | none=>none)
      | none=>none
    match c with
    | .seq x y=>(match ku P f n x a H with | some l=>ja (bQ (l.map (dD (ku P f n y)))) | none=>none)
    | .block id c=>(match ku P f n c a H with | some l=>bQ (l.map fun r=>bH id (some r)) | none=>none)
    | .cond o x y=>(match a.eval o with | .bool b=>ku P f n (cond b x y) a H | _=>none)
    | .loop body=>Jj (yM (f (.code none (.loop body) a H))) (match bn body with | some ml=>pJ P f none ml a H | none=>none)
    | .region id ops d=>Jj (yM (f (.code none (.region id ops d) a H))) (cond d none (opsL P f cl ops ops.toList a H))
    | .rangeFunc g ps as bd=>Jj (yM (f (.code none (.rangeFunc g ps as bd) a H))) (zZ cl g ps as bd a H)
    | c=>yM (f (.code none c a H))
theorem vK {cd:Code→EA→EH→Option (List Res)} (hc:∀ c a H l,cd c a H=some l→bz P none c a H l) {g:FuncId} {args:List V} {H:EH} {l:List Res}
    (h:(match P.funcs[g]? with
      | some fn => cond (decide (fn.name = "runtime.NumGoroutine")) none (match fn.body with
        | some c=>cond (Nat.ble (lenV args) fn.ntmps) (match cd c ⟨fP false args,fn.ntmps,[]⟩ H with | some l=>bQ (l.map fun r=>ay P fn (some r)) | none=>none) none
        | none=>none)
      | none=>none)=some l):uK P g args H l:=by
  split at h
  · rename_i fn hfn
    rw [cond_eq_ite] at h
    split at h
    · cases h
    · rename_i hname
      have hname' : fn.name ≠ "runtime.NumGoroutine" := by simpa using hname
      split at h
      · rename_i c hcb
        rw [aj] at h
        split at h
        · rename_i hlen
          rw [lH] at hlen
          split at h
          · rename_i l1 hl1
            obtain ⟨g0,g1,g4⟩:=hc _ _ _ _ hl1
            have each:∀ r∈l1,∃ r'∈l,ay P fn (some r)=some r':=fun r hr=>dB h _ (List.mem_map.2 ⟨r,hr,rfl⟩)
            have back:∀ r'∈l,∃ r∈l1,ay P fn (some r)=some r':=fun r' hr'=>by
              obtain ⟨r,p1,p2⟩:=List.mem_map.1 (bI h r' hr')
              exact ⟨r,p1,p2⟩
            have lv:∀ r r',r∈l1→ay P fn (some r)=some r'→∃ a H1,(r = .normal a H1∨r = .ret a H1)∧leave P fn a H1=some r':=fun r r' hr e=>by
              cases r with
              | normal a H1=>exact ⟨a,H1,.inl rfl,e⟩
              | ret a H1=>exact ⟨a,H1,.inr rfl,e⟩
              | v v H1=>exact absurd rfl ((g1 _ hr).1 v H1)
              | exit id a H1=>cases e
            refine ⟨?_,fun r' hr'=>?_,⟨fn,c,hfn,hname',hcb⟩,fun nx hnx R w args' n hr hw hf ha=>?_⟩
            · match l1,g0 with
              | r::_,_ =>
                obtain ⟨r',q,_⟩:=each r List.mem_cons_self
                exact List.ne_nil_of_mem q
            · obtain ⟨r,p1,p2⟩:=back r' hr'
              obtain ⟨a,H1,hh,e⟩:=lv r r' p1 p2
              obtain ⟨v,H',rfl,n1,_⟩:=bZ e
              have:=(g1 r p1).2
              have e:r.H=H1:=by rcases hh with rfl | rfl<;>rfl
              rw [e] at this
              exact ⟨⟨v,H',rfl⟩,Nat.le_trans this n1⟩
            · have hb1:∀ r∈l1,r.H.next≤nx:=fun r p1=>by
                obtain ⟨r',q1,q2⟩:=each r p1
                obtain ⟨a,H1,hh,e⟩:=lv r r' p1 q2
                obtain ⟨v,H',rfl,n1,_⟩:=bZ e
                have e:r.H=H1:=by rcases hh with rfl | rfl<;>rfl
                rw [e]
                exact Nat.le_trans n1 (hnx _ q1)
              refine callsIn_of_wp_marks hfn hcb trivial ?_
              refine wpIn_mono (g4 nx hb1 R w _ n none hr hw hf (AR.enter ha hlen) trivial) fun e A w' ⟨ri,hri,R',hsim,hex⟩=>?_
              obtain ⟨r',q1,q2⟩:=each ri hri
              obtain ⟨a,H1,hh,hl⟩:=lv ri r' hri q2
              obtain ⟨v2,H2,rfl,n2,k⟩:=bZ hl
              have hH:ri.H=H1:=by rcases hh with rfl | rfl<;>rfl
              rw [hH] at hsim
              have key:AR R' a A→LeavesInM Fence.wide n P fn A.tmps (fun e w'=>∃ v H',Res.v v H'∈l∧qH R H v H' w e w') A.defers .returning w':=fun ha' =>
                k R' w' A n hsim.rel hsim.wf ha' _ fun x w'' hx hs'=>⟨v2,H2,q1,x,R',rfl,hx,hsim.trans hs'⟩
              rcases hh with rfl | rfl
              · cases e<;>first | exact hex.elim | exact key hex
              · cases e<;>first | exact hex.elim | exact key hex
          · cases h
        · cases h
      · cases h
  · cases h
theorem mW {a b:Option (List Res)} {l:List Res} (h:Jj a b=some l):a=some l∨b=some l:=by
 cases a with
 | some x=>exact .inl h
 | none=>exact .inr h
theorem Bv {f:Task→Option Res} (hs:az P f):∀ (n:Nat) (c:Code) (a:EA) (H:EH) (l:List Res),ku P f n c a H=some l→bz P none c a H l:=by
  intro n
  induction n with
  | zero=>intro c a H l h;cases h
  | succ n ih =>
    intro c a H l h
    have hcl:KE P (fun g args H=>match P.funcs[g]? with
      | some fn => cond (decide (fn.name = "runtime.NumGoroutine")) none (match fn.body with
        | some c=>cond (Nat.ble (lenV args) fn.ntmps) (match ku P f n c ⟨fP false args,fn.ntmps,[]⟩ H with | some l=>bQ (l.map fun r=>ay P fn (some r)) | none=>none) none
        | none=>none)
      | none=>none):=fun g args H l h=>vK ih h
    unfold ku at h
    cases c with
    | seq x y =>
      have h:(match ku P f n x a H with | some l=>ja (bQ (l.map (dD (ku P f n y)))) | none=>none)=some l:=h
      cases h1:ku P f n x a H with
      | none=>rw [h1] at h;cases h
      | some l1=>rw [h1] at h;exact uJ (ih x a H l1 h1) (fun a H l=>ih y a H l) h
    | block id c =>
      have h:(match ku P f n c a H with | some l=>bQ (l.map fun r=>bH id (some r)) | none=>none)=some l:=h
      cases h1:ku P f n c a H with
      | none=>rw [h1] at h;cases h
      | some l1=>rw [h1] at h;exact nV (ih c a H l1 h1) h
    | cond o x y =>
      have h:(match a.eval o with | .bool b=>ku P f n (cond b x y) a H | _=>none)=some l:=h
      split at h
      · rename_i b hb;exact rP hb (ih _ _ _ _ h)
      · cases h
    | loop body =>
      rcases mW h with h | h
      · exact dH hs h
      · cases hml:bn body with
        | none=>rw [hml] at h;cases h
        | some ml=>rw [hml] at h;exact qZ hs hml h
    | region id ops d =>
      rcases mW h with h | h
      · exact dH hs h
      · cases d with
        | true=>cases h
        | false =>
          obtain ⟨k0,k1,k2⟩:=zn hs hcl ops _ _ _ _ h
          refine ⟨k0,fun r hr=>?_,fun nx hnx R w A n rr hr hw hf ha _=>wpIn_region_list (k2 nx hnx R w A n rr hr hw hf ha _ fun a' H' hm R' w' A' ha' hs'=>⟨_,hm,R',hs',ha'⟩)⟩
          obtain ⟨⟨a',H',rfl⟩,q⟩:=k1 r hr
          exact ⟨(fun v H'' e=>by cases e),q⟩
    | rangeFunc g ps as bd =>
      rcases mW h with h | h
      · exact dH hs h
      · exact vz hcl h
    | _=>exact dH hs h
def wu (P:Program) (f:Task→Option Res) (g:FuncId) (args:List V) (H:EH):Option Res:=match P.funcs[g]? with
  | some fn => cond (decide (fn.name = "runtime.NumGoroutine")) none (match fn.body with
    | some c=>cond (Nat.ble (lenV args) fn.ntmps) (KI P fn H (ku P f 40 c ⟨fP false args,fn.ntmps,[]⟩ (lowTo H big))) none
    | none=>none)
  | none=>none
theorem wL {f:Task→Option Res} (hs:az P f) {g:FuncId} {args:List V} {H:EH} {r:Res} (h:wu P f g args H=some r):Spec P (.call g args H) r:=by
  unfold wu at h
  split at h
  · rename_i fn hfn
    rw [cond_eq_ite] at h
    split at h
    · cases h
    · rename_i hname
      have hname' : fn.name ≠ "runtime.NumGoroutine" := by simpa using hname
      split at h
      · rename_i c hc
        rw [aj] at h
        split at h
        · rename_i hlen
          rw [lH] at hlen
          cases hb:ku P f 40 c ⟨fP false args,fn.ntmps,[]⟩ (lowTo H big) with
          | none=>rw [hb] at h;cases h
          | some l =>
            rw [hb] at h
            have hsp:=Bv hs 40 _ _ _ _ hb
            cases l with
            | nil=>cases h
            | cons r0 l0 =>
              have h:(match ay P fn (some r0) with
                | some (.v (.slice b off len e) H1)=>FB P fn H (r0::l0) b off len e H1
                | _=>Jk P fn H (some (r0::l0)))=some r:=h
              split at h
              · exact rq hfn hname' hc hlen hsp h
              · exact qL hfn hname' hc hlen hsp h
        · cases h
      · cases h
  · cases h
def Gl (P:Program) (X:Ext) (g0:FuncId) (f:Task→Option Res) (t:Task):Option Res:=match t with
 | .call g args H=>cond (Nat.beq g g0) (wu P f g args H) (qK P X f t)
 | t=>qK P X f t
def Hg (P:Program) (X:Ext) (g0:FuncId) (n:Nat):Task→Option Res:=Nat.rec (fun _=>none) (fun _ ih=>Gl P X g0 ih) n
theorem lK (hD:aI P) {X:Ext} (hX:gJ P X) {f:Task→Option Res} (hs:az P f):az P (qK P X f):=fun t r h=>by
 have h:(match step P X f t with | some r=>some r | none=>Ai P f t)=some r:=h
 split at h
 ·rename_i r' hr;cases h
  exact kS hD hX hs _ _ hr
 ·cases t with
  | call g args H =>
   have h:orR (oI P f false g args H) (oI P f true g args H)=some r:=h
   unfold orR at h
   split at h
   ·rename_i r' hr;cases h;exact gQ hs hr
   ·exact gQ hs h
  | _=>cases h
theorem qF (hD:aI P) {X:Ext} (hX:gJ P X) (g0:FuncId):∀ n,az P (Hg P X g0 n)
 | 0=>fun t r h=>by cases h
 | n+1=>fun t r h=>by
  have h:Gl P X g0 (Hg P X g0 n) t=some r:=h
  have hs:=qF hD hX g0 n
  cases t with
  | call g args H =>
   have h:cond (Nat.beq g g0) (wu P (Hg P X g0 n) g args H) (qK P X (Hg P X g0 n) (.call g args H))=some r:=h
   cases hb:Nat.beq g g0 with
   | true=>rw [hb] at h;exact wL hs h
   | false=>rw [hb] at h;exact lK hD hX hs _ _ h
  | _=>exact lK hD hX hs _ _ h
def aZ (P:Program) (X:Ext) (g0:FuncId) (n:Nat) (e:Ent):Bool:=CG e (Hg P X g0 n (.call e.g e.args (bU e.rows)))
theorem aH (hD:aI P) {X:Ext} (hX:gJ P X) {g0:FuncId} {e:Ent} {n:Nat} (hrun:aZ P X g0 n e=true) {args:List V} {H:EH} {m:Mt} (h:bK e.rows H e.args args=some m):SpecCall P e.g args H (qP H.next e.v) (bump H):=nT (qF hD hX g0 n) hrun h
end
end Go.Ev
