/- Closed calls whose answers hold new rows, said of each call that looks the same, in whatever heap. -/
import Derived.Test.YtflblednifbleaaYEe
import Derived.Test.YtflblednifbleaaYEc
set_option linter.all false
set_option linter.unusedSimpArgs false
set_option linter.unusedVariables false
namespace Go.Ev
open Go
noncomputable section
variable {P:Program}
def JV (k:Nat) (t:T EO):T EO:=Nat.rec (motive:=fun _=>T EO) t (fun i ih=>ih.del i) k
theorem NE (t:T EO):∀ (k b:Nat),(JV k t).get b=if b<k then none else t.get b:=by
 intro k
 induction k with
 | zero=>intro b;rw [if_neg (by omega)];rfl
 | succ k ih =>
  intro b
  show ((JV k t).del k).get b=_
  rw [T.get_del,ih]
  by_cases e:b=k
  ·subst e;rw [if_pos rfl,if_pos (by omega)]
  ·rw [if_neg e]
   by_cases h:b<k
   ·rw [if_pos h,if_pos (by omega)]
   ·rw [if_neg h,if_neg (by omega)]
def RU (k:Nat) (H:EH):EH:=⟨JV k H.objs,H.next,H.grps,H.low⟩
def SG (e:Ent) (r:Option Res):Bool:=match r with | some (.v v H')=>cond (Nat.ble (eY e.rows) H'.low) (V8 (RU (eY e.rows) H') v e.v) false | _=>false
def uq (P:Program) (X:Ext) (n:Nat) (e:Ent):Bool:=SG e (ev P X n (.call e.g e.args (iR e.rows)))
theorem Oo {rows:List (Nat×T V)} {args0 args:List V} {H:EH} {m:Mt} (h:gy rows H args0 args=some m) {R:Ren} {w:World} {args':Array Value} (hr:Rel R All H w) (ha:AL R args args') :
 Rel (kG R m) All (iR rows) w∧(∀ b,rows.length≤b→(kG R m).bm b=none)∧AL (kG R m) args0 args':=by
 obtain ⟨hm,hrows,hal⟩:=yB h
 have hobj:∀ b0 o r d,(iR rows).objs.get b0=some o→(kG R m).bm b0=some (r,d)→∃ sz0 c0 b c lo sz g,o = .cells c0 0 sz0 b0∧(b0,b,g)∈m∧R.bm b=some (r,d)∧H.block b = .mk c lo sz g∧lo=0∧sz0≤sz∧yP m c0 c sz0 0=true:=fun b0 o r d ho hb=>by
  obtain ⟨row,p1,p2,_⟩:=dO ho
  have hb:(kP m b0).bind R.bm=some (r,d):=hb
  cases hbm:kP m b0 with
  | none=>rw [hbm] at hb;cases hb
  | some b =>
   rw [hbm] at hb
   obtain ⟨g,hg⟩:=rX hbm
   have:=(hm.at_cons hg).2
   unfold vV at this
   rw [fB,p1] at this
   split at this
   ·rename_i sz0 c0 c lo sz g' q1 q2
    cases q1
    rw [aH] at this
    by_cases hl:lo=0
    ·rw [if_pos hl,bg] at this
     by_cases hs:sz0≤sz
     ·rw [if_pos hs] at this
      cases this
      obtain ⟨sz1,c1,c',lo',sz',g',z1,z2,q3⟩:=qE hrows _ hg
      rw [fB,p1] at z1
      cases z1
      rw [q2] at z2
      cases z2
      exact ⟨sz0,c0,b,c,lo,sz,_,p2,hg,hb,q2,hl,hs,q3⟩
     ·rw [if_neg hs] at this;cases this
    ·rw [if_neg hl] at this;cases this
   ·cases this
 refine ⟨⟨fun b0 r d hb=>?_,fun b0 o r d ho hb=>?_,fun b0 b0' o o' r d d' ho ho' hb hb'=>?_,fun a r cs e=>(by cases e)⟩,fun b h1=>?_,hal R args' ha⟩
 ·have hb:(kP m b0).bind R.bm=some (r,d):=hb
  cases hbm:kP m b0 with
  | none=>rw [hbm] at hb;cases hb
  | some b=>rw [hbm] at hb;exact hr.img b r d hb
 ·obtain ⟨sz0,c0,b,c,lo,sz,g,rfl,hg,hb1,hbk,hl,hs,hrow⟩:=hobj b0 o r d ho hb
  obtain ⟨q1,q2⟩:=aV hbk
  obtain ⟨cs,t,fz,r1,r2,r3,r4⟩:=hr.obj b _ r d q1 hb1
  refine ⟨cs,t,fz,r1,r2,r3,fun _ _ i h1 h2=>?_⟩
  obtain ⟨d1,x,y,s1,s2,s3,s4⟩:=r4 trivial q2 i (by omega) (by omega)
  obtain ⟨x',y',t1,t2,t3⟩:=AQ hrow i h2
  rw [Nat.zero_add] at t1 t2
  rw [s1] at t2;cases t2
  rcases t3 with ⟨rfl,t3⟩ | ⟨b0',b',o',l',e',rfl,rfl,t3⟩
  ·exact ⟨d1,x',y,t1,s2,s3,s4.down0 (R1:=R) (n:=0) ⟨fun b hb=>by omega,fun b r d hb=>by omega,fun a ha=>by omega⟩ t3⟩
  ·refine ⟨d1,_,y,t1,rfl,s3,?_⟩
   cases s4 with
   | slice v1 v2 v3 v4=>exact .slice (by show (kP m b0').bind R.bm=_;unfold kP;rw [← Qi,t3];exact v1) v2 v3 v4
 ·obtain ⟨sz0,c0,b,c,lo,sz,g,rfl,hg,hb1,hbk,_⟩:=hobj b0 o r d ho hb
  obtain ⟨sz0',c0',b',c',lo',sz',g',rfl,hg',hb1',hbk',_⟩:=hobj b0' o' r d' ho' hb'
  have g1:=(aV hbk).1
  have g2:=(aV hbk').1
  rcases hr.inj b b' _ _ r d d' g1 g2 hb1 hb1' with q | ⟨_,_,_,q⟩
  ·subst q
   rw [g1] at g2;cases g2
   exact .inl (hm.roots hg hg')
  ·have q:g=g':=q
   subst q
   exact .inl (hm.roots hg hg')
 ·show (kP m b).bind R.bm=none
  cases hbm:kP m b with
  | none=>rfl
  | some b' =>
   obtain ⟨g,hg⟩:=rX hbm
   have:=(hm.at_cons hg).2
   unfold vV at this
   rw [fB,List.getElem?_eq_none h1] at this
   cases this
theorem FX {f:Task→Option Res} (hs:dQ P f) {e:Ent} (hrun:SG e (f (.call e.g e.args (iR e.rows)))=true) {args:List V} {H:EH} {m:Mt} (h:gy e.rows H e.args args=some m):SpecCall P e.g args H (zy H.next e.v) (bump H):=by
 unfold SG at hrun
 split at hrun
 ·rename_i v H' hev
  obtain ⟨a3,a1⟩:=ax hrun
  have a3:=Nat.le_of_ble_eq_true a3
  rw [iP] at a3 a1
  obtain ⟨v1,H1,e1,n1,hfn,k⟩:=hs _ _ hev
  cases e1
  have hnx:(iR e.rows).next=e.rows.length:=iP _
  refine ⟨Nat.le_succ _,hfn,fun R w args' n' hr hw hf ha=>?_⟩
  obtain ⟨hr0,hno,hal⟩:=Oo h hr ha
  have hfn0:=hf H.next (Nat.le_refl _) (Nat.lt_succ_self _)
  have hfree:Free (kG R m) (iR e.rows) H':=fun b h1 _=>⟨hno b (by rw [hnx] at h1;exact h1),fun _=>rfl⟩
  refine CallsIn.mono (k (kG R m) w args' n' hr0 (BF _) hfree hal) fun en w' ⟨x,R',e1,e2,e3⟩=>?_
  have hkeep:∀ r,r<w.heap.size→w'.heap[r]?=w.heap[r]?:=fun r hr=>e3.fr.keep r hr fun b o d ho hb q=>by
   obtain ⟨row,_,rfl,hlt⟩:=dO ho
   have q:H'.low≤b:=q
   omega
  let R2:Ren:=⟨R.bm,R.zs,fun a r=>if a=H.next then (if w.heap.size≤r then (match w'.heap[r]? with | some (.cells cs _ _)=>some cs | _=>none) else none) else R.cz a r⟩
  have hR2:∀ r cs t fz,w.heap.size≤r→w'.heap[r]?=some (.cells cs t fz)→R2.cz H.next r=some cs:=fun r cs t fz h1 h2=>by
   show (if H.next=H.next then (if w.heap.size≤r then (match w'.heap[r]? with | some (.cells cs _ _)=>some cs | _=>none) else none) else R.cz H.next r)=some cs
   rw [if_pos rfl,if_pos h1,h2]
  have hcz:∀ a r cs,R2.cz a r=some cs→(a≠H.next∧R.cz a r=some cs)∨(a=H.next∧w.heap.size≤r∧∃ t fz,w'.heap[r]?=some (.cells cs t fz)):=fun a r cs e=>by
   have e:(if a=H.next then (if w.heap.size≤r then (match w'.heap[r]? with | some (.cells cs _ _)=>some cs | _=>none) else none) else R.cz a r)=some cs:=e
   split at e
   ·rename_i ea
    split at e
    ·rename_i hz
     split at e
     ·rename_i c t fz hc;cases e;exact .inr ⟨ea,hz,t,fz,hc⟩
     ·cases e
    ·cases e
   ·rename_i ea;exact .inl ⟨ea,e⟩
  have hrel':=SimA.rel e3
  have hgd:∀ b o,(RU e.rows.length H').objs.get b=some o→e.rows.length≤b∧H'.objs.get b=some o:=fun b o ho=>by
   have ho:(JV e.rows.length H'.objs).get b=some o:=ho
   rw [NE] at ho
   by_cases q:b<e.rows.length
   ·rw [if_pos q] at ho;cases ho
   ·rw [if_neg q] at ho;exact ⟨by omega,ho⟩
  have hrelD:Rel R' All (RU e.rows.length H') w':=⟨hrel'.img,fun b o r d ho hb=>(hrel'.obj b o r d (hgd b o ho).2 hb).mono (.refl _) hb rfl (fun _=>trivial) (fun v=>by cases o<;>exact v),
   fun b b' o o' r d d' ho ho'=>hrel'.inj b b' o o' r d d' (hgd b o ho).2 (hgd b' o' ho').2,hrel'.frz⟩
  have hv:VR R2 (zy H.next e.v) x:=by
   refine Wx (R':=R') (R2:=R2) (w':=w') (k:=0) hrelD (fun a r cs ha q=>?_) (fun b r d o ho hb cs t fz q=>?_) (TI a1 H.next) e2
   ·rcases e3.rx.czn a r cs q with z | z
    ·cases z
    ·obtain ⟨⟨t,fz,hc⟩,_⟩:=hrel'.frz a r cs q
     exact hR2 r cs t fz z hc
   ·refine hR2 r cs t fz ?_ q
    obtain ⟨g1,g2⟩:=hgd b o ho
    have hlt:=e3.wf.lt b o g2
    rcases e3.rx.neu b r d (by rw [hnx];exact g1) hlt hb with z | ⟨b0,o0,o1,z1,z2,z3,z4,z5,z6⟩
    ·exact z
    ·exfalso
     obtain ⟨row,_,rfl,hlt0⟩:=dO z1
     rw [g2] at z3;cases z3
     have z6:b0=aG b o:=z6
     rcases e3.es.neu b o g2 (by rw [hnx];exact g1) with y | y
     ·rw [hnx] at y;omega
     ·have y:H'.low≤aG b o:=y
      omega
  refine ⟨x,R2,e1,hv,⟨⟨Nat.le_succ _,Nat.le_refl _,fun b o h=>⟨o,h,rfl,rfl⟩,fun b o h _=>⟨h,rfl⟩,fun b o h _=>⟨o,h⟩,Du hw,fun g h=>h,fun b o h hb=>absurd (hw.lt b o h) (by omega)⟩,
   ⟨fun _ _=>rfl,fun _ _=>rfl,fun b r d h1 h2 e=>?_,fun a ha=>?_,fun a r cs e=>?_⟩,⟨e3.fr.os,e3.fr.tape,e3.fr.output,e3.fr.size,fun r hr _=>hkeep r hr⟩,
   ⟨fun b r d hb=>Nat.lt_of_lt_of_le (hr.img b r d hb) e3.fr.size,fun b o r d ho hb=>(hr.obj b o r d ho hb).mono (R':=R2) ⟨fun _ _ e=>e,fun _ _ _ _=>rfl,fun a r cs e=>?_⟩ hb (hkeep r (hr.img b r d hb)) (fun _=>trivial) (fun v=>by cases o<;>exact v),hr.inj,fun a r cs e=>?_⟩⟩⟩
  ·have h2:b<H.next+1:=h2
   have:b=H.next:=by omega
   subst this
   have e:R.bm H.next=some (r,d):=e
   rw [hfn0.1] at e;cases e
  ·funext r
   show (if a=H.next then _ else R.cz a r)=R.cz a r
   rw [if_neg (fun q=>ha ⟨by omega,by show a<H.next+1;omega⟩)]
  ·rcases hcz a r cs e with ⟨_,q⟩ | ⟨_,q,_⟩
   ·exact .inl q
   ·exact .inr q
  ·show (if a=H.next then _ else R.cz a r)=some cs
   rw [if_neg (fun q=>by rw [q,hfn0.2 r] at e;cases e)];exact e
  ·rcases hcz a r cs e with ⟨_,q⟩ | ⟨_,q,t,fz,hc⟩
   ·obtain ⟨⟨t,fz,z1⟩,z2⟩:=hr.frz a r cs q
    exact ⟨⟨t,fz,(hkeep r (hr.frz.lt q)).trans z1⟩,z2⟩
   ·refine ⟨⟨t,fz,hc⟩,fun b d z=>?_⟩
    have:=hr.img b r d z
    omega
 ·cases hrun
theorem kE (hD:aN P) {X:Ext} (hX:dC P X) {e:Ent} {n:Nat} (hrun:uq P X n e=true) {args:List V} {H:EH} {m:Mt} (h:gy e.rows H e.args args=some m):SpecCall P e.g args H (zy H.next e.v) (bump H):=FX (nY hD hX n) hrun h
def Ents2OK (P:Program) (es:List Ent):Prop:=∀ e∈es,∀ (args:List V) (H:EH) (m:Mt),gy e.rows H e.args args=some m→SpecCall P e.g args H (zy H.next e.v) (bump H)
theorem Ents2OK.nil:Ents2OK P []:=fun _ h=>by cases h
theorem Ents2OK.cons {e:Ent} {es:List Ent} (h:∀ (args:List V) (H:EH) (m:Mt),gy e.rows H e.args args=some m→SpecCall P e.g args H (zy H.next e.v) (bump H)) (k:Ents2OK P es):Ents2OK P (e::es):=fun e' he=>by
 rcases List.mem_cons.1 he with rfl | he
 ·exact h
 ·exact k e' he
def qp (es:List Ent) (g:FuncId) (args:List V) (H:EH):Option (Bool×V):=List.rec (motive:=fun _=>Option (Bool×V)) none
 (fun e _ ih=>cond (Nat.beq e.g g) (cond (wW (gy e.rows H e.args args)) (some (true,zy H.next e.v)) ih) ih) es
def orE (a b:Option (Bool×V)):Option (Bool×V):=match a with | some r=>some r | none=>b
def Q3 (es es2:List Ent):Ext:=⟨fun g=>cond (ni es g) (some fun args H=>orE (zt es g args H) (qp es2 g args H)) (cond (ni es2 g) (some (qp es2 g)) none),false⟩
theorem yL {g:FuncId} {args:List V} {H:EH} {v:V}:∀ {es:List Ent},qp es g args H=some (true,v)→∃ e∈es,e.g=g∧(∃ m,gy e.rows H e.args args=some m)∧zy H.next e.v=v
 | [],h=>by cases h
 | e::es,h=>by
  have h:cond (Nat.beq e.g g) (cond (wW (gy e.rows H e.args args)) (some (true,zy H.next e.v)) (qp es g args H)) (qp es g args H)=some (true,v):=h
  have rest:qp es g args H=some (true,v)→∃ e'∈e::es,e'.g=g∧(∃ m,gy e'.rows H e'.args args=some m)∧zy H.next e'.v=v:=fun h=>by
   obtain ⟨e',h1,h2⟩:=yL h
   exact ⟨e',List.mem_cons_of_mem _ h1,h2⟩
  cases h1:Nat.beq e.g g with
  | false=>rw [h1] at h;exact rest h
  | true =>
   rw [h1] at h
   cases hm:gy e.rows H e.args args with
   | none=>rw [hm] at h;exact rest h
   | some m=>rw [hm] at h;cases h;exact ⟨e,List.mem_cons_self,nb h1,⟨m,hm⟩,rfl⟩
theorem G5 {es es2:List Ent} (h:EntsOK P es) (h2:Ents2OK P es2):dC P (Q3 es es2):=fun g x args H v hx hv=>by
 have hx:cond (ni es g) (some fun args H=>orE (zt es g args H) (qp es2 g args H)) (cond (ni es2 g) (some (qp es2 g)) none)=some x:=hx
 have two:qp es2 g args H=some (true,v)→SpecCall P g args H v (bump H):=fun hv=>by
  obtain ⟨e,h1,rfl,⟨m,h3⟩,rfl⟩:=yL hv
  exact h2 e h1 args H m h3
 cases hn:ni es g with
 | false =>
  rw [hn] at hx
  cases hn2:ni es2 g with
  | false=>rw [hn2] at hx;cases hx
  | true=>rw [hn2] at hx;cases hx;exact two hv
 | true =>
  rw [hn] at hx
  cases hx
  have hv:orE (zt es g args H) (qp es2 g args H)=some (true,v):=hv
  cases ht:zt es g args H with
  | none=>rw [ht] at hv;exact two hv
  | some r =>
   rw [ht] at hv
   cases hv
   obtain ⟨e,h1,rfl,⟨m,h3⟩,rfl⟩:=uF ht
   exact (h e h1 args H m h3).bump
end
end Go.Ev
