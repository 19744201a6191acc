/- Contracts, where rows of numbers that lie in memory are handed in: they are read as if they were frozen, as long as the call runs. -/
import Derived.Test.YthakjbbhbnhmeaaGreatYEd
set_option linter.all false
set_option linter.unusedSimpArgs false
set_option linter.unusedVariables false
namespace Go.Ev
open Go
noncomputable section
variable {P:Program}
def iW (R:Ren) (H:EH) (w:World):Ren:=⟨R.bm,R.zs,fun a r=>if a=H.next then (match w.heap[r]? with | some (.cells cs _ _)=>some cs | _=>none) else R.cz a r⟩
theorem Az {R:Ren} {H:EH} {w:World} {r:Nat} {cs:Array Value} {t:TypeId} {fz:Nat×Nat} (h:w.heap[r]?=some (.cells cs t fz)):(iW R H w).cz H.next r=some cs:=by
 show (if H.next=H.next then (match w.heap[r]? with | some (.cells cs _ _)=>some cs | _=>none) else _)=_
 rw [if_pos rfl,h]
theorem JF {R:Ren} {H:EH} {w:World} {a r:Nat} {cs:Array Value} (h:(iW R H w).cz a r=some cs):R.cz a r=some cs∨∃ t fz,w.heap[r]?=some (.cells cs t fz):=by
 have h:(if a=H.next then (match w.heap[r]? with | some (.cells cs _ _)=>some cs | _=>none) else R.cz a r)=some cs:=h
 split at h
 ·split at h
  ·rename_i c t fz hc;cases h;exact .inr ⟨t,fz,hc⟩
  ·cases h
 ·exact .inl h
theorem oZ {R:Ren} {H:EH} {w:World} (hf:∀ r,R.cz H.next r=none):R.le (iW R H w):=by
 refine ⟨fun _ _ e=>e,fun _ _ _ _=>rfl,fun a r cs e=>?_⟩
 show (if a=H.next then _ else R.cz a r)=some cs
 rw [if_neg (fun q=>by rw [q,hf r] at e;cases e)];exact e
def qQ (c:T V) (n:Nat):Nat→Option (List Int):=Nat.rec (motive:=fun _=>Nat→Option (List Int)) (fun _=>some []) (fun _ ih p=>match c.get p with | some (.int .i64 x)=>iY x (ih (Nat.succ p)) | _=>none) n
def V4 (l:List Int):Nat→Int:=List.rec (motive:=fun _=>Nat→Int) (fun _=>0) (fun x _ ih i=>match i with | 0=>x | Nat.succ i=>ih i) l
theorem MJ {c:T V}:∀ {n p:Nat} {l:List Int},qQ c n p=some l→∀ i,i<n→c.get (p+i)=some (.int .i64 (V4 l i)):=by
 intro n
 induction n with
 | zero=>intro p l h i hi;omega
 | succ n ih =>
  intro p l h i hi
  have h:(match c.get p with | some (.int .i64 x)=>iY x (qQ c n (p+1)) | _=>none)=some l:=h
  split at h
  ·rename_i x hx
   obtain ⟨l',h2,rfl⟩:=dN h
   cases i with
   | zero=>rw [Nat.add_zero,hx];rfl
   | succ i=>rw [show p+(i+1)=p+1+i by omega];exact ih h2 i (by omega)
  ·cases h
def jY (l:List Int) (e:Nat):Nat→Nat→Int:=fun i j=>V4 l (Nat.add (Nat.mul i e) j)
def IB (n:Nat) (v:V):V:=match v with | .fz _ _ c len e => .fz true n c len e | v=>v
def Bg (H:EH) (v:V):Option V:=match v with
 | .fz _ a c len e=>cond (Nat.ble a H.next) (some (.fz true H.next c len e)) none
 | .slice b off len e=>(match H.block b with
  | .mk c lo sz _=>cond (Nat.ble lo off) (cond (Nat.ble (Nat.add off (Nat.mul len e)) sz) (match qQ c (Nat.mul len e) off with | some l=>some (.fz true H.next (ay .i64 (jY l e)) len e) | none=>none) none) none
  | .no=>none)
 | _=>none
def jE (H:EH) (c:T V) (n:Nat):Nat→Option (List V):=Nat.rec (motive:=fun _=>Nat→Option (List V)) (fun _=>some []) (fun _ ih p=>match c.get p with | some v=>(match Bg H v with | some r=>iY r (ih (Nat.succ p)) | none=>none) | none=>none) n
def xR (l:List V):Nat→V:=List.rec (motive:=fun _=>Nat→V) (fun _ => .fz true 0 (fun _ _ => .bad) 0 1) (fun x _ ih i=>match i with | 0=>x | Nat.succ i=>ih i) l
abbrev RL:=List (Nat×(Nat→Nat→Int))
def lsL (l:RL):Nat→Nat:=List.rec (motive:=fun _=>Nat→Nat) (fun _=>0) (fun x _ ih i=>match i with | 0=>x.1 | Nat.succ i=>ih i) l
def fsL (l:RL):Nat→Nat→Nat→Int:=List.rec (motive:=fun _=>Nat→Nat→Nat→Int) (fun _ _ _=>0) (fun x _ ih i=>match i with | 0=>x.2 | Nat.succ i=>ih i) l
def Jh (a e0:Nat) (l:List V):Option RL:=List.rec (motive:=fun _=>Option RL) (some []) (fun v _ ih=>match v with
 | .fz _ a' c len e=>cond (Nat.beq a' a) (cond (Nat.beq e e0) (match ih with | some r=>some ((len,fun j k=>eP (c j k))::r) | none=>none) none) none
 | _=>none) l
def okW (l:List V):Bool:=List.rec (motive:=fun _=>Bool) true (fun v _ ih=>match v with | .fz _ _ c len e=>cond (gG .i64 c len e) ih false | _=>ih) l
def PX (l:List V):Nat:=match l with | .fz _ _ _ _ e::_=>e | _=>1
def BB (H:EH) (v:V) (len e:Nat) (l:List V):V:=match Jh H.next (PX l) l with | some L => .fz true H.next (Du H.next (PX l) (lsL L) (fsL L)) len e | none=>v
def view (H:EH) (v:V):V:=match v with
 | .slice b off len e=>(match H.block b with
  | .mk c lo sz _=>cond (Nat.ble lo off) (cond (Nat.ble (Nat.add off (Nat.mul len e)) sz) (match qQ c (Nat.mul len e) off with
   | some l => .fz true H.next (ay .i64 (jY l e)) len e
   | none=>cond (Nat.beq e 1) (match jE H c len off with | some l=>BB H v len e l | none=>v) v) v) v
  | .no=>v)
 | .fz _ a c len e=>cond (Nat.ble a H.next) (.fz true H.next (fun i j=>IB H.next (c i j)) len e) v
 | v=>v
def P8 (H:EH) (v:V):Bool:=match v with
 | .slice b off len e=>(match H.block b with
  | .mk c _ _ _=>(match qQ c (Nat.mul len e) off with
   | some _=>true
   | none=>(match jE H c len off with | some l=>okW l | none=>true))
  | .no=>true)
 | _=>true
def N7 (H:EH) (l:List V):Bool:=List.rec (motive:=fun _=>Bool) true (fun v _ ih=>cond (P8 H v) ih false) l
def Oc (H:EH) (v:V):Bool:=match v with
 | .agg n c=>(match cellL c n 0 with | some l=>N7 H l | none=>true)
 | v=>P8 H v
def mX (H:EH) (l:List V):Bool:=List.rec (motive:=fun _=>Bool) true (fun v _ ih=>cond (Oc H v) ih false) l
def qh (H:EH) (l:List V):List V:=List.rec (motive:=fun _=>List V) [] (fun v _ ih=>view H v::ih) l
def CY (H:EH) (v:V):V:=match v with
 | .agg n c=>(match cellL c n 0 with | some l => .agg n (T.setL .lf 0 (qh H l)) | none=>v)
 | v=>view H v
def ig (H:EH) (l:List V):List V:=List.rec (motive:=fun _=>List V) [] (fun v _ ih=>CY H v::ih) l
theorem vC {R:Ren} {H:EH} {w:World} (hr:Rel R All H w) {b off len e lo sz g:Nat} {c:T V} {x:Value} (h:VR R (.slice b off len e) x) (hb:H.block b = .mk c lo sz g) (hl:lo≤off) (hz:off+len*e≤sz) {l:List Int} (hi:qQ c (len*e) off=some l) :
 VR (iW R H w) (.fz true H.next (ay .i64 (jY l e)) len e) x:=by
 cases h with
 | slice hm ho hle hzz =>
  rename_i r dd o cap
  obtain ⟨cs,t,fz,a1,a2,a3,a4⟩:=hr.row hb hm trivial
  by_cases h0:len=0
  ·subst h0;exact .fzE (fun q=>by cases q)
  ·have hcap:cap≠0:=by omega
   have ho':=ho hcap
   have key:∀ i j,i<len→j<e→cs[o+(i*e+j)]?=some (.int .i64 (jY l e i j)):=fun i j hi' hj=>by
    have hlt:i*e+j<len*e:=by
     have:(i+1)*e≤len*e:=Nat.mul_le_mul_right _ hi'
     rw [Nat.add_mul] at this;omega
    obtain ⟨p,x,y,e1,e2,e3,e4⟩:=a4 (off+(i*e+j)) (by omega) (by omega)
    have hq:c.get (off+(i*e+j))=some (.int .i64 (jY l e i j)):=MJ hi _ hlt
    rw [hq] at e1
    have e1:=Option.some.inj e1
    rw [← e1] at e4
    rw [show off+(i*e+j)-dd=o+(i*e+j) by omega] at e3
    cases e4
    rw [e3]
   exact .fz (fun i j => .int .i64 (jY l e i j)) (Az a1) hle key (fun _ _ _ _=>rfl) (fun _ _ _ _ => .int _ _) fun _ _ _ _ => .int _ _
theorem IR {R:Ren} {H:EH} {w:World} (hr:Rel R All H w) {a r:Nat} {cs:Array Value} (h:R.cz a r=some cs):(iW R H w).cz H.next r=some cs:=by
 obtain ⟨⟨t,fz,e⟩,_⟩:=hr.frz a r cs h
 exact Az e
theorem Ir {R:Ren} {H:EH} {w:World} (hr:Rel R All H w) (hf:∀ r,R.cz H.next r=none) {q:Bool} {a len e:Nat} {c:Nat→Nat→V} {x:Value} (h:VR R (.fz q a c len e) x) (ha:a≤H.next):VR (iW R H w) (.fz true H.next c len e) x:=by
 cases h with
 | fzN=>exact .fzN
 | fzE h0=>exact .fzE (fun q=>by cases q)
 | fz y hc hl hy hs hag hv h0=>exact .fz y (IR hr hc) hl hy hs (fun i j hi hj=>(hag i j hi hj).mono ha) fun i j hi hj=>(hv i j hi hj).mono (oZ hf)
theorem EK {n:Nat} {v:V} {a:Nat} (h:Aged a v) (ha:a≤n):Aged n (IB n v):=by
 cases h with
 | fz k hb h=>exact .fz true (Nat.le_refl _) fun i j hi hj=>(h i j hi hj).mono ha
 | _=>constructor
theorem Ox {R:Ren} {H:EH} {w:World} (hr:Rel R All H w) (hf:∀ r,R.cz H.next r=none) {q:Bool} {a len e:Nat} {c:Nat→Nat→V} {x:Value} (h:VR R (.fz q a c len e) x) (ha:a≤H.next):VR (iW R H w) (.fz true H.next (fun i j=>IB H.next (c i j)) len e) x:=by
 cases h with
 | fzN=>exact .fzN
 | fzE h0=>exact .fzE (fun q=>by cases q)
 | fz y hc hl hy hs hag hv h0 =>
  refine .fz y (IR hr hc) hl hy (fun i j hi hj=>?_) (fun i j hi hj=>EK (hag i j hi hj) ha) fun i j hi hj=>?_
  ·have:=hs i j hi hj
   cases e:c i j<;>first | rfl | (rw [e] at this;exact this)
  ·have h1:=hv i j hi hj
   have h2:=hag i j hi hj
   show VR _ (IB H.next (c i j)) (y i j)
   cases e:c i j with
   | fz q' a' c' len' e' =>
    rw [e] at h1 h2
    cases h2 with
    | fz _ hb _=>exact Ir hr hf h1 (Nat.le_trans hb ha)
   | _=>rw [e] at h1;exact h1.mono (oZ hf)
theorem RY {R:Ren} {H:EH} {w:World} (hr:Rel R All H w) (hf:∀ r,R.cz H.next r=none) {v r:V} (hv:Bg H v=some r) {x:Value} (h:VR R v x):VR (iW R H w) r x∧aQ r=true∧(∀ b,VR (iW R H w) r b→True):=by
 unfold Bg at hv
 split at hv
 ·rename_i q a c len e
  cases h1:Nat.ble a H.next with
  | false=>rw [h1] at hv;cases hv
  | true=>rw [h1] at hv;cases hv;exact ⟨Ir hr hf h (Nat.le_of_ble_eq_true h1),rfl,fun _ _=>trivial⟩
 ·rename_i b off len e
  split at hv
  ·rename_i c lo sz g hb
   cases h1:Nat.ble lo off with
   | false=>rw [h1] at hv;cases hv
   | true =>
    cases h2:Nat.ble (Nat.add off (Nat.mul len e)) sz with
    | false=>rw [h1,h2] at hv;cases hv
    | true =>
     rw [h1,h2] at hv
     cases h3:qQ c (Nat.mul len e) off with
     | none=>rw [h3] at hv;cases hv
     | some l=>rw [h3] at hv;cases hv;exact ⟨vC hr h hb (Nat.le_of_ble_eq_true h1) (Nat.le_of_ble_eq_true h2) h3,rfl,fun _ _=>trivial⟩
  ·cases hv
 ·cases hv
theorem JI {H:EH} {v r:V} {a:Nat} (hv:Bg H v=some r) (h:∀ q a c len e,v = .fz q a c len e→Aged a v):Aged H.next r:=by
 unfold Bg at hv
 split at hv
 ·rename_i q a c len e
  cases h1:Nat.ble a H.next with
  | false=>rw [h1] at hv;cases hv
  | true =>
   rw [h1] at hv;cases hv
   have:=h _ _ _ _ _ rfl
   cases this with
   | fz _ _ hh=>exact .fz _ (Nat.le_refl _) fun i j hi hj=>(hh i j hi hj).mono (Nat.le_of_ble_eq_true h1)
 ·rename_i b off len e
  split at hv
  ·rename_i c lo sz g hb
   cases h1:Nat.ble lo off with
   | false=>rw [h1] at hv;cases hv
   | true =>
    cases h2:Nat.ble (Nat.add off (Nat.mul len e)) sz with
    | false=>rw [h1,h2] at hv;cases hv
    | true =>
     rw [h1,h2] at hv
     cases h3:qQ c (Nat.mul len e) off with
     | none=>rw [h3] at hv;cases hv
     | some l=>rw [h3] at hv;cases hv;exact .fz _ (Nat.le_refl _) fun _ _ _ _ => .int _ _
  ·cases hv
 ·cases hv
theorem KO {H:EH} {c:T V}:∀ {n p:Nat} {l:List V},jE H c n p=some l→∀ i,i<n→∃ v,c.get (p+i)=some v∧Bg H v=some (xR l i):=by
 intro n
 induction n with
 | zero=>intro p l h i hi;omega
 | succ n ih =>
  intro p l h i hi
  have h:(match c.get p with | some v=>(match Bg H v with | some r=>iY r (jE H c n (p+1)) | none=>none) | none=>none)=some l:=h
  split at h
  ·rename_i v hv
   split at h
   ·rename_i r hr
    obtain ⟨l',h2,rfl⟩:=dN h
    cases i with
    | zero=>exact ⟨v,by rw [Nat.add_zero];exact hv,hr⟩
    | succ i=>rw [show p+(i+1)=p+1+i by omega];exact ih h2 i (by omega)
   ·cases h
  ·cases h
theorem KA {R:Ren} {H:EH} {w:World} (hr:Rel R All H w) (hf:∀ r,R.cz H.next r=none) {b off len lo sz g:Nat} {c:T V} {x:Value} (h:VR R (.slice b off len 1) x) (hb:H.block b = .mk c lo sz g) (hl:lo≤off) (hz:off+len*1≤sz) {l:List V} (hi:jE H c len off=some l) :
 VR (iW R H w) (.fz true H.next (fun i _=>xR l i) len 1) x:=by
 cases h with
 | slice hm ho hle hzz =>
  rename_i r dd o cap
  obtain ⟨cs,t,fz,a1,a2,a3,a4⟩:=hr.row hb hm trivial
  by_cases h0:len=0
  ·subst h0;exact .fzE (fun q=>by cases q)
  ·have hcap:cap≠0:=by omega
   have ho':=ho hcap
   have key:∀ i,i<len→∃ y,cs[o+i]?=some y∧VR (iW R H w) (xR l i) y∧aQ (xR l i)=true∧Aged H.next (xR l i):=fun i hi'=>by
    obtain ⟨v,q1,q2⟩:=KO hi i hi'
    obtain ⟨p,x,y,e1,e2,e3,e4⟩:=a4 (off+i) (by omega) (by omega)
    rw [q1] at e1
    cases e1
    rw [show off+i-dd=o+i by omega] at e3
    obtain ⟨z1,z2,_⟩:=RY hr hf q2 e4
    refine ⟨y,e3,z1,z2,?_⟩
    have hA:∀ q a c len e,v = .fz q a c len e→0<len→Aged a v:=fun q a c len e hv hpos=>by
     subst hv
     cases e4 with
     | fzN=>omega
     | fzE=>omega
     | fz y hc hl hy hs hag hv h0=>exact .fz _ (Nat.le_refl _) hag
    by_cases hpos:∃ q a c e,v = .fz q a c 0 e
    ·obtain ⟨q,a,c,e,rfl⟩:=hpos
     have q2:cond (Nat.ble a H.next) (some (V.fz true H.next c 0 e)) none=some (xR l i):=q2
     cases hble:Nat.ble a H.next with
     | false=>rw [hble] at q2;cases q2
     | true =>
      rw [hble] at q2
      have q2:some (V.fz true H.next c 0 e)=some (xR l i):=q2
      have q2:=Option.some.inj q2
      rw [← q2]
      exact .fz _ (Nat.le_refl _) fun i j hi hj=>absurd hi (by omega)
    ·refine JI (a:=0) q2 fun q a c len e hv=>hA q a c len e hv ?_
     cases len with
     | zero=>exact absurd ⟨q,a,c,e,hv⟩ hpos
     | succ n=>omega
   have hY:∀ i,∃ y,i<len→cs[o+i]?=some y∧VR (iW R H w) (xR l i) y:=fun i=>by
    by_cases hi':i<len
    ·obtain ⟨y,z1,z2,_⟩:=key i hi'
     exact ⟨y,fun _=>⟨z1,z2⟩⟩
    ·exact ⟨.nilFunc,fun q=>absurd q hi'⟩
   refine .fz (fun i _=>(hY i).choose) (Az a1) hle (fun i j hi' hj=>?_) (fun i j hi' hj=>?_) (fun i j hi' hj=>?_) fun i j hi' hj=>?_
   ·have j0:j=0:=by omega
    subst j0
    have:=((hY i).choose_spec hi').1
    rw [show o+(i*1+0)=o+i by omega];exact this
   ·obtain ⟨_,_,_,z,_⟩:=key i hi';exact z
   ·obtain ⟨_,_,_,_,z⟩:=key i hi';exact z
   ·exact ((hY i).choose_spec hi').2
theorem yV {a e0:Nat}:∀ {l:List V} {L:RL},Jh a e0 l=some L→okW l=true→l.length=L.length∧∀ i,i<l.length→∃ q c len,xR l i = .fz q a c len e0∧lsL L i=len∧fsL L i=(fun j k=>eP (c j k))∧gG .i64 c len e0=true
 | [],L,h,_=>by cases h;exact ⟨rfl,fun i hi=>by simp at hi⟩
 | v::l,L,h,ho=>by
  cases v with
  | fz q a' c len e =>
   have h:cond (Nat.beq a' a) (cond (Nat.beq e e0) (match Jh a e0 l with | some r=>some ((len,fun j k=>eP (c j k))::r) | none=>none) none) none=some L:=h
   have ho:cond (gG .i64 c len e) (okW l) false=true:=ho
   obtain ⟨o1,o2⟩:=ae ho
   cases h1:Nat.beq a' a with
   | false=>rw [h1] at h;cases h
   | true =>
    cases h2:Nat.beq e e0 with
    | false=>rw [h1,h2] at h;cases h
    | true =>
     rw [h1,h2] at h
     have:=nb h1;subst this
     have:=nb h2;subst this
     cases h3:Jh a' e l with
     | none=>rw [h3] at h;cases h
     | some r =>
      rw [h3] at h
      cases h
      obtain ⟨k1,k2⟩:=yV h3 o2
      refine ⟨by simp [k1],fun i hi=>?_⟩
      cases i with
      | zero=>exact ⟨q,c,len,rfl,rfl,rfl,o1⟩
      | succ i=>exact k2 i (by simpa using hi)
  | _=>cases h
theorem JV {H:EH} {c:T V}:∀ {n p:Nat} {l:List V},jE H c n p=some l→l.length=n:=by
 intro n
 induction n with
 | zero=>intro p l h;cases h;rfl
 | succ n ih =>
  intro p l h
  have h:(match c.get p with | some v=>(match Bg H v with | some r=>iY r (jE H c n (p+1)) | none=>none) | none=>none)=some l:=h
  split at h
  ·split at h
   ·obtain ⟨l',h2,rfl⟩:=dN h
    simp [ih h2]
   ·cases h
  ·cases h
theorem Gh {R:Ren} {H:EH} {w:World} (hr:Rel R All H w) (hf:∀ r,R.cz H.next r=none) {b off len lo sz g:Nat} {c:T V} {x:Value} (h:VR R (.slice b off len 1) x) (hb:H.block b = .mk c lo sz g) (hl:lo≤off) (hz:off+len*1≤sz) {l:List V} (hi:jE H c len off=some l) (ho:okW l=true) :
 VR (iW R H w) (BB H (.slice b off len 1) len 1 l) x:=by
 unfold BB
 split
 ·rename_i L hp
  obtain ⟨k1,k2⟩:=yV hp ho
  have hlen:=JV hi
  have h1:=KA hr hf h hb hl hz hi
  refine h1.fz_as (fun _ _ e=>e) (fun _ _ _ _=>rfl) (fun _ _ _ _ => .fz _ (Nat.le_refl _) fun _ _ _ _ => .int _ _) (fun i j hi' hj y hy=>?_)
  obtain ⟨q,c',len',e1,e2,e3,e4⟩:=k2 i (by omega)
  have hy:VR (iW R H w) (xR l i) y:=hy
  rw [e1] at hy
  show VR _ (.fz true H.next (ay .i64 (fsL L i)) (lsL L i) (PX l)) y
  rw [e2,e3]
  refine hy.fz_as (fun _ _ e=>e) (fun _ _ _ _=>rfl) (fun _ _ _ _ => .int _ _) (fun i' j' hi2 hj2 y' hy'=>?_)
  show VR _ (.int .i64 (eP (c' i' j'))) y'
  rw [o6 e4 hi2 hj2] at hy'
  cases hy';exact .int _ _
 ·exact VR.mono (oZ (w:=w) hf) h
theorem Iy {R:Ren} {H:EH} {w:World} (hr:Rel R All H w) (hf:∀ r,R.cz H.next r=none) {v:V} (hok:P8 H v=true) {x:Value} (h:VR R v x):VR (iW R H w) (view H v) x:=by
 have hm:=VR.mono (oZ (w:=w) hf) h
 unfold view
 split
 ·rename_i b off len e
  split
  ·rename_i c lo sz g hb
   have hokA:(match H.block b with
    | .mk c _ _ _=>(match qQ c (Nat.mul len e) off with
     | some _=>true
     | none=>(match jE H c len off with | some l=>okW l | none=>true))
    | .no=>true)=true:=hok
   rw [hb] at hokA
   clear hok
   replace hokA:(match qQ c (Nat.mul len e) off with | some _=>true | none=>(match jE H c len off with | some l=>okW l | none=>true))=true:=hokA
   cases h1:Nat.ble lo off with
   | false=>exact hm
   | true =>
    cases h2:Nat.ble (Nat.add off (Nat.mul len e)) sz with
    | false=>exact hm
    | true =>
     simp only [cond_true]
     split
     ·rename_i l h3;exact vC hr h hb (Nat.le_of_ble_eq_true h1) (Nat.le_of_ble_eq_true h2) h3
     ·rename_i hg
      rw [hg] at hokA
      replace hokA:(match jE H c len off with | some l=>okW l | none=>true)=true:=hokA
      cases h4:Nat.beq e 1 with
      | false=>exact hm
      | true =>
       have:=nb h4;subst this
       simp only [cond_true]
       split
       ·rename_i l h5
        rw [h5] at hokA
        exact Gh hr hf h hb (Nat.le_of_ble_eq_true h1) (Nat.le_of_ble_eq_true h2) h5 hokA
       ·exact hm
  ·exact hm
 ·rename_i q a c len e
  cases h1:Nat.ble a H.next with
  | false=>exact hm
  | true=>exact Ox hr hf h (Nat.le_of_ble_eq_true h1)
 ·exact hm
theorem mW (H:EH):∀ l:List V,(qh H l).length=l.length
 | []=>rfl
 | _::l=>by show (qh H l).length+1=_;rw [mW H l];rfl
theorem ru (H:EH):∀ (l:List V) (i:Nat) (h:i<(qh H l).length) (h':i<l.length),(qh H l)[i]=view H l[i]
 | _::_,0,_,_=>rfl
 | _::l,i+1,h,h'=>ru H l i (by exact Nat.lt_of_succ_lt_succ h) (by exact Nat.lt_of_succ_lt_succ h')
theorem Jo (H:EH) {v:V} (h:aQ v=true):aQ (view H v)=true:=by
 unfold view BB
 simp only [au,aj]
 repeat' (first | rfl | exact h | split)
theorem Ed {H:EH}:∀ {l:List V},N7 H l=true→∀ i (h:i<l.length),P8 H l[i]=true
 | v::l,h,i,hi=>by
  obtain ⟨h1,h2⟩:=ae (show cond (P8 H v) (N7 H l) false=true from h)
  cases i with
  | zero=>exact h1
  | succ i=>exact Ed h2 i (by exact Nat.lt_of_succ_lt_succ hi)
theorem Pm {R:Ren} {H:EH} {w:World} (hr:Rel R All H w) (hf:∀ r,R.cz H.next r=none) {v:V} (hok:Oc H v=true) {x:Value} (h:VR R v x):VR (iW R H w) (CY H v) x:=by
 have hm:=VR.mono (oZ (w:=w) hf) h
 unfold CY
 split
 ·rename_i n c
  split
  ·rename_i l hc
   have hokl:N7 H l=true:=by
    have hok:(match cellL c n 0 with | some l=>N7 H l | none=>true)=true:=hok
    rw [hc] at hok;exact hok
   obtain ⟨g1,g2⟩:=qZ hc
   have hsc:∀ i,i<n→aQ (l.getD i .bad)=true:=fun i hi=>by
    have e:=g2 i hi
    rw [Nat.zero_add] at e
    cases h with
    | agg g hn hg hs hv =>
     rw [hg i hi] at e
     have:=hs i hi
     simp only [List.getD,← e,Option.getD_some]
     exact this
   refine h.agg_as (fun i=>l.getD i .bad) (fun i=>(qh H l).getD i .bad) (fun i hi=>?_) (fun i hi=>?_) (fun i hi=>?_) (fun i hi y hv=>?_)
   ·have:=g2 i hi
    rw [Nat.zero_add] at this
    rw [this];simp [List.getD,List.getElem?_eq_getElem (show i<l.length by omega)]
   ·have hl:=mW H l
    rw [T.get_setL,if_pos (by omega)]
    simp [List.getD,List.getElem?_eq_getElem (show i<(qh H l).length by omega)]
   ·have hl:=mW H l
    have e:=ru H l i (by omega) (by omega)
    have:=Jo H (hsc i hi)
    simp only [List.getD,List.getElem?_eq_getElem (show i<(qh H l).length by omega),List.getElem?_eq_getElem (show i<l.length by omega),Option.getD_some] at this ⊢
    rw [e];exact this
   ·have hl:=mW H l
    have e:=ru H l i (by omega) (by omega)
    simp only [List.getD,List.getElem?_eq_getElem (show i<(qh H l).length by omega),List.getElem?_eq_getElem (show i<l.length by omega),Option.getD_some] at hv ⊢
    rw [e];exact Iy hr hf (Ed hokl i (by omega)) hv
  ·exact hm
 ·rename_i hna
  refine Iy hr hf ?_ h
  cases v<;>first | exact hok | exact (hna _ _ rfl).elim
theorem Qd {R:Ren} {H:EH} {w:World} (hr:Rel R All H w) (hf:∀ r,R.cz H.next r=none):∀ {l:List V} (hok:mX H l=true) {ys:Array Value},AL R l ys→AL (iW R H w) (ig H l) ys:=by
 intro l
 induction l with
 | nil=>intro _ ys h;exact AL.nil_imp h
 | cons v l ih =>
  intro hok ys h
  obtain ⟨h1,h2⟩:=ae (show cond (Oc H v) (mX H l) false=true from hok)
  exact AL.cons_imp h (fun y q=>Pm hr hf h1 q) (fun t q=>ih h2 q)
theorem jB {R R2:Ren} {v:V} (h:qo v=true) {x:Value} (hx:VR R v x):VR R2 v x:=by
 cases v<;>first | (cases h;done) | (cases hx;first | exact .bool _ | exact .int _ _)
theorem LY {R R2:Ren} {v:V} (h:oL v=true) {x:Value} (hx:VR R v x):VR R2 v x:=by
 cases v with
 | agg n c =>
  have h:xX c n 0=true:=h
  have key:∀ i,i<n→c.get i=some (getD' c i)∧qo (getD' c i)=true:=fun i hi=>by
   obtain ⟨v,q1,q2⟩:=rJ h i hi
   rw [Nat.zero_add] at q1
   have e:getD' c i=v:=by unfold getD';rw [q1]
   rw [e];exact ⟨q1,q2⟩
  refine hx.agg_as (getD' c) (getD' c) (fun i hi=>(key i hi).1) (fun i hi=>(key i hi).1) (fun i hi=>?_) (fun i hi y hy=>jB (key i hi).2 hy)
  have:=(key i hi).2
  cases e:getD' c i<;>first | rfl | (rw [e] at this;cases this)
 | _=>refine jB ?_ hx;exact h
theorem GR {g:FuncId} {args0:List V} {k:Nat} {v:V} {H':EH} (hs:SpecCall P g args0 (aH (k+1)) v H') {args:List V} {H:EH} {as:Nat→Nat} (hal:∀ R w ys,Rel R All H w→(∀ r,R.cz H.next r=none)→AL R args ys→AL (iC (iW R H w) w k as) args0 ys)
 {v':V} (hF:∀ R R2 x,VR R v x→VR R2 v' x):SpecCall P g args H v' (bump H):=by
 obtain ⟨n1,hfn,hk⟩:=hs
 refine ⟨Nat.le_succ _,hfn,fun R w args' n hr hw hf ha=>?_⟩
 have hfn0:=hf H.next (Nat.le_refl _) (Nat.lt_succ_self _)
 have hr0:Rel (iC (iW R H w) w k as) All (aH (k+1)) w:=by
  refine ⟨fun b r d h=>(by cases h),fun b o r d h=>(by cases h),fun b b' o o' r d d' h=>(by cases h),fun a r cs e=>?_⟩
  rcases iI e with ⟨_,e⟩ | ⟨_,e⟩
  ·rcases JF e with e | e
   ·exact ⟨(hr.frz _ _ _ e).1,fun b d q=>by cases q⟩
   ·exact ⟨e,fun b d q=>by cases q⟩
  ·exact ⟨e,fun b d q=>by cases q⟩
 have hfree:Free (iC (iW R H w) w k as) (aH (k+1)) H':=fun b h1 _=>⟨rfl,fun r=>by
  have h1:k+1≤b:=h1
  cases e:(iC (iW R H w) w k as).cz b r with
  | none=>rfl
  | some cs=>rcases iI e with ⟨q,_⟩ | ⟨q,_⟩<;>omega⟩
 refine CallsIn.mono (hk (iC (iW R H w) w k as) w args' n hr0 (qH (k+1)) hfree (hal R w args' hr hfn0.2 ha)) fun en w' ⟨x,R',e1,e2,e3⟩=>?_
 have hkeep:∀ r,r<w.heap.size→w'.heap[r]?=w.heap[r]?:=fun r hr=>e3.fr.keep r hr fun b o d ho=>by cases ho
 refine ⟨x,R,e1,hF _ _ _ e2,⟨⟨Nat.le_succ _,Nat.le_refl _,fun b o h=>⟨o,h,rfl,rfl⟩,fun b o h _=>⟨h,rfl⟩,fun b o h _=>⟨o,h⟩,pz hw,fun g h=>h,fun b o h hb=>absurd (hw.lt b o h) (by omega)⟩,
  ⟨fun _ _=>rfl,fun _ _=>rfl,fun b r d h1 h2 e=>?_,fun a ha=>rfl,fun a r cs e => .inl e⟩,⟨e3.fr.os,e3.fr.tape,e3.fr.output,e3.fr.size,fun r hr _=>hkeep r hr⟩,
  ⟨fun b r d hb=>Nat.lt_of_lt_of_le (hr.img b r d hb) e3.fr.size,fun b o r d ho hb=>(hr.obj b o r d ho hb).mono (R':=R) ⟨fun _ _ e=>e,fun _ _ _ _=>rfl,fun a r cs e=>e⟩ hb (hkeep r (hr.img b r d hb)) (fun _=>trivial) (fun v=>by cases o<;>exact v),hr.inj,fun a r cs e=>?_⟩⟩⟩
 ·have h2:b<H.next+1:=h2
  have:b=H.next:=by omega
  subst this
  have e:R.bm H.next=some (r,d):=e
  rw [hfn0.1] at e;cases e
 ·obtain ⟨⟨t,fz,z1⟩,z2⟩:=hr.frz a r cs e
  exact ⟨⟨t,fz,(hkeep r (hr.frz.lt e)).trans z1⟩,z2⟩
theorem Qm {v v':V} (hv:bZ v v') (h:sH v'=true):∀ R R2 x,VR R v x→VR R2 v' x:=by
 have one:∀ {v v':V},lC v v'→oL v'=true→∀ {R R2:Ren} {x:Value},VR R v x→VR R2 v' x:=by
  intro v v' hv h R R2 x hx
  have hF:=xh (H:=aH 0) (k:=0) (new:=0) (as:=fun n=>n) hv h
  cases hF with
  | one h0 =>
   cases h0 with
   | bool b=>exact jB rfl hx
   | int kd n=>exact jB rfl hx
   | nilSlice=>exact LY h hx
   | nilS=>cases h
   | fz=>cases h
   | slice=>cases h
  | agg d d' h1 h2 hs h3 =>
   refine hx.agg_as d d' h1 h2 hs fun i hi y hy=>?_
   have hfl:qo (d' i)=true:=by
    obtain ⟨q,q1,q2⟩:=rJ (show xX _ _ 0=true from h) i hi
    rw [Nat.zero_add] at q1
    rw [h2 i hi] at q1
    rw [Option.some.inj q1];exact q2
   have h4:=h3 i hi
   revert h4 hfl hy
   generalize d i=a
   generalize d' i=b
   intro hy hfl h4
   cases h4 with
   | bool b=>exact jB rfl hy
   | int kd n=>exact jB rfl hy
   | nilSlice=>cases hfl
   | nilS=>cases hfl
   | fz=>cases hfl
   | slice=>cases hfl
 intro R R2 x hx
 have hF:=DZ (H:=aH 0) (k:=0) (new:=0) (as:=fun n=>n) hv h
 unfold bZ at hv
 split at hv
 ·rename_i l l'
  obtain ⟨g1,g2⟩:=rQ hv
  cases hx with
  | tup hl hvs=>exact .tup (by omega) fun i h1 h2=>one (g2 i (by omega) h1) (nS (show Bc l'=true from h) i h1) (hvs i (by omega) h2)
 ·rename_i hn
  refine one hv ?_ hx
  cases v' with
  | tup l' =>
   have hv:lC v (.tup l'):=hv
   cases v with
   | tup l=>exact (hn l l' rfl rfl).elim
   | _ =>
    first
     | (have hv:=gp (v' := .tup l') hv;cases hv;done)
     | (unfold lC at hv;split at hv<;>first | (cases hv;done) | (rename_i e;cases e;done) | (have hv:=gp hv;cases hv;done))
  | _=>exact h
def NS (val:Val) (l:List V):Option (Bool×V):=match dec l with | some das=>uC (okL l) (val das) | none=>none
def cfM (val:Val):CF:=fun args H=>uC (mX H args) (NS val (ig H args))
theorem QZ {g:FuncId} {val:Val} (h:Con P g val):kV P (g,cfM val):=fun args H v hv0=>by
 have hv0:uC (mX H args) (NS val (ig H args))=some (true,v):=hv0
 obtain ⟨hokv,hv⟩:mX H args=true∧NS val (ig H args)=some (true,v):=by
  cases hc:NS val (ig H args) with
  | none=>rw [hc] at hv0;cases hv0
  | some bv =>
   obtain ⟨b,v'⟩:=bv
   rw [hc] at hv0
   have e0:cond (mX H args) b false=true:=by injection hv0 with hv0;injection hv0
   have e2:v'=v:=by injection hv0 with hv0;injection hv0
   obtain ⟨e1,e3⟩:=ae e0
   subst e2;subst e3
   exact ⟨e1,rfl⟩
 have hv:(match dec (ig H args) with | some das=>uC (okL (ig H args)) (val das) | none=>none)=some (true,v):=hv
 cases hd:dec (ig H args) with
 | none=>rw [hd] at hv;cases hv
 | some das =>
  rw [hd] at hv
  have hv:uC (okL (ig H args)) (val das)=some (true,v):=hv
  cases hval:val das with
  | none=>rw [hval] at hv;cases hv
  | some bv =>
   obtain ⟨b,v'⟩:=bv
   rw [hval] at hv
   have e0:cond (okL (ig H args)) b false=true:=by injection hv with hv;injection hv
   obtain ⟨e1,e3⟩:=ae e0
   have e2:v'=v:=by injection hv with hv;injection hv
   subst e2
   subst e3
   obtain ⟨hf,v1,H',hs,hvp⟩:=h das v' hval
   have key:∀ (R:Ren) (w:World),nxE das 0=0+(agL (ig H args)).length∧∀ ys,AL R (ig H args) ys→AL (iC R w (nxE das 0) (fun n=>(agL (ig H args)).getD n 0)) (enc das 0) ys:=fun R w=>by
    have h1:=(vM (R:=R) (w:=w) (k:=0+(agL (ig H args)).length) (as:=fun n=>(agL (ig H args)).getD n 0) (n:=0) hd e1 (fun i hi=>by simp) (Nat.le_refl _))
    refine ⟨h1.1,?_⟩
    rw [h1.1];exact h1.2
   exact GR (as:=fun n=>(agL (ig H args)).getD n 0) hs (fun R w ys hr hf0 ha=>(key (iW R H w) w).2 ys (Qd hr hf0 hokv ha)) (Qm hvp hf)
end
end Go.Ev
/- Loops whose rounds may append to a row, within other calls too: what a round leaves is packed: of what is new one row is kept at most, under a name of its own. -/
namespace Go.Ev
open Go
noncomputable section
variable {P:Program}
inductive Plc where
 | tmp (t:Nat)
 | cell (b j:Nat)
structure Acc where
 (nm rt sz:Nat) (c:T V) (plc:Plc) (lit:Bool)
structure GS where
 (l:List V) (rows:List (Nat×List V)) (acc:Option Acc)
def cellAt (H:EH) (b j:Nat):V:=match H.objs.get b with | some (.cells c _ _ _)=>getD' c j | _ => .bad
def TV (a:EA) (H:EH) (p:Plc):V:=match p with | .tmp t=>a.get t | .cell b j=>cellAt H b j
def VJ (v:V):Nat:=match v with | .slice b _ _ _=>b | _=>0
def rnO (a:EA) (H:EH) (x:Option Acc):Option (Nat×Nat):=match x with | some x=>some (VJ (TV a H x.plc),x.nm) | none=>none
def Xo (rn:Option (Nat×Nat)) (b off len e:Nat):V:=match rn with | some p=>cond (Nat.beq p.1 b) (.slice p.2 off len e) .bad | none => .bad
def Xk (N0:Nat) (rn:Option (Nat×Nat)) (v:V):V:=match v with
 | .slice b off len e=>cond (Nat.blt b N0) (.slice b off len e) (Xo rn b off len e)
 | v=>cond (jl N0 v) v .bad
def VG (N0:Nat) (rn:Option (Nat×Nat)) (l:List V):List V:=List.rec (motive:=fun _=>List V) [] (fun v _ ih=>Xk N0 rn v::ih) l
def WJ (rows:List (Nat×List V)) (b:Nat):Option (List V):=List.rec (motive:=fun _=>Option (List V)) none (fun r _ ih=>cond (Nat.beq r.1 b) (some r.2) ih) rows
def RU (x:Option Acc) (t:T EO):T EO:=match x with | some x=>t.set x.nm (.cells x.c 0 x.sz x.rt) | none=>t
def UN (x:Option Acc) (gs:T rM) (g:Nat):Option rM:=match x with | some x=>cond (Nat.beq x.rt g) (cond (Nat.beq x.rt x.nm) none (some (D7 x.nm))) (gs.get g) | none=>gs.get g
def gsH (base:EH) (NX low:Nat) (s:GS):EH:=⟨RU s.acc (setAt s.rows base.objs),NX,.fn (UN s.acc base.grps),low⟩
def gsA (ts:List Nat) (n:Nat) (s:GS):EA:=⟨qE (xn ts s.l),n,[]⟩
def UM (H:EH) (b:Nat):Option (List V):=match H.objs.get b with
 | some (.cells c lo sz g)=>cond (Nat.beq lo 0) (cond (Nat.beq g b) (cond (IX H b) (cellL c sz 0) none) none) none
 | _=>none
def WQ (a:EA) (H:EH) (N0:Nat) (rn:Option (Nat×Nat)) (rows:List (Nat×List V)):Prop:=List.rec (motive:=fun _=>Prop) True (fun r _ ih=>(match UM H r.1 with | some l=>uF (VG N0 rn l) r.2 | none=>False)∧ih) rows
def inR (rows:List (Nat×List V)) (b:Nat):Bool:=match WJ rows b with | some _=>true | none=>false
def Qo (H base:EH) (rows:List (Nat×List V)) (n:Nat):Nat→Prop:=Nat.rec (motive:=fun _=>Nat→Prop) (fun _=>True) (fun _ ih b=>cond (inR rows b) (ih (Nat.succ b)) (H.objs.get b=base.objs.get b∧ih (Nat.succ b))) n
def Wy (x:Option Acc) (g:Nat):Bool:=match x with | some x=>Nat.beq x.rt g | none=>false
def Uj (v:V):Bool:=match v with | .bad=>true | _=>false
def Ut (N0:Nat) (o:Option V):Bool:=match o with | none=>true | some v=>cond (jl N0 v) true (Uj v)
def VQ (N0:Nat) (tm:T V) (n:Nat):Bool:=jk (fun i=>Ut N0 (tm.get i)) n
def UT (H:EH) (N0:Nat) (rows:List (Nat×List V)) (x:Option Acc) (keep:List Nat) (b:Nat):Bool:=cond (inR rows b) true (match H.objs.get b with
 | none=>true
 | some (.cells c lo sz g)=>cond (Wy x g) true (cond (H.valid b sz g) (cond (Gv b keep) true (wI N0 c (Nat.sub sz lo) lo)) false)
 | some (.loop _ _ tm n _ _ _ df)=>cond (VQ N0 tm n) (Nat.blt df N0) false
 | some o=>xw N0 o)
def RZ (H:EH) (N0:Nat) (rows:List (Nat×List V)) (x:Option Acc) (keep:List Nat) (n:Nat):Nat→Bool:=Nat.rec (motive:=fun _=>Nat→Bool) (fun _=>true) (fun _ ih b=>cond (UT H N0 rows x keep b) (ih (Nat.succ b)) false) n
def MP (N0 g':Nat) (x:Acc):Bool:=cond (Nat.blt g' N0) (Nat.beq x.rt g') (Nat.beq x.rt x.nm)
def WW (H:EH) (N0 b:Nat) (x:Option Acc):Prop:=match x with
 | none=>True
 | some x=>(match H.objs.get b with
  | some (.cells c lo sz g)=>cond (cond (Nat.beq lo 0) (cond (Nat.ble N0 b) (cond (H.valid b sz g) (MP N0 g x) false) false) false)
   ((Int.ofNat sz=Int.ofNat x.sz)∧cond x.lit (NM c x.c x.sz 0) (c=x.c)) False
  | _=>False)
def VE (base:EH) (L M n:Nat) (keep:List Nat) (s:GS) (a:EA) (H:EH):Bool:=cond (Nat.beq a.n n) (cond (Nat.ble L H.low) (cond (Nat.ble H.next M) (cond (Dc a.df []) (RZ H base.next s.rows s.acc keep (Nat.sub base.next L) L) false) false) false) false
def XD (a:EA) (H:EH) (x:Option Acc):Nat:=match x with | some x=>VJ (TV a H x.plc) | none=>0
def Wi (base:EH) (L M n:Nat) (ts keep:List Nat) (s:GS) (a:EA) (H:EH):Prop:=cond (VE base L M n keep s a H)
 (uF (VG base.next (rnO a H s.acc) (iR a ts)) s.l∧WQ a H base.next (rnO a H s.acc) s.rows∧Qo H base s.rows (Nat.sub base.next L) L∧WW H base.next (XD a H s.acc) s.acc) False
def Qn (base:EH) (L:Nat) (rows:List (Nat×List V)):Bool:=List.rec (motive:=fun _=>Bool) true (fun r _ ih=>cond (Nat.ble L r.1) (cond (Nat.blt r.1 base.next) (match base.objs.get r.1 with | some (.cells _ _ _ g)=>cond (Nat.beq g r.1) (cond (mP r.2) ih false) false | _=>false) false) false) rows
def Vm (base:EH) (L NX:Nat) (x:Option Acc):Bool:=match x with
 | some x=>cond (Nat.ble base.next x.nm) (cond (Nat.blt x.nm NX) (cond (Nat.beq x.rt x.nm) true (cond (Nat.ble L x.rt) (Nat.blt x.rt base.next) false)) false) false
 | none=>true
def WS (base:EH) (L NX:Nat) (s:GS):Bool:=cond (Qn base L s.rows) (Vm base L NX s.acc) false
def Tu (base:EH) (L NX M n:Nat) (ts:List Nat):Bool:=cond (jA n ts) (cond (Nat.ble L base.next) (cond (Nat.ble L big) (cond (Nat.ble base.next NX) (Nat.ble NX M) false) false) false) false
def WT (c:T V) (sz:Nat):Prop:=∀ i,i<sz→∃ v,c.get i=some v∧qo v=true
def IY (x:Option Acc):Prop:=match x with | some x=>WT x.c x.sz | none=>True
inductive EndK where
 | exit (id:Nat)
 | ret
def EndK.res (e:EndK) (a:EA) (H:EH):Res:=match e with | .exit id => .exit id a H | .ret => .ret a H
theorem EndK.res_H (e:EndK) (a:EA) (H:EH):(e.res a H).H=H:=by cases e<;>rfl
theorem Ro.sim {R R2:Ren} {H H2:EH} {w w':World} (h:SimA R R2 H H2 w w') (hf:Free R H H2) (hr:Rel R All H w) {ro rr:Option Nat} (q:Ro R ro rr):Ro R2 ro rr:=q.mono (h.le hr hf)
end
end Go.Ev
/- Code by packed states: pieces one after another, loops, all over one heap. -/
namespace Go.Ev
open Go
noncomputable section
variable {P:Program}
inductive Ok where
 | normal
 | exit (id:Nat)
 | ret
def Ok.res (o:Ok) (a:EA) (H:EH):Res:=match o with | .normal => .normal a H | .exit id => .exit id a H | .ret => .ret a H
theorem Ok.res_H (o:Ok) (a:EA) (H:EH):(o.res a H).H=H:=by cases o<;>rfl
structure Env where
 (base:EH) (L NX M n:Nat)
structure TS where
 (ts:List Nat) (s:GS)
def Env.H (E:Env) (x:TS):EH:=gsH E.base E.NX big x.s
def Env.A (E:Env) (x:TS):EA:=gsA x.ts E.n x.s
def Env.pack (E:Env) (x:TS) (a:EA) (H:EH):Prop:=Wi E.base E.L E.M E.n x.ts [] x.s a H
def Env.okB (E:Env) (x:TS):Bool:=cond (Tu E.base E.L E.NX E.M E.n x.ts) (WS E.base E.L E.NX x.s) false
def Env.ok (E:Env) (x:TS):Prop:=E.okB x=true∧IY x.s.acc
theorem Env.ok_get {E:Env} {x:TS} (h:E.ok x):Tu E.base E.L E.NX E.M E.n x.ts=true∧WS E.base E.L E.NX x.s=true∧IY x.s.acc:=by
 obtain ⟨h1,h2⟩:=ae h.1
 exact ⟨h1,h2,h.2⟩
theorem Env.le {E:Env} {x:TS} (h:E.ok x):E.base.next≤E.NX∧E.NX≤E.M∧E.L≤big:=by
 obtain ⟨_,h⟩:=ae (Env.ok_get h).1
 obtain ⟨_,h⟩:=ae h
 obtain ⟨h3,h⟩:=ae h
 obtain ⟨h1,h2⟩:=ae h
 exact ⟨Nat.le_of_ble_eq_true h1,Nat.le_of_ble_eq_true h2,Nat.le_of_ble_eq_true h3⟩
def okP (E:Env) (o:Ok) (y:TS) (r:Res):Prop:=match r,o with
 | .normal a H,.normal=>E.pack y a H
 | .exit id a H,.exit id'=>cond (Nat.beq id id') (E.pack y a H) False
 | .ret a H,.ret=>E.pack y a H
 | _,_=>False
def Ok.block (o:Ok) (id:Nat):Ok:=match o with | .exit id'=>cond (Nat.beq id' id) .normal (.exit id') | o=>o
end
end Go.Ev
/- Contracts whose values hold new rows, also where arguments lie in memory; closed calls as contracts. -/
namespace Go.Ev
open Go
noncomputable section
variable {P:Program}
inductive Fn0 (H:EH) (k new:Nat):V→V→Prop where
 | bool (b:Bool):Fn0 H k new (.bool b) (.bool b)
 | int (kd:IntKind) (n:Int):Fn0 H k new (.int kd n) (.int kd n)
 | nilSlice:Fn0 H k new .nilSlice .nilSlice
 | nilS {q:Bool} {a:Nat} {c:Nat→Nat→V} {e:Nat}:Fn0 H k new .nilSlice (.fz q a c 0 e)
 | fz {q:Bool} {a:Nat} {c c':Nat→Nat→V} {len e:Nat} (h0:k<a) (hs:∀ i j,i<len→j<e→aQ (c' i j)=true) (ha:∀ i j,i<len→j<e→Aged new (c' i j))
  (h:∀ i j,i<len→j<e→Fn0 H k new (c i j) (c' i j)):Fn0 H k new (.fz q a c len e) (.fz true new c' len e)
 | slice {b off len e lo sz g:Nat} {c:T V} {d c':Nat→Nat→V} (hb:H.block b = .mk c lo sz g) (hl:lo≤off) (hz:off+len*e≤sz) (hd:∀ i j,i<len→j<e→c.get (off+(i*e+j))=some (d i j))
  (hs:∀ i j,i<len→j<e→aQ (c' i j)=true) (ha:∀ i j,i<len→j<e→Aged new (c' i j)) (h:∀ i j,i<len→j<e→Fn0 H k new (d i j) (c' i j)):Fn0 H k new (.slice b off len e) (.fz true new c' len e)
inductive Fn1 (H:EH) (k new:Nat):V→V→Prop where
 | one {v v':V} (h:Fn0 H k new v v'):Fn1 H k new v v'
 | agg {n:Nat} {c c':T V} (d d':Nat→V) (h1:∀ i,i<n→c.get i=some (d i)) (h2:∀ i,i<n→c'.get i=some (d' i)) (hs:∀ i,i<n→aQ (d' i)=true) (h:∀ i,i<n→Fn0 H k new (d i) (d' i)):Fn1 H k new (.agg n c) (.agg n c')
inductive FnV (H:EH) (k new:Nat):V→V→Prop where
 | one {v v':V} (h:Fn1 H k new v v'):FnV H k new v v'
 | tup {l l':List V} (hl:l.length=l'.length) (h:∀ i (h1:i<l.length) (h2:i<l'.length),Fn1 H k new l[i] l'[i]):FnV H k new (.tup l) (.tup l')
section
variable {H':EH} {k new:Nat} {R' R2:Ren} {w':World} (hr:Rel R' All H' w')
 (hnew:∀ a r cs,k<a→R'.cz a r=some cs→R2.cz new r=some cs)
 (hobj:∀ b r d o,H'.objs.get b=some o→R'.bm b=some (r,d)→∀ cs t fz,w'.heap[r]?=some (.cells cs t fz)→R2.cz new r=some cs)
include hr hnew hobj
theorem PI {v v':V} (h:Fn0 H' k new v v'):∀ {x:Value},VR R' v x→VR R2 v' x:=by
 induction h with
 | bool b=>intro x hx;cases hx;exact .bool b
 | int kd n=>intro x hx;cases hx;exact .int kd n
 | nilSlice=>intro x hx;cases hx;exact .nilSlice
 | nilS=>intro x hx;cases hx;exact .fzN
 | fz h0 hs ha _ ih =>
  intro x hx
  cases hx with
  | fzN=>exact .fzN
  | fzE h0=>exact .fzE (fun q=>by cases q)
  | fz y hc hl hy hs' ha' hv _=>exact .fz y (hnew _ _ _ h0 hc) hl hy hs ha fun i j hi hj=>ih i j hi hj (hv i j hi hj)
 | slice hb hl hz hd hs ha _ ih =>
  rename_i b off len e lo sz g c d c' h
  intro x hx
  cases hx with
  | slice hm ho hle hzz =>
   rename_i r dd o cap
   obtain ⟨cs,t,fz,a1,a2,a3,a4⟩:=hr.row hb hm trivial
   have hcz:=hobj b r dd _ (ax hb).1 hm cs t fz a1
   by_cases h0:len=0
   ·subst h0;exact .fzE (fun q=>by cases q)
   ·have hcap:cap≠0:=by omega
    have ho':=ho hcap
    have key:∀ i j,i<len→j<e→∃ y,cs[o+(i*e+j)]?=some y∧VR R' (d i j) y:=fun i j hi hj=>by
     have hlt:i*e+j<len*e:=by
      have:(i+1)*e≤len*e:=Nat.mul_le_mul_right _ hi
      rw [Nat.add_mul] at this;omega
     obtain ⟨p,x,y,e1,e2,e3,e4⟩:=a4 (off+(i*e+j)) (by omega) (by omega)
     rw [hd i j hi hj] at e1;cases e1
     rw [show off+(i*e+j)-dd=o+(i*e+j) by omega] at e3
     exact ⟨y,e3,e4⟩
    refine .fz (fun i j=>if h:i<len∧j<e then (key i j h.1 h.2).choose else undef) hcz hle (fun i j hi hj=>?_) hs ha fun i j hi hj=>?_
    ·show _=some (if h:i<len∧j<e then (key i j h.1 h.2).choose else undef)
     rw [dif_pos ⟨hi,hj⟩];exact (key i j hi hj).choose_spec.1
    ·show VR R2 (c' i j) (if h:i<len∧j<e then (key i j h.1 h.2).choose else undef)
     rw [dif_pos ⟨hi,hj⟩];exact ih i j hi hj (key i j hi hj).choose_spec.2
theorem MZ {v v':V} (h:Fn1 H' k new v v') {x:Value} (hx:VR R' v x):VR R2 v' x:=by
 cases h with
 | one h=>exact PI hr hnew hobj h hx
 | agg d d' h1 h2 hs h=>exact hx.agg_as d d' h1 h2 hs fun i hi y hy=>PI hr hnew hobj (h i hi) hy
theorem Pz {v v':V} (h:FnV H' k new v v') {x:Value} (hx:VR R' v x):VR R2 v' x:=by
 cases h with
 | one h=>exact MZ hr hnew hobj h hx
 | tup hl h =>
  cases hx with
  | tup hl' hv=>exact .tup (by omega) fun i h1 h2=>MZ hr hnew hobj (h i (by omega) h1) (hv i (by omega) h2)
end
theorem Fv {g:FuncId} {args0:List V} {k:Nat} {v:V} {H':EH} (hs:SpecCall P g args0 (aH (k+1)) v H') {args:List V} {H:EH}
 (hal:∀ R w ys,Rel R All H w→(∀ r,R.cz H.next r=none)→AL R args ys→∃ R0:Ren,(∀ b,R0.bm b=none)∧(∀ a r cs,R0.cz a r=some cs→a≤k∧∃ t fz,w.heap[r]?=some (.cells cs t fz))∧AL R0 args0 ys)
 {v':V} (hF:FnV H' k H.next v v'):SpecCall P g args H v' (bump H):=by
 obtain ⟨n1,hfn,hk⟩:=hs
 refine ⟨Nat.le_succ _,hfn,fun R w args' n hr hw hf ha=>?_⟩
 have hfn0:=hf H.next (Nat.le_refl _) (Nat.lt_succ_self _)
 obtain ⟨R0,hbm,hczk,hal0⟩:=hal R w args' hr hfn0.2 ha
 have hr0:Rel R0 All (aH (k+1)) w:=by
  refine ⟨fun b r d h=>(by rw [hbm] at h;cases h),fun b o r d h=>(by cases h),fun b b' o o' r d d' h=>(by cases h),fun a r cs e=>?_⟩
  exact ⟨(hczk a r cs e).2,fun b d q=>by rw [hbm] at q;cases q⟩
 have hfree:Free R0 (aH (k+1)) H':=fun b h1 _=>⟨hbm b,fun r=>by
  have h1:k+1≤b:=h1
  cases e:R0.cz b r with
  | none=>rfl
  | some cs=>have:=(hczk b r cs e).1;omega⟩
 refine CallsIn.mono (hk R0 w args' n hr0 (qH (k+1)) hfree hal0) fun en w' ⟨x,R',e1,e2,e3⟩=>?_
 have hkeep:∀ r,r<w.heap.size→w'.heap[r]?=w.heap[r]?:=fun r hr=>e3.fr.keep r hr fun b o d ho=>by cases ho
 let R2:Ren:=⟨R.bm,R.zs,fun a r=>if a=H.next then (if w.heap.size≤r then (match w'.heap[r]? with | some (.cells cs _ _)=>some cs | _=>none) else none) else R.cz a r⟩
 have hR2:∀ r cs t fz,w.heap.size≤r→w'.heap[r]?=some (.cells cs t fz)→R2.cz H.next r=some cs:=fun r cs t fz h1 h2=>by
  show (if H.next=H.next then (if w.heap.size≤r then (match w'.heap[r]? with | some (.cells cs _ _)=>some cs | _=>none) else none) else R.cz H.next r)=some cs
  rw [if_pos rfl,if_pos h1,h2]
 have hcz:∀ a r cs,R2.cz a r=some cs→(a≠H.next∧R.cz a r=some cs)∨(a=H.next∧w.heap.size≤r∧∃ t fz,w'.heap[r]?=some (.cells cs t fz)):=fun a r cs e=>by
  have e:(if a=H.next then (if w.heap.size≤r then (match w'.heap[r]? with | some (.cells cs _ _)=>some cs | _=>none) else none) else R.cz a r)=some cs:=e
  split at e
  ·rename_i ea
   split at e
   ·rename_i hz
    split at e
    ·rename_i c t fz hc;cases e;exact .inr ⟨ea,hz,t,fz,hc⟩
    ·cases e
   ·cases e
  ·rename_i ea;exact .inl ⟨ea,e⟩
 have hrel':=SimA.rel e3
 have hv:VR R2 v' x:=by
  refine Pz (R':=R') (R2:=R2) (w':=w') (k:=k) hrel' (fun a r cs ha q=>?_) (fun b r d o ho hb cs t fz q=>?_) hF e2
  ·rcases e3.rx.czn a r cs q with z | z
   ·have:=(hczk a r cs z).1;omega
   ·obtain ⟨⟨t,fz,hc⟩,_⟩:=hrel'.frz a r cs q
    exact hR2 r cs t fz z hc
  ·refine hR2 r cs t fz ?_ q
   have hlt:=e3.wf.lt b o ho
   by_cases hb0:k+1≤b
   ·rcases e3.rx.neu b r d hb0 hlt hb with z | ⟨_,_,_,z,_⟩
    ·exact z
    ·cases z
   ·rw [e3.rx.same b (by show ¬ (k+1≤b∧_);omega),hbm] at hb
    cases hb
 refine ⟨x,R2,e1,hv,⟨⟨Nat.le_succ _,Nat.le_refl _,fun b o h=>⟨o,h,rfl,rfl⟩,fun b o h _=>⟨h,rfl⟩,fun b o h _=>⟨o,h⟩,pz hw,fun g h=>h,fun b o h hb=>absurd (hw.lt b o h) (by omega)⟩,
  ⟨fun _ _=>rfl,fun _ _=>rfl,fun b r d h1 h2 e=>?_,fun a ha=>?_,fun a r cs e=>?_⟩,⟨e3.fr.os,e3.fr.tape,e3.fr.output,e3.fr.size,fun r hr _=>hkeep r hr⟩,
  ⟨fun b r d hb=>Nat.lt_of_lt_of_le (hr.img b r d hb) e3.fr.size,fun b o r d ho hb=>(hr.obj b o r d ho hb).mono (R':=R2) ⟨fun _ _ e=>e,fun _ _ _ _=>rfl,fun a r cs e=>?_⟩ hb (hkeep r (hr.img b r d hb)) (fun _=>trivial) (fun v=>by cases o<;>exact v),hr.inj,fun a r cs e=>?_⟩⟩⟩
 ·have h2:b<H.next+1:=h2
  have:b=H.next:=by omega
  subst this
  have e:R.bm H.next=some (r,d):=e
  rw [hfn0.1] at e;cases e
 ·funext r
  show (if a=H.next then _ else R.cz a r)=R.cz a r
  rw [if_neg (fun q=>ha ⟨by omega,by show a<H.next+1;omega⟩)]
 ·rcases hcz a r cs e with ⟨_,q⟩ | ⟨_,q,_⟩
  ·exact .inl q
  ·exact .inr q
 ·show (if a=H.next then _ else R.cz a r)=some cs
  rw [if_neg (fun q=>by rw [q,hfn0.2 r] at e;cases e)];exact e
 ·rcases hcz a r cs e with ⟨_,q⟩ | ⟨_,q,t,fz,hc⟩
  ·obtain ⟨⟨t,fz,z1⟩,z2⟩:=hr.frz a r cs q
   exact ⟨⟨t,fz,(hkeep r (hr.frz.lt q)).trans z1⟩,z2⟩
  ·refine ⟨⟨t,fz,hc⟩,fun b d z=>?_⟩
   have:=hr.img b r d z
   omega
def Ej (n:Nat) (v:V):V:=match v with | .fz _ _ c len e => .fz true n c len e | v=>v
def BC (n:Nat) (v:V):V:=match v with | .fz _ _ c len e => .fz true n (fun i j=>Ej n (c i j)) len e | v=>v
def IU (n:Nat) (l:List V):List V:=List.rec (motive:=fun _=>List V) [] (fun v _ ih=>BC n v::ih) l
def nV (n:Nat) (v:V):V:=match v with | .tup l => .tup (IU n l) | v=>BC n v
def QW (ok:Bool) (n:Nat) (r:Option (Bool×V)):Option (Bool×V):=match r with | some (b,v)=>some (cond ok b false,nV n v) | none=>none
def Wv (P:Program) (g:FuncId) (val:Val):Prop:=∀ das v,val das=some (true,v)→∃ v' H',SpecCall P g (enc das 0) (aH (nxE das 0+1)) v' H'∧∀ new,FnV H' (nxE das 0) new v' (nV new v)
def cfN (val:Val):CF:=fun args H=>match dec args with | some das=>QW (okL args) H.next (val das) | none=>none
theorem KF {ok:Bool} {n:Nat} {r:Option (Bool×V)} {v:V} (h:QW ok n r=some (true,v)):∃ v0,r=some (true,v0)∧ok=true∧v=nV n v0:=by
 cases r with
 | none=>cases h
 | some bv =>
  obtain ⟨b,v'⟩:=bv
  have e0:cond ok b false=true:=by injection h with h;injection h
  have e2:nV n v'=v:=by injection h with h;injection h
  obtain ⟨e1,e3⟩:=ae e0
  subst e3
  exact ⟨v',rfl,e1,e2.symm⟩
theorem QU {g:FuncId} {val:Val} (h:Wv P g val):kV P (g,cfN val):=fun args H v hv=>by
 have hv:(match dec args with | some das=>QW (okL args) H.next (val das) | none=>none)=some (true,v):=hv
 cases hd:dec args with
 | none=>rw [hd] at hv;cases hv
 | some das =>
  rw [hd] at hv
  obtain ⟨v0,hval,e1,rfl⟩:=KF (show QW (okL args) H.next (val das)=some (true,v) from hv)
  obtain ⟨v1,H',hs,hvp⟩:=h das v0 hval
  refine Fv hs (fun R w ys hr hf0 ha=>?_) (hvp _)
  have h1:=(vM (R:=R) (w:=w) (k:=0+(agL args).length) (as:=fun n=>(agL args).getD n 0) (n:=0) hd e1 (fun i hi=>by simp) (Nat.le_refl _))
  rw [← h1.1] at h1
  refine ⟨_,fun b=>rfl,fun a r cs e=>?_,h1.2 ys ha⟩
  rcases iI e with ⟨q,e⟩ | ⟨q,e⟩
  ·exact ⟨by omega,(hr.frz _ _ _ e).1⟩
  ·exact ⟨by omega,e⟩
structure CL where
 (g:FuncId) (das:List DA) (v:V)
def iU (v v':V):Bool:=match v,v' with
 | .bool x,.bool y=>dR x y
 | .int k x,.int k' y=>cond (dX k k') (eu x y) false
 | .nilSlice,.nilSlice=>true
 | _,_=>false
def rowB (one:V→V→Bool) (H:EH) (v v':V):Bool:=match v,v' with
 | .slice b off len e,.fz _ _ c' len' e'=>cond (Nat.beq len len') (cond (Nat.beq e e') (match H.block b with
  | .mk c lo sz _=>cond (Nat.ble lo off) (cond (Nat.ble (Nat.add off (Nat.mul len e)) sz) (jk (fun i=>jk (fun j=>match c.get (Nat.add off (Nat.add (Nat.mul i e) j)) with | some v=>one v (c' i j) | none=>false) e) len) false) false
  | .no=>false) false) false
 | .nilSlice,.fz _ _ _ len _=>Nat.beq len 0
 | v,v'=>iU v v'
def TI (H:EH) (v v':V):Bool:=rowB iU H v v'
def TG (H:EH) (v v':V):Bool:=rowB (TI H) H v v'
def cellsB (one:V→V→Bool) (c c':T V) (n:Nat):Bool:=jk (fun i=>match c.get i,c'.get i with | some v,some v'=>one v v' | _,_=>false) n
def y7 (H:EH) (v v':V):Bool:=match v,v' with
 | .agg n c,.agg n' c'=>cond (Nat.beq n n') (cellsB iU c c' n) false
 | v,v'=>TG H v v'
def NV (H:EH) (l:List V):List V→Bool:=List.rec (motive:=fun _=>List V→Bool) (fun m=>match m with | []=>true | _=>false) (fun v _ ih m=>match m with | v'::m=>cond (y7 H v v') (ih m) false | []=>false) l
def U5 (H:EH) (v v':V):Bool:=match v,v' with
 | .tup l,.tup l'=>NV H l l'
 | v,v'=>y7 H v v'
theorem lN {H:EH} {k new:Nat} {v v':V} (h:iU v v'=true):Fn0 H k new v v'∧aQ v'=true∧∀ n,Aged n v':=by
 unfold iU at h
 split at h
 ·have:=kL h;subst this;exact ⟨.bool _,rfl,fun _ => .bool _⟩
 ·obtain ⟨h1,h2⟩:=ae h
  have:=mJ h1;subst this
  have:=zU h2;subst this
  exact ⟨.int _ _,rfl,fun _ => .int _ _⟩
 ·exact ⟨.nilSlice,rfl,fun _ => .nilSlice⟩
 ·cases h
theorem zy {v v':V} (h:iU v v'=true) (new:Nat):Ej new v'=v'∧BC new v'=v':=by
 unfold iU at h
 split at h
 ·exact ⟨rfl,rfl⟩
 ·exact ⟨rfl,rfl⟩
 ·exact ⟨rfl,rfl⟩
 ·cases h
theorem uX {one:V→V→Bool} {H:EH} {v v':V} (h:rowB one H v v'=true):iU v v'=true∨(v = .nilSlice∧∃ q a c e,v' = .fz q a c 0 e)∨∃ b off len e q a c' c lo sz g,v = .slice b off len e∧v' = .fz q a c' len e∧H.block b = .mk c lo sz g∧lo≤off∧off+len*e≤sz∧∀ i j,i<len→j<e→∃ x,c.get (off+(i*e+j))=some x∧one x (c' i j)=true:=by
 unfold rowB at h
 split at h
 ·rename_i b off len e q a c' len' e'
  obtain ⟨h1,hA⟩:=ae h
  obtain ⟨h2,hB⟩:=ae hA
  have e1:=nb h1
  have e2:=nb h2
  clear h hA h1 h2
  subst e1
  subst e2
  split at hB
  ·rename_i c lo sz g hb
   obtain ⟨h3,hC⟩:=ae hB
   obtain ⟨h4,h5⟩:=ae hC
   refine .inr (.inr ⟨b,off,len,e,q,a,c',c,lo,sz,g,rfl,rfl,hb,Nat.le_of_ble_eq_true h3,Nat.le_of_ble_eq_true h4,fun i j hi hj=>?_⟩)
   have:=bi (bi h5 i hi) j hj
   have this:(match c.get (off+(i*e+j)) with | some v=>one v (c' i j) | none=>false)=true:=this
   split at this
   ·rename_i x hx;exact ⟨x,hx,this⟩
   ·cases this
  ·cases hB
 ·rename_i q a c' len' e'
  have:=nb h;subst this
  exact .inr (.inl ⟨rfl,q,a,c',e',rfl⟩)
 ·exact .inl h
theorem PD {H:EH} {k new:Nat} {v v':V} (h:TI H v v'=true):Fn0 H k new v (Ej new v')∧aQ (Ej new v')=true∧Aged new (Ej new v'):=by
 rcases uX h with h | ⟨rfl,q,a,c,e,rfl⟩ | ⟨b,off,len,e,q,a,c',c,lo,sz,g,rfl,rfl,hb,h1,h2,h3⟩
 ·rw [(zy h new).1]
  obtain ⟨a,b,c⟩:=lN (H:=H) (k:=k) (new:=new) h
  exact ⟨a,b,c _⟩
 ·exact ⟨.nilS,rfl,.fz _ (Nat.le_refl _) fun i j hi=>absurd hi (by omega)⟩
 ·have key:∀ i j,i<len→j<e→∃ x,c.get (off+(i*e+j))=some x∧Fn0 H k new x (c' i j)∧aQ (c' i j)=true∧Aged new (c' i j):=fun i j hi hj=>by
   obtain ⟨x,q1,q2⟩:=h3 i j hi hj
   obtain ⟨a,b,c⟩:=lN (H:=H) (k:=k) (new:=new) q2
   exact ⟨x,q1,a,b,c _⟩
  refine ⟨.slice (d:=fun i j=>(c.get (off+(i*e+j))).getD .bad) hb h1 h2 (fun i j hi hj=>?_) (fun i j hi hj=>?_) (fun i j hi hj=>?_) (fun i j hi hj=>?_),rfl,.fz _ (Nat.le_refl _) fun i j hi hj=>?_⟩
  all_goals obtain ⟨x,q1,q2,q3,q4⟩:=key i j hi hj
  ·simp only [q1];rfl
  ·exact q3
  ·exact q4
  ·simp only [q1];exact q2
  ·exact q4
theorem Qc {H:EH} {k new:Nat} {v v':V} (h:TG H v v'=true):Fn0 H k new v (BC new v'):=by
 rcases uX h with h | ⟨rfl,q,a,c,e,rfl⟩ | ⟨b,off,len,e,q,a,c',c,lo,sz,g,rfl,rfl,hb,h1,h2,h3⟩
 ·rw [(zy h new).2];exact (lN h).1
 ·exact .nilS
 ·have key:∀ i j,i<len→j<e→∃ x,c.get (off+(i*e+j))=some x∧Fn0 H k new x (Ej new (c' i j))∧aQ (Ej new (c' i j))=true∧Aged new (Ej new (c' i j)):=fun i j hi hj=>by
   obtain ⟨x,q1,q2⟩:=h3 i j hi hj
   exact ⟨x,q1,PD q2⟩
  refine .slice (d:=fun i j=>(c.get (off+(i*e+j))).getD .bad) hb h1 h2 (fun i j hi hj=>?_) (fun i j hi hj=>?_) (fun i j hi hj=>?_) (fun i j hi hj=>?_)
  all_goals obtain ⟨x,q1,q2,q3,q4⟩:=key i j hi hj
  ·simp only [q1];rfl
  ·exact q3
  ·exact q4
  ·simp only [q1];exact q2
theorem Cf {H:EH} {k new:Nat} {v v':V} (h:y7 H v v'=true):Fn1 H k new v (BC new v'):=by
 unfold y7 at h
 split at h
 ·rename_i n c n' c'
  obtain ⟨h1,h2⟩:=ae h
  have:=nb h1;subst this
  have key:∀ i,i<n→∃ x x',c.get i=some x∧c'.get i=some x'∧iU x x'=true:=fun i hi=>by
   have:=bi h2 i hi
   have this:(match c.get i,c'.get i with | some v,some v'=>iU v v' | _,_=>false)=true:=this
   split at this
   ·rename_i x x' h1 h2;exact ⟨x,x',h1,h2,this⟩
   ·cases this
  refine .agg (fun i=>(c.get i).getD .bad) (fun i=>(c'.get i).getD .bad) (fun i hi=>?_) (fun i hi=>?_) (fun i hi=>?_) (fun i hi=>?_)
  all_goals obtain ⟨x,x',q1,q2,q3⟩:=key i hi
  ·simp only [q1];rfl
  ·simp only [q2];rfl
  ·simp only [q2];exact (lN (H:=H) (k:=k) (new:=new) q3).2.1
  ·simp only [q1,q2];exact (lN q3).1
 ·exact .one (Qc h)
theorem yQ {H:EH}:∀ {l l':List V},NV H l l'=true→l.length=l'.length∧∀ i (h1:i<l.length) (h2:i<l'.length),y7 H l[i] l'[i]=true
 | [],[],_=>⟨rfl,fun i h1=>by simp at h1⟩
 | [],_::_,h=>by cases h
 | _::_,[],h=>by cases h
 | v::l,v'::l',h=>by
  obtain ⟨h1,h2⟩:=ae (show cond (y7 H v v') (NV H l l') false=true from h)
  obtain ⟨e1,e2⟩:=yQ h2
  refine ⟨by simp [e1],fun i q1 q2=>?_⟩
  cases i with
  | zero=>exact h1
  | succ i=>exact e2 i (by simpa using q1) (by simpa using q2)
theorem KW (n:Nat) (l:List V):IU n l=l.map (BC n):=by
 induction l with
 | nil=>rfl
 | cons v l ih=>show BC n v::IU n l=_;rw [ih];rfl
theorem QC {H:EH} {k:Nat} {v v':V} (h:U5 H v v'=true):∀ new,FnV H k new v (nV new v'):=fun new=>by
 unfold U5 at h
 split at h
 ·rename_i l l'
  obtain ⟨e1,e2⟩:=yQ h
  show FnV H k new (.tup l) (.tup (IU new l'))
  rw [KW]
  exact .tup (by simp [e1]) fun i h1 h2=>by
   rw [List.getElem_map]
   exact Cf (e2 i h1 (by simpa using h2))
 ·rename_i hn
  have h1:Fn1 H k new v (BC new v'):=Cf h
  cases v' with
  | tup l' =>
   cases v with
   | tup l=>exact (hn l l' rfl rfl).elim
   | _=>cases h
  | _=>exact .one h1
end
end Go.Ev
/- Runs whose conditions are shown, in a form that no elaborator unfolds. -/
namespace Go.Ev
open Go
noncomputable section
variable {P:Program}
structure VC (d:D) (h:HT):Prop where
 ok:vc d h
theorem aY (hD:ak P) {X:Ext} (hX:bM P X) {n:Nat} {g:FuncId} {das:List DA} {v:V} {h:HT} (hf:sH v=true) (hv:VC (di P X n g (enc das 0) (nxE das 0) (fun v'=>bZ v' v)) h):sH v=true∧∃ v' H',SpecCall P g (enc das 0) (aH (nxE das 0+1)) v' H'∧bZ v' v :=
 Ql hD hX hf hv.ok
def Vs (a lw:Nat) (fw:Nat→Nat→Int) (lm:Nat) (fm:Nat→Nat→Int) (n:Nat) (ls:Nat→Nat) (f:Nat→Nat→Nat→Int):Bool :=
 cond (gG .i64 (ay .i64 fw) lw 1) (cond (gG .i64 (ay .i64 fm) lm 1) (cond (cond true (Nl a (Du a 1 ls f) n 1) false) true false) false) false
def V7 (a lw:Nat) (fw:Nat→Nat→Int) (lm:Nat) (fm:Nat→Nat→Int) (n:Nat) (ls:Nat→Nat) (f:Nat→Nat→Nat→Int) (e nc:Nat) (fc:Nat→Nat→Int):Bool :=
 cond (gG .i64 (ay .i64 fw) lw 1) (cond (gG .i64 (ay .i64 fm) lm 1) (cond (cond true (Nl a (Du a 1 ls f) n 1) false) (cond true (cond (gG .i64 (ay .i64 fc) nc e) true false) false) false) false) false
theorem Oy (a lw:Nat) (fw:Nat→Nat→Int) (lm:Nat) (fm:Nat→Nat→Int) (n:Nat) (ls:Nat→Nat) (f:Nat→Nat→Nat→Int):Vs a lw fw lm fm n ls f=true:=by
 unfold Vs
 rw [bV,bV,jI];rfl
theorem OA (a lw:Nat) (fw:Nat→Nat→Int) (lm:Nat) (fm:Nat→Nat→Int) (n:Nat) (ls:Nat→Nat) (f:Nat→Nat→Nat→Int) (e nc:Nat) (fc:Nat→Nat→Int):V7 a lw fw lm fm n ls f e nc fc=true:=by
 unfold V7
 rw [bV,bV,jI,bV];rfl
theorem aP {d:D} {h:HT} (p:Prop) (e:vc d h=p:=by kernel_rfl) (q:p:=by (try simp only [kU,SG,yh,tq,Ac,Jl,Vx,Ws,TC,TW,Eo,DJ,Bz,Iz,Np,Tv,TY,TA,PQ,Tn,bV,jI,Oy,OA,cond_true,cond_false,true_and,and_true,eq_self]);(repeat' (first | exact True.intro | (with_reducible assumption) | refine And.intro ?_ ?_ | refine Rj ?_ ?_ | intro _));all_goals (first | (with_reducible assumption) | (with_reducible rfl) | omega | rfl | (simp only [kU,SG,yh,tq,Ac,Jl,Vx,Ws,TC,TW,Eo,DJ,Bz,Iz,Np,Tv,TY,TA,PQ,Tn,bV,jI,Oy,OA,cond_true,cond_false,true_and,and_true,eq_self];first | done | omega | (with_reducible assumption) | rfl))):VC d h:=⟨by rw [e];exact q⟩
end
end Go.Ev
/- Contracts whose value is a struct with new rows. -/
namespace Go.Ev
open Go
noncomputable section
variable {P:Program}
def jF (P:Program) (X:Ext) (n:Nat) (g:FuncId) (args:List V) (k:Nat) (φ:V→EH→Prop):D:=evK P kD X (.leaf False) n (.call g args (aH (k+1))) (fun r=>match r with | .v v H => .leaf (φ v H) | _ => .leaf False)
theorem L6 (hD:ak P) {X:Ext} (hX:bM P X) {n:Nat} {g:FuncId} {args:List V} {k:Nat} {φ:V→EH→Prop} {h:HT} (hv:VC (jF P X n g args k φ) h):∃ v H',SpecCall P g args (aH (k+1)) v H'∧φ v H':=by
 have hv:=wu _ _ hv.ok
 unfold jF at hv
 rw [kN (B:=kD) (φ:=den) (fun _ _ _=>rfl) (fun _ _=>rfl)] at hv
 cases hr:ev P X n (.call g args (aH (k+1))) with
 | none=>rw [hr] at hv;exact hv.elim
 | some r =>
  rw [hr] at hv
  cases r with
  | v v H'=>exact ⟨v,H',IL hD hX hr,hv⟩
  | _=>exact hv.elim
theorem qj {b:Bool} {p:Prop} (h:cond b p False):b=true∧p:=by
 cases b with
 | true=>exact ⟨rfl,h⟩
 | false=>exact h.elim
end
end Go.Ev
/- A function with two loops, one behind the other. -/
namespace Go.Ev
open Go
noncomputable section
variable {P:Program}
end
end Go.Ev
/- Contracts whose values hold rows of the arguments, as they are, and new ones: the value is said by data. -/
namespace Go.Ev
open Go
noncomputable section
variable {P:Program}
inductive S0 where
 | old (d:D0) (a:Nat)
 | new (d:D0)
inductive S1 where
 | one (s:S0)
 | ag (l:List S0)
inductive SV where
 | one (s:S1)
 | tup (l:List S1)
def Wu (as:Nat→Nat) (nw:Nat) (s:S0):V:=match s with | .old d a=>J4 d (as a) | .new d=>J4 d nw
def Xg (as:Nat→Nat) (nw:Nat) (l:List S0):List V:=List.rec (motive:=fun _=>List V) [] (fun s _ ih=>Wu as nw s::ih) l
def WI (as:Nat→Nat) (nw:Nat) (s:S1):V:=match s with | .one s=>Wu as nw s | .ag l => .agg (bJ l) (T.setL .lf 0 (Xg as nw l))
def VT (as:Nat→Nat) (nw:Nat) (l:List S1):List V:=List.rec (motive:=fun _=>List V) [] (fun s _ ih=>WI as nw s::ih) l
def Xx (as:Nat→Nat) (nw:Nat) (s:SV):V:=match s with | .one s=>WI as nw s | .tup l => .tup (VT as nw l)
def Ii (c:T V) (g:Nat→Int) (e:Nat):Nat→Nat→Prop :=
 Nat.rec (motive:=fun _=>Nat→Nat→Prop) (fun _ _=>True) (fun _ ih p j=>(match c.get p with | some v=>xI v (.int .i64 (g j)) | none=>False)∧ih (Nat.succ p) (Nat.succ j)) e
theorem Lt {c:T V} {g:Nat→Int}:∀ {e p j:Nat},Ii c g e p j→∀ k,k<e→c.get (p+k)=some (.int .i64 (g (j+k))):=by
 intro e
 induction e with
 | zero=>intro p j _ k hk;omega
 | succ e ih =>
  intro p j h k hk
  obtain ⟨h1,h2⟩:=(show (match c.get p with | some v=>xI v (.int .i64 (g j)) | none=>False)∧Ii c g e (p+1) (j+1) from h)
  cases k with
  | zero =>
   cases hc:c.get p with
   | none=>rw [hc] at h1;exact h1.elim
   | some v=>rw [hc] at h1;first | (rw [Nat.add_zero,hc,gp h1];rfl) | (rw [gp h1];rfl)
  | succ k =>
   have:=ih h2 k (by omega)
   rw [show p+(k+1)=p+1+k by omega,show j+(k+1)=j+1+k by omega];exact this
def G7 (c:T V) (e:Nat) (f:Nat→Nat→Int) (len:Nat):Nat→Nat→Prop :=
 Nat.rec (motive:=fun _=>Nat→Nat→Prop) (fun _ _=>True) (fun _ ih p i=>Ii c (f i) e p 0∧ih (Nat.add p e) (Nat.succ i)) len
theorem GK {c:T V} {e:Nat} {f:Nat→Nat→Int}:∀ {len p i:Nat},G7 c e f len p i→∀ k j,k<len→j<e→c.get (p+(k*e+j))=some (.int .i64 (f (i+k) j)):=by
 intro len
 induction len with
 | zero=>intro p i _ k j hk;omega
 | succ len ih =>
  intro p i h k j hk hj
  obtain ⟨h1,h2⟩:=(show Ii c (f i) e p 0∧G7 c e f len (p+e) (i+1) from h)
  cases k with
  | zero =>
   have:=Lt h1 j hj
   rw [Nat.zero_add] at this
   rw [Nat.zero_mul,Nat.zero_add];exact this
  | succ k =>
   have:=ih h2 k j (by omega) hj
   rw [show p+((k+1)*e+j)=p+e+(k*e+j) by rw [Nat.add_mul];omega,show i+(k+1)=i+1+k by omega];exact this
def qR (k:Nat) (H:EH) (v:V) (len e:Nat) (f:Nat→Nat→Int):Prop:=match v with
 | .nilSlice=>Int.ofNat 0=Int.ofNat len
 | .fz q a c l e'=>cond (Nat.blt k a) (V.fz q a c l e'=V.fz q a (ay .i64 f) len e) False
 | .slice b off l e'=>(Int.ofNat l=Int.ofNat len)∧(match H.block b with | .mk c lo sz _=>cond (Nat.beq e' e) (cond (Nat.ble lo off) (cond (Nat.ble (Nat.add off (Nat.mul l e)) sz) (G7 c e f l off 0) False) False) False | .no=>False)
 | _=>False
theorem U6 {q q':Bool} {a a':Nat} {c c':Nat→Nat→V} {l l' e e':Nat} (h:V.fz q a c l e=V.fz q' a' c' l' e'):a=a'∧c=c'∧l=l'∧e=e':=by
 injection h with h1 h2 h3 h4 h5
 exact ⟨h2,h3,h4,h5⟩
def okS (ok:Bool) (as:Nat→Nat) (nw:Nat) (r:Option (Bool×SV)):Option (Bool×V):=match r with | some (b,s)=>some (cond ok b false,Xx as nw s) | none=>none
end
end Go.Ev
/- Code with several loops, one behind the other: from each to the next. -/
namespace Go.Ev
open Go
noncomputable section
variable {P:Program}
end
end Go.Ev
