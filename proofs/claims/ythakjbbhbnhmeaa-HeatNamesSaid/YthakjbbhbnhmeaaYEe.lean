/- Contracts, where rows of numbers that lie in memory are handed in: they are read as if they were frozen, as long as the call runs. -/
import Derived.Test.YthakjbbhbnhmeaaYEd
set_option linter.all false
set_option linter.unusedSimpArgs false
set_option linter.unusedVariables false
namespace Go.Ev
open Go
noncomputable section
variable {P:Program}
def gJ (R:Ren) (H:EH) (w:World):Ren:=⟨R.bm,R.zs,fun a r=>if a=H.next then (match w.heap[r]? with | some (.cells cs _ _)=>some cs | _=>none) else R.cz a r⟩
theorem yY {R:Ren} {H:EH} {w:World} {r:Nat} {cs:Array Value} {t:TypeId} {fz:Nat×Nat} (h:w.heap[r]?=some (.cells cs t fz)):(gJ R H w).cz H.next r=some cs:=by
 show (if H.next=H.next then (match w.heap[r]? with | some (.cells cs _ _)=>some cs | _=>none) else _)=_
 rw [if_pos rfl,h]
theorem Je {R:Ren} {H:EH} {w:World} {a r:Nat} {cs:Array Value} (h:(gJ R H w).cz a r=some cs):R.cz a r=some cs∨∃ t fz,w.heap[r]?=some (.cells cs t fz):=by
 have h:(if a=H.next then (match w.heap[r]? with | some (.cells cs _ _)=>some cs | _=>none) else R.cz a r)=some cs:=h
 split at h
 ·split at h
  ·rename_i c t fz hc;cases h;exact .inr ⟨t,fz,hc⟩
  ·cases h
 ·exact .inl h
theorem nY {R:Ren} {H:EH} {w:World} (hf:∀ r,R.cz H.next r=none):R.le (gJ R H w):=by
 refine ⟨fun _ _ e=>e,fun _ _ _ _=>rfl,fun a r cs e=>?_⟩
 show (if a=H.next then _ else R.cz a r)=some cs
 rw [if_neg (fun q=>by rw [q,hf r] at e;cases e)];exact e
def pK (c:T V) (n:Nat):Nat→Option (List Int):=Nat.rec (motive:=fun _=>Nat→Option (List Int)) (fun _=>some []) (fun _ ih p=>match c.get p with | some (.int .i64 x)=>jb x (ih (Nat.succ p)) | _=>none) n
def RZ (l:List Int):Nat→Int:=List.rec (motive:=fun _=>Nat→Int) (fun _=>0) (fun x _ ih i=>match i with | 0=>x | Nat.succ i=>ih i) l
theorem Nv {c:T V}:∀ {n p:Nat} {l:List Int},pK c n p=some l→∀ i,i<n→c.get (p+i)=some (.int .i64 (RZ l i)):=by
 intro n
 induction n with
 | zero=>intro p l h i hi;omega
 | succ n ih =>
  intro p l h i hi
  have h:(match c.get p with | some (.int .i64 x)=>jb x (pK c n (p+1)) | _=>none)=some l:=h
  split at h
  ·rename_i x hx
   obtain ⟨l',h2,rfl⟩:=dW h
   cases i with
   | zero=>rw [Nat.add_zero,hx];rfl
   | succ i=>rw [show p+(i+1)=p+1+i by omega];exact ih h2 i (by omega)
  ·cases h
def jf (l:List Int) (e:Nat):Nat→Nat→Int:=fun i j=>RZ l (Nat.add (Nat.mul i e) j)
def F8 (n:Nat) (v:V):V:=match v with | .fz _ _ c len e => .fz true n c len e | v=>v
def Ae (H:EH) (v:V):Option V:=match v with
 | .fz _ a c len e=>cond (Nat.ble a H.next) (some (.fz true H.next c len e)) none
 | .slice b off len e=>(match H.block b with
  | .mk c lo sz _=>cond (Nat.ble lo off) (cond (Nat.ble (Nat.add off (Nat.mul len e)) sz) (match pK c (Nat.mul len e) off with | some l=>some (.fz true H.next (bZ .i64 (jf l e)) len e) | none=>none) none) none
  | .no=>none)
 | _=>none
def iQ (H:EH) (c:T V) (n:Nat):Nat→Option (List V):=Nat.rec (motive:=fun _=>Nat→Option (List V)) (fun _=>some []) (fun _ ih p=>match c.get p with | some v=>(match Ae H v with | some r=>jb r (ih (Nat.succ p)) | none=>none) | none=>none) n
def vG (l:List V):Nat→V:=List.rec (motive:=fun _=>Nat→V) (fun _ => .fz true 0 (fun _ _ => .bad) 0 1) (fun x _ ih i=>match i with | 0=>x | Nat.succ i=>ih i) l
abbrev RL:=List (Nat×(Nat→Nat→Int))
def lsL (l:RL):Nat→Nat:=List.rec (motive:=fun _=>Nat→Nat) (fun _=>0) (fun x _ ih i=>match i with | 0=>x.1 | Nat.succ i=>ih i) l
def fsL (l:RL):Nat→Nat→Nat→Int:=List.rec (motive:=fun _=>Nat→Nat→Nat→Int) (fun _ _ _=>0) (fun x _ ih i=>match i with | 0=>x.2 | Nat.succ i=>ih i) l
def Gg (a e0:Nat) (l:List V):Option RL:=List.rec (motive:=fun _=>Option RL) (some []) (fun v _ ih=>match v with
 | .fz _ a' c len e=>cond (Nat.beq a' a) (cond (Nat.beq e e0) (match ih with | some r=>some ((len,fun j k=>gV (c j k))::r) | none=>none) none) none
 | _=>none) l
def okW (l:List V):Bool:=List.rec (motive:=fun _=>Bool) true (fun v _ ih=>match v with | .fz _ _ c len e=>cond (mQ .i64 c len e) ih false | _=>ih) l
def MS (l:List V):Nat:=match l with | .fz _ _ _ _ e::_=>e | _=>1
def Cc (H:EH) (v:V) (len e:Nat) (l:List V):V:=match Gg H.next (MS l) l with | some L => .fz true H.next (zF H.next (MS l) (lsL L) (fsL L)) len e | none=>v
def view (H:EH) (v:V):V:=match v with
 | .slice b off len e=>(match H.block b with
  | .mk c lo sz _=>cond (Nat.ble lo off) (cond (Nat.ble (Nat.add off (Nat.mul len e)) sz) (match pK c (Nat.mul len e) off with
   | some l => .fz true H.next (bZ .i64 (jf l e)) len e
   | none=>cond (Nat.beq e 1) (match iQ H c len off with | some l=>Cc H v len e l | none=>v) v) v) v
  | .no=>v)
 | .fz _ a c len e=>cond (Nat.ble a H.next) (.fz true H.next (fun i j=>F8 H.next (c i j)) len e) v
 | v=>v
def KI (H:EH) (v:V):Bool:=match v with
 | .slice b off len e=>(match H.block b with
  | .mk c _ _ _=>(match pK c (Nat.mul len e) off with
   | some _=>true
   | none=>(match iQ H c len off with | some l=>okW l | none=>true))
  | .no=>true)
 | _=>true
def JQ (H:EH) (l:List V):Bool:=List.rec (motive:=fun _=>Bool) true (fun v _ ih=>cond (KI H v) ih false) l
def Kv (H:EH) (v:V):Bool:=match v with
 | .agg n c=>(match cellL c n 0 with | some l=>JQ H l | none=>true)
 | v=>KI H v
def kZ (H:EH) (l:List V):Bool:=List.rec (motive:=fun _=>Bool) true (fun v _ ih=>cond (Kv H v) ih false) l
def oG (H:EH) (l:List V):List V:=List.rec (motive:=fun _=>List V) [] (fun v _ ih=>view H v::ih) l
def zX (H:EH) (v:V):V:=match v with
 | .agg n c=>(match cellL c n 0 with | some l => .agg n (T.setL .lf 0 (oG H l)) | none=>v)
 | v=>view H v
def fJ (H:EH) (l:List V):List V:=List.rec (motive:=fun _=>List V) [] (fun v _ ih=>zX H v::ih) l
theorem sD {R:Ren} {H:EH} {w:World} (hr:Rel R All H w) {b off len e lo sz g:Nat} {c:T V} {x:Value} (h:VR R (.slice b off len e) x) (hb:H.block b = .mk c lo sz g) (hl:lo≤off) (hz:off+len*e≤sz) {l:List Int} (hi:pK c (len*e) off=some l) :
 VR (gJ R H w) (.fz true H.next (bZ .i64 (jf l e)) len e) x:=by
 cases h with
 | slice hm ho hle hzz =>
  rename_i r dd o cap
  obtain ⟨cs,t,fz,a1,a2,a3,a4⟩:=hr.row hb hm trivial
  by_cases h0:len=0
  ·subst h0;exact .fzE (fun q=>by cases q)
  ·have hcap:cap≠0:=by omega
   have ho':=ho hcap
   have key:∀ i j,i<len→j<e→cs[o+(i*e+j)]?=some (.int .i64 (jf l e i j)):=fun i j hi' hj=>by
    have hlt:i*e+j<len*e:=by
     have:(i+1)*e≤len*e:=Nat.mul_le_mul_right _ hi'
     rw [Nat.add_mul] at this;omega
    obtain ⟨p,x,y,e1,e2,e3,e4⟩:=a4 (off+(i*e+j)) (by omega) (by omega)
    have hq:c.get (off+(i*e+j))=some (.int .i64 (jf l e i j)):=Nv hi _ hlt
    rw [hq] at e1
    have e1:=Option.some.inj e1
    rw [← e1] at e4
    rw [show off+(i*e+j)-dd=o+(i*e+j) by omega] at e3
    cases e4
    rw [e3]
   exact .fz (fun i j => .int .i64 (jf l e i j)) (yY a1) hle key (fun _ _ _ _=>rfl) (fun _ _ _ _ => .int _ _) fun _ _ _ _ => .int _ _
theorem Gs {R:Ren} {H:EH} {w:World} (hr:Rel R All H w) {a r:Nat} {cs:Array Value} (h:R.cz a r=some cs):(gJ R H w).cz H.next r=some cs:=by
 obtain ⟨⟨t,fz,e⟩,_⟩:=hr.frz a r cs h
 exact yY e
theorem GG {R:Ren} {H:EH} {w:World} (hr:Rel R All H w) (hf:∀ r,R.cz H.next r=none) {q:Bool} {a len e:Nat} {c:Nat→Nat→V} {x:Value} (h:VR R (.fz q a c len e) x) (ha:a≤H.next):VR (gJ R H w) (.fz true H.next c len e) x:=by
 cases h with
 | fzN=>exact .fzN
 | fzE h0=>exact .fzE (fun q=>by cases q)
 | fz y hc hl hy hs hag hv h0=>exact .fz y (Gs hr hc) hl hy hs (fun i j hi hj=>(hag i j hi hj).mono ha) fun i j hi hj=>(hv i j hi hj).mono (nY hf)
theorem Dj {n:Nat} {v:V} {a:Nat} (h:Aged a v) (ha:a≤n):Aged n (F8 n v):=by
 cases h with
 | fz k hb h=>exact .fz true (Nat.le_refl _) fun i j hi hj=>(h i j hi hj).mono ha
 | _=>constructor
theorem JA {R:Ren} {H:EH} {w:World} (hr:Rel R All H w) (hf:∀ r,R.cz H.next r=none) {q:Bool} {a len e:Nat} {c:Nat→Nat→V} {x:Value} (h:VR R (.fz q a c len e) x) (ha:a≤H.next):VR (gJ R H w) (.fz true H.next (fun i j=>F8 H.next (c i j)) len e) x:=by
 cases h with
 | fzN=>exact .fzN
 | fzE h0=>exact .fzE (fun q=>by cases q)
 | fz y hc hl hy hs hag hv h0 =>
  refine .fz y (Gs hr hc) hl hy (fun i j hi hj=>?_) (fun i j hi hj=>Dj (hag i j hi hj) ha) fun i j hi hj=>?_
  ·have:=hs i j hi hj
   cases e:c i j<;>first | rfl | (rw [e] at this;exact this)
  ·have h1:=hv i j hi hj
   have h2:=hag i j hi hj
   show VR _ (F8 H.next (c i j)) (y i j)
   cases e:c i j with
   | fz q' a' c' len' e' =>
    rw [e] at h1 h2
    cases h2 with
    | fz _ hb _=>exact GG hr hf h1 (Nat.le_trans hb ha)
   | _=>rw [e] at h1;exact h1.mono (nY hf)
theorem Oy {R:Ren} {H:EH} {w:World} (hr:Rel R All H w) (hf:∀ r,R.cz H.next r=none) {v r:V} (hv:Ae H v=some r) {x:Value} (h:VR R v x):VR (gJ R H w) r x∧aK r=true∧(∀ b,VR (gJ R H w) r b→True):=by
 unfold Ae at hv
 split at hv
 ·rename_i q a c len e
  cases h1:Nat.ble a H.next with
  | false=>rw [h1] at hv;cases hv
  | true=>rw [h1] at hv;cases hv;exact ⟨GG hr hf h (Nat.le_of_ble_eq_true h1),rfl,fun _ _=>trivial⟩
 ·rename_i b off len e
  split at hv
  ·rename_i c lo sz g hb
   cases h1:Nat.ble lo off with
   | false=>rw [h1] at hv;cases hv
   | true =>
    cases h2:Nat.ble (Nat.add off (Nat.mul len e)) sz with
    | false=>rw [h1,h2] at hv;cases hv
    | true =>
     rw [h1,h2] at hv
     cases h3:pK c (Nat.mul len e) off with
     | none=>rw [h3] at hv;cases hv
     | some l=>rw [h3] at hv;cases hv;exact ⟨sD hr h hb (Nat.le_of_ble_eq_true h1) (Nat.le_of_ble_eq_true h2) h3,rfl,fun _ _=>trivial⟩
  ·cases hv
 ·cases hv
theorem H7 {H:EH} {v r:V} {a:Nat} (hv:Ae H v=some r) (h:∀ q a c len e,v = .fz q a c len e→Aged a v):Aged H.next r:=by
 unfold Ae at hv
 split at hv
 ·rename_i q a c len e
  cases h1:Nat.ble a H.next with
  | false=>rw [h1] at hv;cases hv
  | true =>
   rw [h1] at hv;cases hv
   have:=h _ _ _ _ _ rfl
   cases this with
   | fz _ _ hh=>exact .fz _ (Nat.le_refl _) fun i j hi hj=>(hh i j hi hj).mono (Nat.le_of_ble_eq_true h1)
 ·rename_i b off len e
  split at hv
  ·rename_i c lo sz g hb
   cases h1:Nat.ble lo off with
   | false=>rw [h1] at hv;cases hv
   | true =>
    cases h2:Nat.ble (Nat.add off (Nat.mul len e)) sz with
    | false=>rw [h1,h2] at hv;cases hv
    | true =>
     rw [h1,h2] at hv
     cases h3:pK c (Nat.mul len e) off with
     | none=>rw [h3] at hv;cases hv
     | some l=>rw [h3] at hv;cases hv;exact .fz _ (Nat.le_refl _) fun _ _ _ _ => .int _ _
  ·cases hv
 ·cases hv
theorem Ji {H:EH} {c:T V}:∀ {n p:Nat} {l:List V},iQ H c n p=some l→∀ i,i<n→∃ v,c.get (p+i)=some v∧Ae H v=some (vG l i):=by
 intro n
 induction n with
 | zero=>intro p l h i hi;omega
 | succ n ih =>
  intro p l h i hi
  have h:(match c.get p with | some v=>(match Ae H v with | some r=>jb r (iQ H c n (p+1)) | none=>none) | none=>none)=some l:=h
  split at h
  ·rename_i v hv
   split at h
   ·rename_i r hr
    obtain ⟨l',h2,rfl⟩:=dW h
    cases i with
    | zero=>exact ⟨v,by rw [Nat.add_zero];exact hv,hr⟩
    | succ i=>rw [show p+(i+1)=p+1+i by omega];exact ih h2 i (by omega)
   ·cases h
  ·cases h
theorem Ig {R:Ren} {H:EH} {w:World} (hr:Rel R All H w) (hf:∀ r,R.cz H.next r=none) {b off len lo sz g:Nat} {c:T V} {x:Value} (h:VR R (.slice b off len 1) x) (hb:H.block b = .mk c lo sz g) (hl:lo≤off) (hz:off+len*1≤sz) {l:List V} (hi:iQ H c len off=some l) :
 VR (gJ R H w) (.fz true H.next (fun i _=>vG l i) len 1) x:=by
 cases h with
 | slice hm ho hle hzz =>
  rename_i r dd o cap
  obtain ⟨cs,t,fz,a1,a2,a3,a4⟩:=hr.row hb hm trivial
  by_cases h0:len=0
  ·subst h0;exact .fzE (fun q=>by cases q)
  ·have hcap:cap≠0:=by omega
   have ho':=ho hcap
   have key:∀ i,i<len→∃ y,cs[o+i]?=some y∧VR (gJ R H w) (vG l i) y∧aK (vG l i)=true∧Aged H.next (vG l i):=fun i hi'=>by
    obtain ⟨v,q1,q2⟩:=Ji hi i hi'
    obtain ⟨p,x,y,e1,e2,e3,e4⟩:=a4 (off+i) (by omega) (by omega)
    rw [q1] at e1
    cases e1
    rw [show off+i-dd=o+i by omega] at e3
    obtain ⟨z1,z2,_⟩:=Oy hr hf q2 e4
    refine ⟨y,e3,z1,z2,?_⟩
    have hA:∀ q a c len e,v = .fz q a c len e→0<len→Aged a v:=fun q a c len e hv hpos=>by
     subst hv
     cases e4 with
     | fzN=>omega
     | fzE=>omega
     | fz y hc hl hy hs hag hv h0=>exact .fz _ (Nat.le_refl _) hag
    by_cases hpos:∃ q a c e,v = .fz q a c 0 e
    ·obtain ⟨q,a,c,e,rfl⟩:=hpos
     have q2:cond (Nat.ble a H.next) (some (V.fz true H.next c 0 e)) none=some (vG l i):=q2
     cases hble:Nat.ble a H.next with
     | false=>rw [hble] at q2;cases q2
     | true =>
      rw [hble] at q2
      have q2:some (V.fz true H.next c 0 e)=some (vG l i):=q2
      have q2:=Option.some.inj q2
      rw [← q2]
      exact .fz _ (Nat.le_refl _) fun i j hi hj=>absurd hi (by omega)
    ·refine H7 (a:=0) q2 fun q a c len e hv=>hA q a c len e hv ?_
     cases len with
     | zero=>exact absurd ⟨q,a,c,e,hv⟩ hpos
     | succ n=>omega
   have hY:∀ i,∃ y,i<len→cs[o+i]?=some y∧VR (gJ R H w) (vG l i) y:=fun i=>by
    by_cases hi':i<len
    ·obtain ⟨y,z1,z2,_⟩:=key i hi'
     exact ⟨y,fun _=>⟨z1,z2⟩⟩
    ·exact ⟨.nilFunc,fun q=>absurd q hi'⟩
   refine .fz (fun i _=>(hY i).choose) (yY a1) hle (fun i j hi' hj=>?_) (fun i j hi' hj=>?_) (fun i j hi' hj=>?_) fun i j hi' hj=>?_
   ·have j0:j=0:=by omega
    subst j0
    have:=((hY i).choose_spec hi').1
    rw [show o+(i*1+0)=o+i by omega];exact this
   ·obtain ⟨_,_,_,z,_⟩:=key i hi';exact z
   ·obtain ⟨_,_,_,_,z⟩:=key i hi';exact z
   ·exact ((hY i).choose_spec hi').2
theorem xy {a e0:Nat}:∀ {l:List V} {L:RL},Gg a e0 l=some L→okW l=true→l.length=L.length∧∀ i,i<l.length→∃ q c len,vG l i = .fz q a c len e0∧lsL L i=len∧fsL L i=(fun j k=>gV (c j k))∧mQ .i64 c len e0=true
 | [],L,h,_=>by cases h;exact ⟨rfl,fun i hi=>by simp at hi⟩
 | v::l,L,h,ho=>by
  cases v with
  | fz q a' c len e =>
   have h:cond (Nat.beq a' a) (cond (Nat.beq e e0) (match Gg a e0 l with | some r=>some ((len,fun j k=>gV (c j k))::r) | none=>none) none) none=some L:=h
   have ho:cond (mQ .i64 c len e) (okW l) false=true:=ho
   obtain ⟨o1,o2⟩:=ae ho
   cases h1:Nat.beq a' a with
   | false=>rw [h1] at h;cases h
   | true =>
    cases h2:Nat.beq e e0 with
    | false=>rw [h1,h2] at h;cases h
    | true =>
     rw [h1,h2] at h
     have:=nb h1;subst this
     have:=nb h2;subst this
     cases h3:Gg a' e l with
     | none=>rw [h3] at h;cases h
     | some r =>
      rw [h3] at h
      cases h
      obtain ⟨k1,k2⟩:=xy h3 o2
      refine ⟨by simp [k1],fun i hi=>?_⟩
      cases i with
      | zero=>exact ⟨q,c,len,rfl,rfl,rfl,o1⟩
      | succ i=>exact k2 i (by simpa using hi)
  | _=>cases h
theorem Hw {H:EH} {c:T V}:∀ {n p:Nat} {l:List V},iQ H c n p=some l→l.length=n:=by
 intro n
 induction n with
 | zero=>intro p l h;cases h;rfl
 | succ n ih =>
  intro p l h
  have h:(match c.get p with | some v=>(match Ae H v with | some r=>jb r (iQ H c n (p+1)) | none=>none) | none=>none)=some l:=h
  split at h
  ·split at h
   ·obtain ⟨l',h2,rfl⟩:=dW h
    simp [ih h2]
   ·cases h
  ·cases h
theorem DL {R:Ren} {H:EH} {w:World} (hr:Rel R All H w) (hf:∀ r,R.cz H.next r=none) {b off len lo sz g:Nat} {c:T V} {x:Value} (h:VR R (.slice b off len 1) x) (hb:H.block b = .mk c lo sz g) (hl:lo≤off) (hz:off+len*1≤sz) {l:List V} (hi:iQ H c len off=some l) (ho:okW l=true) :
 VR (gJ R H w) (Cc H (.slice b off len 1) len 1 l) x:=by
 unfold Cc
 split
 ·rename_i L hp
  obtain ⟨k1,k2⟩:=xy hp ho
  have hlen:=Hw hi
  have h1:=Ig hr hf h hb hl hz hi
  refine h1.fz_as (fun _ _ e=>e) (fun _ _ _ _=>rfl) (fun _ _ _ _ => .fz _ (Nat.le_refl _) fun _ _ _ _ => .int _ _) (fun i j hi' hj y hy=>?_)
  obtain ⟨q,c',len',e1,e2,e3,e4⟩:=k2 i (by omega)
  have hy:VR (gJ R H w) (vG l i) y:=hy
  rw [e1] at hy
  show VR _ (.fz true H.next (bZ .i64 (fsL L i)) (lsL L i) (MS l)) y
  rw [e2,e3]
  refine hy.fz_as (fun _ _ e=>e) (fun _ _ _ _=>rfl) (fun _ _ _ _ => .int _ _) (fun i' j' hi2 hj2 y' hy'=>?_)
  show VR _ (.int .i64 (gV (c' i' j'))) y'
  rw [sO e4 hi2 hj2] at hy'
  cases hy';exact .int _ _
 ·exact VR.mono (nY (w:=w) hf) h
theorem GY {R:Ren} {H:EH} {w:World} (hr:Rel R All H w) (hf:∀ r,R.cz H.next r=none) {v:V} (hok:KI H v=true) {x:Value} (h:VR R v x):VR (gJ R H w) (view H v) x:=by
 have hm:=VR.mono (nY (w:=w) hf) h
 unfold view
 split
 ·rename_i b off len e
  split
  ·rename_i c lo sz g hb
   have hokA:(match H.block b with
    | .mk c _ _ _=>(match pK c (Nat.mul len e) off with
     | some _=>true
     | none=>(match iQ H c len off with | some l=>okW l | none=>true))
    | .no=>true)=true:=hok
   rw [hb] at hokA
   clear hok
   replace hokA:(match pK c (Nat.mul len e) off with | some _=>true | none=>(match iQ H c len off with | some l=>okW l | none=>true))=true:=hokA
   cases h1:Nat.ble lo off with
   | false=>exact hm
   | true =>
    cases h2:Nat.ble (Nat.add off (Nat.mul len e)) sz with
    | false=>exact hm
    | true =>
     simp only [cond_true]
     split
     ·rename_i l h3;exact sD hr h hb (Nat.le_of_ble_eq_true h1) (Nat.le_of_ble_eq_true h2) h3
     ·rename_i hg
      rw [hg] at hokA
      replace hokA:(match iQ H c len off with | some l=>okW l | none=>true)=true:=hokA
      cases h4:Nat.beq e 1 with
      | false=>exact hm
      | true =>
       have:=nb h4;subst this
       simp only [cond_true]
       split
       ·rename_i l h5
        rw [h5] at hokA
        exact DL hr hf h hb (Nat.le_of_ble_eq_true h1) (Nat.le_of_ble_eq_true h2) h5 hokA
       ·exact hm
  ·exact hm
 ·rename_i q a c len e
  cases h1:Nat.ble a H.next with
  | false=>exact hm
  | true=>exact JA hr hf h (Nat.le_of_ble_eq_true h1)
 ·exact hm
theorem lK (H:EH):∀ l:List V,(oG H l).length=l.length
 | []=>rfl
 | _::l=>by show (oG H l).length+1=_;rw [lK H l];rfl
theorem qA (H:EH):∀ (l:List V) (i:Nat) (h:i<(oG H l).length) (h':i<l.length),(oG H l)[i]=view H l[i]
 | _::_,0,_,_=>rfl
 | _::l,i+1,h,h'=>qA H l i (by exact Nat.lt_of_succ_lt_succ h) (by exact Nat.lt_of_succ_lt_succ h')
theorem Jm (H:EH) {v:V} (h:aK v=true):aK (view H v)=true:=by
 unfold view Cc
 simp only [ak,ai]
 repeat' (first | rfl | exact h | split)
theorem BC {H:EH}:∀ {l:List V},JQ H l=true→∀ i (h:i<l.length),KI H l[i]=true
 | v::l,h,i,hi=>by
  obtain ⟨h1,h2⟩:=ae (show cond (KI H v) (JQ H l) false=true from h)
  cases i with
  | zero=>exact h1
  | succ i=>exact BC h2 i (by exact Nat.lt_of_succ_lt_succ hi)
theorem LV {R:Ren} {H:EH} {w:World} (hr:Rel R All H w) (hf:∀ r,R.cz H.next r=none) {v:V} (hok:Kv H v=true) {x:Value} (h:VR R v x):VR (gJ R H w) (zX H v) x:=by
 have hm:=VR.mono (nY (w:=w) hf) h
 unfold zX
 split
 ·rename_i n c
  split
  ·rename_i l hc
   have hokl:JQ H l=true:=by
    have hok:(match cellL c n 0 with | some l=>JQ H l | none=>true)=true:=hok
    rw [hc] at hok;exact hok
   obtain ⟨g1,g2⟩:=xA hc
   have hsc:∀ i,i<n→aK (l.getD i .bad)=true:=fun i hi=>by
    have e:=g2 i hi
    rw [Nat.zero_add] at e
    cases h with
    | agg g hn hg hs hv =>
     rw [hg i hi] at e
     have:=hs i hi
     simp only [List.getD,← e,Option.getD_some]
     exact this
   refine h.agg_as (fun i=>l.getD i .bad) (fun i=>(oG H l).getD i .bad) (fun i hi=>?_) (fun i hi=>?_) (fun i hi=>?_) (fun i hi y hv=>?_)
   ·have:=g2 i hi
    rw [Nat.zero_add] at this
    rw [this];simp [List.getD,List.getElem?_eq_getElem (show i<l.length by omega)]
   ·have hl:=lK H l
    rw [T.get_setL,if_pos (by omega)]
    simp [List.getD,List.getElem?_eq_getElem (show i<(oG H l).length by omega)]
   ·have hl:=lK H l
    have e:=qA H l i (by omega) (by omega)
    have:=Jm H (hsc i hi)
    simp only [List.getD,List.getElem?_eq_getElem (show i<(oG H l).length by omega),List.getElem?_eq_getElem (show i<l.length by omega),Option.getD_some] at this ⊢
    rw [e];exact this
   ·have hl:=lK H l
    have e:=qA H l i (by omega) (by omega)
    simp only [List.getD,List.getElem?_eq_getElem (show i<(oG H l).length by omega),List.getElem?_eq_getElem (show i<l.length by omega),Option.getD_some] at hv ⊢
    rw [e];exact GY hr hf (BC hokl i (by omega)) hv
  ·exact hm
 ·rename_i hna
  refine GY hr hf ?_ h
  cases v<;>first | exact hok | exact (hna _ _ rfl).elim
theorem JY {R:Ren} {H:EH} {w:World} (hr:Rel R All H w) (hf:∀ r,R.cz H.next r=none):∀ {l:List V} (hok:kZ H l=true) {ys:Array Value},AL R l ys→AL (gJ R H w) (fJ H l) ys:=by
 intro l
 induction l with
 | nil=>intro _ ys h;exact AL.nil_imp h
 | cons v l ih =>
  intro hok ys h
  obtain ⟨h1,h2⟩:=ae (show cond (Kv H v) (kZ H l) false=true from hok)
  exact AL.cons_imp h (fun y q=>LV hr hf h1 q) (fun t q=>ih h2 q)
theorem iK {R R2:Ren} {v:V} (h:nK v=true) {x:Value} (hx:VR R v x):VR R2 v x:=by
 cases v<;>first | (cases h;done) | (cases hx;first | exact .bool _ | exact .int _ _)
theorem Jv {R R2:Ren} {v:V} (h:l7 v=true) {x:Value} (hx:VR R v x):VR R2 v x:=by
 cases v with
 | agg n c =>
  have h:xm c n 0=true:=h
  have key:∀ i,i<n→c.get i=some (getD' c i)∧nK (getD' c i)=true:=fun i hi=>by
   obtain ⟨v,q1,q2⟩:=pW h i hi
   rw [Nat.zero_add] at q1
   have e:getD' c i=v:=by unfold getD';rw [q1]
   rw [e];exact ⟨q1,q2⟩
  refine hx.agg_as (getD' c) (getD' c) (fun i hi=>(key i hi).1) (fun i hi=>(key i hi).1) (fun i hi=>?_) (fun i hi y hy=>iK (key i hi).2 hy)
  have:=(key i hi).2
  cases e:getD' c i<;>first | rfl | (rw [e] at this;cases this)
 | _=>refine iK ?_ hx;exact h
theorem Ee {g:FuncId} {args0:List V} {k:Nat} {v:V} {H':EH} (hs:SpecCall P g args0 (jH (k+1)) v H') {args:List V} {H:EH} {as:Nat→Nat} (hal:∀ R w ys,Rel R All H w→(∀ r,R.cz H.next r=none)→AL R args ys→AL (jK (gJ R H w) w k as) args0 ys)
 {v':V} (hF:∀ R R2 x,VR R v x→VR R2 v' x):SpecCall P g args H v' (bump H):=by
 obtain ⟨n1,hfn,hk⟩:=hs
 refine ⟨Nat.le_succ _,hfn,fun R w args' n hr hw hf ha=>?_⟩
 have hfn0:=hf H.next (Nat.le_refl _) (Nat.lt_succ_self _)
 have hr0:Rel (jK (gJ R H w) w k as) All (jH (k+1)) w:=by
  refine ⟨fun b r d h=>(by cases h),fun b o r d h=>(by cases h),fun b b' o o' r d d' h=>(by cases h),fun a r cs e=>?_⟩
  rcases wF e with ⟨_,e⟩ | ⟨_,e⟩
  ·rcases Je e with e | e
   ·exact ⟨(hr.frz _ _ _ e).1,fun b d q=>by cases q⟩
   ·exact ⟨e,fun b d q=>by cases q⟩
  ·exact ⟨e,fun b d q=>by cases q⟩
 have hfree:Free (jK (gJ R H w) w k as) (jH (k+1)) H':=fun b h1 _=>⟨rfl,fun r=>by
  have h1:k+1≤b:=h1
  cases e:(jK (gJ R H w) w k as).cz b r with
  | none=>rfl
  | some cs=>rcases wF e with ⟨q,_⟩ | ⟨q,_⟩<;>omega⟩
 refine CallsIn.mono (hk (jK (gJ R H w) w k as) w args' n hr0 (Lm (k+1)) hfree (hal R w args' hr hfn0.2 ha)) fun en w' ⟨x,R',e1,e2,e3⟩=>?_
 have hkeep:∀ r,r<w.heap.size→w'.heap[r]?=w.heap[r]?:=fun r hr=>e3.fr.keep r hr fun b o d ho=>by cases ho
 refine ⟨x,R,e1,hF _ _ _ e2,⟨⟨Nat.le_succ _,Nat.le_refl _,fun b o h=>⟨o,h,rfl,rfl⟩,fun b o h _=>⟨h,rfl⟩,fun b o h _=>⟨o,h⟩,yx hw,fun g h=>h,fun b o h hb=>absurd (hw.lt b o h) (by omega)⟩,
  ⟨fun _ _=>rfl,fun _ _=>rfl,fun b r d h1 h2 e=>?_,fun a ha=>rfl,fun a r cs e => .inl e⟩,⟨e3.fr.os,e3.fr.tape,e3.fr.output,e3.fr.size,fun r hr _=>hkeep r hr⟩,
  ⟨fun b r d hb=>Nat.lt_of_lt_of_le (hr.img b r d hb) e3.fr.size,fun b o r d ho hb=>(hr.obj b o r d ho hb).mono (R':=R) ⟨fun _ _ e=>e,fun _ _ _ _=>rfl,fun a r cs e=>e⟩ hb (hkeep r (hr.img b r d hb)) (fun _=>trivial) (fun v=>by cases o<;>exact v),hr.inj,fun a r cs e=>?_⟩⟩⟩
 ·have h2:b<H.next+1:=h2
  have:b=H.next:=by omega
  subst this
  have e:R.bm H.next=some (r,d):=e
  rw [hfn0.1] at e;cases e
 ·obtain ⟨⟨t,fz,z1⟩,z2⟩:=hr.frz a r cs e
  exact ⟨⟨t,fz,(hkeep r (hr.frz.lt e)).trans z1⟩,z2⟩
theorem NU {v v':V} (hv:sH v v') (h:uf v'=true):∀ R R2 x,VR R v x→VR R2 v' x:=by
 have one:∀ {v v':V},kJ v v'→l7 v'=true→∀ {R R2:Ren} {x:Value},VR R v x→VR R2 v' x:=by
  intro v v' hv h R R2 x hx
  have hF:=sV (H:=jH 0) (k:=0) (new:=0) (as:=fun n=>n) hv h
  cases hF with
  | one h0 =>
   cases h0 with
   | bool b=>exact iK rfl hx
   | int kd n=>exact iK rfl hx
   | nilSlice=>exact Jv h hx
   | nilS=>cases h
   | fz=>cases h
   | slice=>cases h
  | agg d d' h1 h2 hs h3 =>
   refine hx.agg_as d d' h1 h2 hs fun i hi y hy=>?_
   have hfl:nK (d' i)=true:=by
    obtain ⟨q,q1,q2⟩:=pW (show xm _ _ 0=true from h) i hi
    rw [Nat.zero_add] at q1
    rw [h2 i hi] at q1
    rw [Option.some.inj q1];exact q2
   have h4:=h3 i hi
   revert h4 hfl hy
   generalize d i=a
   generalize d' i=b
   intro hy hfl h4
   cases h4 with
   | bool b=>exact iK rfl hy
   | int kd n=>exact iK rfl hy
   | nilSlice=>cases hfl
   | nilS=>cases hfl
   | fz=>cases hfl
   | slice=>cases hfl
 intro R R2 x hx
 have hF:=J8 (H:=jH 0) (k:=0) (new:=0) (as:=fun n=>n) hv h
 unfold sH at hv
 split at hv
 ·rename_i l l'
  obtain ⟨g1,g2⟩:=pJ hv
  cases hx with
  | tup hl hvs=>exact .tup (by omega) fun i h1 h2=>one (g2 i (by omega) h1) (mi (show yS l'=true from h) i h1) (hvs i (by omega) h2)
 ·rename_i hn
  refine one hv ?_ hx
  cases v' with
  | tup l' =>
   have hv:kJ v (.tup l'):=hv
   cases v with
   | tup l=>exact (hn l l' rfl rfl).elim
   | _ =>
    first
     | (have hv:=lJ (v' := .tup l') hv;cases hv;done)
     | (unfold kJ at hv;split at hv<;>first | (cases hv;done) | (rename_i e;cases e;done) | (have hv:=lJ hv;cases hv;done))
  | _=>exact h
def LG (val:Val) (l:List V):Option (Bool×V):=match dec l with | some das=>BP (okL l) (val das) | none=>none
def cfM (val:Val):CF:=fun args H=>BP (kZ H args) (LG val (fJ H args))
theorem N9 {g:FuncId} {val:Val} (h:Con P g val):lT P (g,cfM val):=fun args H v hv0=>by
 have hv0:BP (kZ H args) (LG val (fJ H args))=some (true,v):=hv0
 obtain ⟨hokv,hv⟩:kZ H args=true∧LG val (fJ H args)=some (true,v):=by
  cases hc:LG val (fJ H args) with
  | none=>rw [hc] at hv0;cases hv0
  | some bv =>
   obtain ⟨b,v'⟩:=bv
   rw [hc] at hv0
   have e0:cond (kZ H args) b false=true:=by injection hv0 with hv0;injection hv0
   have e2:v'=v:=by injection hv0 with hv0;injection hv0
   obtain ⟨e1,e3⟩:=ae e0
   subst e2;subst e3
   exact ⟨e1,rfl⟩
 have hv:(match dec (fJ H args) with | some das=>BP (okL (fJ H args)) (val das) | none=>none)=some (true,v):=hv
 cases hd:dec (fJ H args) with
 | none=>rw [hd] at hv;cases hv
 | some das =>
  rw [hd] at hv
  have hv:BP (okL (fJ H args)) (val das)=some (true,v):=hv
  cases hval:val das with
  | none=>rw [hval] at hv;cases hv
  | some bv =>
   obtain ⟨b,v'⟩:=bv
   rw [hval] at hv
   have e0:cond (okL (fJ H args)) b false=true:=by injection hv with hv;injection hv
   obtain ⟨e1,e3⟩:=ae e0
   have e2:v'=v:=by injection hv with hv;injection hv
   subst e2
   subst e3
   obtain ⟨hf,v1,H',hs,hvp⟩:=h das v' hval
   have key:∀ (R:Ren) (w:World),nxE das 0=0+(agL (fJ H args)).length∧∀ ys,AL R (fJ H args) ys→AL (jK R w (nxE das 0) (fun n=>(agL (fJ H args)).getD n 0)) (enc das 0) ys:=fun R w=>by
    have h1:=(KZ (R:=R) (w:=w) (k:=0+(agL (fJ H args)).length) (as:=fun n=>(agL (fJ H args)).getD n 0) (n:=0) hd e1 (fun i hi=>by simp) (Nat.le_refl _))
    refine ⟨h1.1,?_⟩
    rw [h1.1];exact h1.2
   exact Ee (as:=fun n=>(agL (fJ H args)).getD n 0) hs (fun R w ys hr hf0 ha=>(key (gJ R H w) w).2 ys (JY hr hf0 hokv ha)) (NU hvp hf)
end
end Go.Ev
/- Loops whose rounds may append to a row, within other calls too: what a round leaves is packed: of what is new one row is kept at most, under a name of its own. -/
namespace Go.Ev
open Go
noncomputable section
variable {P:Program}
inductive Plc where
 | tmp (t:Nat)
 | cell (b j:Nat)
structure Acc where
 (nm rt sz:Nat) (c:T V) (plc:Plc) (lit:Bool)
structure GS where
 (l:List V) (rows:List (Nat×List V)) (acc:Option Acc)
def OT (x:Option Acc) (t:T EO):T EO:=match x with | some x=>t.set x.nm (.cells x.c 0 x.sz x.rt) | none=>t
def QW (x:Option Acc) (gs:T qW) (g:Nat):Option qW:=match x with | some x=>cond (Nat.beq x.rt g) (cond (Nat.beq x.rt x.nm) none (some (Bj x.nm))) (gs.get g) | none=>gs.get g
def gsH (base:EH) (NX low:Nat) (s:GS):EH:=⟨OT s.acc (setAt s.rows base.objs),NX,.fn (QW s.acc base.grps),low⟩
def gsA (ts:List Nat) (n:Nat) (s:GS):EA:=⟨Gv (O7 ts s.l),n,[]⟩
def Oe (base:EH) (L:Nat) (rows:List (Nat×List V)):Bool:=List.rec (motive:=fun _=>Bool) true (fun r _ ih=>cond (Nat.ble L r.1) (cond (Nat.blt r.1 base.next) (match base.objs.get r.1 with | some (.cells _ _ _ g)=>cond (Nat.beq g r.1) (cond (lF r.2) ih false) false | _=>false) false) false) rows
def TG (base:EH) (L NX:Nat) (x:Option Acc):Bool:=match x with
 | some x=>cond (Nat.ble base.next x.nm) (cond (Nat.blt x.nm NX) (cond (Nat.beq x.rt x.nm) true (cond (Nat.ble L x.rt) (Nat.blt x.rt base.next) false)) false) false
 | none=>true
def Tz (base:EH) (L NX:Nat) (s:GS):Bool:=cond (Oe base L s.rows) (TG base L NX s.acc) false
def PO (base:EH) (L NX M n:Nat) (ts:List Nat):Bool:=cond (TW n ts) (cond (Nat.ble L base.next) (cond (Nat.ble L big) (cond (Nat.ble base.next NX) (Nat.ble NX M) false) false) false) false
def TD (c:T V) (sz:Nat):Prop:=∀ i,i<sz→∃ v,c.get i=some v∧nK v=true
def GM (x:Option Acc):Prop:=match x with | some x=>TD x.c x.sz | none=>True
inductive EndK where
 | exit (id:Nat)
 | ret
def EndK.res (e:EndK) (a:EA) (H:EH):Res:=match e with | .exit id => .exit id a H | .ret => .ret a H
theorem Ro.sim {R R2:Ren} {H H2:EH} {w w':World} (h:SimA R R2 H H2 w w') (hf:Free R H H2) (hr:Rel R All H w) {ro rr:Option Nat} (q:Ro R ro rr):Ro R2 ro rr:=q.mono (h.le hr hf)
end
end Go.Ev
/- Code by packed states: pieces one after another, loops, all over one heap. -/
namespace Go.Ev
open Go
noncomputable section
variable {P:Program}
inductive Ok where
 | normal
 | exit (id:Nat)
 | ret
def Ok.res (o:Ok) (a:EA) (H:EH):Res:=match o with | .normal => .normal a H | .exit id => .exit id a H | .ret => .ret a H
structure Env where
 (base:EH) (L NX M n:Nat)
structure TS where
 (ts:List Nat) (s:GS)
def Env.H (E:Env) (x:TS):EH:=gsH E.base E.NX big x.s
def Env.A (E:Env) (x:TS):EA:=gsA x.ts E.n x.s
def Env.okB (E:Env) (x:TS):Bool:=cond (PO E.base E.L E.NX E.M E.n x.ts) (Tz E.base E.L E.NX x.s) false
def Env.ok (E:Env) (x:TS):Prop:=E.okB x=true∧GM x.s.acc
theorem Env.ok_get {E:Env} {x:TS} (h:E.ok x):PO E.base E.L E.NX E.M E.n x.ts=true∧Tz E.base E.L E.NX x.s=true∧GM x.s.acc:=by
 obtain ⟨h1,h2⟩:=ae h.1
 exact ⟨h1,h2,h.2⟩
theorem Env.le {E:Env} {x:TS} (h:E.ok x):E.base.next≤E.NX∧E.NX≤E.M∧E.L≤big:=by
 obtain ⟨_,h⟩:=ae (Env.ok_get h).1
 obtain ⟨_,h⟩:=ae h
 obtain ⟨h3,h⟩:=ae h
 obtain ⟨h1,h2⟩:=ae h
 exact ⟨Nat.le_of_ble_eq_true h1,Nat.le_of_ble_eq_true h2,Nat.le_of_ble_eq_true h3⟩
def Ok.block (o:Ok) (id:Nat):Ok:=match o with | .exit id'=>cond (Nat.beq id' id) .normal (.exit id') | o=>o
end
end Go.Ev
/- Contracts whose values hold new rows, also where arguments lie in memory; closed calls as contracts. -/
namespace Go.Ev
open Go
noncomputable section
variable {P:Program}
inductive Fn0 (H:EH) (k new:Nat):V→V→Prop where
 | bool (b:Bool):Fn0 H k new (.bool b) (.bool b)
 | int (kd:IntKind) (n:Int):Fn0 H k new (.int kd n) (.int kd n)
 | nilSlice:Fn0 H k new .nilSlice .nilSlice
 | nilS {q:Bool} {a:Nat} {c:Nat→Nat→V} {e:Nat}:Fn0 H k new .nilSlice (.fz q a c 0 e)
 | fz {q:Bool} {a:Nat} {c c':Nat→Nat→V} {len e:Nat} (h0:k<a) (hs:∀ i j,i<len→j<e→aK (c' i j)=true) (ha:∀ i j,i<len→j<e→Aged new (c' i j))
  (h:∀ i j,i<len→j<e→Fn0 H k new (c i j) (c' i j)):Fn0 H k new (.fz q a c len e) (.fz true new c' len e)
 | slice {b off len e lo sz g:Nat} {c:T V} {d c':Nat→Nat→V} (hb:H.block b = .mk c lo sz g) (hl:lo≤off) (hz:off+len*e≤sz) (hd:∀ i j,i<len→j<e→c.get (off+(i*e+j))=some (d i j))
  (hs:∀ i j,i<len→j<e→aK (c' i j)=true) (ha:∀ i j,i<len→j<e→Aged new (c' i j)) (h:∀ i j,i<len→j<e→Fn0 H k new (d i j) (c' i j)):Fn0 H k new (.slice b off len e) (.fz true new c' len e)
inductive Fn1 (H:EH) (k new:Nat):V→V→Prop where
 | one {v v':V} (h:Fn0 H k new v v'):Fn1 H k new v v'
 | agg {n:Nat} {c c':T V} (d d':Nat→V) (h1:∀ i,i<n→c.get i=some (d i)) (h2:∀ i,i<n→c'.get i=some (d' i)) (hs:∀ i,i<n→aK (d' i)=true) (h:∀ i,i<n→Fn0 H k new (d i) (d' i)):Fn1 H k new (.agg n c) (.agg n c')
inductive FnV (H:EH) (k new:Nat):V→V→Prop where
 | one {v v':V} (h:Fn1 H k new v v'):FnV H k new v v'
 | tup {l l':List V} (hl:l.length=l'.length) (h:∀ i (h1:i<l.length) (h2:i<l'.length),Fn1 H k new l[i] l'[i]):FnV H k new (.tup l) (.tup l')
section
variable {H':EH} {k new:Nat} {R' R2:Ren} {w':World} (hr:Rel R' All H' w')
 (hnew:∀ a r cs,k<a→R'.cz a r=some cs→R2.cz new r=some cs)
 (hobj:∀ b r d o,H'.objs.get b=some o→R'.bm b=some (r,d)→∀ cs t fz,w'.heap[r]?=some (.cells cs t fz)→R2.cz new r=some cs)
include hr hnew hobj
theorem JC {v v':V} (h:Fn0 H' k new v v'):∀ {x:Value},VR R' v x→VR R2 v' x:=by
 induction h with
 | bool b=>intro x hx;cases hx;exact .bool b
 | int kd n=>intro x hx;cases hx;exact .int kd n
 | nilSlice=>intro x hx;cases hx;exact .nilSlice
 | nilS=>intro x hx;cases hx;exact .fzN
 | fz h0 hs ha _ ih =>
  intro x hx
  cases hx with
  | fzN=>exact .fzN
  | fzE h0=>exact .fzE (fun q=>by cases q)
  | fz y hc hl hy hs' ha' hv _=>exact .fz y (hnew _ _ _ h0 hc) hl hy hs ha fun i j hi hj=>ih i j hi hj (hv i j hi hj)
 | slice hb hl hz hd hs ha _ ih =>
  rename_i b off len e lo sz g c d c' h
  intro x hx
  cases hx with
  | slice hm ho hle hzz =>
   rename_i r dd o cap
   obtain ⟨cs,t,fz,a1,a2,a3,a4⟩:=hr.row hb hm trivial
   have hcz:=hobj b r dd _ (au hb).1 hm cs t fz a1
   by_cases h0:len=0
   ·subst h0;exact .fzE (fun q=>by cases q)
   ·have hcap:cap≠0:=by omega
    have ho':=ho hcap
    have key:∀ i j,i<len→j<e→∃ y,cs[o+(i*e+j)]?=some y∧VR R' (d i j) y:=fun i j hi hj=>by
     have hlt:i*e+j<len*e:=by
      have:(i+1)*e≤len*e:=Nat.mul_le_mul_right _ hi
      rw [Nat.add_mul] at this;omega
     obtain ⟨p,x,y,e1,e2,e3,e4⟩:=a4 (off+(i*e+j)) (by omega) (by omega)
     rw [hd i j hi hj] at e1;cases e1
     rw [show off+(i*e+j)-dd=o+(i*e+j) by omega] at e3
     exact ⟨y,e3,e4⟩
    refine .fz (fun i j=>if h:i<len∧j<e then (key i j h.1 h.2).choose else undef) hcz hle (fun i j hi hj=>?_) hs ha fun i j hi hj=>?_
    ·show _=some (if h:i<len∧j<e then (key i j h.1 h.2).choose else undef)
     rw [dif_pos ⟨hi,hj⟩];exact (key i j hi hj).choose_spec.1
    ·show VR R2 (c' i j) (if h:i<len∧j<e then (key i j h.1 h.2).choose else undef)
     rw [dif_pos ⟨hi,hj⟩];exact ih i j hi hj (key i j hi hj).choose_spec.2
theorem KR {v v':V} (h:Fn1 H' k new v v') {x:Value} (hx:VR R' v x):VR R2 v' x:=by
 cases h with
 | one h=>exact JC hr hnew hobj h hx
 | agg d d' h1 h2 hs h=>exact hx.agg_as d d' h1 h2 hs fun i hi y hy=>JC hr hnew hobj (h i hi) hy
theorem QZ {v v':V} (h:FnV H' k new v v') {x:Value} (hx:VR R' v x):VR R2 v' x:=by
 cases h with
 | one h=>exact KR hr hnew hobj h hx
 | tup hl h =>
  cases hx with
  | tup hl' hv=>exact .tup (by omega) fun i h1 h2=>KR hr hnew hobj (h i (by omega) h1) (hv i (by omega) h2)
end
def BG (n:Nat) (v:V):V:=match v with | .fz _ _ c len e => .fz true n c len e | v=>v
def AX (n:Nat) (v:V):V:=match v with | .fz _ _ c len e => .fz true n (fun i j=>BG n (c i j)) len e | v=>v
def FM (n:Nat) (l:List V):List V:=List.rec (motive:=fun _=>List V) [] (fun v _ ih=>AX n v::ih) l
def vM (n:Nat) (v:V):V:=match v with | .tup l => .tup (FM n l) | v=>AX n v
structure CL where
 (g:FuncId) (das:List DA) (v:V)
def gW (v v':V):Bool:=match v,v' with
 | .bool x,.bool y=>dA x y
 | .int k x,.int k' y=>cond (dH k k') (pI x y) false
 | .nilSlice,.nilSlice=>true
 | _,_=>false
def rowB (one:V→V→Bool) (H:EH) (v v':V):Bool:=match v,v' with
 | .slice b off len e,.fz _ _ c' len' e'=>cond (Nat.beq len len') (cond (Nat.beq e e') (match H.block b with
  | .mk c lo sz _=>cond (Nat.ble lo off) (cond (Nat.ble (Nat.add off (Nat.mul len e)) sz) (kK (fun i=>kK (fun j=>match c.get (Nat.add off (Nat.add (Nat.mul i e) j)) with | some v=>one v (c' i j) | none=>false) e) len) false) false
  | .no=>false) false) false
 | .nilSlice,.fz _ _ _ len _=>Nat.beq len 0
 | v,v'=>gW v v'
def PL (H:EH) (v v':V):Bool:=rowB gW H v v'
def Qb (H:EH) (v v':V):Bool:=rowB (PL H) H v v'
def cellsB (one:V→V→Bool) (c c':T V) (n:Nat):Bool:=kK (fun i=>match c.get i,c'.get i with | some v,some v'=>one v v' | _,_=>false) n
def wM (H:EH) (v v':V):Bool:=match v,v' with
 | .agg n c,.agg n' c'=>cond (Nat.beq n n') (cellsB gW c c' n) false
 | v,v'=>Qb H v v'
def Jw (H:EH) (l:List V):List V→Bool:=List.rec (motive:=fun _=>List V→Bool) (fun m=>match m with | []=>true | _=>false) (fun v _ ih m=>match m with | v'::m=>cond (wM H v v') (ih m) false | []=>false) l
def QH (H:EH) (v v':V):Bool:=match v,v' with
 | .tup l,.tup l'=>Jw H l l'
 | v,v'=>wM H v v'
theorem kM {H:EH} {k new:Nat} {v v':V} (h:gW v v'=true):Fn0 H k new v v'∧aK v'=true∧∀ n,Aged n v':=by
 unfold gW at h
 split at h
 ·have:=jD h;subst this;exact ⟨.bool _,rfl,fun _ => .bool _⟩
 ·obtain ⟨h1,h2⟩:=ae h
  have:=lI h1;subst this
  have:=yG h2;subst this
  exact ⟨.int _ _,rfl,fun _ => .int _ _⟩
 ·exact ⟨.nilSlice,rfl,fun _ => .nilSlice⟩
 ·cases h
theorem vZ {v v':V} (h:gW v v'=true) (new:Nat):BG new v'=v'∧AX new v'=v':=by
 unfold gW at h
 split at h
 ·exact ⟨rfl,rfl⟩
 ·exact ⟨rfl,rfl⟩
 ·exact ⟨rfl,rfl⟩
 ·cases h
theorem sG {one:V→V→Bool} {H:EH} {v v':V} (h:rowB one H v v'=true):gW v v'=true∨(v = .nilSlice∧∃ q a c e,v' = .fz q a c 0 e)∨∃ b off len e q a c' c lo sz g,v = .slice b off len e∧v' = .fz q a c' len e∧H.block b = .mk c lo sz g∧lo≤off∧off+len*e≤sz∧∀ i j,i<len→j<e→∃ x,c.get (off+(i*e+j))=some x∧one x (c' i j)=true:=by
 unfold rowB at h
 split at h
 ·rename_i b off len e q a c' len' e'
  obtain ⟨h1,hA⟩:=ae h
  obtain ⟨h2,hB⟩:=ae hA
  have e1:=nb h1
  have e2:=nb h2
  clear h hA h1 h2
  subst e1
  subst e2
  split at hB
  ·rename_i c lo sz g hb
   obtain ⟨h3,hC⟩:=ae hB
   obtain ⟨h4,h5⟩:=ae hC
   refine .inr (.inr ⟨b,off,len,e,q,a,c',c,lo,sz,g,rfl,rfl,hb,Nat.le_of_ble_eq_true h3,Nat.le_of_ble_eq_true h4,fun i j hi hj=>?_⟩)
   have:=aX (aX h5 i hi) j hj
   have this:(match c.get (off+(i*e+j)) with | some v=>one v (c' i j) | none=>false)=true:=this
   split at this
   ·rename_i x hx;exact ⟨x,hx,this⟩
   ·cases this
  ·cases hB
 ·rename_i q a c' len' e'
  have:=nb h;subst this
  exact .inr (.inl ⟨rfl,q,a,c',e',rfl⟩)
 ·exact .inl h
theorem JV {H:EH} {k new:Nat} {v v':V} (h:PL H v v'=true):Fn0 H k new v (BG new v')∧aK (BG new v')=true∧Aged new (BG new v'):=by
 rcases sG h with h | ⟨rfl,q,a,c,e,rfl⟩ | ⟨b,off,len,e,q,a,c',c,lo,sz,g,rfl,rfl,hb,h1,h2,h3⟩
 ·rw [(vZ h new).1]
  obtain ⟨a,b,c⟩:=kM (H:=H) (k:=k) (new:=new) h
  exact ⟨a,b,c _⟩
 ·exact ⟨.nilS,rfl,.fz _ (Nat.le_refl _) fun i j hi=>absurd hi (by omega)⟩
 ·have key:∀ i j,i<len→j<e→∃ x,c.get (off+(i*e+j))=some x∧Fn0 H k new x (c' i j)∧aK (c' i j)=true∧Aged new (c' i j):=fun i j hi hj=>by
   obtain ⟨x,q1,q2⟩:=h3 i j hi hj
   obtain ⟨a,b,c⟩:=kM (H:=H) (k:=k) (new:=new) q2
   exact ⟨x,q1,a,b,c _⟩
  refine ⟨.slice (d:=fun i j=>(c.get (off+(i*e+j))).getD .bad) hb h1 h2 (fun i j hi hj=>?_) (fun i j hi hj=>?_) (fun i j hi hj=>?_) (fun i j hi hj=>?_),rfl,.fz _ (Nat.le_refl _) fun i j hi hj=>?_⟩
  all_goals obtain ⟨x,q1,q2,q3,q4⟩:=key i j hi hj
  ·simp only [q1];rfl
  ·exact q3
  ·exact q4
  ·simp only [q1];exact q2
  ·exact q4
theorem J5 {H:EH} {k new:Nat} {v v':V} (h:Qb H v v'=true):Fn0 H k new v (AX new v'):=by
 rcases sG h with h | ⟨rfl,q,a,c,e,rfl⟩ | ⟨b,off,len,e,q,a,c',c,lo,sz,g,rfl,rfl,hb,h1,h2,h3⟩
 ·rw [(vZ h new).2];exact (kM h).1
 ·exact .nilS
 ·have key:∀ i j,i<len→j<e→∃ x,c.get (off+(i*e+j))=some x∧Fn0 H k new x (BG new (c' i j))∧aK (BG new (c' i j))=true∧Aged new (BG new (c' i j)):=fun i j hi hj=>by
   obtain ⟨x,q1,q2⟩:=h3 i j hi hj
   exact ⟨x,q1,JV q2⟩
  refine .slice (d:=fun i j=>(c.get (off+(i*e+j))).getD .bad) hb h1 h2 (fun i j hi hj=>?_) (fun i j hi hj=>?_) (fun i j hi hj=>?_) (fun i j hi hj=>?_)
  all_goals obtain ⟨x,q1,q2,q3,q4⟩:=key i j hi hj
  ·simp only [q1];rfl
  ·exact q3
  ·exact q4
  ·simp only [q1];exact q2
theorem Bz {H:EH} {k new:Nat} {v v':V} (h:wM H v v'=true):Fn1 H k new v (AX new v'):=by
 unfold wM at h
 split at h
 ·rename_i n c n' c'
  obtain ⟨h1,h2⟩:=ae h
  have:=nb h1;subst this
  have key:∀ i,i<n→∃ x x',c.get i=some x∧c'.get i=some x'∧gW x x'=true:=fun i hi=>by
   have:=aX h2 i hi
   have this:(match c.get i,c'.get i with | some v,some v'=>gW v v' | _,_=>false)=true:=this
   split at this
   ·rename_i x x' h1 h2;exact ⟨x,x',h1,h2,this⟩
   ·cases this
  refine .agg (fun i=>(c.get i).getD .bad) (fun i=>(c'.get i).getD .bad) (fun i hi=>?_) (fun i hi=>?_) (fun i hi=>?_) (fun i hi=>?_)
  all_goals obtain ⟨x,x',q1,q2,q3⟩:=key i hi
  ·simp only [q1];rfl
  ·simp only [q2];rfl
  ·simp only [q2];exact (kM (H:=H) (k:=k) (new:=new) q3).2.1
  ·simp only [q1,q2];exact (kM q3).1
 ·exact .one (J5 h)
theorem xw {H:EH}:∀ {l l':List V},Jw H l l'=true→l.length=l'.length∧∀ i (h1:i<l.length) (h2:i<l'.length),wM H l[i] l'[i]=true
 | [],[],_=>⟨rfl,fun i h1=>by simp at h1⟩
 | [],_::_,h=>by cases h
 | _::_,[],h=>by cases h
 | v::l,v'::l',h=>by
  obtain ⟨h1,h2⟩:=ae (show cond (wM H v v') (Jw H l l') false=true from h)
  obtain ⟨e1,e2⟩:=xw h2
  refine ⟨by simp [e1],fun i q1 q2=>?_⟩
  cases i with
  | zero=>exact h1
  | succ i=>exact e2 i (by simpa using q1) (by simpa using q2)
theorem Jc (n:Nat) (l:List V):FM n l=l.map (AX n):=by
 induction l with
 | nil=>rfl
 | cons v l ih=>show AX n v::FM n l=_;rw [ih];rfl
theorem Pi {H:EH} {k:Nat} {v v':V} (h:QH H v v'=true):∀ new,FnV H k new v (vM new v'):=fun new=>by
 unfold QH at h
 split at h
 ·rename_i l l'
  obtain ⟨e1,e2⟩:=xw h
  show FnV H k new (.tup l) (.tup (FM new l'))
  rw [Jc]
  exact .tup (by simp [e1]) fun i h1 h2=>by
   rw [List.getElem_map]
   exact Bz (e2 i h1 (by simpa using h2))
 ·rename_i hn
  have h1:Fn1 H k new v (AX new v'):=Bz h
  cases v' with
  | tup l' =>
   cases v with
   | tup l=>exact (hn l l' rfl rfl).elim
   | _=>cases h
  | _=>exact .one h1
end
end Go.Ev
/- Runs whose conditions are shown, in a form that no elaborator unfolds. -/
namespace Go.Ev
open Go
noncomputable section
variable {P:Program}
structure VC (d:D) (h:HT):Prop where
 ok:vc d h
theorem BA (hD:aB P) {X:Ext} (hX:dm P X) {n:Nat} {g:FuncId} {das:List DA} {v:V} {h:HT} (hf:uf v=true) (hv:VC (xq P X n g (enc das 0) (nxE das 0) (fun v'=>sH v' v)) h):uf v=true∧∃ v' H',SpecCall P g (enc das 0) (jH (nxE das 0+1)) v' H'∧sH v' v :=
 OW hD hX hf hv.ok
def Tt (a lw:Nat) (fw:Nat→Nat→Int) (lm:Nat) (fm:Nat→Nat→Int) (n:Nat) (ls:Nat→Nat) (f:Nat→Nat→Nat→Int):Bool :=
 cond (mQ .i64 (bZ .i64 fw) lw 1) (cond (mQ .i64 (bZ .i64 fm) lm 1) (cond (cond true (Nb a (zF a 1 ls f) n 1) false) true false) false) false
def TY (a lw:Nat) (fw:Nat→Nat→Int) (lm:Nat) (fm:Nat→Nat→Int) (n:Nat) (ls:Nat→Nat) (f:Nat→Nat→Nat→Int) (e nc:Nat) (fc:Nat→Nat→Int):Bool :=
 cond (mQ .i64 (bZ .i64 fw) lw 1) (cond (mQ .i64 (bZ .i64 fm) lm 1) (cond (cond true (Nb a (zF a 1 ls f) n 1) false) (cond true (cond (mQ .i64 (bZ .i64 fc) nc e) true false) false) false) false) false
theorem Nl (a lw:Nat) (fw:Nat→Nat→Int) (lm:Nat) (fm:Nat→Nat→Int) (n:Nat) (ls:Nat→Nat) (f:Nat→Nat→Nat→Int):Tt a lw fw lm fm n ls f=true:=by
 unfold Tt
 rw [bY,bY,kT];rfl
theorem KQ (a lw:Nat) (fw:Nat→Nat→Int) (lm:Nat) (fm:Nat→Nat→Int) (n:Nat) (ls:Nat→Nat) (f:Nat→Nat→Nat→Int) (e nc:Nat) (fc:Nat→Nat→Int):TY a lw fw lm fm n ls f e nc fc=true:=by
 unfold TY
 rw [bY,bY,kT,bY];rfl
theorem PS {d:D} {h:HT} (p:Prop) (e:vc d h=p:=by kernel_rfl) (q:p:=by (try simp only [Qm,QD,Qd,PG,yh,G6,TJ,SG,Qq,Qj,zx,CQ,AY,JU,Ns,P5,Qr,Qo,KN,QA,bY,kT,Nl,KQ,cond_true,cond_false,true_and,and_true,eq_self]);(repeat' (first | exact True.intro | (with_reducible assumption) | refine And.intro ?_ ?_ | refine Pj ?_ ?_ | intro _));all_goals (first | (with_reducible assumption) | (with_reducible rfl) | omega | rfl | (simp only [Qm,QD,Qd,PG,yh,G6,TJ,SG,Qq,Qj,zx,CQ,AY,JU,Ns,P5,Qr,Qo,KN,QA,bY,kT,Nl,KQ,cond_true,cond_false,true_and,and_true,eq_self];first | done | omega | (with_reducible assumption) | rfl))):VC d h:=⟨by rw [e];exact q⟩
end
end Go.Ev
/- Contracts whose value is a struct with new rows. -/
namespace Go.Ev
open Go
noncomputable section
variable {P:Program}
end
end Go.Ev
/- A function with two loops, one behind the other. -/
namespace Go.Ev
open Go
noncomputable section
variable {P:Program}
end
end Go.Ev
/- Contracts whose values hold rows of the arguments, as they are, and new ones: the value is said by data. -/
namespace Go.Ev
open Go
noncomputable section
variable {P:Program}
inductive S0 where
 | old (d:D0) (a:Nat)
 | new (d:D0)
inductive S1 where
 | one (s:S0)
 | ag (l:List S0)
inductive SV where
 | one (s:S1)
 | tup (l:List S1)
def TB (as:Nat→Nat) (nw:Nat) (s:S0):V:=match s with | .old d a=>Hy d (as a) | .new d=>Hy d nw
def Uz (as:Nat→Nat) (nw:Nat) (l:List S0):List V:=List.rec (motive:=fun _=>List V) [] (fun s _ ih=>TB as nw s::ih) l
def SY (as:Nat→Nat) (nw:Nat) (s:S1):V:=match s with | .one s=>TB as nw s | .ag l => .agg (bg l) (T.setL .lf 0 (Uz as nw l))
def Si (as:Nat→Nat) (nw:Nat) (l:List S1):List V:=List.rec (motive:=fun _=>List V) [] (fun s _ ih=>SY as nw s::ih) l
def Un (as:Nat→Nat) (nw:Nat) (s:SV):V:=match s with | .one s=>SY as nw s | .tup l => .tup (Si as nw l)
def okS (ok:Bool) (as:Nat→Nat) (nw:Nat) (r:Option (Bool×SV)):Option (Bool×V):=match r with | some (b,s)=>some (cond ok b false,Un as nw s) | none=>none
end
end Go.Ev
/- Code with several loops, one behind the other: from each to the next. -/
namespace Go.Ev
open Go
noncomputable section
variable {P:Program}
end
end Go.Ev
