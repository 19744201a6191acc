/- Contracts, where rows of numbers that lie in memory are handed in: they are read as if they were frozen, as long as the call runs. -/
import Derived.Test.YthakjbbhbnhmeaaYEd
set_option linter.all false
set_option linter.unusedSimpArgs false
set_option linter.unusedVariables false
namespace Go.Ev
open Go
noncomputable section
variable {P:Program}
def iO (R:Ren) (H:EH) (w:World):Ren:=⟨R.bm,R.zs,fun a r=>if a=H.next then (match w.heap[r]? with | some (.cells cs _ _)=>some cs | _=>none) else R.cz a r⟩
theorem Aa {R:Ren} {H:EH} {w:World} {r:Nat} {cs:Array Value} {t:TypeId} {fz:Nat×Nat} (h:w.heap[r]?=some (.cells cs t fz)):(iO R H w).cz H.next r=some cs:=by
 show (if H.next=H.next then (match w.heap[r]? with | some (.cells cs _ _)=>some cs | _=>none) else _)=_
 rw [if_pos rfl,h]
theorem yY {R:Ren} {H:EH} {w:World} {a r:Nat} {cs:Array Value} (h:(iO R H w).cz a r=some cs):R.cz a r=some cs∨∃ t fz,w.heap[r]?=some (.cells cs t fz):=by
 have h:(if a=H.next then (match w.heap[r]? with | some (.cells cs _ _)=>some cs | _=>none) else R.cz a r)=some cs:=h
 split at h
 ·split at h
  ·rename_i c t fz hc;cases h;exact .inr ⟨t,fz,hc⟩
  ·cases h
 ·exact .inl h
theorem pV {R:Ren} {H:EH} {w:World} (hf:∀ r,R.cz H.next r=none):R.le (iO R H w):=by
 refine ⟨fun _ _ e=>e,fun _ _ _ _=>rfl,fun a r cs e=>?_⟩
 show (if a=H.next then _ else R.cz a r)=some cs
 rw [if_neg (fun q=>by rw [q,hf r] at e;cases e)];exact e
def lX (c:T V) (n:Nat):Nat→Option (List Int):=Nat.rec (motive:=fun _=>Nat→Option (List Int)) (fun _=>some []) (fun _ ih p=>match c.get p with | some (.int .i64 x)=>iJ x (ih (Nat.succ p)) | _=>none) n
def Sj (l:List Int):Nat→Int:=List.rec (motive:=fun _=>Nat→Int) (fun _=>0) (fun x _ ih i=>match i with | 0=>x | Nat.succ i=>ih i) l
theorem ND {c:T V}:∀ {n p:Nat} {l:List Int},lX c n p=some l→∀ i,i<n→c.get (p+i)=some (.int .i64 (Sj l i)):=by
 intro n
 induction n with
 | zero=>intro p l h i hi;omega
 | succ n ih =>
  intro p l h i hi
  have h:(match c.get p with | some (.int .i64 x)=>iJ x (lX c n (p+1)) | _=>none)=some l:=h
  split at h
  ·rename_i x hx
   obtain ⟨l',h2,rfl⟩:=eG h
   cases i with
   | zero=>rw [Nat.add_zero,hx];rfl
   | succ i=>rw [show p+(i+1)=p+1+i by omega];exact ih h2 i (by omega)
  ·cases h
def au (l:List Int) (e:Nat):Nat→Nat→Int:=fun i j=>Sj l (Nat.add (Nat.mul i e) j)
def Jh (n:Nat) (v:V):V:=match v with | .fz _ _ c len e => .fz true n c len e | v=>v
def DF (H:EH) (v:V):Option V:=match v with
 | .fz _ a c len e=>cond (Nat.ble a H.next) (some (.fz true H.next c len e)) none
 | .slice b off len e=>(match H.block b with
  | .mk c lo sz _=>cond (Nat.ble lo off) (cond (Nat.ble (Nat.add off (Nat.mul len e)) sz) (match lX c (Nat.mul len e) off with | some l=>some (.fz true H.next (aj .i64 (au l e)) len e) | none=>none) none) none
  | .no=>none)
 | _=>none
def jm (H:EH) (c:T V) (n:Nat):Nat→Option (List V):=Nat.rec (motive:=fun _=>Nat→Option (List V)) (fun _=>some []) (fun _ ih p=>match c.get p with | some v=>(match DF H v with | some r=>iJ r (ih (Nat.succ p)) | none=>none) | none=>none) n
def yj (l:List V):Nat→V:=List.rec (motive:=fun _=>Nat→V) (fun _ => .fz true 0 (fun _ _ => .bad) 0 1) (fun x _ ih i=>match i with | 0=>x | Nat.succ i=>ih i) l
abbrev RL:=List (Nat×(Nat→Nat→Int))
def lsL (l:RL):Nat→Nat:=List.rec (motive:=fun _=>Nat→Nat) (fun _=>0) (fun x _ ih i=>match i with | 0=>x.1 | Nat.succ i=>ih i) l
def fsL (l:RL):Nat→Nat→Nat→Int:=List.rec (motive:=fun _=>Nat→Nat→Nat→Int) (fun _ _ _=>0) (fun x _ ih i=>match i with | 0=>x.2 | Nat.succ i=>ih i) l
def Ja (a e0:Nat) (l:List V):Option RL:=List.rec (motive:=fun _=>Option RL) (some []) (fun v _ ih=>match v with
 | .fz _ a' c len e=>cond (Nat.beq a' a) (cond (Nat.beq e e0) (match ih with | some r=>some ((len,fun j k=>dn (c j k))::r) | none=>none) none) none
 | _=>none) l
def okW (l:List V):Bool:=List.rec (motive:=fun _=>Bool) true (fun v _ ih=>match v with | .fz _ _ c len e=>cond (je .i64 c len e) ih false | _=>ih) l
def O4 (l:List V):Nat:=match l with | .fz _ _ _ _ e::_=>e | _=>1
def yP (H:EH) (v:V) (len e:Nat) (l:List V):V:=match Ja H.next (O4 l) l with | some L => .fz true H.next (EU H.next (O4 l) (lsL L) (fsL L)) len e | none=>v
def view (H:EH) (v:V):V:=match v with
 | .slice b off len e=>(match H.block b with
  | .mk c lo sz _=>cond (Nat.ble lo off) (cond (Nat.ble (Nat.add off (Nat.mul len e)) sz) (match lX c (Nat.mul len e) off with
   | some l => .fz true H.next (aj .i64 (au l e)) len e
   | none=>cond (Nat.beq e 1) (match jm H c len off with | some l=>yP H v len e l | none=>v) v) v) v
  | .no=>v)
 | .fz _ a c len e=>cond (Nat.ble a H.next) (.fz true H.next (fun i j=>Jh H.next (c i j)) len e) v
 | v=>v
def Og (H:EH) (v:V):Bool:=match v with
 | .slice b off len e=>(match H.block b with
  | .mk c _ _ _=>(match lX c (Nat.mul len e) off with
   | some _=>true
   | none=>(match jm H c len off with | some l=>okW l | none=>true))
  | .no=>true)
 | _=>true
def Ny (H:EH) (l:List V):Bool:=List.rec (motive:=fun _=>Bool) true (fun v _ ih=>cond (Og H v) ih false) l
def Hm (H:EH) (v:V):Bool:=match v with
 | .agg n c=>(match cellL c n 0 with | some l=>Ny H l | none=>true)
 | v=>Og H v
def gQ (H:EH) (l:List V):Bool:=List.rec (motive:=fun _=>Bool) true (fun v _ ih=>cond (Hm H v) ih false) l
def pO (H:EH) (l:List V):List V:=List.rec (motive:=fun _=>List V) [] (fun v _ ih=>view H v::ih) l
def wB (H:EH) (v:V):V:=match v with
 | .agg n c=>(match cellL c n 0 with | some l => .agg n (T.setL .lf 0 (pO H l)) | none=>v)
 | v=>view H v
def dB (H:EH) (l:List V):List V:=List.rec (motive:=fun _=>List V) [] (fun v _ ih=>wB H v::ih) l
theorem vC {R:Ren} {H:EH} {w:World} (hr:Rel R All H w) {b off len e lo sz g:Nat} {c:T V} {x:Value} (h:VR R (.slice b off len e) x) (hb:H.block b = .mk c lo sz g) (hl:lo≤off) (hz:off+len*e≤sz) {l:List Int} (hi:lX c (len*e) off=some l) :
 VR (iO R H w) (.fz true H.next (aj .i64 (au l e)) len e) x:=by
 cases h with
 | slice hm ho hle hzz =>
  rename_i r dd o cap
  obtain ⟨cs,t,fz,a1,a2,a3,a4⟩:=hr.row hb hm trivial
  by_cases h0:len=0
  ·subst h0;exact .fzE (fun q=>by cases q)
  ·have hcap:cap≠0:=by omega
   have ho':=ho hcap
   have key:∀ i j,i<len→j<e→cs[o+(i*e+j)]?=some (.int .i64 (au l e i j)):=fun i j hi' hj=>by
    have hlt:i*e+j<len*e:=by
     have:(i+1)*e≤len*e:=Nat.mul_le_mul_right _ hi'
     rw [Nat.add_mul] at this;omega
    obtain ⟨p,x,y,e1,e2,e3,e4⟩:=a4 (off+(i*e+j)) (by omega) (by omega)
    have hq:c.get (off+(i*e+j))=some (.int .i64 (au l e i j)):=ND hi _ hlt
    rw [hq] at e1
    have e1:=Option.some.inj e1
    rw [← e1] at e4
    rw [show off+(i*e+j)-dd=o+(i*e+j) by omega] at e3
    cases e4
    rw [e3]
   exact .fz (fun i j => .int .i64 (au l e i j)) (Aa a1) hle key (fun _ _ _ _=>rfl) (fun _ _ _ _ => .int _ _) fun _ _ _ _ => .int _ _
theorem Jt {R:Ren} {H:EH} {w:World} (hr:Rel R All H w) {a r:Nat} {cs:Array Value} (h:R.cz a r=some cs):(iO R H w).cz H.next r=some cs:=by
 obtain ⟨⟨t,fz,e⟩,_⟩:=hr.frz a r cs h
 exact Aa e
theorem Jb {R:Ren} {H:EH} {w:World} (hr:Rel R All H w) (hf:∀ r,R.cz H.next r=none) {q:Bool} {a len e:Nat} {c:Nat→Nat→V} {x:Value} (h:VR R (.fz q a c len e) x) (ha:a≤H.next):VR (iO R H w) (.fz true H.next c len e) x:=by
 cases h with
 | fzN=>exact .fzN
 | fzE h0=>exact .fzE (fun q=>by cases q)
 | fz y hc hl hy hs hag hv h0=>exact .fz y (Jt hr hc) hl hy hs (fun i j hi hj=>(hag i j hi hj).mono ha) fun i j hi hj=>(hv i j hi hj).mono (pV hf)
theorem Ic {n:Nat} {v:V} {a:Nat} (h:Aged a v) (ha:a≤n):Aged n (Jh n v):=by
 cases h with
 | fz k hb h=>exact .fz true (Nat.le_refl _) fun i j hi hj=>(h i j hi hj).mono ha
 | _=>constructor
theorem Qe {R:Ren} {H:EH} {w:World} (hr:Rel R All H w) (hf:∀ r,R.cz H.next r=none) {q:Bool} {a len e:Nat} {c:Nat→Nat→V} {x:Value} (h:VR R (.fz q a c len e) x) (ha:a≤H.next):VR (iO R H w) (.fz true H.next (fun i j=>Jh H.next (c i j)) len e) x:=by
 cases h with
 | fzN=>exact .fzN
 | fzE h0=>exact .fzE (fun q=>by cases q)
 | fz y hc hl hy hs hag hv h0 =>
  refine .fz y (Jt hr hc) hl hy (fun i j hi hj=>?_) (fun i j hi hj=>Ic (hag i j hi hj) ha) fun i j hi hj=>?_
  ·have:=hs i j hi hj
   cases e:c i j<;>first | rfl | (rw [e] at this;exact this)
  ·have h1:=hv i j hi hj
   have h2:=hag i j hi hj
   show VR _ (Jh H.next (c i j)) (y i j)
   cases e:c i j with
   | fz q' a' c' len' e' =>
    rw [e] at h1 h2
    cases h2 with
    | fz _ hb _=>exact Jb hr hf h1 (Nat.le_trans hb ha)
   | _=>rw [e] at h1;exact h1.mono (pV hf)
theorem SH {R:Ren} {H:EH} {w:World} (hr:Rel R All H w) (hf:∀ r,R.cz H.next r=none) {v r:V} (hv:DF H v=some r) {x:Value} (h:VR R v x):VR (iO R H w) r x∧bn r=true∧(∀ b,VR (iO R H w) r b→True):=by
 unfold DF at hv
 split at hv
 ·rename_i q a c len e
  cases h1:Nat.ble a H.next with
  | false=>rw [h1] at hv;cases hv
  | true=>rw [h1] at hv;cases hv;exact ⟨Jb hr hf h (Nat.le_of_ble_eq_true h1),rfl,fun _ _=>trivial⟩
 ·rename_i b off len e
  split at hv
  ·rename_i c lo sz g hb
   cases h1:Nat.ble lo off with
   | false=>rw [h1] at hv;cases hv
   | true =>
    cases h2:Nat.ble (Nat.add off (Nat.mul len e)) sz with
    | false=>rw [h1,h2] at hv;cases hv
    | true =>
     rw [h1,h2] at hv
     cases h3:lX c (Nat.mul len e) off with
     | none=>rw [h3] at hv;cases hv
     | some l=>rw [h3] at hv;cases hv;exact ⟨vC hr h hb (Nat.le_of_ble_eq_true h1) (Nat.le_of_ble_eq_true h2) h3,rfl,fun _ _=>trivial⟩
  ·cases hv
 ·cases hv
theorem Kq {H:EH} {v r:V} {a:Nat} (hv:DF H v=some r) (h:∀ q a c len e,v = .fz q a c len e→Aged a v):Aged H.next r:=by
 unfold DF at hv
 split at hv
 ·rename_i q a c len e
  cases h1:Nat.ble a H.next with
  | false=>rw [h1] at hv;cases hv
  | true =>
   rw [h1] at hv;cases hv
   have:=h _ _ _ _ _ rfl
   cases this with
   | fz _ _ hh=>exact .fz _ (Nat.le_refl _) fun i j hi hj=>(hh i j hi hj).mono (Nat.le_of_ble_eq_true h1)
 ·rename_i b off len e
  split at hv
  ·rename_i c lo sz g hb
   cases h1:Nat.ble lo off with
   | false=>rw [h1] at hv;cases hv
   | true =>
    cases h2:Nat.ble (Nat.add off (Nat.mul len e)) sz with
    | false=>rw [h1,h2] at hv;cases hv
    | true =>
     rw [h1,h2] at hv
     cases h3:lX c (Nat.mul len e) off with
     | none=>rw [h3] at hv;cases hv
     | some l=>rw [h3] at hv;cases hv;exact .fz _ (Nat.le_refl _) fun _ _ _ _ => .int _ _
  ·cases hv
 ·cases hv
theorem MB {H:EH} {c:T V}:∀ {n p:Nat} {l:List V},jm H c n p=some l→∀ i,i<n→∃ v,c.get (p+i)=some v∧DF H v=some (yj l i):=by
 intro n
 induction n with
 | zero=>intro p l h i hi;omega
 | succ n ih =>
  intro p l h i hi
  have h:(match c.get p with | some v=>(match DF H v with | some r=>iJ r (jm H c n (p+1)) | none=>none) | none=>none)=some l:=h
  split at h
  ·rename_i v hv
   split at h
   ·rename_i r hr
    obtain ⟨l',h2,rfl⟩:=eG h
    cases i with
    | zero=>exact ⟨v,by rw [Nat.add_zero];exact hv,hr⟩
    | succ i=>rw [show p+(i+1)=p+1+i by omega];exact ih h2 i (by omega)
   ·cases h
  ·cases h
theorem KQ {R:Ren} {H:EH} {w:World} (hr:Rel R All H w) (hf:∀ r,R.cz H.next r=none) {b off len lo sz g:Nat} {c:T V} {x:Value} (h:VR R (.slice b off len 1) x) (hb:H.block b = .mk c lo sz g) (hl:lo≤off) (hz:off+len*1≤sz) {l:List V} (hi:jm H c len off=some l) :
 VR (iO R H w) (.fz true H.next (fun i _=>yj l i) len 1) x:=by
 cases h with
 | slice hm ho hle hzz =>
  rename_i r dd o cap
  obtain ⟨cs,t,fz,a1,a2,a3,a4⟩:=hr.row hb hm trivial
  by_cases h0:len=0
  ·subst h0;exact .fzE (fun q=>by cases q)
  ·have hcap:cap≠0:=by omega
   have ho':=ho hcap
   have key:∀ i,i<len→∃ y,cs[o+i]?=some y∧VR (iO R H w) (yj l i) y∧bn (yj l i)=true∧Aged H.next (yj l i):=fun i hi'=>by
    obtain ⟨v,q1,q2⟩:=MB hi i hi'
    obtain ⟨p,x,y,e1,e2,e3,e4⟩:=a4 (off+i) (by omega) (by omega)
    rw [q1] at e1
    cases e1
    rw [show off+i-dd=o+i by omega] at e3
    obtain ⟨z1,z2,_⟩:=SH hr hf q2 e4
    refine ⟨y,e3,z1,z2,?_⟩
    have hA:∀ q a c len e,v = .fz q a c len e→0<len→Aged a v:=fun q a c len e hv hpos=>by
     subst hv
     cases e4 with
     | fzN=>omega
     | fzE=>omega
     | fz y hc hl hy hs hag hv h0=>exact .fz _ (Nat.le_refl _) hag
    by_cases hpos:∃ q a c e,v = .fz q a c 0 e
    ·obtain ⟨q,a,c,e,rfl⟩:=hpos
     have q2:cond (Nat.ble a H.next) (some (V.fz true H.next c 0 e)) none=some (yj l i):=q2
     cases hble:Nat.ble a H.next with
     | false=>rw [hble] at q2;cases q2
     | true =>
      rw [hble] at q2
      have q2:some (V.fz true H.next c 0 e)=some (yj l i):=q2
      have q2:=Option.some.inj q2
      rw [← q2]
      exact .fz _ (Nat.le_refl _) fun i j hi hj=>absurd hi (by omega)
    ·refine Kq (a:=0) q2 fun q a c len e hv=>hA q a c len e hv ?_
     cases len with
     | zero=>exact absurd ⟨q,a,c,e,hv⟩ hpos
     | succ n=>omega
   have hY:∀ i,∃ y,i<len→cs[o+i]?=some y∧VR (iO R H w) (yj l i) y:=fun i=>by
    by_cases hi':i<len
    ·obtain ⟨y,z1,z2,_⟩:=key i hi'
     exact ⟨y,fun _=>⟨z1,z2⟩⟩
    ·exact ⟨.nilFunc,fun q=>absurd q hi'⟩
   refine .fz (fun i _=>(hY i).choose) (Aa a1) hle (fun i j hi' hj=>?_) (fun i j hi' hj=>?_) (fun i j hi' hj=>?_) fun i j hi' hj=>?_
   ·have j0:j=0:=by omega
    subst j0
    have:=((hY i).choose_spec hi').1
    rw [show o+(i*1+0)=o+i by omega];exact this
   ·obtain ⟨_,_,_,z,_⟩:=key i hi';exact z
   ·obtain ⟨_,_,_,_,z⟩:=key i hi';exact z
   ·exact ((hY i).choose_spec hi').2
theorem yF {a e0:Nat}:∀ {l:List V} {L:RL},Ja a e0 l=some L→okW l=true→l.length=L.length∧∀ i,i<l.length→∃ q c len,yj l i = .fz q a c len e0∧lsL L i=len∧fsL L i=(fun j k=>dn (c j k))∧je .i64 c len e0=true
 | [],L,h,_=>by cases h;exact ⟨rfl,fun i hi=>by simp at hi⟩
 | v::l,L,h,ho=>by
  cases v with
  | fz q a' c len e =>
   have h:cond (Nat.beq a' a) (cond (Nat.beq e e0) (match Ja a e0 l with | some r=>some ((len,fun j k=>dn (c j k))::r) | none=>none) none) none=some L:=h
   have ho:cond (je .i64 c len e) (okW l) false=true:=ho
   obtain ⟨o1,o2⟩:=ai ho
   cases h1:Nat.beq a' a with
   | false=>rw [h1] at h;cases h
   | true =>
    cases h2:Nat.beq e e0 with
    | false=>rw [h1,h2] at h;cases h
    | true =>
     rw [h1,h2] at h
     have:=nb h1;subst this
     have:=nb h2;subst this
     cases h3:Ja a' e l with
     | none=>rw [h3] at h;cases h
     | some r =>
      rw [h3] at h
      cases h
      obtain ⟨k1,k2⟩:=yF h3 o2
      refine ⟨by simp [k1],fun i hi=>?_⟩
      cases i with
      | zero=>exact ⟨q,c,len,rfl,rfl,rfl,o1⟩
      | succ i=>exact k2 i (by simpa using hi)
  | _=>cases h
theorem KZ {H:EH} {c:T V}:∀ {n p:Nat} {l:List V},jm H c n p=some l→l.length=n:=by
 intro n
 induction n with
 | zero=>intro p l h;cases h;rfl
 | succ n ih =>
  intro p l h
  have h:(match c.get p with | some v=>(match DF H v with | some r=>iJ r (jm H c n (p+1)) | none=>none) | none=>none)=some l:=h
  split at h
  ·split at h
   ·obtain ⟨l',h2,rfl⟩:=eG h
    simp [ih h2]
   ·cases h
  ·cases h
theorem F5 {R:Ren} {H:EH} {w:World} (hr:Rel R All H w) (hf:∀ r,R.cz H.next r=none) {b off len lo sz g:Nat} {c:T V} {x:Value} (h:VR R (.slice b off len 1) x) (hb:H.block b = .mk c lo sz g) (hl:lo≤off) (hz:off+len*1≤sz) {l:List V} (hi:jm H c len off=some l) (ho:okW l=true) :
 VR (iO R H w) (yP H (.slice b off len 1) len 1 l) x:=by
 unfold yP
 split
 ·rename_i L hp
  obtain ⟨k1,k2⟩:=yF hp ho
  have hlen:=KZ hi
  have h1:=KQ hr hf h hb hl hz hi
  refine h1.fz_as (fun _ _ e=>e) (fun _ _ _ _=>rfl) (fun _ _ _ _ => .fz _ (Nat.le_refl _) fun _ _ _ _ => .int _ _) (fun i j hi' hj y hy=>?_)
  obtain ⟨q,c',len',e1,e2,e3,e4⟩:=k2 i (by omega)
  have hy:VR (iO R H w) (yj l i) y:=hy
  rw [e1] at hy
  show VR _ (.fz true H.next (aj .i64 (fsL L i)) (lsL L i) (O4 l)) y
  rw [e2,e3]
  refine hy.fz_as (fun _ _ e=>e) (fun _ _ _ _=>rfl) (fun _ _ _ _ => .int _ _) (fun i' j' hi2 hj2 y' hy'=>?_)
  show VR _ (.int .i64 (dn (c' i' j'))) y'
  rw [mP e4 hi2 hj2] at hy'
  cases hy';exact .int _ _
 ·exact VR.mono (pV (w:=w) hf) h
theorem IQ {R:Ren} {H:EH} {w:World} (hr:Rel R All H w) (hf:∀ r,R.cz H.next r=none) {v:V} (hok:Og H v=true) {x:Value} (h:VR R v x):VR (iO R H w) (view H v) x:=by
 have hm:=VR.mono (pV (w:=w) hf) h
 unfold view
 split
 ·rename_i b off len e
  split
  ·rename_i c lo sz g hb
   have hokA:(match H.block b with
    | .mk c _ _ _=>(match lX c (Nat.mul len e) off with
     | some _=>true
     | none=>(match jm H c len off with | some l=>okW l | none=>true))
    | .no=>true)=true:=hok
   rw [hb] at hokA
   clear hok
   replace hokA:(match lX c (Nat.mul len e) off with | some _=>true | none=>(match jm H c len off with | some l=>okW l | none=>true))=true:=hokA
   cases h1:Nat.ble lo off with
   | false=>exact hm
   | true =>
    cases h2:Nat.ble (Nat.add off (Nat.mul len e)) sz with
    | false=>exact hm
    | true =>
     simp only [cond_true]
     split
     ·rename_i l h3;exact vC hr h hb (Nat.le_of_ble_eq_true h1) (Nat.le_of_ble_eq_true h2) h3
     ·rename_i hg
      rw [hg] at hokA
      replace hokA:(match jm H c len off with | some l=>okW l | none=>true)=true:=hokA
      cases h4:Nat.beq e 1 with
      | false=>exact hm
      | true =>
       have:=nb h4;subst this
       simp only [cond_true]
       split
       ·rename_i l h5
        rw [h5] at hokA
        exact F5 hr hf h hb (Nat.le_of_ble_eq_true h1) (Nat.le_of_ble_eq_true h2) h5 hokA
       ·exact hm
  ·exact hm
 ·rename_i q a c len e
  cases h1:Nat.ble a H.next with
  | false=>exact hm
  | true=>exact Qe hr hf h (Nat.le_of_ble_eq_true h1)
 ·exact hm
theorem nG (H:EH):∀ l:List V,(pO H l).length=l.length
 | []=>rfl
 | _::l=>by show (pO H l).length+1=_;rw [nG H l];rfl
theorem rQ (H:EH):∀ (l:List V) (i:Nat) (h:i<(pO H l).length) (h':i<l.length),(pO H l)[i]=view H l[i]
 | _::_,0,_,_=>rfl
 | _::l,i+1,h,h'=>rQ H l i (by exact Nat.lt_of_succ_lt_succ h) (by exact Nat.lt_of_succ_lt_succ h')
theorem Ld (H:EH) {v:V} (h:bn v=true):bn (view H v)=true:=by
 unfold view yP
 simp only [aG,aA]
 repeat' (first | rfl | exact h | split)
theorem Ff {H:EH}:∀ {l:List V},Ny H l=true→∀ i (h:i<l.length),Og H l[i]=true
 | v::l,h,i,hi=>by
  obtain ⟨h1,h2⟩:=ai (show cond (Og H v) (Ny H l) false=true from h)
  cases i with
  | zero=>exact h1
  | succ i=>exact Ff h2 i (by exact Nat.lt_of_succ_lt_succ hi)
theorem O6 {R:Ren} {H:EH} {w:World} (hr:Rel R All H w) (hf:∀ r,R.cz H.next r=none) {v:V} (hok:Hm H v=true) {x:Value} (h:VR R v x):VR (iO R H w) (wB H v) x:=by
 have hm:=VR.mono (pV (w:=w) hf) h
 unfold wB
 split
 ·rename_i n c
  split
  ·rename_i l hc
   have hokl:Ny H l=true:=by
    have hok:(match cellL c n 0 with | some l=>Ny H l | none=>true)=true:=hok
    rw [hc] at hok;exact hok
   obtain ⟨g1,g2⟩:=rF hc
   have hsc:∀ i,i<n→bn (l.getD i .bad)=true:=fun i hi=>by
    have e:=g2 i hi
    rw [Nat.zero_add] at e
    cases h with
    | agg g hn hg hs hv =>
     rw [hg i hi] at e
     have:=hs i hi
     simp only [List.getD,← e,Option.getD_some]
     exact this
   refine h.agg_as (fun i=>l.getD i .bad) (fun i=>(pO H l).getD i .bad) (fun i hi=>?_) (fun i hi=>?_) (fun i hi=>?_) (fun i hi y hv=>?_)
   ·have:=g2 i hi
    rw [Nat.zero_add] at this
    rw [this];simp [List.getD,List.getElem?_eq_getElem (show i<l.length by omega)]
   ·have hl:=nG H l
    rw [T.get_setL,if_pos (by omega)]
    simp [List.getD,List.getElem?_eq_getElem (show i<(pO H l).length by omega)]
   ·have hl:=nG H l
    have e:=rQ H l i (by omega) (by omega)
    have:=Ld H (hsc i hi)
    simp only [List.getD,List.getElem?_eq_getElem (show i<(pO H l).length by omega),List.getElem?_eq_getElem (show i<l.length by omega),Option.getD_some] at this ⊢
    rw [e];exact this
   ·have hl:=nG H l
    have e:=rQ H l i (by omega) (by omega)
    simp only [List.getD,List.getElem?_eq_getElem (show i<(pO H l).length by omega),List.getElem?_eq_getElem (show i<l.length by omega),Option.getD_some] at hv ⊢
    rw [e];exact IQ hr hf (Ff hokl i (by omega)) hv
  ·exact hm
 ·rename_i hna
  refine IQ hr hf ?_ h
  cases v<;>first | exact hok | exact (hna _ _ rfl).elim
theorem En {R:Ren} {H:EH} {w:World} (hr:Rel R All H w) (hf:∀ r,R.cz H.next r=none):∀ {l:List V} (hok:gQ H l=true) {ys:Array Value},AL R l ys→AL (iO R H w) (dB H l) ys:=by
 intro l
 induction l with
 | nil=>intro _ ys h;exact AL.nil_imp h
 | cons v l ih =>
  intro hok ys h
  obtain ⟨h1,h2⟩:=ai (show cond (Hm H v) (gQ H l) false=true from hok)
  exact AL.cons_imp h (fun y q=>O6 hr hf h1 q) (fun t q=>ih h2 q)
theorem kE {R R2:Ren} {v:V} (h:qf v=true) {x:Value} (hx:VR R v x):VR R2 v x:=by
 cases v<;>first | (cases h;done) | (cases hx;first | exact .bool _ | exact .int _ _)
theorem NQ {R R2:Ren} {v:V} (h:o7 v=true) {x:Value} (hx:VR R v x):VR R2 v x:=by
 cases v with
 | agg n c =>
  have h:yE c n 0=true:=h
  have key:∀ i,i<n→c.get i=some (getD' c i)∧qf (getD' c i)=true:=fun i hi=>by
   obtain ⟨v,q1,q2⟩:=ry h i hi
   rw [Nat.zero_add] at q1
   have e:getD' c i=v:=by unfold getD';rw [q1]
   rw [e];exact ⟨q1,q2⟩
  refine hx.agg_as (getD' c) (getD' c) (fun i hi=>(key i hi).1) (fun i hi=>(key i hi).1) (fun i hi=>?_) (fun i hi y hy=>kE (key i hi).2 hy)
  have:=(key i hi).2
  cases e:getD' c i<;>first | rfl | (rw [e] at this;cases this)
 | _=>refine kE ?_ hx;exact h
theorem F6 {g:FuncId} {args0:List V} {k:Nat} {v:V} {H':EH} (hs:SpecCall P g args0 (aU (k+1)) v H') {args:List V} {H:EH} {as:Nat→Nat} (hal:∀ R w ys,Rel R All H w→(∀ r,R.cz H.next r=none)→AL R args ys→AL (iM (iO R H w) w k as) args0 ys)
 {v':V} (hF:∀ R R2 x,VR R v x→VR R2 v' x):SpecCall P g args H v' (bump H):=by
 obtain ⟨n1,hfn,hk⟩:=hs
 refine ⟨Nat.le_succ _,hfn,fun R w args' n hr hw hf ha=>?_⟩
 have hfn0:=hf H.next (Nat.le_refl _) (Nat.lt_succ_self _)
 have hr0:Rel (iM (iO R H w) w k as) All (aU (k+1)) w:=by
  refine ⟨fun b r d h=>(by cases h),fun b o r d h=>(by cases h),fun b b' o o' r d d' h=>(by cases h),fun a r cs e=>?_⟩
  rcases gB e with ⟨_,e⟩ | ⟨_,e⟩
  ·rcases yY e with e | e
   ·exact ⟨(hr.frz _ _ _ e).1,fun b d q=>by cases q⟩
   ·exact ⟨e,fun b d q=>by cases q⟩
  ·exact ⟨e,fun b d q=>by cases q⟩
 have hfree:Free (iM (iO R H w) w k as) (aU (k+1)) H':=fun b h1 _=>⟨rfl,fun r=>by
  have h1:k+1≤b:=h1
  cases e:(iM (iO R H w) w k as).cz b r with
  | none=>rfl
  | some cs=>rcases gB e with ⟨q,_⟩ | ⟨q,_⟩<;>omega⟩
 refine CallsIn.mono (hk (iM (iO R H w) w k as) w args' n hr0 (pJ (k+1)) hfree (hal R w args' hr hfn0.2 ha)) fun en w' ⟨x,R',e1,e2,e3⟩=>?_
 have hkeep:∀ r,r<w.heap.size→w'.heap[r]?=w.heap[r]?:=fun r hr=>e3.fr.keep r hr fun b o d ho=>by cases ho
 refine ⟨x,R,e1,hF _ _ _ e2,⟨⟨Nat.le_succ _,Nat.le_refl _,fun b o h=>⟨o,h,rfl,rfl⟩,fun b o h _=>⟨h,rfl⟩,fun b o h _=>⟨o,h⟩,pG hw,fun g h=>h,fun b o h hb=>absurd (hw.lt b o h) (by omega)⟩,
  ⟨fun _ _=>rfl,fun _ _=>rfl,fun b r d h1 h2 e=>?_,fun a ha=>rfl,fun a r cs e => .inl e⟩,⟨e3.fr.os,e3.fr.tape,e3.fr.output,e3.fr.size,fun r hr _=>hkeep r hr⟩,
  ⟨fun b r d hb=>Nat.lt_of_lt_of_le (hr.img b r d hb) e3.fr.size,fun b o r d ho hb=>(hr.obj b o r d ho hb).mono (R':=R) ⟨fun _ _ e=>e,fun _ _ _ _=>rfl,fun a r cs e=>e⟩ hb (hkeep r (hr.img b r d hb)) (fun _=>trivial) (fun v=>by cases o<;>exact v),hr.inj,fun a r cs e=>?_⟩⟩⟩
 ·have h2:b<H.next+1:=h2
  have:b=H.next:=by omega
  subst this
  have e:R.bm H.next=some (r,d):=e
  rw [hfn0.1] at e;cases e
 ·obtain ⟨⟨t,fz,z1⟩,z2⟩:=hr.frz a r cs e
  exact ⟨⟨t,fz,(hkeep r (hr.frz.lt e)).trans z1⟩,z2⟩
theorem Si {v v':V} (hv:aP v v') (h:lG v'=true):∀ R R2 x,VR R v x→VR R2 v' x:=by
 have one:∀ {v v':V},lW v v'→o7 v'=true→∀ {R R2:Ren} {x:Value},VR R v x→VR R2 v' x:=by
  intro v v' hv h R R2 x hx
  have hF:=wC (H:=aU 0) (k:=0) (new:=0) (as:=fun n=>n) hv h
  cases hF with
  | one h0 =>
   cases h0 with
   | bool b=>exact kE rfl hx
   | int kd n=>exact kE rfl hx
   | nilSlice=>exact NQ h hx
   | nilS=>cases h
   | fz=>cases h
   | slice=>cases h
  | agg d d' h1 h2 hs h3 =>
   refine hx.agg_as d d' h1 h2 hs fun i hi y hy=>?_
   have hfl:qf (d' i)=true:=by
    obtain ⟨q,q1,q2⟩:=ry (show yE _ _ 0=true from h) i hi
    rw [Nat.zero_add] at q1
    rw [h2 i hi] at q1
    rw [Option.some.inj q1];exact q2
   have h4:=h3 i hi
   revert h4 hfl hy
   generalize d i=a
   generalize d' i=b
   intro hy hfl h4
   cases h4 with
   | bool b=>exact kE rfl hy
   | int kd n=>exact kE rfl hy
   | nilSlice=>cases hfl
   | nilS=>cases hfl
   | fz=>cases hfl
   | slice=>cases hfl
 intro R R2 x hx
 have hF:=ED (H:=aU 0) (k:=0) (new:=0) (as:=fun n=>n) hv h
 unfold aP at hv
 split at hv
 ·rename_i l l'
  obtain ⟨g1,g2⟩:=sJ hv
  cases hx with
  | tup hl hvs=>exact .tup (by omega) fun i h1 h2=>one (g2 i (by omega) h1) (oZ (show BL l'=true from h) i h1) (hvs i (by omega) h2)
 ·rename_i hn
  refine one hv ?_ hx
  cases v' with
  | tup l' =>
   have hv:lW v (.tup l'):=hv
   cases v with
   | tup l=>exact (hn l l' rfl rfl).elim
   | _ =>
    first
     | (have hv:=gW (v' := .tup l') hv;cases hv;done)
     | (unfold lW at hv;split at hv<;>first | (cases hv;done) | (rename_i e;cases e;done) | (have hv:=gW hv;cases hv;done))
  | _=>exact h
def PN (val:Val) (l:List V):Option (Bool×V):=match dec l with | some das=>vJ (yl l) (val das) | none=>none
def cfM (val:Val):CF:=fun args H=>vJ (gQ H args) (PN val (dB H args))
theorem SN {g:FuncId} {val:Val} (h:Con P g val):gq P (g,cfM val):=fun args H v hv0=>by
 have hv0:vJ (gQ H args) (PN val (dB H args))=some (true,v):=hv0
 obtain ⟨hokv,hv⟩:gQ H args=true∧PN val (dB H args)=some (true,v):=by
  cases hc:PN val (dB H args) with
  | none=>rw [hc] at hv0;cases hv0
  | some bv =>
   obtain ⟨b,v'⟩:=bv
   rw [hc] at hv0
   have e0:cond (gQ H args) b false=true:=by injection hv0 with hv0;injection hv0
   have e2:v'=v:=by injection hv0 with hv0;injection hv0
   obtain ⟨e1,e3⟩:=ai e0
   subst e2;subst e3
   exact ⟨e1,rfl⟩
 have hv:(match dec (dB H args) with | some das=>vJ (yl (dB H args)) (val das) | none=>none)=some (true,v):=hv
 cases hd:dec (dB H args) with
 | none=>rw [hd] at hv;cases hv
 | some das =>
  rw [hd] at hv
  have hv:vJ (yl (dB H args)) (val das)=some (true,v):=hv
  cases hval:val das with
  | none=>rw [hval] at hv;cases hv
  | some bv =>
   obtain ⟨b,v'⟩:=bv
   rw [hval] at hv
   have e0:cond (yl (dB H args)) b false=true:=by injection hv with hv;injection hv
   obtain ⟨e1,e3⟩:=ai e0
   have e2:v'=v:=by injection hv with hv;injection hv
   subst e2
   subst e3
   obtain ⟨hf,v1,H',hs,hvp⟩:=h das v' hval
   have key:∀ (R:Ren) (w:World),nxE das 0=0+(yS (dB H args)).length∧∀ ys,AL R (dB H args) ys→AL (iM R w (nxE das 0) (fun n=>(yS (dB H args)).getD n 0)) (enc das 0) ys:=fun R w=>by
    have h1:=(qY (R:=R) (w:=w) (k:=0+(yS (dB H args)).length) (as:=fun n=>(yS (dB H args)).getD n 0) (n:=0) hd e1 (fun i hi=>by simp) (Nat.le_refl _))
    refine ⟨h1.1,?_⟩
    rw [h1.1];exact h1.2
   exact F6 (as:=fun n=>(yS (dB H args)).getD n 0) hs (fun R w ys hr hf0 ha=>(key (iO R H w) w).2 ys (En hr hf0 hokv ha)) (Si hvp hf)
end
end Go.Ev
/- Loops whose rounds may append to a row, within other calls too: what a round leaves is packed: of what is new one row is kept at most, under a name of its own. -/
namespace Go.Ev
open Go
noncomputable section
variable {P:Program}
inductive Plc where
 | tmp (t:Nat)
 | cell (b j:Nat)
structure Acc where
 (nm rt sz:Nat) (c:T V) (plc:Plc) (lit:Bool)
structure GS where
 (l:List V) (rows:List (Nat×List V)) (acc:Option Acc)
def cellAt (H:EH) (b j:Nat):V:=match H.objs.get b with | some (.cells c _ _ _)=>getD' c j | _ => .bad
def TP (a:EA) (H:EH) (p:Plc):V:=match p with | .tmp t=>a.get t | .cell b j=>cellAt H b j
def YQ (v:V):Nat:=match v with | .slice b _ _ _=>b | _=>0
def rnO (a:EA) (H:EH) (x:Option Acc):Option (Nat×Nat):=match x with | some x=>some (YQ (TP a H x.plc),x.nm) | none=>none
def Zc (rn:Option (Nat×Nat)) (b off len e:Nat):V:=match rn with | some p=>cond (Nat.beq p.1 b) (.slice p.2 off len e) .bad | none => .bad
def Zi (N0:Nat) (rn:Option (Nat×Nat)) (v:V):V:=match v with
 | .slice b off len e=>cond (Nat.blt b N0) (.slice b off len e) (Zc rn b off len e)
 | v=>cond (jH N0 v) v .bad
def Yg (N0:Nat) (rn:Option (Nat×Nat)) (l:List V):List V:=List.rec (motive:=fun _=>List V) [] (fun v _ ih=>Zi N0 rn v::ih) l
def Xd (rows:List (Nat×List V)) (b:Nat):Option (List V):=List.rec (motive:=fun _=>Option (List V)) none (fun r _ ih=>cond (Nat.beq r.1 b) (some r.2) ih) rows
def TD (x:Option Acc) (t:T EO):T EO:=match x with | some x=>t.set x.nm (.cells x.c 0 x.sz x.rt) | none=>t
def Vh (x:Option Acc) (gs:T rH) (g:Nat):Option rH:=match x with | some x=>cond (Nat.beq x.rt g) (cond (Nat.beq x.rt x.nm) none (some (DX x.nm))) (gs.get g) | none=>gs.get g
def gsH (base:EH) (NX low:Nat) (s:GS):EH:=⟨TD s.acc (setAt s.rows base.objs),NX,.fn (Vh s.acc base.grps),low⟩
def gsA (ts:List Nat) (n:Nat) (s:GS):EA:=⟨qM (xP ts s.l),n,[]⟩
def VN (H:EH) (b:Nat):Option (List V):=match H.objs.get b with
 | some (.cells c lo sz g)=>cond (Nat.beq lo 0) (cond (Nat.beq g b) (cond (IA H b) (cellL c sz 0) none) none) none
 | _=>none
def Ym (a:EA) (H:EH) (N0:Nat) (rn:Option (Nat×Nat)) (rows:List (Nat×List V)):Prop:=List.rec (motive:=fun _=>Prop) True (fun r _ ih=>(match VN H r.1 with | some l=>xq (Yg N0 rn l) r.2 | none=>False)∧ih) rows
def inR (rows:List (Nat×List V)) (b:Nat):Bool:=match Xd rows b with | some _=>true | none=>false
def QV (H base:EH) (rows:List (Nat×List V)) (n:Nat):Nat→Prop:=Nat.rec (motive:=fun _=>Nat→Prop) (fun _=>True) (fun _ ih b=>cond (inR rows b) (ih (Nat.succ b)) (H.objs.get b=base.objs.get b∧ih (Nat.succ b))) n
def Yd (x:Option Acc) (g:Nat):Bool:=match x with | some x=>Nat.beq x.rt g | none=>false
def Vo (v:V):Bool:=match v with | .bad=>true | _=>false
def V5 (N0:Nat) (o:Option V):Bool:=match o with | none=>true | some v=>cond (jH N0 v) true (Vo v)
def WW (N0:Nat) (tm:T V) (n:Nat):Bool:=jF (fun i=>V5 N0 (tm.get i)) n
def VT (H:EH) (N0:Nat) (rows:List (Nat×List V)) (x:Option Acc) (keep:List Nat) (b:Nat):Bool:=cond (inR rows b) true (match H.objs.get b with
 | none=>true
 | some (.cells c lo sz g)=>cond (Yd x g) true (cond (H.valid b sz g) (cond (Gq b keep) true (vT N0 c (Nat.sub sz lo) lo)) false)
 | some (.loop _ _ tm n _ _ _ df)=>cond (WW N0 tm n) (Nat.blt df N0) false
 | some o=>xR N0 o)
def SK (H:EH) (N0:Nat) (rows:List (Nat×List V)) (x:Option Acc) (keep:List Nat) (n:Nat):Nat→Bool:=Nat.rec (motive:=fun _=>Nat→Bool) (fun _=>true) (fun _ ih b=>cond (VT H N0 rows x keep b) (ih (Nat.succ b)) false) n
def PL (N0 g':Nat) (x:Acc):Bool:=cond (Nat.blt g' N0) (Nat.beq x.rt g') (Nat.beq x.rt x.nm)
def YU (H:EH) (N0 b:Nat) (x:Option Acc):Prop:=match x with
 | none=>True
 | some x=>(match H.objs.get b with
  | some (.cells c lo sz g)=>cond (cond (Nat.beq lo 0) (cond (Nat.ble N0 b) (cond (H.valid b sz g) (PL N0 g x) false) false) false)
   ((Int.ofNat sz=Int.ofNat x.sz)∧cond x.lit (NH c x.c x.sz 0) (c=x.c)) False
  | _=>False)
def Yn (base:EH) (L M n:Nat) (keep:List Nat) (s:GS) (a:EA) (H:EH):Bool:=cond (Nat.beq a.n n) (cond (Nat.ble L H.low) (cond (Nat.ble H.next M) (cond (DU a.df []) (SK H base.next s.rows s.acc keep (Nat.sub base.next L) L) false) false) false) false
def ZF (a:EA) (H:EH) (x:Option Acc):Nat:=match x with | some x=>YQ (TP a H x.plc) | none=>0
def Xl (base:EH) (L M n:Nat) (ts keep:List Nat) (s:GS) (a:EA) (H:EH):Prop:=cond (Yn base L M n keep s a H)
 (xq (Yg base.next (rnO a H s.acc) (jk a ts)) s.l∧Ym a H base.next (rnO a H s.acc) s.rows∧QV H base s.rows (Nat.sub base.next L) L∧YU H base.next (ZF a H s.acc) s.acc) False
def Sr (base:EH) (L:Nat) (rows:List (Nat×List V)):Bool:=List.rec (motive:=fun _=>Bool) true (fun r _ ih=>cond (Nat.ble L r.1) (cond (Nat.blt r.1 base.next) (match base.objs.get r.1 with | some (.cells _ _ _ g)=>cond (Nat.beq g r.1) (cond (nC r.2) ih false) false | _=>false) false) false) rows
def Yi (base:EH) (L NX:Nat) (x:Option Acc):Bool:=match x with
 | some x=>cond (Nat.ble base.next x.nm) (cond (Nat.blt x.nm NX) (cond (Nat.beq x.rt x.nm) true (cond (Nat.ble L x.rt) (Nat.blt x.rt base.next) false)) false) false
 | none=>true
def X4 (base:EH) (L NX:Nat) (s:GS):Bool:=cond (Sr base L s.rows) (Yi base L NX s.acc) false
def Uc (base:EH) (L NX M n:Nat) (ts:List Nat):Bool:=cond (kF n ts) (cond (Nat.ble L base.next) (cond (Nat.ble L big) (cond (Nat.ble base.next NX) (Nat.ble NX M) false) false) false) false
def WT (c:T V) (sz:Nat):Prop:=∀ i,i<sz→∃ v,c.get i=some v∧qf v=true
def Iz (x:Option Acc):Prop:=match x with | some x=>WT x.c x.sz | none=>True
inductive EndK where
 | exit (id:Nat)
 | ret
def EndK.res (e:EndK) (a:EA) (H:EH):Res:=match e with | .exit id => .exit id a H | .ret => .ret a H
theorem EndK.res_H (e:EndK) (a:EA) (H:EH):(e.res a H).H=H:=by cases e<;>rfl
theorem Ro.sim {R R2:Ren} {H H2:EH} {w w':World} (h:SimA R R2 H H2 w w') (hf:Free R H H2) (hr:Rel R All H w) {ro rr:Option Nat} (q:Ro R ro rr):Ro R2 ro rr:=q.mono (h.le hr hf)
end
end Go.Ev
/- Code by packed states: pieces one after another, loops, all over one heap. -/
namespace Go.Ev
open Go
noncomputable section
variable {P:Program}
inductive Ok where
 | normal
 | exit (id:Nat)
 | ret
def Ok.res (o:Ok) (a:EA) (H:EH):Res:=match o with | .normal => .normal a H | .exit id => .exit id a H | .ret => .ret a H
theorem Ok.res_H (o:Ok) (a:EA) (H:EH):(o.res a H).H=H:=by cases o<;>rfl
structure Env where
 (base:EH) (L NX M n:Nat)
structure TS where
 (ts:List Nat) (s:GS)
def Env.H (E:Env) (x:TS):EH:=gsH E.base E.NX big x.s
def Env.A (E:Env) (x:TS):EA:=gsA x.ts E.n x.s
def Env.pack (E:Env) (x:TS) (a:EA) (H:EH):Prop:=Xl E.base E.L E.M E.n x.ts [] x.s a H
def Env.okB (E:Env) (x:TS):Bool:=cond (Uc E.base E.L E.NX E.M E.n x.ts) (X4 E.base E.L E.NX x.s) false
def Env.ok (E:Env) (x:TS):Prop:=E.okB x=true∧Iz x.s.acc
theorem Env.ok_get {E:Env} {x:TS} (h:E.ok x):Uc E.base E.L E.NX E.M E.n x.ts=true∧X4 E.base E.L E.NX x.s=true∧Iz x.s.acc:=by
 obtain ⟨h1,h2⟩:=ai h.1
 exact ⟨h1,h2,h.2⟩
theorem Env.le {E:Env} {x:TS} (h:E.ok x):E.base.next≤E.NX∧E.NX≤E.M∧E.L≤big:=by
 obtain ⟨_,h⟩:=ai (Env.ok_get h).1
 obtain ⟨_,h⟩:=ai h
 obtain ⟨h3,h⟩:=ai h
 obtain ⟨h1,h2⟩:=ai h
 exact ⟨Nat.le_of_ble_eq_true h1,Nat.le_of_ble_eq_true h2,Nat.le_of_ble_eq_true h3⟩
def okP (E:Env) (o:Ok) (y:TS) (r:Res):Prop:=match r,o with
 | .normal a H,.normal=>E.pack y a H
 | .exit id a H,.exit id'=>cond (Nat.beq id id') (E.pack y a H) False
 | .ret a H,.ret=>E.pack y a H
 | _,_=>False
def Ok.block (o:Ok) (id:Nat):Ok:=match o with | .exit id'=>cond (Nat.beq id' id) .normal (.exit id') | o=>o
end
end Go.Ev
/- Contracts whose values hold new rows, also where arguments lie in memory; closed calls as contracts. -/
namespace Go.Ev
open Go
noncomputable section
variable {P:Program}
inductive Fn0 (H:EH) (k new:Nat):V→V→Prop where
 | bool (b:Bool):Fn0 H k new (.bool b) (.bool b)
 | int (kd:IntKind) (n:Int):Fn0 H k new (.int kd n) (.int kd n)
 | nilSlice:Fn0 H k new .nilSlice .nilSlice
 | nilS {q:Bool} {a:Nat} {c:Nat→Nat→V} {e:Nat}:Fn0 H k new .nilSlice (.fz q a c 0 e)
 | fz {q:Bool} {a:Nat} {c c':Nat→Nat→V} {len e:Nat} (h0:k<a) (hs:∀ i j,i<len→j<e→bn (c' i j)=true) (ha:∀ i j,i<len→j<e→Aged new (c' i j))
  (h:∀ i j,i<len→j<e→Fn0 H k new (c i j) (c' i j)):Fn0 H k new (.fz q a c len e) (.fz true new c' len e)
 | slice {b off len e lo sz g:Nat} {c:T V} {d c':Nat→Nat→V} (hb:H.block b = .mk c lo sz g) (hl:lo≤off) (hz:off+len*e≤sz) (hd:∀ i j,i<len→j<e→c.get (off+(i*e+j))=some (d i j))
  (hs:∀ i j,i<len→j<e→bn (c' i j)=true) (ha:∀ i j,i<len→j<e→Aged new (c' i j)) (h:∀ i j,i<len→j<e→Fn0 H k new (d i j) (c' i j)):Fn0 H k new (.slice b off len e) (.fz true new c' len e)
inductive Fn1 (H:EH) (k new:Nat):V→V→Prop where
 | one {v v':V} (h:Fn0 H k new v v'):Fn1 H k new v v'
 | agg {n:Nat} {c c':T V} (d d':Nat→V) (h1:∀ i,i<n→c.get i=some (d i)) (h2:∀ i,i<n→c'.get i=some (d' i)) (hs:∀ i,i<n→bn (d' i)=true) (h:∀ i,i<n→Fn0 H k new (d i) (d' i)):Fn1 H k new (.agg n c) (.agg n c')
inductive FnV (H:EH) (k new:Nat):V→V→Prop where
 | one {v v':V} (h:Fn1 H k new v v'):FnV H k new v v'
 | tup {l l':List V} (hl:l.length=l'.length) (h:∀ i (h1:i<l.length) (h2:i<l'.length),Fn1 H k new l[i] l'[i]):FnV H k new (.tup l) (.tup l')
section
variable {H':EH} {k new:Nat} {R' R2:Ren} {w':World} (hr:Rel R' All H' w')
 (hnew:∀ a r cs,k<a→R'.cz a r=some cs→R2.cz new r=some cs)
 (hobj:∀ b r d o,H'.objs.get b=some o→R'.bm b=some (r,d)→∀ cs t fz,w'.heap[r]?=some (.cells cs t fz)→R2.cz new r=some cs)
include hr hnew hobj
theorem Om {v v':V} (h:Fn0 H' k new v v'):∀ {x:Value},VR R' v x→VR R2 v' x:=by
 induction h with
 | bool b=>intro x hx;cases hx;exact .bool b
 | int kd n=>intro x hx;cases hx;exact .int kd n
 | nilSlice=>intro x hx;cases hx;exact .nilSlice
 | nilS=>intro x hx;cases hx;exact .fzN
 | fz h0 hs ha _ ih =>
  intro x hx
  cases hx with
  | fzN=>exact .fzN
  | fzE h0=>exact .fzE (fun q=>by cases q)
  | fz y hc hl hy hs' ha' hv _=>exact .fz y (hnew _ _ _ h0 hc) hl hy hs ha fun i j hi hj=>ih i j hi hj (hv i j hi hj)
 | slice hb hl hz hd hs ha _ ih =>
  rename_i b off len e lo sz g c d c' h
  intro x hx
  cases hx with
  | slice hm ho hle hzz =>
   rename_i r dd o cap
   obtain ⟨cs,t,fz,a1,a2,a3,a4⟩:=hr.row hb hm trivial
   have hcz:=hobj b r dd _ (aH hb).1 hm cs t fz a1
   by_cases h0:len=0
   ·subst h0;exact .fzE (fun q=>by cases q)
   ·have hcap:cap≠0:=by omega
    have ho':=ho hcap
    have key:∀ i j,i<len→j<e→∃ y,cs[o+(i*e+j)]?=some y∧VR R' (d i j) y:=fun i j hi hj=>by
     have hlt:i*e+j<len*e:=by
      have:(i+1)*e≤len*e:=Nat.mul_le_mul_right _ hi
      rw [Nat.add_mul] at this;omega
     obtain ⟨p,x,y,e1,e2,e3,e4⟩:=a4 (off+(i*e+j)) (by omega) (by omega)
     rw [hd i j hi hj] at e1;cases e1
     rw [show off+(i*e+j)-dd=o+(i*e+j) by omega] at e3
     exact ⟨y,e3,e4⟩
    refine .fz (fun i j=>if h:i<len∧j<e then (key i j h.1 h.2).choose else undef) hcz hle (fun i j hi hj=>?_) hs ha fun i j hi hj=>?_
    ·show _=some (if h:i<len∧j<e then (key i j h.1 h.2).choose else undef)
     rw [dif_pos ⟨hi,hj⟩];exact (key i j hi hj).choose_spec.1
    ·show VR R2 (c' i j) (if h:i<len∧j<e then (key i j h.1 h.2).choose else undef)
     rw [dif_pos ⟨hi,hj⟩];exact ih i j hi hj (key i j hi hj).choose_spec.2
theorem Nr {v v':V} (h:Fn1 H' k new v v') {x:Value} (hx:VR R' v x):VR R2 v' x:=by
 cases h with
 | one h=>exact Om hr hnew hobj h hx
 | agg d d' h1 h2 hs h=>exact hx.agg_as d d' h1 h2 hs fun i hi y hy=>Om hr hnew hobj (h i hi) hy
theorem Qa {v v':V} (h:FnV H' k new v v') {x:Value} (hx:VR R' v x):VR R2 v' x:=by
 cases h with
 | one h=>exact Nr hr hnew hobj h hx
 | tup hl h =>
  cases hx with
  | tup hl' hv=>exact .tup (by omega) fun i h1 h2=>Nr hr hnew hobj (h i (by omega) h1) (hv i (by omega) h2)
end
theorem xy {g:FuncId} {args0:List V} {k:Nat} {v:V} {H':EH} (hs:SpecCall P g args0 (aU (k+1)) v H') {args:List V} {H:EH}
 (hal:∀ R w ys,Rel R All H w→(∀ r,R.cz H.next r=none)→AL R args ys→∃ R0:Ren,(∀ b,R0.bm b=none)∧(∀ a r cs,R0.cz a r=some cs→a≤k∧∃ t fz,w.heap[r]?=some (.cells cs t fz))∧AL R0 args0 ys)
 {v':V} (hF:FnV H' k H.next v v'):SpecCall P g args H v' (bump H):=by
 obtain ⟨n1,hfn,hk⟩:=hs
 refine ⟨Nat.le_succ _,hfn,fun R w args' n hr hw hf ha=>?_⟩
 have hfn0:=hf H.next (Nat.le_refl _) (Nat.lt_succ_self _)
 obtain ⟨R0,hbm,hczk,hal0⟩:=hal R w args' hr hfn0.2 ha
 have hr0:Rel R0 All (aU (k+1)) w:=by
  refine ⟨fun b r d h=>(by rw [hbm] at h;cases h),fun b o r d h=>(by cases h),fun b b' o o' r d d' h=>(by cases h),fun a r cs e=>?_⟩
  exact ⟨(hczk a r cs e).2,fun b d q=>by rw [hbm] at q;cases q⟩
 have hfree:Free R0 (aU (k+1)) H':=fun b h1 _=>⟨hbm b,fun r=>by
  have h1:k+1≤b:=h1
  cases e:R0.cz b r with
  | none=>rfl
  | some cs=>have:=(hczk b r cs e).1;omega⟩
 refine CallsIn.mono (hk R0 w args' n hr0 (pJ (k+1)) hfree hal0) fun en w' ⟨x,R',e1,e2,e3⟩=>?_
 have hkeep:∀ r,r<w.heap.size→w'.heap[r]?=w.heap[r]?:=fun r hr=>e3.fr.keep r hr fun b o d ho=>by cases ho
 let R2:Ren:=⟨R.bm,R.zs,fun a r=>if a=H.next then (if w.heap.size≤r then (match w'.heap[r]? with | some (.cells cs _ _)=>some cs | _=>none) else none) else R.cz a r⟩
 have hR2:∀ r cs t fz,w.heap.size≤r→w'.heap[r]?=some (.cells cs t fz)→R2.cz H.next r=some cs:=fun r cs t fz h1 h2=>by
  show (if H.next=H.next then (if w.heap.size≤r then (match w'.heap[r]? with | some (.cells cs _ _)=>some cs | _=>none) else none) else R.cz H.next r)=some cs
  rw [if_pos rfl,if_pos h1,h2]
 have hcz:∀ a r cs,R2.cz a r=some cs→(a≠H.next∧R.cz a r=some cs)∨(a=H.next∧w.heap.size≤r∧∃ t fz,w'.heap[r]?=some (.cells cs t fz)):=fun a r cs e=>by
  have e:(if a=H.next then (if w.heap.size≤r then (match w'.heap[r]? with | some (.cells cs _ _)=>some cs | _=>none) else none) else R.cz a r)=some cs:=e
  split at e
  ·rename_i ea
   split at e
   ·rename_i hz
    split at e
    ·rename_i c t fz hc;cases e;exact .inr ⟨ea,hz,t,fz,hc⟩
    ·cases e
   ·cases e
  ·rename_i ea;exact .inl ⟨ea,e⟩
 have hrel':=SimA.rel e3
 have hv:VR R2 v' x:=by
  refine Qa (R':=R') (R2:=R2) (w':=w') (k:=k) hrel' (fun a r cs ha q=>?_) (fun b r d o ho hb cs t fz q=>?_) hF e2
  ·rcases e3.rx.czn a r cs q with z | z
   ·have:=(hczk a r cs z).1;omega
   ·obtain ⟨⟨t,fz,hc⟩,_⟩:=hrel'.frz a r cs q
    exact hR2 r cs t fz z hc
  ·refine hR2 r cs t fz ?_ q
   have hlt:=e3.wf.lt b o ho
   by_cases hb0:k+1≤b
   ·rcases e3.rx.neu b r d hb0 hlt hb with z | ⟨_,_,_,z,_⟩
    ·exact z
    ·cases z
   ·rw [e3.rx.same b (by show ¬ (k+1≤b∧_);omega),hbm] at hb
    cases hb
 refine ⟨x,R2,e1,hv,⟨⟨Nat.le_succ _,Nat.le_refl _,fun b o h=>⟨o,h,rfl,rfl⟩,fun b o h _=>⟨h,rfl⟩,fun b o h _=>⟨o,h⟩,pG hw,fun g h=>h,fun b o h hb=>absurd (hw.lt b o h) (by omega)⟩,
  ⟨fun _ _=>rfl,fun _ _=>rfl,fun b r d h1 h2 e=>?_,fun a ha=>?_,fun a r cs e=>?_⟩,⟨e3.fr.os,e3.fr.tape,e3.fr.output,e3.fr.size,fun r hr _=>hkeep r hr⟩,
  ⟨fun b r d hb=>Nat.lt_of_lt_of_le (hr.img b r d hb) e3.fr.size,fun b o r d ho hb=>(hr.obj b o r d ho hb).mono (R':=R2) ⟨fun _ _ e=>e,fun _ _ _ _=>rfl,fun a r cs e=>?_⟩ hb (hkeep r (hr.img b r d hb)) (fun _=>trivial) (fun v=>by cases o<;>exact v),hr.inj,fun a r cs e=>?_⟩⟩⟩
 ·have h2:b<H.next+1:=h2
  have:b=H.next:=by omega
  subst this
  have e:R.bm H.next=some (r,d):=e
  rw [hfn0.1] at e;cases e
 ·funext r
  show (if a=H.next then _ else R.cz a r)=R.cz a r
  rw [if_neg (fun q=>ha ⟨by omega,by show a<H.next+1;omega⟩)]
 ·rcases hcz a r cs e with ⟨_,q⟩ | ⟨_,q,_⟩
  ·exact .inl q
  ·exact .inr q
 ·show (if a=H.next then _ else R.cz a r)=some cs
  rw [if_neg (fun q=>by rw [q,hfn0.2 r] at e;cases e)];exact e
 ·rcases hcz a r cs e with ⟨_,q⟩ | ⟨_,q,t,fz,hc⟩
  ·obtain ⟨⟨t,fz,z1⟩,z2⟩:=hr.frz a r cs q
   exact ⟨⟨t,fz,(hkeep r (hr.frz.lt q)).trans z1⟩,z2⟩
  ·refine ⟨⟨t,fz,hc⟩,fun b d z=>?_⟩
   have:=hr.img b r d z
   omega
def EN (n:Nat) (v:V):V:=match v with | .fz _ _ c len e => .fz true n c len e | v=>v
def C9 (n:Nat) (v:V):V:=match v with | .fz _ _ c len e => .fz true n (fun i j=>EN n (c i j)) len e | v=>v
def JJ (n:Nat) (l:List V):List V:=List.rec (motive:=fun _=>List V) [] (fun v _ ih=>C9 n v::ih) l
def mG (n:Nat) (v:V):V:=match v with | .tup l => .tup (JJ n l) | v=>C9 n v
def yw (ok:Bool) (n:Nat) (r:Option (Bool×V)):Option (Bool×V):=match r with | some (b,v)=>some (cond ok b false,mG n v) | none=>none
def VW (P:Program) (g:FuncId) (val:Val):Prop:=∀ das v,val das=some (true,v)→∃ v' H',SpecCall P g (enc das 0) (aU (nxE das 0+1)) v' H'∧∀ new,FnV H' (nxE das 0) new v' (mG new v)
def cfN (val:Val):CF:=fun args H=>match dec args with | some das=>yw (yl args) H.next (val das) | none=>none
def DN (val:Val) (n:Nat) (l:List V):Option (Bool×V):=match dec l with | some das=>yw (yl l) n (val das) | none=>none
def okO (ok:Bool) (r:Option (Bool×V)):Option (Bool×V):=match r with | some (b,v)=>some (cond ok b false,v) | none=>none
def XI (val:Val):CF:=fun args H=>okO (gQ H args) (DN val H.next (dB H args))
theorem zk {ok:Bool} {n:Nat} {r:Option (Bool×V)} {v:V} (h:yw ok n r=some (true,v)):∃ v0,r=some (true,v0)∧ok=true∧v=mG n v0:=by
 cases r with
 | none=>cases h
 | some bv =>
  obtain ⟨b,v'⟩:=bv
  have e0:cond ok b false=true:=by injection h with h;injection h
  have e2:mG n v'=v:=by injection h with h;injection h
  obtain ⟨e1,e3⟩:=ai e0
  subst e3
  exact ⟨v',rfl,e1,e2.symm⟩
theorem QR {g:FuncId} {val:Val} (h:VW P g val):gq P (g,cfN val):=fun args H v hv=>by
 have hv:(match dec args with | some das=>yw (yl args) H.next (val das) | none=>none)=some (true,v):=hv
 cases hd:dec args with
 | none=>rw [hd] at hv;cases hv
 | some das =>
  rw [hd] at hv
  obtain ⟨v0,hval,e1,rfl⟩:=zk (show yw (yl args) H.next (val das)=some (true,v) from hv)
  obtain ⟨v1,H',hs,hvp⟩:=h das v0 hval
  refine xy hs (fun R w ys hr hf0 ha=>?_) (hvp _)
  have h1:=(qY (R:=R) (w:=w) (k:=0+(yS args).length) (as:=fun n=>(yS args).getD n 0) (n:=0) hd e1 (fun i hi=>by simp) (Nat.le_refl _))
  rw [← h1.1] at h1
  refine ⟨_,fun b=>rfl,fun a r cs e=>?_,h1.2 ys ha⟩
  rcases gB e with ⟨q,e⟩ | ⟨q,e⟩
  ·exact ⟨by omega,(hr.frz _ _ _ e).1⟩
  ·exact ⟨by omega,e⟩
theorem OT {g:FuncId} {val:Val} (h:VW P g val):gq P (g,XI val):=fun args H v hv0=>by
 have hv0:okO (gQ H args) (DN val H.next (dB H args))=some (true,v):=hv0
 obtain ⟨hokv,hv⟩:gQ H args=true∧DN val H.next (dB H args)=some (true,v):=by
  cases hc:DN val H.next (dB H args) with
  | none=>rw [hc] at hv0;cases hv0
  | some bv =>
   obtain ⟨b,v'⟩:=bv
   rw [hc] at hv0
   have e0:cond (gQ H args) b false=true:=by injection hv0 with hv0;injection hv0
   have e2:v'=v:=by injection hv0 with hv0;injection hv0
   obtain ⟨e1,e3⟩:=ai e0
   subst e2;subst e3
   exact ⟨e1,rfl⟩
 have hv:(match dec (dB H args) with | some das=>yw (yl (dB H args)) H.next (val das) | none=>none)=some (true,v):=hv
 cases hd:dec (dB H args) with
 | none=>rw [hd] at hv;cases hv
 | some das =>
  rw [hd] at hv
  obtain ⟨v0,hval,e1,rfl⟩:=zk (show yw (yl (dB H args)) H.next (val das)=some (true,v) from hv)
  obtain ⟨v1,H',hs,hvp⟩:=h das v0 hval
  refine xy hs (fun R w ys hr hf0 ha=>?_) (hvp _)
  have h1:=(qY (R:=iO R H w) (w:=w) (k:=0+(yS (dB H args)).length) (as:=fun n=>(yS (dB H args)).getD n 0) (n:=0) hd e1 (fun i hi=>by simp) (Nat.le_refl _))
  rw [← h1.1] at h1
  refine ⟨_,fun b=>rfl,fun a r cs e=>?_,h1.2 ys (En hr hf0 hokv ha)⟩
  rcases gB e with ⟨q,e⟩ | ⟨q,e⟩
  ·refine ⟨by omega,?_⟩
   rcases yY e with e | e
   ·exact (hr.frz _ _ _ e).1
   ·exact e
  ·exact ⟨by omega,e⟩
def VZ (x y:CF):CF:=fun args H=>match x args H with | some r=>some r | none=>y args H
theorem JI {g:FuncId} {x y:CF} (hx:gq P (g,x)) (hy:gq P (g,y)):gq P (g,VZ x y):=fun args H v hv=>by
 have hv:(match x args H with | some r=>some r | none=>y args H)=some (true,v):=hv
 cases h:x args H with
 | none=>rw [h] at hv;exact hy args H v hv
 | some r=>rw [h] at hv;exact hx args H v (h.trans hv)
structure CL where
 (g:FuncId) (das:List DA) (v:V)
def jf (v v':V):Bool:=match v,v' with
 | .bool x,.bool y=>dZ x y
 | .int k x,.int k' y=>cond (fA k k') (ah x y) false
 | .nilSlice,.nilSlice=>true
 | _,_=>false
def rowB (one:V→V→Bool) (H:EH) (v v':V):Bool:=match v,v' with
 | .slice b off len e,.fz _ _ c' len' e'=>cond (Nat.beq len len') (cond (Nat.beq e e') (match H.block b with
  | .mk c lo sz _=>cond (Nat.ble lo off) (cond (Nat.ble (Nat.add off (Nat.mul len e)) sz) (jF (fun i=>jF (fun j=>match c.get (Nat.add off (Nat.add (Nat.mul i e) j)) with | some v=>one v (c' i j) | none=>false) e) len) false) false
  | .no=>false) false) false
 | .nilSlice,.fz _ _ _ len _=>Nat.beq len 0
 | v,v'=>jf v v'
def TZ (H:EH) (v v':V):Bool:=rowB jf H v v'
def Uo (H:EH) (v v':V):Bool:=rowB (TZ H) H v v'
def cellsB (one:V→V→Bool) (c c':T V) (n:Nat):Bool:=jF (fun i=>match c.get i,c'.get i with | some v,some v'=>one v v' | _,_=>false) n
def yH (H:EH) (v v':V):Bool:=match v,v' with
 | .agg n c,.agg n' c'=>cond (Nat.beq n n') (cellsB jf c c' n) false
 | v,v'=>Uo H v v'
def NS (H:EH) (l:List V):List V→Bool:=List.rec (motive:=fun _=>List V→Bool) (fun m=>match m with | []=>true | _=>false) (fun v _ ih m=>match m with | v'::m=>cond (yH H v v') (ih m) false | []=>false) l
def U1 (H:EH) (v v':V):Bool:=match v,v' with
 | .tup l,.tup l'=>NS H l l'
 | v,v'=>yH H v v'
theorem lS {H:EH} {k new:Nat} {v v':V} (h:jf v v'=true):Fn0 H k new v v'∧bn v'=true∧∀ n,Aged n v':=by
 unfold jf at h
 split at h
 ·have:=kQ h;subst this;exact ⟨.bool _,rfl,fun _ => .bool _⟩
 ·obtain ⟨h1,h2⟩:=ai h
  have:=ng h1;subst this
  have:=AU h2;subst this
  exact ⟨.int _ _,rfl,fun _ => .int _ _⟩
 ·exact ⟨.nilSlice,rfl,fun _ => .nilSlice⟩
 ·cases h
theorem zO {v v':V} (h:jf v v'=true) (new:Nat):EN new v'=v'∧C9 new v'=v':=by
 unfold jf at h
 split at h
 ·exact ⟨rfl,rfl⟩
 ·exact ⟨rfl,rfl⟩
 ·exact ⟨rfl,rfl⟩
 ·cases h
theorem vU {one:V→V→Bool} {H:EH} {v v':V} (h:rowB one H v v'=true):jf v v'=true∨(v = .nilSlice∧∃ q a c e,v' = .fz q a c 0 e)∨∃ b off len e q a c' c lo sz g,v = .slice b off len e∧v' = .fz q a c' len e∧H.block b = .mk c lo sz g∧lo≤off∧off+len*e≤sz∧∀ i j,i<len→j<e→∃ x,c.get (off+(i*e+j))=some x∧one x (c' i j)=true:=by
 unfold rowB at h
 split at h
 ·rename_i b off len e q a c' len' e'
  obtain ⟨h1,hA⟩:=ai h
  obtain ⟨h2,hB⟩:=ai hA
  have e1:=nb h1
  have e2:=nb h2
  clear h hA h1 h2
  subst e1
  subst e2
  split at hB
  ·rename_i c lo sz g hb
   obtain ⟨h3,hC⟩:=ai hB
   obtain ⟨h4,h5⟩:=ai hC
   refine .inr (.inr ⟨b,off,len,e,q,a,c',c,lo,sz,g,rfl,rfl,hb,Nat.le_of_ble_eq_true h3,Nat.le_of_ble_eq_true h4,fun i j hi hj=>?_⟩)
   have:=bK (bK h5 i hi) j hj
   have this:(match c.get (off+(i*e+j)) with | some v=>one v (c' i j) | none=>false)=true:=this
   split at this
   ·rename_i x hx;exact ⟨x,hx,this⟩
   ·cases this
  ·cases hB
 ·rename_i q a c' len' e'
  have:=nb h;subst this
  exact .inr (.inl ⟨rfl,q,a,c',e',rfl⟩)
 ·exact .inl h
theorem Nu {H:EH} {k new:Nat} {v v':V} (h:TZ H v v'=true):Fn0 H k new v (EN new v')∧bn (EN new v')=true∧Aged new (EN new v'):=by
 rcases vU h with h | ⟨rfl,q,a,c,e,rfl⟩ | ⟨b,off,len,e,q,a,c',c,lo,sz,g,rfl,rfl,hb,h1,h2,h3⟩
 ·rw [(zO h new).1]
  obtain ⟨a,b,c⟩:=lS (H:=H) (k:=k) (new:=new) h
  exact ⟨a,b,c _⟩
 ·exact ⟨.nilS,rfl,.fz _ (Nat.le_refl _) fun i j hi=>absurd hi (by omega)⟩
 ·have key:∀ i j,i<len→j<e→∃ x,c.get (off+(i*e+j))=some x∧Fn0 H k new x (c' i j)∧bn (c' i j)=true∧Aged new (c' i j):=fun i j hi hj=>by
   obtain ⟨x,q1,q2⟩:=h3 i j hi hj
   obtain ⟨a,b,c⟩:=lS (H:=H) (k:=k) (new:=new) q2
   exact ⟨x,q1,a,b,c _⟩
  refine ⟨.slice (d:=fun i j=>(c.get (off+(i*e+j))).getD .bad) hb h1 h2 (fun i j hi hj=>?_) (fun i j hi hj=>?_) (fun i j hi hj=>?_) (fun i j hi hj=>?_),rfl,.fz _ (Nat.le_refl _) fun i j hi hj=>?_⟩
  all_goals obtain ⟨x,q1,q2,q3,q4⟩:=key i j hi hj
  ·simp only [q1];rfl
  ·exact q3
  ·exact q4
  ·simp only [q1];exact q2
  ·exact q4
theorem OL {H:EH} {k new:Nat} {v v':V} (h:Uo H v v'=true):Fn0 H k new v (C9 new v'):=by
 rcases vU h with h | ⟨rfl,q,a,c,e,rfl⟩ | ⟨b,off,len,e,q,a,c',c,lo,sz,g,rfl,rfl,hb,h1,h2,h3⟩
 ·rw [(zO h new).2];exact (lS h).1
 ·exact .nilS
 ·have key:∀ i j,i<len→j<e→∃ x,c.get (off+(i*e+j))=some x∧Fn0 H k new x (EN new (c' i j))∧bn (EN new (c' i j))=true∧Aged new (EN new (c' i j)):=fun i j hi hj=>by
   obtain ⟨x,q1,q2⟩:=h3 i j hi hj
   exact ⟨x,q1,Nu q2⟩
  refine .slice (d:=fun i j=>(c.get (off+(i*e+j))).getD .bad) hb h1 h2 (fun i j hi hj=>?_) (fun i j hi hj=>?_) (fun i j hi hj=>?_) (fun i j hi hj=>?_)
  all_goals obtain ⟨x,q1,q2,q3,q4⟩:=key i j hi hj
  ·simp only [q1];rfl
  ·exact q3
  ·exact q4
  ·simp only [q1];exact q2
theorem DV {H:EH} {k new:Nat} {v v':V} (h:yH H v v'=true):Fn1 H k new v (C9 new v'):=by
 unfold yH at h
 split at h
 ·rename_i n c n' c'
  obtain ⟨h1,h2⟩:=ai h
  have:=nb h1;subst this
  have key:∀ i,i<n→∃ x x',c.get i=some x∧c'.get i=some x'∧jf x x'=true:=fun i hi=>by
   have:=bK h2 i hi
   have this:(match c.get i,c'.get i with | some v,some v'=>jf v v' | _,_=>false)=true:=this
   split at this
   ·rename_i x x' h1 h2;exact ⟨x,x',h1,h2,this⟩
   ·cases this
  refine .agg (fun i=>(c.get i).getD .bad) (fun i=>(c'.get i).getD .bad) (fun i hi=>?_) (fun i hi=>?_) (fun i hi=>?_) (fun i hi=>?_)
  all_goals obtain ⟨x,x',q1,q2,q3⟩:=key i hi
  ·simp only [q1];rfl
  ·simp only [q2];rfl
  ·simp only [q2];exact (lS (H:=H) (k:=k) (new:=new) q3).2.1
  ·simp only [q1,q2];exact (lS q3).1
 ·exact .one (OL h)
theorem yG {H:EH}:∀ {l l':List V},NS H l l'=true→l.length=l'.length∧∀ i (h1:i<l.length) (h2:i<l'.length),yH H l[i] l'[i]=true
 | [],[],_=>⟨rfl,fun i h1=>by simp at h1⟩
 | [],_::_,h=>by cases h
 | _::_,[],h=>by cases h
 | v::l,v'::l',h=>by
  obtain ⟨h1,h2⟩:=ai (show cond (yH H v v') (NS H l l') false=true from h)
  obtain ⟨e1,e2⟩:=yG h2
  refine ⟨by simp [e1],fun i q1 q2=>?_⟩
  cases i with
  | zero=>exact h1
  | succ i=>exact e2 i (by simpa using q1) (by simpa using q2)
theorem JX (n:Nat) (l:List V):JJ n l=l.map (C9 n):=by
 induction l with
 | nil=>rfl
 | cons v l ih=>show C9 n v::JJ n l=_;rw [ih];rfl
theorem RI {H:EH} {k:Nat} {v v':V} (h:U1 H v v'=true):∀ new,FnV H k new v (mG new v'):=fun new=>by
 unfold U1 at h
 split at h
 ·rename_i l l'
  obtain ⟨e1,e2⟩:=yG h
  show FnV H k new (.tup l) (.tup (JJ new l'))
  rw [JX]
  exact .tup (by simp [e1]) fun i h1 h2=>by
   rw [List.getElem_map]
   exact DV (e2 i h1 (by simpa using h2))
 ·rename_i hn
  have h1:Fn1 H k new v (C9 new v'):=DV h
  cases v' with
  | tup l' =>
   cases v with
   | tup l=>exact (hn l l' rfl rfl).elim
   | _=>cases h
  | _=>exact .one h1
end
end Go.Ev
/- Runs whose conditions are shown, in a form that no elaborator unfolds. -/
namespace Go.Ev
open Go
noncomputable section
variable {P:Program}
structure VC (d:D) (h:HT):Prop where
 ok:vc d h
theorem ak (hD:aF P) {X:Ext} (hX:cZ P X) {n:Nat} {g:FuncId} {das:List DA} {v:V} {h:HT} (hf:lG v=true) (hv:VC (aC P X n g (enc das 0) (nxE das 0) (fun v'=>aP v' v)) h):lG v=true∧∃ v' H',SpecCall P g (enc das 0) (aU (nxE das 0+1)) v' H'∧aP v' v :=
 Tz hD hX hf hv.ok
def WM (a lw:Nat) (fw:Nat→Nat→Int) (lm:Nat) (fm:Nat→Nat→Int) (n:Nat) (ls:Nat→Nat) (f:Nat→Nat→Nat→Int):Bool :=
 cond (je .i64 (aj .i64 fw) lw 1) (cond (je .i64 (aj .i64 fm) lm 1) (cond (cond true (Px a (EU a 1 ls f) n 1) false) true false) false) false
def Yw (a lw:Nat) (fw:Nat→Nat→Int) (lm:Nat) (fm:Nat→Nat→Int) (n:Nat) (ls:Nat→Nat) (f:Nat→Nat→Nat→Int) (e nc:Nat) (fc:Nat→Nat→Int):Bool :=
 cond (je .i64 (aj .i64 fw) lw 1) (cond (je .i64 (aj .i64 fm) lm 1) (cond (cond true (Px a (EU a 1 ls f) n 1) false) (cond true (cond (je .i64 (aj .i64 fc) nc e) true false) false) false) false) false
theorem PZ (a lw:Nat) (fw:Nat→Nat→Int) (lm:Nat) (fm:Nat→Nat→Int) (n:Nat) (ls:Nat→Nat) (f:Nat→Nat→Nat→Int):WM a lw fw lm fm n ls f=true:=by
 unfold WM
 rw [cO,cO,ku];rfl
theorem Ov (a lw:Nat) (fw:Nat→Nat→Int) (lm:Nat) (fm:Nat→Nat→Int) (n:Nat) (ls:Nat→Nat) (f:Nat→Nat→Nat→Int) (e nc:Nat) (fc:Nat→Nat→Int):Yw a lw fw lm fm n ls f e nc fc=true:=by
 unfold Yw
 rw [cO,cO,ku,cO];rfl
theorem aB {d:D} {h:HT} (p:Prop) (e:vc d h=p:=by kernel_rfl) (q:p:=by (try simp only [lF,UJ,iF,yC,AA,JO,Yt,XX,UB,Ue,Ce,Dx,Dc,IW,QH,TT,UD,TI,PK,Uy,cO,ku,PZ,Ov,cond_true,cond_false,true_and,and_true,eq_self]);(repeat' (first | exact True.intro | (with_reducible assumption) | refine And.intro ?_ ?_ | refine QY ?_ ?_ | intro _));all_goals (first | (with_reducible assumption) | (with_reducible rfl) | omega | rfl | (simp only [lF,UJ,iF,yC,AA,JO,Yt,XX,UB,Ue,Ce,Dx,Dc,IW,QH,TT,UD,TI,PK,Uy,cO,ku,PZ,Ov,cond_true,cond_false,true_and,and_true,eq_self];first | done | omega | (with_reducible assumption) | rfl))):VC d h:=⟨by rw [e];exact q⟩
end
end Go.Ev
/- Contracts whose value is a struct with new rows. -/
namespace Go.Ev
open Go
noncomputable section
variable {P:Program}
def jO (P:Program) (X:Ext) (n:Nat) (g:FuncId) (args:List V) (k:Nat) (φ:V→EH→Prop):D:=evK P kD X (.leaf False) n (.call g args (aU (k+1))) (fun r=>match r with | .v v H => .leaf (φ v H) | _ => .leaf False)
theorem N8 (hD:aF P) {X:Ext} (hX:cZ P X) {n:Nat} {g:FuncId} {args:List V} {k:Nat} {φ:V→EH→Prop} {h:HT} (hv:VC (jO P X n g args k φ) h):∃ v H',SpecCall P g args (aU (k+1)) v H'∧φ v H':=by
 have hv:=uY _ _ hv.ok
 unfold jO at hv
 rw [kZ (B:=kD) (φ:=den) (fun _ _ _=>rfl) (fun _ _=>rfl)] at hv
 cases hr:ev P X n (.call g args (aU (k+1))) with
 | none=>rw [hr] at hv;exact hv.elim
 | some r =>
  rw [hr] at hv
  cases r with
  | v v H'=>exact ⟨v,H',IP hD hX hr,hv⟩
  | _=>exact hv.elim
theorem qA {b:Bool} {p:Prop} (h:cond b p False):b=true∧p:=by
 cases b with
 | true=>exact ⟨rfl,h⟩
 | false=>exact h.elim
end
end Go.Ev
/- A function with two loops, one behind the other. -/
namespace Go.Ev
open Go
noncomputable section
variable {P:Program}
end
end Go.Ev
/- Contracts whose values hold rows of the arguments, as they are, and new ones: the value is said by data. -/
namespace Go.Ev
open Go
noncomputable section
variable {P:Program}
inductive S0 where
 | old (d:D0) (a:Nat)
 | new (d:D0)
inductive S1 where
 | one (s:S0)
 | ag (l:List S0)
inductive SV where
 | one (s:S1)
 | tup (l:List S1)
def XW (as:Nat→Nat) (nw:Nat) (s:S0):V:=match s with | .old d a=>Ls d (as a) | .new d=>Ls d nw
def Y1 (as:Nat→Nat) (nw:Nat) (l:List S0):List V:=List.rec (motive:=fun _=>List V) [] (fun s _ ih=>XW as nw s::ih) l
def X7 (as:Nat→Nat) (nw:Nat) (s:S1):V:=match s with | .one s=>XW as nw s | .ag l => .agg (cu l) (T.setL .lf 0 (Y1 as nw l))
def Xv (as:Nat→Nat) (nw:Nat) (l:List S1):List V:=List.rec (motive:=fun _=>List V) [] (fun s _ ih=>X7 as nw s::ih) l
def Y5 (as:Nat→Nat) (nw:Nat) (s:SV):V:=match s with | .one s=>X7 as nw s | .tup l => .tup (Xv as nw l)
def JC (c:T V) (g:Nat→Int) (e:Nat):Nat→Nat→Prop :=
 Nat.rec (motive:=fun _=>Nat→Nat→Prop) (fun _ _=>True) (fun _ ih p j=>(match c.get p with | some v=>yu v (.int .i64 (g j)) | none=>False)∧ih (Nat.succ p) (Nat.succ j)) e
theorem MO {c:T V} {g:Nat→Int}:∀ {e p j:Nat},JC c g e p j→∀ k,k<e→c.get (p+k)=some (.int .i64 (g (j+k))):=by
 intro e
 induction e with
 | zero=>intro p j _ k hk;omega
 | succ e ih =>
  intro p j h k hk
  obtain ⟨h1,h2⟩:=(show (match c.get p with | some v=>yu v (.int .i64 (g j)) | none=>False)∧JC c g e (p+1) (j+1) from h)
  cases k with
  | zero =>
   cases hc:c.get p with
   | none=>rw [hc] at h1;exact h1.elim
   | some v=>rw [hc] at h1;first | (rw [Nat.add_zero,hc,gW h1];rfl) | (rw [gW h1];rfl)
  | succ k =>
   have:=ih h2 k (by omega)
   rw [show p+(k+1)=p+1+k by omega,show j+(k+1)=j+1+k by omega];exact this
def H9 (c:T V) (e:Nat) (f:Nat→Nat→Int) (len:Nat):Nat→Nat→Prop :=
 Nat.rec (motive:=fun _=>Nat→Nat→Prop) (fun _ _=>True) (fun _ ih p i=>JC c (f i) e p 0∧ih (Nat.add p e) (Nat.succ i)) len
theorem Ia {c:T V} {e:Nat} {f:Nat→Nat→Int}:∀ {len p i:Nat},H9 c e f len p i→∀ k j,k<len→j<e→c.get (p+(k*e+j))=some (.int .i64 (f (i+k) j)):=by
 intro len
 induction len with
 | zero=>intro p i _ k j hk;omega
 | succ len ih =>
  intro p i h k j hk hj
  obtain ⟨h1,h2⟩:=(show JC c (f i) e p 0∧H9 c e f len (p+e) (i+1) from h)
  cases k with
  | zero =>
   have:=MO h1 j hj
   rw [Nat.zero_add] at this
   rw [Nat.zero_mul,Nat.zero_add];exact this
  | succ k =>
   have:=ih h2 k j (by omega) hj
   rw [show p+((k+1)*e+j)=p+e+(k*e+j) by rw [Nat.add_mul];omega,show i+(k+1)=i+1+k by omega];exact this
def rP (k:Nat) (H:EH) (v:V) (len e:Nat) (f:Nat→Nat→Int):Prop:=match v with
 | .nilSlice=>Int.ofNat 0=Int.ofNat len
 | .fz q a c l e'=>cond (Nat.blt k a) (V.fz q a c l e'=V.fz q a (aj .i64 f) len e) False
 | .slice b off l e'=>(Int.ofNat l=Int.ofNat len)∧(match H.block b with | .mk c lo sz _=>cond (Nat.beq e' e) (cond (Nat.ble lo off) (cond (Nat.ble (Nat.add off (Nat.mul l e)) sz) (H9 c e f l off 0) False) False) False | .no=>False)
 | _=>False
theorem Vr {q q':Bool} {a a':Nat} {c c':Nat→Nat→V} {l l' e e':Nat} (h:V.fz q a c l e=V.fz q' a' c' l' e'):a=a'∧c=c'∧l=l'∧e=e':=by
 injection h with h1 h2 h3 h4 h5
 exact ⟨h2,h3,h4,h5⟩
def okS (ok:Bool) (as:Nat→Nat) (nw:Nat) (r:Option (Bool×SV)):Option (Bool×V):=match r with | some (b,s)=>some (cond ok b false,Y5 as nw s) | none=>none
end
end Go.Ev
/- Code with several loops, one behind the other: from each to the next. -/
namespace Go.Ev
open Go
noncomputable section
variable {P:Program}
end
end Go.Ev
