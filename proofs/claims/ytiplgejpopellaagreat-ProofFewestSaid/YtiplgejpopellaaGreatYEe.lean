/- Contracts, where rows of numbers that lie in memory are handed in: they are read as if they were frozen, as long as the call runs. -/
import Derived.Test.YtiplgejpopellaaGreatYEd
set_option linter.all false
set_option linter.unusedSimpArgs false
set_option linter.unusedVariables false
namespace Go.Ev
open Go
noncomputable section
variable {P:Program}
def mV (R:Ren) (H:EH) (w:World):Ren:=⟨R.bm,R.zs,fun a r=>if a=H.next then (match w.heap[r]? with | some (.cells cs _ _)=>some cs | _=>none) else R.cz a r⟩
theorem Gy {R:Ren} {H:EH} {w:World} {r:Nat} {cs:Array Value} {t:TypeId} {fz:Nat×Nat} (h:w.heap[r]?=some (.cells cs t fz)):(mV R H w).cz H.next r=some cs:=by
 show (if H.next=H.next then (match w.heap[r]? with | some (.cells cs _ _)=>some cs | _=>none) else _)=_
 rw [if_pos rfl,h]
theorem QF {R:Ren} {H:EH} {w:World} {a r:Nat} {cs:Array Value} (h:(mV R H w).cz a r=some cs):R.cz a r=some cs∨∃ t fz,w.heap[r]?=some (.cells cs t fz):=by
 have h:(if a=H.next then (match w.heap[r]? with | some (.cells cs _ _)=>some cs | _=>none) else R.cz a r)=some cs:=h
 split at h
 ·split at h
  ·rename_i c t fz hc;cases h;exact .inr ⟨t,fz,hc⟩
  ·cases h
 ·exact .inl h
theorem vF {R:Ren} {H:EH} {w:World} (hf:∀ r,R.cz H.next r=none):R.le (mV R H w):=by
 refine ⟨fun _ _ e=>e,fun _ _ _ _=>rfl,fun a r cs e=>?_⟩
 show (if a=H.next then _ else R.cz a r)=some cs
 rw [if_neg (fun q=>by rw [q,hf r] at e;cases e)];exact e
def Cb (c:T V) (n:Nat):Nat→Option (List Int):=Nat.rec (motive:=fun _=>Nat→Option (List Int)) (fun _=>some []) (fun _ ih p=>match c.get p with | some (.int .i64 x)=>nC x (ih (Nat.succ p)) | _=>none) n
def Xq (l:List Int):Nat→Int:=List.rec (motive:=fun _=>Nat→Int) (fun _=>0) (fun x _ ih i=>match i with | 0=>x | Nat.succ i=>ih i) l
theorem UV {c:T V}:∀ {n p:Nat} {l:List Int},Cb c n p=some l→∀ i,i<n→c.get (p+i)=some (.int .i64 (Xq l i)):=by
 intro n
 induction n with
 | zero=>intro p l h i hi;omega
 | succ n ih =>
  intro p l h i hi
  have h:(match c.get p with | some (.int .i64 x)=>nC x (Cb c n (p+1)) | _=>none)=some l:=h
  split at h
  ·rename_i x hx
   obtain ⟨l',h2,rfl⟩:=jh h
   cases i with
   | zero=>rw [Nat.add_zero,hx];rfl
   | succ i=>rw [show p+(i+1)=p+1+i by omega];exact ih h2 i (by omega)
  ·cases h
def xq (l:List Int) (e:Nat):Nat→Nat→Int:=fun i j=>Xq l (Nat.add (Nat.mul i e) j)
def OX (n:Nat) (v:V):V:=match v with | .fz _ _ c len e => .fz true n c len e | v=>v
def Hu (H:EH) (v:V):Option V:=match v with
 | .fz _ a c len e=>cond (Nat.ble a H.next) (some (.fz true H.next c len e)) none
 | .slice b off len e=>(match H.block b with
  | .mk c lo sz _=>cond (Nat.ble lo off) (cond (Nat.ble (Nat.add off (Nat.mul len e)) sz) (match Cb c (Nat.mul len e) off with | some l=>some (.fz true H.next (ae .i64 (xq l e)) len e) | none=>none) none) none
  | .no=>none)
 | _=>none
def qY (H:EH) (c:T V) (n:Nat):Nat→Option (List V):=Nat.rec (motive:=fun _=>Nat→Option (List V)) (fun _=>some []) (fun _ ih p=>match c.get p with | some v=>(match Hu H v with | some r=>nC r (ih (Nat.succ p)) | none=>none) | none=>none) n
def Ci (l:List V):Nat→V:=List.rec (motive:=fun _=>Nat→V) (fun _ => .fz true 0 (fun _ _ => .bad) 0 1) (fun x _ ih i=>match i with | 0=>x | Nat.succ i=>ih i) l
abbrev RL:=List (Nat×(Nat→Nat→Int))
def lsL (l:RL):Nat→Nat:=List.rec (motive:=fun _=>Nat→Nat) (fun _=>0) (fun x _ ih i=>match i with | 0=>x.1 | Nat.succ i=>ih i) l
def fsL (l:RL):Nat→Nat→Nat→Int:=List.rec (motive:=fun _=>Nat→Nat→Nat→Int) (fun _ _ _=>0) (fun x _ ih i=>match i with | 0=>x.2 | Nat.succ i=>ih i) l
def Oj (a e0:Nat) (l:List V):Option RL:=List.rec (motive:=fun _=>Option RL) (some []) (fun v _ ih=>match v with
 | .fz _ a' c len e=>cond (Nat.beq a' a) (cond (Nat.beq e e0) (match ih with | some r=>some ((len,fun j k=>dK (c j k))::r) | none=>none) none) none
 | _=>none) l
def okW (l:List V):Bool:=List.rec (motive:=fun _=>Bool) true (fun v _ ih=>match v with | .fz _ _ c len e=>cond (ay .i64 c len e) ih false | _=>ih) l
def SK (l:List V):Nat:=match l with | .fz _ _ _ _ e::_=>e | _=>1
def OM (H:EH) (v:V) (len e:Nat) (l:List V):V:=match Oj H.next (SK l) l with | some L => .fz true H.next (aQ H.next (SK l) (lsL L) (fsL L)) len e | none=>v
def view (H:EH) (v:V):V:=match v with
 | .slice b off len e=>(match H.block b with
  | .mk c lo sz _=>cond (Nat.ble lo off) (cond (Nat.ble (Nat.add off (Nat.mul len e)) sz) (match Cb c (Nat.mul len e) off with
   | some l => .fz true H.next (ae .i64 (xq l e)) len e
   | none=>cond (Nat.beq e 1) (match qY H c len off with | some l=>OM H v len e l | none=>v) v) v) v
  | .no=>v)
 | .fz _ a c len e=>cond (Nat.ble a H.next) (.fz true H.next (fun i j=>OX H.next (c i j)) len e) v
 | v=>v
def Si (H:EH) (v:V):Bool:=match v with
 | .slice b off len e=>(match H.block b with
  | .mk c _ _ _=>(match Cb c (Nat.mul len e) off with
   | some _=>true
   | none=>(match qY H c len off with | some l=>okW l | none=>true))
  | .no=>true)
 | _=>true
def TU (H:EH) (l:List V):Bool:=List.rec (motive:=fun _=>Bool) true (fun v _ ih=>cond (Si H v) ih false) l
def Ze (H:EH) (v:V):Bool:=match v with
 | .agg n c=>(match cellL c n 0 with | some l=>TU H l | none=>true)
 | v=>Si H v
def rW (H:EH) (l:List V):Bool:=List.rec (motive:=fun _=>Bool) true (fun v _ ih=>cond (Ze H v) ih false) l
def vH (H:EH) (l:List V):List V:=List.rec (motive:=fun _=>List V) [] (fun v _ ih=>view H v::ih) l
def RP (H:EH) (v:V):V:=match v with
 | .agg n c=>(match cellL c n 0 with | some l => .agg n (T.setL .lf 0 (vH H l)) | none=>v)
 | v=>view H v
def lH (H:EH) (l:List V):List V:=List.rec (motive:=fun _=>List V) [] (fun v _ ih=>RP H v::ih) l
theorem AX {R:Ren} {H:EH} {w:World} (hr:Rel R All H w) {b off len e lo sz g:Nat} {c:T V} {x:Value} (h:VR R (.slice b off len e) x) (hb:H.block b = .mk c lo sz g) (hl:lo≤off) (hz:off+len*e≤sz) {l:List Int} (hi:Cb c (len*e) off=some l) :
 VR (mV R H w) (.fz true H.next (ae .i64 (xq l e)) len e) x:=by
 cases h with
 | slice hm ho hle hzz =>
  rename_i r dd o cap
  obtain ⟨cs,t,fz,a1,a2,a3,a4⟩:=hr.row hb hm trivial
  by_cases h0:len=0
  ·subst h0;exact .fzE (fun q=>by cases q)
  ·have hcap:cap≠0:=by omega
   have ho':=ho hcap
   have key:∀ i j,i<len→j<e→cs[o+(i*e+j)]?=some (.int .i64 (xq l e i j)):=fun i j hi' hj=>by
    have hlt:i*e+j<len*e:=by
     have:(i+1)*e≤len*e:=Nat.mul_le_mul_right _ hi'
     rw [Nat.add_mul] at this;omega
    obtain ⟨p,x,y,e1,e2,e3,e4⟩:=a4 (off+(i*e+j)) (by omega) (by omega)
    have hq:c.get (off+(i*e+j))=some (.int .i64 (xq l e i j)):=UV hi _ hlt
    rw [hq] at e1
    have e1:=Option.some.inj e1
    rw [← e1] at e4
    rw [show off+(i*e+j)-dd=o+(i*e+j) by omega] at e3
    cases e4
    rw [e3]
   exact .fz (fun i j => .int .i64 (xq l e i j)) (Gy a1) hle key (fun _ _ _ _=>rfl) (fun _ _ _ _ => .int _ _) fun _ _ _ _ => .int _ _
theorem OQ {R:Ren} {H:EH} {w:World} (hr:Rel R All H w) {a r:Nat} {cs:Array Value} (h:R.cz a r=some cs):(mV R H w).cz H.next r=some cs:=by
 obtain ⟨⟨t,fz,e⟩,_⟩:=hr.frz a r cs h
 exact Gy e
theorem Ot {R:Ren} {H:EH} {w:World} (hr:Rel R All H w) (hf:∀ r,R.cz H.next r=none) {q:Bool} {a len e:Nat} {c:Nat→Nat→V} {x:Value} (h:VR R (.fz q a c len e) x) (ha:a≤H.next):VR (mV R H w) (.fz true H.next c len e) x:=by
 cases h with
 | fzN=>exact .fzN
 | fzE h0=>exact .fzE (fun q=>by cases q)
 | fz y hc hl hy hs hag hv h0=>exact .fz y (OQ hr hc) hl hy hs (fun i j hi hj=>(hag i j hi hj).mono ha) fun i j hi hj=>(hv i j hi hj).mono (vF hf)
theorem KH {n:Nat} {v:V} {a:Nat} (h:Aged a v) (ha:a≤n):Aged n (OX n v):=by
 cases h with
 | fz k hb h=>exact .fz true (Nat.le_refl _) fun i j hi hj=>(h i j hi hj).mono ha
 | _=>constructor
theorem RJ {R:Ren} {H:EH} {w:World} (hr:Rel R All H w) (hf:∀ r,R.cz H.next r=none) {q:Bool} {a len e:Nat} {c:Nat→Nat→V} {x:Value} (h:VR R (.fz q a c len e) x) (ha:a≤H.next):VR (mV R H w) (.fz true H.next (fun i j=>OX H.next (c i j)) len e) x:=by
 cases h with
 | fzN=>exact .fzN
 | fzE h0=>exact .fzE (fun q=>by cases q)
 | fz y hc hl hy hs hag hv h0 =>
  refine .fz y (OQ hr hc) hl hy (fun i j hi hj=>?_) (fun i j hi hj=>KH (hag i j hi hj) ha) fun i j hi hj=>?_
  ·have:=hs i j hi hj
   cases e:c i j<;>first | rfl | (rw [e] at this;exact this)
  ·have h1:=hv i j hi hj
   have h2:=hag i j hi hj
   show VR _ (OX H.next (c i j)) (y i j)
   cases e:c i j with
   | fz q' a' c' len' e' =>
    rw [e] at h1 h2
    cases h2 with
    | fz _ hb _=>exact Ot hr hf h1 (Nat.le_trans hb ha)
   | _=>rw [e] at h1;exact h1.mono (vF hf)
theorem WW {R:Ren} {H:EH} {w:World} (hr:Rel R All H w) (hf:∀ r,R.cz H.next r=none) {v r:V} (hv:Hu H v=some r) {x:Value} (h:VR R v x):VR (mV R H w) r x∧fP r=true∧(∀ b,VR (mV R H w) r b→True):=by
 unfold Hu at hv
 split at hv
 ·rename_i q a c len e
  cases h1:Nat.ble a H.next with
  | false=>rw [h1] at hv;cases hv
  | true=>rw [h1] at hv;cases hv;exact ⟨Ot hr hf h (Nat.le_of_ble_eq_true h1),rfl,fun _ _=>trivial⟩
 ·rename_i b off len e
  split at hv
  ·rename_i c lo sz g hb
   cases h1:Nat.ble lo off with
   | false=>rw [h1] at hv;cases hv
   | true =>
    cases h2:Nat.ble (Nat.add off (Nat.mul len e)) sz with
    | false=>rw [h1,h2] at hv;cases hv
    | true =>
     rw [h1,h2] at hv
     cases h3:Cb c (Nat.mul len e) off with
     | none=>rw [h3] at hv;cases hv
     | some l=>rw [h3] at hv;cases hv;exact ⟨AX hr h hb (Nat.le_of_ble_eq_true h1) (Nat.le_of_ble_eq_true h2) h3,rfl,fun _ _=>trivial⟩
  ·cases hv
 ·cases hv
theorem PM {H:EH} {v r:V} {a:Nat} (hv:Hu H v=some r) (h:∀ q a c len e,v = .fz q a c len e→Aged a v):Aged H.next r:=by
 unfold Hu at hv
 split at hv
 ·rename_i q a c len e
  cases h1:Nat.ble a H.next with
  | false=>rw [h1] at hv;cases hv
  | true =>
   rw [h1] at hv;cases hv
   have:=h _ _ _ _ _ rfl
   cases this with
   | fz _ _ hh=>exact .fz _ (Nat.le_refl _) fun i j hi hj=>(hh i j hi hj).mono (Nat.le_of_ble_eq_true h1)
 ·rename_i b off len e
  split at hv
  ·rename_i c lo sz g hb
   cases h1:Nat.ble lo off with
   | false=>rw [h1] at hv;cases hv
   | true =>
    cases h2:Nat.ble (Nat.add off (Nat.mul len e)) sz with
    | false=>rw [h1,h2] at hv;cases hv
    | true =>
     rw [h1,h2] at hv
     cases h3:Cb c (Nat.mul len e) off with
     | none=>rw [h3] at hv;cases hv
     | some l=>rw [h3] at hv;cases hv;exact .fz _ (Nat.le_refl _) fun _ _ _ _ => .int _ _
  ·cases hv
 ·cases hv
theorem Pj {H:EH} {c:T V}:∀ {n p:Nat} {l:List V},qY H c n p=some l→∀ i,i<n→∃ v,c.get (p+i)=some v∧Hu H v=some (Ci l i):=by
 intro n
 induction n with
 | zero=>intro p l h i hi;omega
 | succ n ih =>
  intro p l h i hi
  have h:(match c.get p with | some v=>(match Hu H v with | some r=>nC r (qY H c n (p+1)) | none=>none) | none=>none)=some l:=h
  split at h
  ·rename_i v hv
   split at h
   ·rename_i r hr
    obtain ⟨l',h2,rfl⟩:=jh h
    cases i with
    | zero=>exact ⟨v,by rw [Nat.add_zero];exact hv,hr⟩
    | succ i=>rw [show p+(i+1)=p+1+i by omega];exact ih h2 i (by omega)
   ·cases h
  ·cases h
theorem PI {R:Ren} {H:EH} {w:World} (hr:Rel R All H w) (hf:∀ r,R.cz H.next r=none) {b off len lo sz g:Nat} {c:T V} {x:Value} (h:VR R (.slice b off len 1) x) (hb:H.block b = .mk c lo sz g) (hl:lo≤off) (hz:off+len*1≤sz) {l:List V} (hi:qY H c len off=some l) :
 VR (mV R H w) (.fz true H.next (fun i _=>Ci l i) len 1) x:=by
 cases h with
 | slice hm ho hle hzz =>
  rename_i r dd o cap
  obtain ⟨cs,t,fz,a1,a2,a3,a4⟩:=hr.row hb hm trivial
  by_cases h0:len=0
  ·subst h0;exact .fzE (fun q=>by cases q)
  ·have hcap:cap≠0:=by omega
   have ho':=ho hcap
   have key:∀ i,i<len→∃ y,cs[o+i]?=some y∧VR (mV R H w) (Ci l i) y∧fP (Ci l i)=true∧Aged H.next (Ci l i):=fun i hi'=>by
    obtain ⟨v,q1,q2⟩:=Pj hi i hi'
    obtain ⟨p,x,y,e1,e2,e3,e4⟩:=a4 (off+i) (by omega) (by omega)
    rw [q1] at e1
    cases e1
    rw [show off+i-dd=o+i by omega] at e3
    obtain ⟨z1,z2,_⟩:=WW hr hf q2 e4
    refine ⟨y,e3,z1,z2,?_⟩
    have hA:∀ q a c len e,v = .fz q a c len e→0<len→Aged a v:=fun q a c len e hv hpos=>by
     subst hv
     cases e4 with
     | fzN=>omega
     | fzE=>omega
     | fz y hc hl hy hs hag hv h0=>exact .fz _ (Nat.le_refl _) hag
    by_cases hpos:∃ q a c e,v = .fz q a c 0 e
    ·obtain ⟨q,a,c,e,rfl⟩:=hpos
     have q2:cond (Nat.ble a H.next) (some (V.fz true H.next c 0 e)) none=some (Ci l i):=q2
     cases hble:Nat.ble a H.next with
     | false=>rw [hble] at q2;cases q2
     | true =>
      rw [hble] at q2
      have q2:some (V.fz true H.next c 0 e)=some (Ci l i):=q2
      have q2:=Option.some.inj q2
      rw [← q2]
      exact .fz _ (Nat.le_refl _) fun i j hi hj=>absurd hi (by omega)
    ·refine PM (a:=0) q2 fun q a c len e hv=>hA q a c len e hv ?_
     cases len with
     | zero=>exact absurd ⟨q,a,c,e,hv⟩ hpos
     | succ n=>omega
   have hY:∀ i,∃ y,i<len→cs[o+i]?=some y∧VR (mV R H w) (Ci l i) y:=fun i=>by
    by_cases hi':i<len
    ·obtain ⟨y,z1,z2,_⟩:=key i hi'
     exact ⟨y,fun _=>⟨z1,z2⟩⟩
    ·exact ⟨.nilFunc,fun q=>absurd q hi'⟩
   refine .fz (fun i _=>(hY i).choose) (Gy a1) hle (fun i j hi' hj=>?_) (fun i j hi' hj=>?_) (fun i j hi' hj=>?_) fun i j hi' hj=>?_
   ·have j0:j=0:=by omega
    subst j0
    have:=((hY i).choose_spec hi').1
    rw [show o+(i*1+0)=o+i by omega];exact this
   ·obtain ⟨_,_,_,z,_⟩:=key i hi';exact z
   ·obtain ⟨_,_,_,_,z⟩:=key i hi';exact z
   ·exact ((hY i).choose_spec hi').2
theorem Dz {a e0:Nat}:∀ {l:List V} {L:RL},Oj a e0 l=some L→okW l=true→l.length=L.length∧∀ i,i<l.length→∃ q c len,Ci l i = .fz q a c len e0∧lsL L i=len∧fsL L i=(fun j k=>dK (c j k))∧ay .i64 c len e0=true
 | [],L,h,_=>by cases h;exact ⟨rfl,fun i hi=>by simp at hi⟩
 | v::l,L,h,ho=>by
  cases v with
  | fz q a' c len e =>
   have h:cond (Nat.beq a' a) (cond (Nat.beq e e0) (match Oj a e0 l with | some r=>some ((len,fun j k=>dK (c j k))::r) | none=>none) none) none=some L:=h
   have ho:cond (ay .i64 c len e) (okW l) false=true:=ho
   obtain ⟨o1,o2⟩:=ah ho
   cases h1:Nat.beq a' a with
   | false=>rw [h1] at h;cases h
   | true =>
    cases h2:Nat.beq e e0 with
    | false=>rw [h1,h2] at h;cases h
    | true =>
     rw [h1,h2] at h
     have:=nb h1;subst this
     have:=nb h2;subst this
     cases h3:Oj a' e l with
     | none=>rw [h3] at h;cases h
     | some r =>
      rw [h3] at h
      cases h
      obtain ⟨k1,k2⟩:=Dz h3 o2
      refine ⟨by simp [k1],fun i hi=>?_⟩
      cases i with
      | zero=>exact ⟨q,c,len,rfl,rfl,rfl,o1⟩
      | succ i=>exact k2 i (by simpa using hi)
  | _=>cases h
theorem PZ {H:EH} {c:T V}:∀ {n p:Nat} {l:List V},qY H c n p=some l→l.length=n:=by
 intro n
 induction n with
 | zero=>intro p l h;cases h;rfl
 | succ n ih =>
  intro p l h
  have h:(match c.get p with | some v=>(match Hu H v with | some r=>nC r (qY H c n (p+1)) | none=>none) | none=>none)=some l:=h
  split at h
  ·split at h
   ·obtain ⟨l',h2,rfl⟩:=jh h
    simp [ih h2]
   ·cases h
  ·cases h
theorem JF {R:Ren} {H:EH} {w:World} (hr:Rel R All H w) (hf:∀ r,R.cz H.next r=none) {b off len lo sz g:Nat} {c:T V} {x:Value} (h:VR R (.slice b off len 1) x) (hb:H.block b = .mk c lo sz g) (hl:lo≤off) (hz:off+len*1≤sz) {l:List V} (hi:qY H c len off=some l) (ho:okW l=true) :
 VR (mV R H w) (OM H (.slice b off len 1) len 1 l) x:=by
 unfold OM
 split
 ·rename_i L hp
  obtain ⟨k1,k2⟩:=Dz hp ho
  have hlen:=PZ hi
  have h1:=PI hr hf h hb hl hz hi
  refine h1.fz_as (fun _ _ e=>e) (fun _ _ _ _=>rfl) (fun _ _ _ _ => .fz _ (Nat.le_refl _) fun _ _ _ _ => .int _ _) (fun i j hi' hj y hy=>?_)
  obtain ⟨q,c',len',e1,e2,e3,e4⟩:=k2 i (by omega)
  have hy:VR (mV R H w) (Ci l i) y:=hy
  rw [e1] at hy
  show VR _ (.fz true H.next (ae .i64 (fsL L i)) (lsL L i) (SK l)) y
  rw [e2,e3]
  refine hy.fz_as (fun _ _ e=>e) (fun _ _ _ _=>rfl) (fun _ _ _ _ => .int _ _) (fun i' j' hi2 hj2 y' hy'=>?_)
  show VR _ (.int .i64 (dK (c' i' j'))) y'
  rw [vO e4 hi2 hj2] at hy'
  cases hy';exact .int _ _
 ·exact VR.mono (vF (w:=w) hf) h
theorem O4 {R:Ren} {H:EH} {w:World} (hr:Rel R All H w) (hf:∀ r,R.cz H.next r=none) {v:V} (hok:Si H v=true) {x:Value} (h:VR R v x):VR (mV R H w) (view H v) x:=by
 have hm:=VR.mono (vF (w:=w) hf) h
 unfold view
 split
 ·rename_i b off len e
  split
  ·rename_i c lo sz g hb
   have hokA:(match H.block b with
    | .mk c _ _ _=>(match Cb c (Nat.mul len e) off with
     | some _=>true
     | none=>(match qY H c len off with | some l=>okW l | none=>true))
    | .no=>true)=true:=hok
   rw [hb] at hokA
   clear hok
   replace hokA:(match Cb c (Nat.mul len e) off with | some _=>true | none=>(match qY H c len off with | some l=>okW l | none=>true))=true:=hokA
   cases h1:Nat.ble lo off with
   | false=>exact hm
   | true =>
    cases h2:Nat.ble (Nat.add off (Nat.mul len e)) sz with
    | false=>exact hm
    | true =>
     simp only [cond_true]
     split
     ·rename_i l h3;exact AX hr h hb (Nat.le_of_ble_eq_true h1) (Nat.le_of_ble_eq_true h2) h3
     ·rename_i hg
      rw [hg] at hokA
      replace hokA:(match qY H c len off with | some l=>okW l | none=>true)=true:=hokA
      cases h4:Nat.beq e 1 with
      | false=>exact hm
      | true =>
       have:=nb h4;subst this
       simp only [cond_true]
       split
       ·rename_i l h5
        rw [h5] at hokA
        exact JF hr hf h hb (Nat.le_of_ble_eq_true h1) (Nat.le_of_ble_eq_true h2) h5 hokA
       ·exact hm
  ·exact hm
 ·rename_i q a c len e
  cases h1:Nat.ble a H.next with
  | false=>exact hm
  | true=>exact RJ hr hf h (Nat.le_of_ble_eq_true h1)
 ·exact hm
theorem rQ (H:EH):∀ l:List V,(vH H l).length=l.length
 | []=>rfl
 | _::l=>by show (vH H l).length+1=_;rw [rQ H l];rfl
theorem wX (H:EH):∀ (l:List V) (i:Nat) (h:i<(vH H l).length) (h':i<l.length),(vH H l)[i]=view H l[i]
 | _::_,0,_,_=>rfl
 | _::l,i+1,h,h'=>wX H l i (by exact Nat.lt_of_succ_lt_succ h) (by exact Nat.lt_of_succ_lt_succ h')
theorem Qr (H:EH) {v:V} (h:fP v=true):fP (view H v)=true:=by
 unfold view OM
 simp only [di,aO]
 repeat' (first | rfl | exact h | split)
theorem Ha {H:EH}:∀ {l:List V},TU H l=true→∀ i (h:i<l.length),Si H l[i]=true
 | v::l,h,i,hi=>by
  obtain ⟨h1,h2⟩:=ah (show cond (Si H v) (TU H l) false=true from h)
  cases i with
  | zero=>exact h1
  | succ i=>exact Ha h2 i (by exact Nat.lt_of_succ_lt_succ hi)
theorem VK {R:Ren} {H:EH} {w:World} (hr:Rel R All H w) (hf:∀ r,R.cz H.next r=none) {v:V} (hok:Ze H v=true) {x:Value} (h:VR R v x):VR (mV R H w) (RP H v) x:=by
 have hm:=VR.mono (vF (w:=w) hf) h
 unfold RP
 split
 ·rename_i n c
  split
  ·rename_i l hc
   have hokl:TU H l=true:=by
    have hok:(match cellL c n 0 with | some l=>TU H l | none=>true)=true:=hok
    rw [hc] at hok;exact hok
   obtain ⟨g1,g2⟩:=rY hc
   have hsc:∀ i,i<n→fP (l.getD i .bad)=true:=fun i hi=>by
    have e:=g2 i hi
    rw [Nat.zero_add] at e
    cases h with
    | agg g hn hg hs hv =>
     rw [hg i hi] at e
     have:=hs i hi
     simp only [List.getD,← e,Option.getD_some]
     exact this
   refine h.agg_as (fun i=>l.getD i .bad) (fun i=>(vH H l).getD i .bad) (fun i hi=>?_) (fun i hi=>?_) (fun i hi=>?_) (fun i hi y hv=>?_)
   ·have:=g2 i hi
    rw [Nat.zero_add] at this
    rw [this];simp [List.getD,List.getElem?_eq_getElem (show i<l.length by omega)]
   ·have hl:=rQ H l
    rw [T.get_setL,if_pos (by omega)]
    simp [List.getD,List.getElem?_eq_getElem (show i<(vH H l).length by omega)]
   ·have hl:=rQ H l
    have e:=wX H l i (by omega) (by omega)
    have:=Qr H (hsc i hi)
    simp only [List.getD,List.getElem?_eq_getElem (show i<(vH H l).length by omega),List.getElem?_eq_getElem (show i<l.length by omega),Option.getD_some] at this ⊢
    rw [e];exact this
   ·have hl:=rQ H l
    have e:=wX H l i (by omega) (by omega)
    simp only [List.getD,List.getElem?_eq_getElem (show i<(vH H l).length by omega),List.getElem?_eq_getElem (show i<l.length by omega),Option.getD_some] at hv ⊢
    rw [e];exact O4 hr hf (Ha hokl i (by omega)) hv
  ·exact hm
 ·rename_i hna
  refine O4 hr hf ?_ h
  cases v<;>first | exact hok | exact (hna _ _ rfl).elim
theorem Ri {R:Ren} {H:EH} {w:World} (hr:Rel R All H w) (hf:∀ r,R.cz H.next r=none):∀ {l:List V} (hok:rW H l=true) {ys:Array Value},AL R l ys→AL (mV R H w) (lH H l) ys:=by
 intro l
 induction l with
 | nil=>intro _ ys h;exact AL.nil_imp h
 | cons v l ih =>
  intro hok ys h
  obtain ⟨h1,h2⟩:=ah (show cond (Ze H v) (rW H l) false=true from hok)
  exact AL.cons_imp h (fun y q=>VK hr hf h1 q) (fun t q=>ih h2 q)
theorem kY {R R2:Ren} {v:V} (h:uC v=true) {x:Value} (hx:VR R v x):VR R2 v x:=by
 cases v<;>first | (cases h;done) | (cases hx;first | exact .bool _ | exact .int _ _)
theorem V4 {R R2:Ren} {v:V} (h:tu v=true) {x:Value} (hx:VR R v x):VR R2 v x:=by
 cases v with
 | agg n c =>
  have h:C9 c n 0=true:=h
  have key:∀ i,i<n→c.get i=some (getD' c i)∧uC (getD' c i)=true:=fun i hi=>by
   obtain ⟨v,q1,q2⟩:=wU h i hi
   rw [Nat.zero_add] at q1
   have e:getD' c i=v:=by unfold getD';rw [q1]
   rw [e];exact ⟨q1,q2⟩
  refine hx.agg_as (getD' c) (getD' c) (fun i hi=>(key i hi).1) (fun i hi=>(key i hi).1) (fun i hi=>?_) (fun i hi y hy=>kY (key i hi).2 hy)
  have:=(key i hi).2
  cases e:getD' c i<;>first | rfl | (rw [e] at this;cases this)
 | _=>refine kY ?_ hx;exact h
theorem JG {g:FuncId} {args0:List V} {k:Nat} {v:V} {H':EH} (hs:SpecCall P g args0 (aU (k+1)) v H') {args:List V} {H:EH} {as:Nat→Nat} (hal:∀ R w ys,Rel R All H w→(∀ r,R.cz H.next r=none)→AL R args ys→AL (kR (mV R H w) w k as) args0 ys)
 {v':V} (hF:∀ R R2 x,VR R v x→VR R2 v' x):SpecCall P g args H v' (bump H):=by
 obtain ⟨n1,hfn,hk⟩:=hs
 refine ⟨Nat.le_succ _,hfn,fun R w args' n hr hw hf ha=>?_⟩
 have hfn0:=hf H.next (Nat.le_refl _) (Nat.lt_succ_self _)
 have hr0:Rel (kR (mV R H w) w k as) All (aU (k+1)) w:=by
  refine ⟨fun b r d h=>(by cases h),fun b o r d h=>(by cases h),fun b b' o o' r d d' h=>(by cases h),fun a r cs e=>?_⟩
  rcases kF e with ⟨_,e⟩ | ⟨_,e⟩
  ·rcases QF e with e | e
   ·exact ⟨(hr.frz _ _ _ e).1,fun b d q=>by cases q⟩
   ·exact ⟨e,fun b d q=>by cases q⟩
  ·exact ⟨e,fun b d q=>by cases q⟩
 have hfree:Free (kR (mV R H w) w k as) (aU (k+1)) H':=fun b h1 _=>⟨rfl,fun r=>by
  have h1:k+1≤b:=h1
  cases e:(kR (mV R H w) w k as).cz b r with
  | none=>rfl
  | some cs=>rcases kF e with ⟨q,_⟩ | ⟨q,_⟩<;>omega⟩
 refine CallsIn.mono (hk (kR (mV R H w) w k as) w args' n hr0 (uH (k+1)) hfree (hal R w args' hr hfn0.2 ha)) fun en w' ⟨x,R',e1,e2,e3⟩=>?_
 have hkeep:∀ r,r<w.heap.size→w'.heap[r]?=w.heap[r]?:=fun r hr=>e3.fr.keep r hr fun b o d ho=>by cases ho
 refine ⟨x,R,e1,hF _ _ _ e2,⟨⟨Nat.le_succ _,Nat.le_refl _,fun b o h=>⟨o,h,rfl,rfl⟩,fun b o h _=>⟨h,rfl⟩,fun b o h _=>⟨o,h⟩,yN hw,fun g h=>h,fun b o h hb=>absurd (hw.lt b o h) (by omega)⟩,
  ⟨fun _ _=>rfl,fun _ _=>rfl,fun b r d h1 h2 e=>?_,fun a ha=>rfl,fun a r cs e => .inl e⟩,⟨e3.fr.os,e3.fr.tape,e3.fr.output,e3.fr.size,fun r hr _=>hkeep r hr⟩,
  ⟨fun b r d hb=>Nat.lt_of_lt_of_le (hr.img b r d hb) e3.fr.size,fun b o r d ho hb=>(hr.obj b o r d ho hb).mono (R':=R) ⟨fun _ _ e=>e,fun _ _ _ _=>rfl,fun a r cs e=>e⟩ hb (hkeep r (hr.img b r d hb)) (fun _=>trivial) (fun v=>by cases o<;>exact v),hr.inj,fun a r cs e=>?_⟩⟩⟩
 ·have h2:b<H.next+1:=h2
  have:b=H.next:=by omega
  subst this
  have e:R.bm H.next=some (r,d):=e
  rw [hfn0.1] at e;cases e
 ·obtain ⟨⟨t,fz,z1⟩,z2⟩:=hr.frz a r cs e
  exact ⟨⟨t,fz,(hkeep r (hr.frz.lt e)).trans z1⟩,z2⟩
theorem Wx {v v':V} (hv:dB v v') (h:vZ v'=true):∀ R R2 x,VR R v x→VR R2 v' x:=by
 have one:∀ {v v':V},qA v v'→tu v'=true→∀ {R R2:Ren} {x:Value},VR R v x→VR R2 v' x:=by
  intro v v' hv h R R2 x hx
  have hF:=Bc (H:=aU 0) (k:=0) (new:=0) (as:=fun n=>n) hv h
  cases hF with
  | one h0 =>
   cases h0 with
   | bool b=>exact kY rfl hx
   | int kd n=>exact kY rfl hx
   | nilSlice=>exact V4 h hx
   | nilS=>cases h
   | fz=>cases h
   | slice=>cases h
  | agg d d' h1 h2 hs h3 =>
   refine hx.agg_as d d' h1 h2 hs fun i hi y hy=>?_
   have hfl:uC (d' i)=true:=by
    obtain ⟨q,q1,q2⟩:=wU (show C9 _ _ 0=true from h) i hi
    rw [Nat.zero_add] at q1
    rw [h2 i hi] at q1
    rw [Option.some.inj q1];exact q2
   have h4:=h3 i hi
   revert h4 hfl hy
   generalize d i=a
   generalize d' i=b
   intro hy hfl h4
   cases h4 with
   | bool b=>exact kY rfl hy
   | int kd n=>exact kY rfl hy
   | nilSlice=>cases hfl
   | nilS=>cases hfl
   | fz=>cases hfl
   | slice=>cases hfl
 intro R R2 x hx
 have hF:=Jr (H:=aU 0) (k:=0) (new:=0) (as:=fun n=>n) hv h
 unfold dB at hv
 split at hv
 ·rename_i l l'
  obtain ⟨g1,g2⟩:=wS hv
  cases hx with
  | tup hl hvs=>exact .tup (by omega) fun i h1 h2=>one (g2 i (by omega) h1) (tZ (show FC l'=true from h) i h1) (hvs i (by omega) h2)
 ·rename_i hn
  refine one hv ?_ hx
  cases v' with
  | tup l' =>
   have hv:qA v (.tup l'):=hv
   cases v with
   | tup l=>exact (hn l l' rfl rfl).elim
   | _ =>
    first
     | (have hv:=gI (v' := .tup l') hv;cases hv;done)
     | (unfold qA at hv;split at hv<;>first | (cases hv;done) | (rename_i e;cases e;done) | (have hv:=gI hv;cases hv;done))
  | _=>exact h
def Xw (val:Val) (l:List V):Option (Bool×V):=match dec l with | some das=>H7 (yA l) (val das) | none=>none
def cfM (val:Val):CF:=fun args H=>H7 (rW H args) (Xw val (lH H args))
theorem vV {g:FuncId} {val:Val} (h:qi P g val):oK P (g,cfM val):=fun args H v hv0=>by
 have hv0:H7 (rW H args) (Xw val (lH H args))=some (true,v):=hv0
 obtain ⟨hokv,hv⟩:rW H args=true∧Xw val (lH H args)=some (true,v):=by
  cases hc:Xw val (lH H args) with
  | none=>rw [hc] at hv0;cases hv0
  | some bv =>
   obtain ⟨b,v'⟩:=bv
   rw [hc] at hv0
   have e0:cond (rW H args) b false=true:=by injection hv0 with hv0;injection hv0
   have e2:v'=v:=by injection hv0 with hv0;injection hv0
   obtain ⟨e1,e3⟩:=ah e0
   subst e2;subst e3
   exact ⟨e1,rfl⟩
 have hv:(match dec (lH H args) with | some das=>H7 (yA (lH H args)) (val das) | none=>none)=some (true,v):=hv
 cases hd:dec (lH H args) with
 | none=>rw [hd] at hv;cases hv
 | some das =>
  rw [hd] at hv
  have hv:H7 (yA (lH H args)) (val das)=some (true,v):=hv
  cases hval:val das with
  | none=>rw [hval] at hv;cases hv
  | some bv =>
   obtain ⟨b,v'⟩:=bv
   rw [hval] at hv
   have e0:cond (yA (lH H args)) b false=true:=by injection hv with hv;injection hv
   obtain ⟨e1,e3⟩:=ah e0
   have e2:v'=v:=by injection hv with hv;injection hv
   subst e2
   subst e3
   obtain ⟨hf,v1,H',hs,hvp⟩:=h das v' hval
   have key:∀ (R:Ren) (w:World),rJ das 0=0+(sJ (lH H args)).length∧∀ ys,AL R (lH H args) ys→AL (kR R w (rJ das 0) (fun n=>(sJ (lH H args)).getD n 0)) (enc das 0) ys:=fun R w=>by
    have h1:=(oL (R:=R) (w:=w) (k:=0+(sJ (lH H args)).length) (as:=fun n=>(sJ (lH H args)).getD n 0) (n:=0) hd e1 (fun i hi=>by simp) (Nat.le_refl _))
    refine ⟨h1.1,?_⟩
    rw [h1.1];exact h1.2
   exact JG (as:=fun n=>(sJ (lH H args)).getD n 0) hs (fun R w ys hr hf0 ha=>(key (mV R H w) w).2 ys (Ri hr hf0 hokv ha)) (Wx hvp hf)
end
end Go.Ev
/- Runs whose conditions are shown, in a form that no elaborator unfolds. -/
namespace Go.Ev
open Go
noncomputable section
variable {P:Program}
structure VC (d:D) (h:HT):Prop where
 ok:vc d h
theorem bn (hD:bi P) {X:Ext} (hX:dM P X) {n:Nat} {g:FuncId} {das:List DA} {v:V} {h:HT} (hf:vZ v=true) (hv:VC (dh P X n g (enc das 0) (rJ das 0) (fun v'=>dB v' v)) h):vZ v=true∧∃ v' H',SpecCall P g (enc das 0) (aU (rJ das 0+1)) v' H'∧dB v' v :=
 XM hD hX hf hv.ok
def aZ (a lw:Nat) (fw:Nat→Nat→Int) (lm:Nat) (fm:Nat→Nat→Int) (n:Nat) (ls:Nat→Nat) (f:Nat→Nat→Nat→Int):Bool :=
 cond (ay .i64 (ae .i64 fw) lw 1) (cond (ay .i64 (ae .i64 fm) lm 1) (cond (cond true (fZ a (aQ a 1 ls f) n 1) false) true false) false) false
def abd (a lw:Nat) (fw:Nat→Nat→Int) (lm:Nat) (fm:Nat→Nat→Int) (n:Nat) (ls:Nat→Nat) (f:Nat→Nat→Nat→Int) (e nc:Nat) (fc:Nat→Nat→Int):Bool :=
 cond (ay .i64 (ae .i64 fw) lw 1) (cond (ay .i64 (ae .i64 fm) lm 1) (cond (cond true (fZ a (aQ a 1 ls f) n 1) false) (cond true (cond (ay .i64 (ae .i64 fc) nc e) true false) false) false) false) false
theorem zi (a lw:Nat) (fw:Nat→Nat→Int) (lm:Nat) (fm:Nat→Nat→Int) (n:Nat) (ls:Nat→Nat) (f:Nat→Nat→Nat→Int):aZ a lw fw lm fm n ls f=true:=by
 unfold aZ
 rw [bD,bD,dD];rfl
theorem F5 (a lw:Nat) (fw:Nat→Nat→Int) (lm:Nat) (fm:Nat→Nat→Int) (n:Nat) (ls:Nat→Nat) (f:Nat→Nat→Nat→Int) (e nc:Nat) (fc:Nat→Nat→Int):abd a lw fw lm fm n ls f e nc fc=true:=by
 unfold abd
 rw [bD,bD,dD,bD];rfl
theorem ai {d:D} {h:HT} (p:Prop) (e:vc d h=p:=by kernel_rfl) (q:p:=by (try simp only [aW,dY,dQ,fD,eQ,fF,oC,oN,jF,jD,dG,dF,iF,gZ,iT,iY,ig,dX,gp,jy,bD,dD,zi,F5,cond_true,cond_false,true_and,and_true,eq_self]);(repeat' (first | exact True.intro | (with_reducible assumption) | refine And.intro ?_ ?_ | refine aI ?_ ?_ | intro _));all_goals (first | (with_reducible assumption) | (with_reducible rfl) | omega | rfl | (simp only [aW,dY,dQ,fD,eQ,fF,oC,oN,jF,jD,dG,dF,iF,gZ,iT,iY,ig,dX,gp,jy,bD,dD,zi,F5,cond_true,cond_false,true_and,and_true,eq_self];first | done | omega | (with_reducible assumption) | rfl))):VC d h:=⟨by rw [e];exact q⟩
theorem Pz {p:Prop} (q:p:=by (try simp only [aW,dY,dQ,fD,eQ,fF,oC,oN,jF,jD,dG,dF,iF,gZ,iT,iY,ig,dX,gp,jy,bD,dD,zi,F5,cond_true,cond_false,true_and,and_true,eq_self]);(repeat' (first | exact True.intro | (with_reducible assumption) | refine And.intro ?_ ?_ | refine aI ?_ ?_ | intro _));all_goals (first | (with_reducible assumption) | (with_reducible rfl) | omega | rfl | (simp only [aW,dY,dQ,fD,eQ,fF,oC,oN,jF,jD,dG,dF,iF,gZ,iT,iY,ig,dX,gp,jy,bD,dD,zi,F5,cond_true,cond_false,true_and,and_true,eq_self];first | done | omega | (with_reducible assumption) | rfl))):p:=q
end
end Go.Ev
/- Loops whose rounds may append to a row, within other calls too: what a round leaves is packed: of what is new one row is kept at most, under a name of its own. -/
namespace Go.Ev
open Go
noncomputable section
variable {P:Program}
inductive Plc where
 | tmp (t:Nat)
 | cell (b j:Nat)
structure Acc where
 (nm rt sz:Nat) (c:T V) (plc:Plc) (lit:Bool)
structure GS where
 (l:List V) (rows:List (Nat×List V)) (acc:Option Acc)
def cellAt (H:EH) (b j:Nat):V:=match H.objs.get b with | some (.cells c _ _ _)=>getD' c j | _ => .bad
def Uy (a:EA) (H:EH) (p:Plc):V:=match p with | .tmp t=>a.get t | .cell b j=>cellAt H b j
def abB (v:V):Nat:=match v with | .slice b _ _ _=>b | _=>0
def rnO (a:EA) (H:EH) (x:Option Acc):Option (Nat×Nat):=match x with | some x=>some (abB (Uy a H x.plc),x.nm) | none=>none
def WM (rn:Option (Nat×Nat)) (b off len e:Nat):V:=match rn with | some p=>cond (Nat.beq p.1 b) (.slice p.2 off len e) .bad | none => .bad
def Ae (N0:Nat) (rn:Option (Nat×Nat)) (v:V):V:=match v with
 | .slice b off len e=>cond (Nat.blt b N0) (.slice b off len e) (WM rn b off len e)
 | v=>cond (jI N0 v) v .bad
def MP (N0:Nat) (rn:Option (Nat×Nat)) (l:List V):List V:=List.rec (motive:=fun _=>List V) [] (fun v _ ih=>Ae N0 rn v::ih) l
theorem Bj (N0:Nat) (rn:Option (Nat×Nat)) (l:List V):MP N0 rn l=l.map (Ae N0 rn):=by
 induction l with
 | nil=>rfl
 | cons v l ih=>show Ae N0 rn v::MP N0 rn l=_;rw [ih];rfl
theorem VR.ren {N0:Nat} {rn:Option (Nat×Nat)} {R2 R':Ren} (hd:Dn N0 R2 R') (hz:R2.zs=R'.zs) (hrn:∀ b b2,rn=some (b,b2)→R2.bm b2=R'.bm b) {v:V} {x:Value} (h:VR R' v x):VR R2 (Ae N0 rn v) x:=by
 have gen:∀ v,VR R' v x→VR R2 (cond (jI N0 v) v .bad) x:=fun v h=>by
  cases q:jI N0 v with
  | true=>exact h.down hd q
  | false=>exact .bad _
 cases v with
 | slice b off len e =>
  show VR R2 (cond (Nat.blt b N0) (.slice b off len e) (WM rn b off len e)) x
  cases hb:Nat.blt b N0 with
  | true=>exact h.down hd (show jI N0 (.slice b off len e)=true from hb)
  | false =>
   show VR R2 (WM rn b off len e) x
   unfold WM
   cases rn with
   | none=>exact .bad _
   | some p =>
    obtain ⟨p1,p2⟩:=p
    simp only
    cases hp:Nat.beq p1 b with
    | false=>exact .bad _
    | true =>
     have:=nb hp
     subst this
     cases h with
     | slice hm ho hl hzz=>exact .slice (by rw [hrn p1 p2 rfl];exact hm) ho hl (by rw [hz];exact hzz)
 | _=>exact gen _ h
def kP (rows:List (Nat×List V)) (b:Nat):Option (List V):=List.rec (motive:=fun _=>Option (List V)) none (fun r _ ih=>cond (Nat.beq r.1 b) (some r.2) ih) rows
theorem zM:∀ (rows:List (Nat×List V)) (t:T EO) (b:Nat),(setAt rows t).get b=match kP rows b with | some row=>some (pM row b) | none=>t.get b
 | [],t,b=>rfl
 | r::rows,t,b=>by
  show ((setAt rows t).set r.1 (pM r.2 r.1)).get b=(match cond (Nat.beq r.1 b) (some r.2) (kP rows b) with | some row=>some (pM row b) | none=>t.get b)
  rw [T.get_set,aO]
  by_cases e:b=r.1
  ·rw [if_pos e,if_pos e.symm];subst e;rfl
  ·rw [if_neg e,if_neg (fun q=>e q.symm)];exact zM rows t b
def yH (x:Option Acc) (t:T EO):T EO:=match x with | some x=>t.set x.nm (.cells x.c 0 x.sz x.rt) | none=>t
def qJ (x:Option Acc) (gs:T xu) (g:Nat):Option xu:=match x with | some x=>cond (Nat.beq x.rt g) (cond (Nat.beq x.rt x.nm) none (some (CY x.nm))) (gs.get g) | none=>gs.get g
def pY (base:EH) (NX low:Nat) (s:GS):EH:=⟨yH s.acc (setAt s.rows base.objs),NX,.fn (qJ s.acc base.grps),low⟩
def gsA (ts:List Nat) (n:Nat) (s:GS):EA:=⟨kS (lF ts s.l),n,[]⟩
def wG (H:EH) (b:Nat):Option (List V):=match H.objs.get b with
 | some (.cells c lo sz g)=>cond (Nat.beq lo 0) (cond (Nat.beq g b) (cond (Du H b) (cellL c sz 0) none) none) none
 | _=>none
def OT (a:EA) (H:EH) (N0:Nat) (rn:Option (Nat×Nat)) (rows:List (Nat×List V)):Prop:=List.rec (motive:=fun _=>Prop) True (fun r _ ih=>(match wG H r.1 with | some l=>sN (MP N0 rn l) r.2 | none=>False)∧ih) rows
def inR (rows:List (Nat×List V)) (b:Nat):Bool:=match kP rows b with | some _=>true | none=>false
def rU (H base:EH) (rows:List (Nat×List V)) (n:Nat):Nat→Prop:=Nat.rec (motive:=fun _=>Nat→Prop) (fun _=>True) (fun _ ih b=>cond (inR rows b) (ih (Nat.succ b)) (H.objs.get b=base.objs.get b∧ih (Nat.succ b))) n
def TP (x:Option Acc) (g:Nat):Bool:=match x with | some x=>Nat.beq x.rt g | none=>false
def TE (v:V):Bool:=match v with | .bad=>true | _=>false
def VH (N0:Nat) (o:Option V):Bool:=match o with | none=>true | some v=>cond (jI N0 v) true (TE v)
def Yc (N0:Nat) (tm:T V) (n:Nat):Bool:=eX (fun i=>VH N0 (tm.get i)) n
def Gq (H:EH) (N0:Nat) (rows:List (Nat×List V)) (x:Option Acc) (keep:List Nat) (b:Nat):Bool:=cond (inR rows b) true (match H.objs.get b with
 | none=>true
 | some (.cells c lo sz g)=>cond (TP x g) true (cond (H.valid b sz g) (cond (nR b keep) true (xR N0 c (Nat.sub sz lo) lo)) false)
 | some (.loop _ _ tm n _ _ _ df)=>cond (Yc N0 tm n) (Nat.blt df N0) false
 | some o=>BZ N0 o)
def EU (H:EH) (N0:Nat) (rows:List (Nat×List V)) (x:Option Acc) (keep:List Nat) (n:Nat):Nat→Bool:=Nat.rec (motive:=fun _=>Nat→Bool) (fun _=>true) (fun _ ih b=>cond (Gq H N0 rows x keep b) (ih (Nat.succ b)) false) n
def vJ (N0 g':Nat) (x:Acc):Bool:=cond (Nat.blt g' N0) (Nat.beq x.rt g') (Nat.beq x.rt x.nm)
def ZO (H:EH) (N0 b:Nat) (x:Option Acc):Prop:=match x with
 | none=>True
 | some x=>(match H.objs.get b with
  | some (.cells c lo sz g)=>cond (cond (Nat.beq lo 0) (cond (Nat.ble N0 b) (cond (H.valid b sz g) (vJ N0 g x) false) false) false)
   ((Int.ofNat sz=Int.ofNat x.sz)∧cond x.lit (LY c x.c x.sz 0) (c=x.c)) False
  | _=>False)
def NM (base:EH) (L M n:Nat) (keep:List Nat) (s:GS) (a:EA) (H:EH):Bool:=cond (Nat.beq a.n n) (cond (Nat.ble L H.low) (cond (Nat.ble H.next M) (cond (BQ a.df []) (EU H base.next s.rows s.acc keep (Nat.sub base.next L) L) false) false) false) false
def Zl (a:EA) (H:EH) (x:Option Acc):Nat:=match x with | some x=>abB (Uy a H x.plc) | none=>0
def CV (base:EH) (L M n:Nat) (ts keep:List Nat) (s:GS) (a:EA) (H:EH):Prop:=cond (NM base L M n keep s a H)
 (sN (MP base.next (rnO a H s.acc) (gG a ts)) s.l∧OT a H base.next (rnO a H s.acc) s.rows∧rU H base s.rows (Nat.sub base.next L) L∧ZO H base.next (Zl a H s.acc) s.acc) False
def ED (base:EH) (L:Nat) (rows:List (Nat×List V)):Bool:=List.rec (motive:=fun _=>Bool) true (fun r _ ih=>cond (Nat.ble L r.1) (cond (Nat.blt r.1 base.next) (match base.objs.get r.1 with | some (.cells _ _ _ g)=>cond (Nat.beq g r.1) (cond (nJ r.2) ih false) false | _=>false) false) false) rows
def aaA (base:EH) (L NX:Nat) (x:Option Acc):Bool:=match x with
 | some x=>cond (Nat.ble base.next x.nm) (cond (Nat.blt x.nm NX) (cond (Nat.beq x.rt x.nm) true (cond (Nat.ble L x.rt) (Nat.blt x.rt base.next) false)) false) false
 | none=>true
def YJ (base:EH) (L NX:Nat) (s:GS):Bool:=cond (ED base L s.rows) (aaA base L NX s.acc) false
def QR (base:EH) (L NX M n:Nat) (ts:List Nat):Bool:=cond (jC n ts) (cond (Nat.ble L base.next) (cond (Nat.ble L big) (cond (Nat.ble base.next NX) (Nat.ble NX M) false) false) false) false
def Ur (c:T V) (sz:Nat):Prop:=∀ i,i<sz→∃ v,c.get i=some v∧uC v=true
def yM (x:Option Acc):Prop:=match x with | some x=>Ur x.c x.sz | none=>True
def Jg (base:EH) (keep:List Nat):Prop:=∀ b c lo sz g,b∈keep→base.objs.get b=some (.cells c lo sz g)→Ur c sz
theorem jT {base:EH} {L:Nat}:∀ {rows:List (Nat×List V)},ED base L rows=true→∀ {b row},kP rows b=some row→L≤b∧b<base.next∧nJ row=true∧∃ c lo sz,base.objs.get b=some (.cells c lo sz b)
 | [],_,b,row,h=>by cases h
 | r::rows,h,b,row,hl=>by
  obtain ⟨h1,h⟩:=ah (show cond (Nat.ble L r.1) (cond (Nat.blt r.1 base.next) (match base.objs.get r.1 with | some (.cells _ _ _ g)=>cond (Nat.beq g r.1) (cond (nJ r.2) (ED base L rows) false) false | _=>false) false) false=true from h)
  obtain ⟨h2,h⟩:=ah h
  split at h
  ·rename_i c lo sz g ho
   obtain ⟨h3,h4⟩:=ah h
   obtain ⟨h5,h4⟩:=ah h4
   have hl:cond (Nat.beq r.1 b) (some r.2) (kP rows b)=some row:=hl
   rw [aO] at hl
   by_cases e:r.1=b
   ·subst e
    have:=nb h3
    subst this
    rw [if_pos rfl] at hl;cases hl
    exact ⟨Nat.le_of_ble_eq_true h1,bZ h2,h5,c,lo,sz,ho⟩
   ·rw [if_neg e] at hl;exact jT h4 hl
  ·cases h
theorem xy {a:EA} {H:EH} {N0:Nat} {rn:Option (Nat×Nat)}:∀ {rows:List (Nat×List V)},OT a H N0 rn rows→∀ {b row},kP rows b=some row→∃ l,wG H b=some l∧MP N0 rn l=row
 | [],_,b,row,h=>by cases h
 | r::rows,h,b,row,hl=>by
  obtain ⟨h1,h2⟩:=(show (match wG H r.1 with | some l=>sN (MP N0 rn l) r.2 | none=>False)∧OT a H N0 rn rows from h)
  have hl:cond (Nat.beq r.1 b) (some r.2) (kP rows b)=some row:=hl
  rw [aO] at hl
  by_cases e:r.1=b
  ·subst e
   rw [if_pos rfl] at hl
   cases hl
   cases hr:wG H r.1 with
   | none=>rw [hr] at h1;exact h1.elim
   | some l=>rw [hr] at h1;exact ⟨l,rfl,oz h1⟩
  ·rw [if_neg e] at hl;exact xy h2 hl
theorem GL {H base:EH} {rows:List (Nat×List V)}:∀ {n b:Nat},rU H base rows n b→∀ i,i<n→kP rows (b+i)=none→H.objs.get (b+i)=base.objs.get (b+i):=by
 intro n
 induction n with
 | zero=>intro b h i hi;omega
 | succ n ih =>
  intro b h i hi hl
  have h:cond (inR rows b) (rU H base rows n (b+1)) (H.objs.get b=base.objs.get b∧rU H base rows n (b+1)):=h
  cases q:inR rows b with
  | true =>
   rw [q] at h
   cases i with
   | zero=>unfold inR at q;rw [Nat.add_zero] at hl;rw [hl] at q;cases q
   | succ i=>rw [show b+(i+1)=b+1+i by omega] at hl ⊢;exact ih h i (by omega) hl
  | false =>
   rw [q] at h
   obtain ⟨h1,h2⟩:=(show H.objs.get b=base.objs.get b∧rU H base rows n (b+1) from h)
   cases i with
   | zero=>exact h1
   | succ i=>rw [show b+(i+1)=b+1+i by omega] at hl ⊢;exact ih h2 i (by omega) hl
theorem Ig {H:EH} {N0:Nat} {rows:List (Nat×List V)} {x:Option Acc} {keep:List Nat}:∀ {n b:Nat},EU H N0 rows x keep n b=true→∀ i,i<n→Gq H N0 rows x keep (b+i)=true:=by
 intro n
 induction n with
 | zero=>intro b h i hi;omega
 | succ n ih =>
  intro b h i hi
  obtain ⟨h1,h2⟩:=ah (show cond (Gq H N0 rows x keep b) (EU H N0 rows x keep n (b+1)) false=true from h)
  cases i with
  | zero=>exact h1
  | succ i=>rw [show b+(i+1)=b+1+i by omega];exact ih h2 i (by omega)
theorem yj {H:EH} {b:Nat} {l:List V} (h:wG H b=some l):∃ c sz,H.objs.get b=some (.cells c 0 sz b)∧H.grps.get b=none∧l.length=sz∧∀ j,j<sz→c.get j=l[j]?:=by
 unfold wG at h
 split at h
 ·rename_i c lo sz g ho
  cases h1:Nat.beq lo 0 with
  | false=>rw [h1] at h;cases h
  | true =>
   rw [h1] at h
   cases h2:Nat.beq g b with
   | false=>rw [h2] at h;cases h
   | true =>
    rw [h2] at h
    have e1:=nb h1
    have e2:=nb h2
    subst e1;subst e2
    cases h3:Du H g with
    | false=>rw [h3] at h;cases h
    | true =>
     rw [h3] at h
     have h:cellL c sz 0=some l:=h
     obtain ⟨g1,g2⟩:=rY h
     refine ⟨c,sz,ho,?_,g1,fun j hj=>by have:=g2 j hj;rw [Nat.zero_add] at this;exact this⟩
     unfold Du at h3
     split at h3
     ·assumption
     ·cases h3
 ·cases h
theorem SX {b:Nat}:∀ {l:List Nat},nR b l=true→b∈l
 | [],h=>by cases h
 | y::l,h=>by
  have h:cond (Nat.beq b y) true (nR b l)=true:=h
  rw [aO] at h
  by_cases e:b=y
  ·rw [e];simp
  ·rw [if_neg e] at h;simp [SX h]
theorem OC {R R':Ren} {H H':EH} {x L:Nat} {w w':World} (h:SimA R R' (lowTo H x) H' w w') (hL:L≤H'.low):SimA R R' (lowTo H L) (lowTo H' L) w w' :=
 ⟨⟨h.es.next,Nat.le_refl _,h.es.old,fun b o ho hn=>h.es.keep b o ho fun q=>hn (by have q:H'.low≤aF b o:=q;show L≤aF b o;omega),h.es.back,⟨h.es.wf.lt,h.es.wf.root,h.es.wf.uniq,h.es.wf.gdom⟩,fun g q=>q,fun b o ho hb=>(h.es.neu b o ho hb).imp id fun q=>by have q:H'.low≤aF b o:=q;show L≤aF b o;omega⟩,
  ⟨h.rx.same,h.rx.zs,h.rx.neu,h.rx.cz,h.rx.czn⟩,⟨h.fr.os,h.fr.tape,h.fr.output,h.fr.size,fun r hr hn=>h.fr.keep r hr fun b o d ho hb q=>hn b o d ho hb (by have q:H'.low≤aF b o:=q;show L≤aF b o;omega)⟩,
  Rel.weak (S:=All) (H:=lowTo H' L) ⟨(SimA.rel h).img,fun b o r d ho hb=>((SimA.rel h).obj b o r d ho hb).mono (.refl R') hb rfl id (fun v=>by cases o<;>exact v),(SimA.rel h).inj,(SimA.rel h).frz⟩ fun _ _=>trivial⟩
def bmX (x:Option Acc) (R R':Ren) (src:Nat) (b:Nat):Option (Nat×Nat):=match x with | some x=>if b=x.nm then R'.bm src else R.bm b | none=>R.bm b
theorem XK {p:Nat→Bool} {n:Nat} (h:eX p n=true) {i:Nat} (hi:i<n):p i=true:=aX h i hi
theorem yP {base:EH} {L NX M n:Nat} {ts keep:List Nat} {s:GS} {R R':Ren} {w w':World} {a':EA} {H':EH} {A':Act}
 (henv:QR base L NX M n ts=true) (hok:YJ base L NX s=true) (hacc:yM s.acc) (hkeep:Jg base keep)
 (hr:Rel R All base w) (hw:WF base) (hf:lJ R base.next M) (sim:SimA R R' (lowTo base big) (lowTo H' L) w w') (ha:AR R' a' A') (hp:CV base L M n ts keep s a' H') :
 ∃ R2,SimA R R2 (lowTo base big) (pY base NX L s) w w'∧AR R2 (gsA ts n s) A'∧lJ R2 NX M:=by
 obtain ⟨ets,henv⟩:=ah henv
 obtain ⟨eL,henv⟩:=ah henv
 obtain ⟨ebig,henv⟩:=ah henv
 obtain ⟨eNX,eM⟩:=ah henv
 have hL:=Nat.le_of_ble_eq_true eL
 have hbig:=Nat.le_of_ble_eq_true ebig
 have hNX:=Nat.le_of_ble_eq_true eNX
 have hM:=Nat.le_of_ble_eq_true eM
 obtain ⟨okR,okA⟩:=ah hok
 have hpB:NM base L M n keep s a' H'=true:=by
  cases q:NM base L M n keep s a' H' with
  | true=>rfl
  | false=>unfold CV at hp;rw [q] at hp;exact hp.elim
 unfold CV at hp
 rw [hpB] at hp
 obtain ⟨p1,p2,p3,p4⟩:=(show sN (MP base.next (rnO a' H' s.acc) (gG a' ts)) s.l∧OT a' H' base.next (rnO a' H' s.acc) s.rows∧rU H' base s.rows (Nat.sub base.next L) L∧ZO H' base.next (Zl a' H' s.acc) s.acc from hp)
 have p1:=oz p1
 obtain ⟨b1,hpB⟩:=ah hpB
 obtain ⟨b2,hpB⟩:=ah hpB
 obtain ⟨b3,hpB⟩:=ah hpB
 obtain ⟨b4,b5⟩:=ah hpB
 have b1:=nb b1
 have b2:=Nat.le_of_ble_eq_true b2
 have b3:=Nat.le_of_ble_eq_true b3
 have b4:=lN b4
 generalize hsrc:Zl a' H' s.acc=src at p4
 have accI:∀ x,s.acc=some x→∃ c g,H'.objs.get src=some (.cells c 0 x.sz g)∧H'.valid src x.sz g=true∧base.next≤src∧(g<base.next→x.rt=g)∧(¬ g<base.next→x.rt=x.nm)∧(∀ i,i<x.sz→c.get i=x.c.get i)∧base.next≤x.nm∧x.nm<NX∧(x.rt=x.nm∨(L≤x.rt∧x.rt<base.next)):=fun x hx=>by
  rw [hx] at p4 okA
  obtain ⟨o1,o⟩:=ah okA
  obtain ⟨o2,o⟩:=ah o
  have o1:=Nat.le_of_ble_eq_true o1
  have o2:=bZ o2
  have o3:x.rt=x.nm∨(L≤x.rt∧x.rt<base.next):=by
   cases q:Nat.beq x.rt x.nm with
   | true=>exact .inl (nb q)
   | false =>
    rw [q] at o
    obtain ⟨z1,z2⟩:=ah (show cond (Nat.ble L x.rt) (Nat.blt x.rt base.next) false=true from o)
    exact .inr ⟨Nat.le_of_ble_eq_true z1,bZ z2⟩
  unfold ZO at p4
  simp only at p4
  split at p4
  ·rename_i c lo sz g ho
   cases q:cond (Nat.beq lo 0) (cond (Nat.ble base.next src) (cond (H'.valid src sz g) (vJ base.next g x) false) false) false with
   | false=>rw [q] at p4;exact p4.elim
   | true =>
    rw [q] at p4
    obtain ⟨q1,q⟩:=ah q
    obtain ⟨q2,q⟩:=ah q
    obtain ⟨q3,q4⟩:=ah q
    have q1:=nb q1
    subst q1
    obtain ⟨z1,z2⟩:=(show (Int.ofNat sz=Int.ofNat x.sz)∧cond x.lit (LY c x.c x.sz 0) (c=x.c) from p4)
    have z1:sz=x.sz:=by injection z1
    subst z1
    refine ⟨c,g,ho,q3,Nat.le_of_ble_eq_true q2,fun hg=>?_,fun hg=>?_,fun i hi=>?_,o1,o2,o3⟩
    ·unfold vJ at q4
     rw [show Nat.blt g base.next=true from Nat.ble_eq_true_of_le hg] at q4
     exact nb q4
    ·unfold vJ at q4
     have:Nat.blt g base.next=false:=by
      cases e:Nat.blt g base.next with
      | false=>rfl
      | true=>exact absurd (bZ e) hg
     rw [this] at q4
     exact nb q4
    ·cases e:x.lit with
     | false=>rw [e] at z2;rw [show c=x.c from z2]
     | true =>
      rw [e] at z2
      obtain ⟨v,g1,g2⟩:=Iz (show LY c x.c x.sz 0 from z2) i hi
      rw [Nat.zero_add] at g1 g2
      rw [g1,g2]
  ·exact p4.elim
 let R2:Ren:=⟨bmX s.acc R R' src,R'.zs,R.cz⟩
 have hb2:∀ b,b<base.next→R2.bm b=R.bm b:=fun b hb=>by
  show bmX s.acc R R' src b=_
  unfold bmX
  split
  ·rename_i x hx
   obtain ⟨_,_,_,_,_,_,_,_,z,_⟩:=accI x hx
   rw [if_neg (by omega)]
  ·rfl
 have hbx:∀ x,s.acc=some x→R2.bm x.nm=R'.bm src:=fun x hx=>by
  show bmX s.acc R R' src x.nm=_
  unfold bmX
  rw [hx];exact if_pos rfl
 have hbo:∀ b,(∀ x,s.acc=some x→b≠x.nm)→R2.bm b=R.bm b:=fun b hb=>by
  show bmX s.acc R R' src b=_
  unfold bmX
  split
  ·rename_i x hx;rw [if_neg (hb x hx)]
  ·rfl
 have hbmO:∀ b,b<base.next→R'.bm b=R.bm b:=fun b hb=>sim.rx.same b (by show ¬ (base.next≤b∧_);omega)
 have hczO:∀ a,¬ (base.next≤a∧a<H'.next)→R'.cz a=R.cz a:=fun a h=>sim.rx.cz a h
 have hczI:∀ a r cs,R.cz a r=some cs→R'.cz a r=some cs:=fun a r cs e=>by
  by_cases h:base.next≤a∧a<H'.next
  ·rw [(hf a h.1 (by omega)).2 r] at e;cases e
  ·rw [hczO a h];exact e
 have hrel':=SimA.rel sim
 have hwf':=SimA.wf sim
 have dn:Dn base.next R2 R':=⟨fun b hb=>(hbmO b hb).trans (hb2 b hb).symm,fun _ _ _ _ _=>rfl,fun a ha=>hczO a (by omega)⟩
 have hren:∀ v x,VR R' v x→VR R2 (Ae base.next (rnO a' H' s.acc) v) x:=fun v x h=>h.ren dn rfl fun b b2 e=>by
  cases hx:s.acc with
  | none=>rw [hx] at e;cases e
  | some x =>
   have hb:=hbx x hx
   rw [← hsrc,hx] at hb
   rw [hx] at e
   cases e
   exact hb
 -- the objects of the state's heap
 have hGx:∀ x,s.acc=some x→(pY base NX L s).objs.get x.nm=some (.cells x.c 0 x.sz x.rt):=fun x hx=>by
  show (yH s.acc (setAt s.rows base.objs)).get x.nm=_
  rw [hx];exact T.get_set_eq _ _ _
 have hGn:∀ b,(∀ x,s.acc=some x→b≠x.nm)→(pY base NX L s).objs.get b=match kP s.rows b with | some row=>some (pM row b) | none=>base.objs.get b:=fun b hb=>by
  show (yH s.acc (setAt s.rows base.objs)).get b=_
  rw [← zM]
  unfold yH
  split
  ·rename_i x hx;exact T.get_set_ne _ _ (hb x hx)
  ·rfl
 have hltx:∀ b,b<base.next→∀ x,s.acc=some x→b≠x.nm:=fun b hb x hx=>by
  obtain ⟨_,_,_,_,_,_,_,_,z,_⟩:=accI x hx
  omega
 have hGr:∀ b row,kP s.rows b=some row→(pY base NX L s).objs.get b=some (pM row b):=fun b row h=>by
  rw [hGn b (hltx b (jT okR h).2.1),h]
 have hGo:∀ b,b<base.next→kP s.rows b=none→(pY base NX L s).objs.get b=base.objs.get b:=fun b hb h=>by rw [hGn b (hltx b hb),h]
 have hG:∀ b o,(pY base NX L s).objs.get b=some o→(∃ x,s.acc=some x∧b=x.nm∧o = .cells x.c 0 x.sz x.rt)∨(∃ row,kP s.rows b=some row∧o=pM row b)∨(kP s.rows b=none∧base.objs.get b=some o):=fun b o ho=>by
  by_cases hb:∃ x,s.acc=some x∧b=x.nm
  ·obtain ⟨x,hx,rfl⟩:=hb
   rw [hGx x hx] at ho
   exact .inl ⟨x,hx,rfl,(Option.some.inj ho).symm⟩
  ·rw [hGn b fun x hx q=>hb ⟨x,hx,q⟩] at ho
   cases hl:kP s.rows b with
   | some row=>rw [hl] at ho;exact .inr (.inl ⟨row,rfl,(Option.some.inj ho).symm⟩)
   | none=>rw [hl] at ho;exact .inr (.inr ⟨rfl,ho⟩)
 have hO:∀ b o,kP s.rows b=none→base.objs.get b=some o→H'.objs.get b=some o∧(¬ L≤aF b o→H'.grps.get (aF b o)=base.grps.get (aF b o)):=fun b o hl ho=>by
  have hlt:=hw.lt b o ho
  have hrt:=hw.root b o ho
  by_cases hLr:L≤aF b o
  ·refine ⟨?_,fun q=>absurd hLr q⟩
   have:=GL p3 (b-L) (by show b-L<base.next-L;omega) (by rw [show L+(b-L)=b by omega];exact hl)
   rw [show L+(b-L)=b by omega] at this
   rw [this];exact ho
  ·obtain ⟨z1,z2⟩:=sim.es.keep b o ho hLr
   exact ⟨z1,fun _=>z2⟩
 have hS:∀ b o,(pY base NX L s).objs.get b=some o→∃ b' o',H'.objs.get b'=some o'∧dC o'=dC o∧R2.bm b=R'.bm b'∧((b<base.next∧b'=b∧aF b' o'=aF b o∧aF b o<base.next)∨(∃ x,s.acc=some x∧b=x.nm∧b'=src∧base.next≤src∧dC o=0∧(aF b' o'<base.next→aF b o=aF b' o'))):=fun b o ho=>by
  rcases hG b o ho with ⟨x,hx,rfl,rfl⟩ | ⟨row,hl,rfl⟩ | ⟨hl,hb⟩
  ·obtain ⟨c,g,z1,z2,z3,z4,z5,_⟩:=accI x hx
   exact ⟨src,_,z1,rfl,hbx x hx,.inr ⟨x,hx,rfl,rfl,z3,rfl,fun q=>z4 q⟩⟩
  ·obtain ⟨z1,z2,z4,c,lo,sz,z3⟩:=jT okR hl
   obtain ⟨l,q1,q2⟩:=xy p2 hl
   obtain ⟨c2,sz2,k1,k2,k3,k4⟩:=yj q1
   exact ⟨b,_,k1,rfl,(hb2 b z2).trans (hbmO b z2).symm,.inl ⟨z2,rfl,rfl,z2⟩⟩
  ·have hlt:=hw.lt b o hb
   exact ⟨b,o,(hO b o hl hb).1,rfl,(hb2 b hlt).trans (hbmO b hlt).symm,.inl ⟨hlt,rfl,rfl,Nat.lt_of_le_of_lt (hw.root b o hb) hlt⟩⟩
 have hgr:∀ g,(pY base NX L s).grps.get g=qJ s.acc base.grps g:=fun g=>rfl
 have hgn:∀ g,(pY base NX L s).grps.get g=none→base.grps.get g=none∨∃ x,s.acc=some x∧x.rt=g∧x.rt=x.nm:=fun g h=>by
  rw [hgr] at h
  unfold qJ at h
  split at h
  ·rename_i x hx
   cases q:Nat.beq x.rt g with
   | false=>rw [q] at h;exact .inl h
   | true =>
    rw [q] at h
    cases q2:Nat.beq x.rt x.nm with
    | false=>rw [q2] at h;cases h
    | true=>exact .inr ⟨x,hx,nb q,nb q2⟩
  ·exact .inl h
 have hgb:∀ g,(∀ x,s.acc=some x→x.rt≠g)→(pY base NX L s).grps.get g=base.grps.get g:=fun g h=>by
  rw [hgr]
  unfold qJ
  split
  ·rename_i x hx
   have:Nat.beq x.rt g=false:=by
    cases q:Nat.beq x.rt g with
    | false=>rfl
    | true=>exact absurd (nb q) (h x hx)
   rw [this];rfl
  ·rfl
 have hroot:∀ b o,(pY base NX L s).objs.get b=some o→aF b o≤b∧b<NX∧(b<base.next→∃ o0,base.objs.get b=some o0∧aF b o0=aF b o∧dC o0=dC o):=fun b o ho=>by
  rcases hG b o ho with ⟨x,hx,rfl,rfl⟩ | ⟨row,hl,rfl⟩ | ⟨hl,hb⟩
  ·obtain ⟨c,g,_,_,_,_,_,_,z1,z2,z3⟩:=accI x hx
   refine ⟨?_,z2,fun q=>absurd z1 (by omega)⟩
   show x.rt≤x.nm
   rcases z3 with z3 | z3<;>omega
  ·obtain ⟨z1,z2,_,c,lo,sz,z3⟩:=jT okR hl
   exact ⟨Nat.le_refl _,by omega,fun _=>⟨_,z3,rfl,rfl⟩⟩
  ·have hlt:=hw.lt b o hb
   exact ⟨hw.root b o hb,by omega,fun _=>⟨o,hb,rfl,rfl⟩⟩
 have wf2:WF (pY base NX L s):=by
  refine ⟨fun b o ho=>(hroot b o ho).2.1,fun b o ho=>(hroot b o ho).1,fun g hg b b' o o' ho ho' e e'=>?_,fun g x h=>?_⟩
  ·have old:∀ b o,(pY base NX L s).objs.get b=some o→aF b o=g→(b<base.next)∨(∃ x,s.acc=some x∧b=x.nm∧x.rt=g):=fun b o ho e=>by
    rcases hG b o ho with ⟨x,hx,rfl,rfl⟩ | ⟨row,hl,rfl⟩ | ⟨hl,hb⟩
    ·exact .inr ⟨x,hx,rfl,e⟩
    ·exact .inl (jT okR hl).2.1
    ·exact .inl (hw.lt b o hb)
   rcases hgn g hg with hb | ⟨x,hx,h1,h2⟩
   ·rcases old b o ho e with q | ⟨x,hx,q1,q2⟩
    ·rcases old b' o' ho' e' with q' | ⟨x,hx,q1,q2⟩
     ·obtain ⟨o0,z1,z2,_⟩:=(hroot b o ho).2.2 q
      obtain ⟨o1,y1,y2,_⟩:=(hroot b' o' ho').2.2 q'
      exact hw.uniq g hb b b' o0 o1 z1 y1 (z2.trans e) (y2.trans e')
     ·-- the row that grows has the root of an old one: then its group is known
      exfalso
      obtain ⟨_,_,_,_,_,_,_,_,w1,_,w3⟩:=accI x hx
      have hle:=(hroot b o ho).1
      rw [hgr] at hg
      unfold qJ at hg
      rw [hx] at hg
      simp only [q2,iO,cond_true] at hg
      have:Nat.beq g x.nm=false:=by
       cases z:Nat.beq g x.nm with
       | false=>rfl
       | true=>have:=nb z;omega
      rw [this] at hg;cases hg
    ·rcases old b' o' ho' e' with q' | ⟨x',hx',q1',q2'⟩
     ·exfalso
      obtain ⟨_,_,_,_,_,_,_,_,w1,_,w3⟩:=accI x hx
      have hle:=(hroot b' o' ho').1
      rw [hgr] at hg
      unfold qJ at hg
      rw [hx] at hg
      simp only [q2,iO,cond_true] at hg
      have:Nat.beq g x.nm=false:=by
       cases z:Nat.beq g x.nm with
       | false=>rfl
       | true=>have:=nb z;omega
      rw [this] at hg;cases hg
     ·rw [hx] at hx';cases hx';rw [q1,q1']
   ·obtain ⟨_,_,_,_,_,_,_,_,w1,_,w3⟩:=accI x hx
    have key:∀ b o,(pY base NX L s).objs.get b=some o→aF b o=g→b=x.nm:=fun b o ho e=>by
     rcases old b o ho e with q | ⟨x',hx',q1,q2⟩
     ·have:=(hroot b o ho).1;omega
     ·rw [hx] at hx';cases hx';exact q1
    rw [key b o ho e,key b' o' ho' e']
  ·show g<NX
   rw [hgr] at h
   unfold qJ at h
   split at h
   ·rename_i y hy
    obtain ⟨_,_,_,_,_,_,_,_,w1,w2,w3⟩:=accI y hy
    cases q:Nat.beq y.rt g with
    | false=>rw [q] at h;have:=hw.gdom g x h;omega
    | true=>have:=nb q;rcases w3 with w3 | w3<;>omega
   ·have:=hw.gdom g x h;omega
 have es2:ES (lowTo base big) (pY base NX L s) (LW (pY base NX L s)):=by
  refine ⟨hNX,hbig,fun b o ho=>?_,fun b o ho hn=>?_,fun b o' ho hb=>?_,wf2,fun g h=>h,fun b o' ho hb=>?_⟩
  ·have ho:base.objs.get b=some o:=ho
   have hlt:=hw.lt b o ho
   cases hl:kP s.rows b with
   | none=>exact ⟨o,by rw [hGo b hlt hl];exact ho,rfl,rfl⟩
   | some row =>
    obtain ⟨z1,z2,_,c,lo,sz,z3⟩:=jT okR hl
    rw [z3] at ho;cases ho
    exact ⟨_,hGr b row hl,rfl,rfl⟩
  ·have ho:base.objs.get b=some o:=ho
   have hn:¬ L≤aF b o:=hn
   have hlt:=hw.lt b o ho
   cases hl:kP s.rows b with
   | none =>
    refine ⟨by rw [hGo b hlt hl];exact ho,hgb _ fun x hx q=>?_⟩
    obtain ⟨_,_,_,_,_,_,_,_,w1,_,w3⟩:=accI x hx
    have:=hw.root b o ho
    rcases w3 with w3 | w3<;>omega
   | some row =>
    obtain ⟨z1,z2,_,c,lo,sz,z3⟩:=jT okR hl
    rw [z3] at ho;cases ho
    exact absurd z1 hn
  ·have hb:b<base.next:=hb
   obtain ⟨o0,z,_⟩:=(hroot b o' ho).2.2 hb
   exact ⟨o0,z⟩
  ·have hb:base.next≤b:=hb
   rcases hG b o' ho with ⟨x,hx,rfl,rfl⟩ | ⟨row,hl,rfl⟩ | ⟨hl,hb'⟩
   ·obtain ⟨_,_,_,_,_,_,_,_,w1,_,w3⟩:=accI x hx
    rcases w3 with w3 | w3
    ·exact .inl (by show base.next≤x.rt;omega)
    ·exact .inr w3.1
   ·exact absurd (jT okR hl).2.1 (by omega)
   ·exact absurd (hw.lt b o' hb') (by omega)
 have hle:R.le R2:=⟨fun b x e=>by
  by_cases hb:∃ x,s.acc=some x∧b=x.nm
  ·obtain ⟨y,hy,rfl⟩:=hb
   obtain ⟨_,_,_,_,_,_,_,_,w1,w2,_⟩:=accI y hy
   rw [(hf y.nm w1 (by omega)).1] at e;cases e
  ·rw [hbo b fun x hx q=>hb ⟨x,hx,q⟩];exact e,fun b r d e=>sim.rx.zs r (hr.img b r d e),fun _ _ _ e=>e⟩
 have hbmA:∀ b r d,R2.bm b=some (r,d)→∃ b',R'.bm b'=some (r,d):=fun b r d e=>by
  by_cases hb:∃ x,s.acc=some x∧b=x.nm
  ·obtain ⟨y,hy,rfl⟩:=hb
   rw [hbx y hy] at e;exact ⟨src,e⟩
  ·rw [hbo b fun x hx q=>hb ⟨x,hx,q⟩] at e
   by_cases h:base.next≤b∧b<H'.next
   ·rw [(hf b h.1 (by omega)).1] at e;cases e
   ·exact ⟨b,by rw [sim.rx.same b h];exact e⟩
 have rel2:Rel R2 All (pY base NX L s) w':=by
  refine ⟨fun b r d hb=>?_,fun b o r d ho hb=>?_,fun b b' o o' r d d' ho ho' hb hb'=>?_,fun a r cs e=>?_⟩
  ·obtain ⟨b',h⟩:=hbmA b r d hb;exact hrel'.img b' r d h
  ·rcases hG b o ho with ⟨x,hx,rfl,rfl⟩ | ⟨row,hl,rfl⟩ | ⟨hl,hbase⟩
   ·obtain ⟨c,g,z1,z2,z3,z4,z5,z6,_⟩:=accI x hx
    rw [hbx x hx] at hb
    obtain ⟨cs,t,fz,g1,g2,g3,g4⟩:=hrel'.obj src _ r d z1 hb
    rw [hx] at hacc
    refine ⟨cs,t,fz,g1,g2,g3,fun _ _ i h1 h2=>?_⟩
    obtain ⟨q,v,y,e1,e2,e3,e4⟩:=g4 trivial z2 i h1 h2
    obtain ⟨v',f1,f2⟩:=(show Ur x.c x.sz from hacc) i h2
    rw [z6 i h2,f1] at e1
    have e1:=Option.some.inj e1
    exact ⟨q,v,y,by rw [f1,e1],e2,e3,kY (by rw [← e1];exact f2) e4⟩
   ·obtain ⟨z1,z2,z4,_⟩:=jT okR hl
    obtain ⟨l,q1,q2⟩:=xy p2 hl
    obtain ⟨c2,sz2,k1,k2,k3,k4⟩:=yj q1
    have hbm:R'.bm b=some (r,d):=by rw [hbmO b z2,← hb2 b z2];exact hb
    obtain ⟨cs,t,fz,g1,g2,g3,g4⟩:=hrel'.obj b _ r d k1 hbm
    refine ⟨cs,t,fz,g1,g2,g3,fun _ _ i hi1 hi2=>?_⟩
    have hi2:i<lenV row:=hi2
    rw [BG] at hi2
    have hlen:row.length=l.length:=by rw [← q2,Bj,List.length_map]
    obtain ⟨q,x,y,e1,e2,e3,e4⟩:=g4 trivial (by show H'.valid b sz2 b=true;unfold EH.valid;rw [k2]) i (Nat.zero_le _) (by omega)
    rw [k4 i (by omega)] at e1
    have hrow:row[i]?=some (Ae base.next (rnO a' H' s.acc) x):=by rw [← q2,Bj,List.getElem?_map,e1];rfl
    refine ⟨q,Ae base.next (rnO a' H' s.acc) x,y,?_,?_,e3,hren x y e4⟩
    ·show (T.setL .lf 0 row).get i=_
     rw [T.get_setL,if_pos (by omega),Nat.sub_zero];exact hrow
    ·obtain ⟨hi3,e5⟩:=List.getElem?_eq_some_iff.1 hrow
     have:=xW z4 i hi3
     rw [e5] at this;exact this
   ·have hlt:=hw.lt b o hbase
    have hrt:=hw.root b o hbase
    have hbR:R.bm b=some (r,d):=by rw [← hb2 b hlt];exact hb
    have hbm:R'.bm b=some (r,d):=by rw [hbmO b hlt];exact hbR
    obtain ⟨hH,hHg⟩:=hO b o hl hbase
    by_cases hLr:L≤aF b o
    ·have hB:=Ig b5 (b-L) (by show b-L<base.next-L;omega)
     rw [show L+(b-L)=b by omega] at hB
     unfold Gq at hB
     have hin:inR s.rows b=false:=by unfold inR;rw [hl]
     rw [hin,hH] at hB
     simp only [cond_false] at hB
     have hOR:=hrel'.obj b o r d hH hbm
     cases o with
     | cells c lo sz g =>
      simp only at hB
      cases qa:TP s.acc g with
      | true =>
       obtain ⟨cs,t,fz,g1,g2,g3,g4⟩:=hOR
       refine ⟨cs,t,fz,g1,g2,g3,fun _ v=>?_⟩
       exfalso
       unfold TP at qa
       split at qa
       ·rename_i x hx
        have e:=nb qa
        obtain ⟨_,_,_,_,_,_,_,_,w1,_,w3⟩:=accI x hx
        have hgl:g≤b:=hrt
        have v:EH.valid (pY base NX L s) b sz g=true:=v
        have hq:(pY base NX L s).grps.get g=some (CY x.nm):=by
         rw [hgr]
         unfold qJ
         rw [hx]
         have z:Nat.beq g x.nm=false:=by
          cases z:Nat.beq g x.nm with
          | false=>rfl
          | true=>have:=nb z;omega
         simp only [e,iO,cond_true,z,cond_false]
        have v2:=(iE hq).1 v
        have v2:some x.nm=some b:=v2
        injection v2 with v2
        omega
       ·cases qa
      | false =>
       rw [qa] at hB
       obtain ⟨hv,hB⟩:=ah (show cond (H'.valid b sz g) (cond (nR b keep) true (xR base.next c (Nat.sub sz lo) lo)) false=true from hB)
       cases qk:nR b keep with
       | true =>
        obtain ⟨cs,t,fz,g1,g2,g3,g4⟩:=hOR
        refine ⟨cs,t,fz,g1,g2,g3,fun _ _ i h1 h2=>?_⟩
        obtain ⟨q,v,y,e1,e2,e3,e4⟩:=g4 trivial hv i h1 h2
        obtain ⟨v',f1,f2⟩:=hkeep b c lo sz g (SX qk) hbase i h2
        rw [f1] at e1
        have e1:=Option.some.inj e1
        exact ⟨q,v,y,by rw [f1,e1],e2,e3,kY (by rw [← e1];exact f2) e4⟩
       | false =>
        rw [qk] at hB
        exact hOR.down dn hB hlt hb (fun _=>hv)
     | loop st pend tm n2 ps as bd df =>
      simp only at hB
      obtain ⟨hB1,hB2⟩:=ah (show cond (Yc base.next tm n2) (Nat.blt df base.next) false=true from hB)
      obtain ⟨e0,Lp,h1,h2⟩:=hOR
      refine ⟨e0,Lp,h1,fun q=>?_⟩
      obtain ⟨y1,y2,y3,y4,y5,y6,y7⟩:=h2 q
      refine ⟨y1,y2,y3,y4,y5,⟨y6.size,y6.out,fun i=>?_⟩,by rw [← dn.bm df (bZ hB2)];exact y7⟩
      have hv:=y6.val i
      by_cases hi:i<n2
      ·have:=XK hB1 hi
       have this:VH base.next (tm.get i)=true:=this
       unfold getD' at hv ⊢
       split
       ·rename_i v hg
        rw [hg] at this hv
        have hv:VR R' v _:=hv
        have this:cond (jI base.next v) true (TE v)=true:=this
        cases qo:jI base.next v with
        | true=>exact hv.down dn qo
        | false =>
         rw [qo] at this
         cases v with
         | bad=>exact .bad _
         | _=>cases this
       ·exact .bad _
      ·unfold getD'
       rw [y6.out i (by omega)];exact .bad _
     | map es clk=>exact hOR.down dn hB hlt hb (fun v=>v)
     | dfr x=>exact hOR.down dn rfl hlt hb (fun v=>v)
     | iter x=>exact hOR.down dn hB hlt hb (fun v=>v)
    ·refine (hr.obj b o r d hbase hbR).mono hle hbR (sim.fr.keep r (hr.img b r d hbR) fun b2 o2 d2 h2 hb2' q=>?_) (fun _=>trivial) (fun v=>?_)
     ·have q:L≤aF b2 o2:=q
      rcases hr.inj b b2 o o2 r d d2 hbase h2 hbR hb2' with e | ⟨_,_,_,e⟩
      ·subst e
       have h2:base.objs.get b=some o2:=h2
       rw [hbase] at h2;cases h2
       exact hLr q
      ·omega
     ·cases o with
      | cells c lo sz g =>
       have v:EH.valid (pY base NX L s) b sz g=true:=v
       show EH.valid base b sz g=true
       have e:(pY base NX L s).grps.get g=base.grps.get g:=hgb g fun x hx q=>by
        obtain ⟨_,_,_,_,_,_,_,_,w1,_,w3⟩:=accI x hx
        have hgl:g≤b:=hrt
        have hLg:¬ L≤g:=hLr
        rcases w3 with w3 | w3<;>omega
       unfold EH.valid at v ⊢
       rw [e] at v;exact v
      | _=>rfl
  ·obtain ⟨s1,o1,u1,u2,u3,u4⟩:=hS b o ho
   obtain ⟨s2,o2,v1,v2,v3,v4⟩:=hS b' o' ho'
   rw [u3] at hb
   rw [v3] at hb'
   have hinj:=hrel'.inj s1 s2 o1 o2 r d d' u1 v1 hb hb'
   rcases u4 with ⟨x1,x2,x3,x4⟩ | ⟨x,hx,x1,x2,x3,x5,x4⟩
   ·rcases v4 with ⟨y1,y2,y3,y4⟩ | ⟨y,hy,y1,y2,y3,y5,y4⟩
    ·rcases hinj with e | ⟨e1,e2,e3,e4⟩
     ·exact .inl (by omega)
     ·exact .inr ⟨e1,by rw [← u2];exact e2,by rw [← v2];exact e3,by rw [← x3,← y3];exact e4⟩
    ·rcases hinj with e | ⟨e1,e2,e3,e4⟩
     ·exfalso;omega
     ·exact .inr ⟨e1,by rw [← u2];exact e2,y5,by rw [y4 (by rw [← e4,x3];exact x4),← x3];exact e4⟩
   ·rcases v4 with ⟨y1,y2,y3,y4⟩ | ⟨y,hy,y1,y2,y3,y5,y4⟩
    ·rcases hinj with e | ⟨e1,e2,e3,e4⟩
     ·exfalso;omega
     ·exact .inr ⟨e1,x5,by rw [← v2];exact e3,by rw [x4 (by rw [e4,y3];exact y4),← y3];exact e4⟩
    ·rw [hx] at hy;cases hy
     exact .inl (x1.trans y1.symm)
  ·have e:=hczI a r cs e
   obtain ⟨h1,h2⟩:=hrel'.frz a r cs e
   refine ⟨h1,fun b d q=>?_⟩
   obtain ⟨b',q'⟩:=hbmA b r d q
   exact h2 b' d q'
 refine ⟨R2,⟨es2,⟨fun b hb=>?_,sim.rx.zs,fun b r d h1 h2 e=>?_,fun _ _=>rfl,fun _ _ _ e => .inl e⟩,⟨sim.fr.os,sim.fr.tape,sim.fr.output,sim.fr.size,sim.fr.keep⟩,Rel.weak (S:=All) rel2 fun _ _=>trivial⟩,⟨?_,?_⟩,fun b h1 h2=>⟨?_,fun r=>(hf b (by omega) h2).2 r⟩⟩
 ·refine hbo b fun x hx q=>hb ?_
  obtain ⟨_,_,_,_,_,_,_,_,w1,w2,_⟩:=accI x hx
  exact ⟨by show base.next≤b;omega,by show b<NX;omega⟩
 ·have h1:base.next≤b:=h1
  by_cases hb:∃ x,s.acc=some x∧b=x.nm
  ·obtain ⟨x,hx,rfl⟩:=hb
   obtain ⟨c,g,z1,z2,z3,z4,z5,z6,w1,w2,w3⟩:=accI x hx
   rw [hbx x hx] at e
   rcases sim.rx.neu src r d z3 (hwf'.lt src _ z1) e with q | ⟨b0,o0,o,q1,q2,q3,q4,q5,q6⟩
   ·exact .inl q
   ·refine .inr ⟨b0,o0,_,q1,q2,hGx x hx,q4,rfl,?_⟩
    have q3:H'.objs.get src=some o:=q3
    rw [z1] at q3;cases q3
    have q6:aF b0 o0=g:=q6
    have:=hw.root b0 o0 q1
    have:=hw.lt b0 o0 q1
    rw [q6];exact (z4 (by omega)).symm
  ·rw [hbo b fun x hx q=>hb ⟨x,hx,q⟩] at e
   have h2:b<NX:=h2
   rw [(hf b h1 (by omega)).1] at e;cases e
 ·have ht:=ha.tm
  rw [b1] at ht
  show TR R2 (kS (lF ts s.l)) n A'.tmps
  rw [← p1,Bj]
  refine TR.live ht _ fun p hp=>?_
  have zip:∀ (ts:List Nat) (p:Nat×V),p∈lF ts ((gG a' ts).map (Ae base.next (rnO a' H' s.acc)))→p.1∈ts∧p.2=Ae base.next (rnO a' H' s.acc) (a'.get p.1):=by
   intro ts
   induction ts with
   | nil=>intro p h;cases h
   | cons t ts ih =>
    intro p h
    have h:p∈(t,Ae base.next (rnO a' H' s.acc) (a'.get t))::lF ts ((gG a' ts).map (Ae base.next (rnO a' H' s.acc))):=h
    rcases List.mem_cons.1 h with rfl | h
    ·exact ⟨by simp,rfl⟩
    ·obtain ⟨h1,h2⟩:=ih p h;exact ⟨by simp [h1],h2⟩
  obtain ⟨q1,q2⟩:=zip ts p hp
  exact ⟨oO ets _ q1,by rw [q2];exact hren _ _ (ht.val p.1)⟩
 ·have:=ha.df
  rw [b4] at this
  cases hd:A'.defers with
  | nil=>exact trivial
  | cons d ds=>rw [hd] at this;exact this.elim
 ·rw [hbo b fun x hx q=>?_]
  ·exact (hf b (by omega) h2).1
  ·obtain ⟨_,_,_,_,_,_,_,_,w1,w2,_⟩:=accI x hx
   omega
inductive EndK where
 | exit (id:Nat)
 | ret
def EndK.res (e:EndK) (a:EA) (H:EH):Res:=match e with | .exit id => .exit id a H | .ret => .ret a H
theorem EndK.res_H (e:EndK) (a:EA) (H:EH):(e.res a H).H=H:=by cases e<;>rfl
theorem Xv {R R2:Ren} {H H2:EH} {L:Nat} {w w':World} (h:SimA R R2 (lowTo H big) (lowTo H2 L) w w'):SimA R R2 H (lowTo H2 (dJ L H.low)) w w':=by
 have hm:=Oo L H.low
 refine ⟨⟨h.es.next,hm.2,h.es.old,fun b o ho hn=>h.es.keep b o ho fun q=>hn (by have q:L≤aF b o:=q;show dJ L H.low≤aF b o;omega),h.es.back,⟨h.es.wf.lt,h.es.wf.root,h.es.wf.uniq,h.es.wf.gdom⟩,fun g q=>q,fun b o ho hb=>(h.es.neu b o ho hb).imp id fun q=>by have q:L≤aF b o:=q;show dJ L H.low≤aF b o;omega⟩,
  ⟨h.rx.same,h.rx.zs,h.rx.neu,h.rx.cz,h.rx.czn⟩,⟨h.fr.os,h.fr.tape,h.fr.output,h.fr.size,fun r hr hn=>h.fr.keep r hr fun b o d ho hb q=>hn b o d ho hb (by have q:L≤aF b o:=q;show dJ L H.low≤aF b o;omega)⟩,?_⟩
 have hrel:=SimA.rel h
 exact Rel.weak (S:=All) (H:=lowTo H2 (dJ L H.low)) ⟨hrel.img,fun b o r d ho hb=>(hrel.obj b o r d ho hb).mono (.refl R2) hb rfl id (fun v=>by cases o<;>exact v),hrel.inj,hrel.frz⟩ fun _ _=>trivial
theorem Ro.sim {R R2:Ren} {H H2:EH} {w w':World} (h:SimA R R2 H H2 w w') (hf:Free R H H2) (hr:Rel R All H w) {ro rr:Option Nat} (q:Ro R ro rr):Ro R2 ro rr:=q.mono (h.le hr hf)
end
end Go.Ev
/- Code by packed states: pieces one after another, loops, all over one heap. -/
namespace Go.Ev
open Go
noncomputable section
variable {P:Program}
inductive Ok where
 | normal
 | exit (id:Nat)
 | ret
def Ok.res (o:Ok) (a:EA) (H:EH):Res:=match o with | .normal => .normal a H | .exit id => .exit id a H | .ret => .ret a H
theorem Ok.res_H (o:Ok) (a:EA) (H:EH):(o.res a H).H=H:=by cases o<;>rfl
def Ok.exitR (o:Ok) (R:Ren) (a:EA) (e:Exit) (A:Act):Prop:=match o,e with
 | .normal,.normal=>AR R a A
 | .exit id,.exit id'=>id'=id∧AR R a A
 | .ret,.ret=>AR R a A
 | _,_=>False
structure Env where
 (base:EH) (L NX M n:Nat)
structure TS where
 (ts:List Nat) (s:GS)
def Env.H (E:Env) (x:TS):EH:=pY E.base E.NX big x.s
def Env.A (E:Env) (x:TS):EA:=gsA x.ts E.n x.s
def Env.pack (E:Env) (x:TS) (a:EA) (H:EH):Prop:=CV E.base E.L E.M E.n x.ts [] x.s a H
def Env.okB (E:Env) (x:TS):Bool:=cond (QR E.base E.L E.NX E.M E.n x.ts) (YJ E.base E.L E.NX x.s) false
def Env.ok (E:Env) (x:TS):Prop:=E.okB x=true∧yM x.s.acc
def OU (E:Env) (R:Ren) (w:World) (o:Ok) (y:TS):Exit→Act→World→Prop:=fun e A w'=>∃ R2,SimA R R2 (lowTo E.base big) (pY E.base E.NX E.L y.s) w w'∧lJ R2 E.NX E.M∧o.exitR R2 (E.A y) e A
def JP (P:Program) (E:Env) (ro:Option Nat) (c:Code) (x:TS) (o:Ok) (y:TS):Prop :=
 ∃ m,∀ R w nn rr Rk wk Ak,Rel R All E.base w→WF E.base→lJ R E.base.next E.M→Ro R ro rr→SimA R Rk (lowTo E.base big) (pY E.base E.NX E.L x.s) w wk→lJ Rk E.NX E.M→AR Rk (E.A x) Ak →
  wpM m (FF rr) nn P c (OU E R w o y) Ak wk
theorem uU {base:EH}:Jg base []:=fun _ _ _ _ _ h=>by cases h
theorem Env.ok_get {E:Env} {x:TS} (h:E.ok x):QR E.base E.L E.NX E.M E.n x.ts=true∧YJ E.base E.L E.NX x.s=true∧yM x.s.acc:=by
 obtain ⟨h1,h2⟩:=ah h.1
 exact ⟨h1,h2,h.2⟩
theorem Env.le {E:Env} {x:TS} (h:E.ok x):E.base.next≤E.NX∧E.NX≤E.M∧E.L≤big:=by
 obtain ⟨_,h⟩:=ah (Env.ok_get h).1
 obtain ⟨_,h⟩:=ah h
 obtain ⟨h3,h⟩:=ah h
 obtain ⟨h1,h2⟩:=ah h
 exact ⟨Nat.le_of_ble_eq_true h1,Nat.le_of_ble_eq_true h2,Nat.le_of_ble_eq_true h3⟩
theorem VV {base:EH} {L M n:Nat} {ts keep:List Nat} {s:GS} {a:EA} {H:EH} (hp:CV base L M n ts keep s a H):H.next≤M∧L≤H.low:=by
 unfold CV at hp
 cases q:NM base L M n keep s a H with
 | false=>rw [q] at hp;exact hp.elim
 | true =>
  obtain ⟨_,q⟩:=ah q
  obtain ⟨q2,q⟩:=ah q
  obtain ⟨q3,_⟩:=ah q
  exact ⟨Nat.le_of_ble_eq_true q3,Nat.le_of_ble_eq_true q2⟩
theorem UZ {E:Env} {ro:Option Nat} {c:Code} {x:TS} {o:Ok} {y:TS} {a':EA} {H':EH} (hx:E.ok x) (hy:E.ok y) (hJ:J P ro c (E.A x) (E.H x) (o.res a' H')) (hp:E.pack y a' H'):JP P E ro c x o y:=by
 obtain ⟨_,_,m,hm⟩:=hJ
 rw [Ok.res_H] at hm
 obtain ⟨pn,pl⟩:=VV hp
 have hle:=Env.le hx
 obtain ⟨y1,y2,y3⟩:=Env.ok_get hy
 refine ⟨m,fun R w nn rr Rk wk Ak hr hw hf hro hs hfk hak=>?_⟩
 have hrk:=(SimA.rel hs).lowTo big
 have hwk:=(SimA.wf hs).lowTo big
 refine (hm Rk wk Ak nn rr hrk hwk (fun b h1 h2=>hfk b h1 (by omega)) hak (Ro.sim hs (fun b h1 h2=>hf b h1 (by have h2:b<E.NX:=h2;omega)) (hr.lowTo big) hro)).mono fun e1 A1 w1 ⟨R',s1,x1⟩=>?_
 rw [Ok.res_H] at s1
 have s2:SimA R R' (lowTo E.base big) (lowTo H' E.L) w w1:=SimA.trans hs (show SimA Rk R' (pY E.base E.NX E.L x.s) (lowTo H' E.L) wk w1 from OC (H:=pY E.base E.NX big x.s) (x:=big) s1 pl)
 cases o with
 | normal =>
  cases e1<;>try exact x1.elim
  obtain ⟨R2,s3,a3,f3⟩:=yP y1 y2 y3 uU hr hw hf s2 x1 hp
  exact ⟨R2,s3,f3,a3⟩
 | exit id =>
  cases e1<;>try exact x1.elim
  obtain ⟨x0,x1⟩:=x1
  obtain ⟨R2,s3,a3,f3⟩:=yP y1 y2 y3 uU hr hw hf s2 x1 hp
  exact ⟨R2,s3,f3,x0,a3⟩
 | ret =>
  cases e1<;>try exact x1.elim
  obtain ⟨R2,s3,a3,f3⟩:=yP y1 y2 y3 uU hr hw hf s2 x1 hp
  exact ⟨R2,s3,f3,a3⟩
theorem ng {E:Env} {ro:Option Nat} {c d:Code} {x y z:TS} {o:Ok} (h1:JP P E ro c x .normal y) (h2:JP P E ro d y o z):JP P E ro (.seq c d) x o z:=by
 obtain ⟨m1,h1⟩:=h1
 obtain ⟨m2,h2⟩:=h2
 refine ⟨0,fun R w nn rr Rk wk Ak hr hw hf hro hs hfk hak=>wpIn_seq (Go.wpIn_mono (wpM.wp (h1 R w nn rr Rk wk Ak hr hw hf hro hs hfk hak)) fun e A1 w1 ⟨R1,s1,f1,x1⟩=>?_)⟩
 cases e<;>try exact x1.elim
 exact wpM.wp (h2 R w nn rr R1 w1 A1 hr hw hf hro s1 f1 x1)
theorem We {E:Env} {ro:Option Nat} {c d:Code} {x y:TS} {o:Ok} (h1:JP P E ro c x o y) (ho:o ≠ .normal):JP P E ro (.seq c d) x o y:=by
 obtain ⟨m1,h1⟩:=h1
 refine ⟨0,fun R w nn rr Rk wk Ak hr hw hf hro hs hfk hak=>wpIn_seq (Go.wpIn_mono (wpM.wp (h1 R w nn rr Rk wk Ak hr hw hf hro hs hfk hak)) fun e A1 w1 p=>?_)⟩
 have p0:=p
 obtain ⟨R1,s1,f1,x1⟩:=p
 cases e with
 | normal =>
  cases o with
  | normal=>exact absurd rfl ho
  | exit id=>exact x1.elim
  | ret=>exact x1.elim
 | _=>exact p0
theorem EL {E:Env} {ro:Option Nat} {body:Code} {ts:List Nat} {o:Ok} {y:TS} (ho:o ≠ .normal) (N:Nat) (S:Nat→GS) (hrd:∀ k,k<N→JP P E ro body ⟨ts,S k⟩ .normal ⟨ts,S (k+1)⟩) (hl:JP P E ro body ⟨ts,S N⟩ o y):JP P E ro (.loop body) ⟨ts,S 0⟩ o y:=by
 have claim:∀ j,j≤N→∃ m,∀ R w nn rr Rk wk Ak,Rel R All E.base w→WF E.base→lJ R E.base.next E.M→Ro R ro rr→SimA R Rk (lowTo E.base big) (pY E.base E.NX E.L (S (N-j))) w wk→lJ Rk E.NX E.M→AR Rk (E.A ⟨ts,S (N-j)⟩) Ak →
  Code.roundsIn (FF rr) nn P body (OU E R w o y) m Ak wk:=by
  intro j
  induction j with
  | zero =>
   intro _
   obtain ⟨m,hm⟩:=hl
   refine ⟨1,fun R w nn rr Rk wk Ak hr hw hf hro hs hfk hak=>?_⟩
   show Code.roundsIn (FF rr) nn P body _ 1 Ak wk
   refine Go.wpIn_mono (wpM.wp (hm R w nn rr Rk wk Ak hr hw hf hro hs hfk hak)) fun e A1 w1 p=>?_
   have p0:=p
   obtain ⟨R1,s1,f1,x1⟩:=p
   cases e with
   | normal =>
    cases o with
    | normal=>exact absurd rfl ho
    | exit id=>exact x1.elim
    | ret=>exact x1.elim
   | _=>exact p0
  | succ j ih =>
   intro hj
   obtain ⟨m2,h2⟩:=ih (by omega)
   obtain ⟨m,hm⟩:=hrd (N-(j+1)) (by omega)
   rw [show N-(j+1)+1=N-j by omega] at hm
   refine ⟨m2+1,fun R w nn rr Rk wk Ak hr hw hf hro hs hfk hak=>?_⟩
   show Code.roundsIn (FF rr) nn P body _ (m2+1) Ak wk
   refine Go.wpIn_mono (wpM.wp (hm R w nn rr Rk wk Ak hr hw hf hro hs hfk hak)) fun e A1 w1 ⟨R1,s1,f1,x1⟩=>?_
   cases e<;>try exact x1.elim
   exact h2 R w nn rr R1 w1 A1 hr hw hf hro s1 f1 x1
 obtain ⟨m,hm⟩:=claim N (Nat.le_refl N)
 rw [Nat.sub_self] at hm
 exact ⟨m,hm⟩
theorem KQ {R R2:Ren} {H0 base:EH} {NX L M:Nat} {s:GS} {w w':World} (h:SimA R R2 H0 (pY base NX L s) w w') (hNX:NX≤M) (hf:lJ R2 NX M) (hc:∀ b,NX≤b→b<M→R.bm b=none):SimA R R2 H0 (pY base M L s) w w':=by
 have hrel:=SimA.rel h
 refine ⟨⟨Nat.le_trans h.es.next hNX,h.es.low,h.es.old,h.es.keep,h.es.back,⟨fun b o ho=>Nat.lt_of_lt_of_le (h.es.wf.lt b o ho) hNX,h.es.wf.root,h.es.wf.uniq,fun g x q=>Nat.lt_of_lt_of_le (h.es.wf.gdom g x q) hNX⟩,h.es.wr,h.es.neu⟩,
  ⟨fun b hb=>?_,h.rx.zs,fun b r d h1 h2 e=>?_,fun a ha=>?_,h.rx.czn⟩,⟨h.fr.os,h.fr.tape,h.fr.output,h.fr.size,h.fr.keep⟩,
  Rel.weak (S:=All) (H:=pY base M L s) ⟨hrel.img,fun b o r d ho hb=>(hrel.obj b o r d ho hb).mono (.refl R2) hb rfl id (fun v=>by cases o<;>exact v),hrel.inj,hrel.frz⟩ fun _ _=>trivial⟩
 ·exact h.rx.same b fun q=>hb ⟨q.1,Nat.lt_of_lt_of_le q.2 hNX⟩
 ·by_cases q:b<NX
  ·exact h.rx.neu b r d h1 q e
  ·rw [(hf b (by omega) h2).1] at e;cases e
 ·exact h.rx.cz a fun q=>ha ⟨q.1,Nat.lt_of_lt_of_le q.2 hNX⟩
theorem NT {E:Env} {ro:Option Nat} {c:Code} {a0:EA} {x:TS} {o:Ok} {y:TS} (hx:E.ok x) (h0:E.pack x a0 (lowTo E.base big)) (h:JP P E ro c x o y):J P ro c a0 E.base (o.res (E.A y) (pY E.base E.M (dJ E.L E.base.low) y.s)):=by
 have hle:=Env.le hx
 obtain ⟨x1,x2,x3⟩:=Env.ok_get hx
 obtain ⟨m,hm⟩:=h
 refine ⟨(fun v H' q=>by cases o<;>cases q),(by rw [Ok.res_H];exact Nat.le_trans hle.1 hle.2.1),m,fun R w A nn rr hr hw hf ha hro=>?_⟩
 rw [Ok.res_H] at hf
 have hf:lJ R E.base.next E.M:=hf
 obtain ⟨R0,s0,a0',f0⟩:=yP x1 x2 x3 uU hr hw hf (NE (OC (H:=E.base) (x:=big) (H':=lowTo E.base big) (SimA.refl (hw.lowTo big) (hr.lowTo big)) hle.2.2) hle.2.2) ha h0
 refine (hm R w nn rr R0 w A hr hw hf hro s0 f0 a0').mono fun e A1 w1 ⟨R2,s1,f1,z1⟩=>⟨R2,?_,?_⟩
 ·rw [Ok.res_H]
  have s2:SimA R R2 (lowTo E.base big) (pY E.base E.M E.L y.s) w w1:=KQ s1 hle.2.1 f1 fun b h1 h2=>(hf b (by omega) h2).1
  exact Xv (H2:=pY E.base E.M E.L y.s) s2
 ·cases o<;>cases e<;>exact z1
def okP (E:Env) (o:Ok) (y:TS) (r:Res):Prop:=match r,o with
 | .normal a H,.normal=>E.pack y a H
 | .exit id a H,.exit id'=>cond (Nat.beq id id') (E.pack y a H) False
 | .ret a H,.ret=>E.pack y a H
 | _,_=>False
def jQ (P:Program) (X:Ext) (N:Nat) (E:Env) (ro:Option Nat) (c:Code) (x:TS) (o:Ok) (y:TS):D:=Jk P X N ro c (E.A x) (E.H x) (okP E o y)
theorem gz (hD:bi P) {X:Ext} (hX:dM P X) {N:Nat} {E:Env} {ro:Option Nat} {c:Code} {x:TS} {o:Ok} {y:TS} {h:HT} (hx:E.ok x) (hy:E.ok y) (hv:vc (jQ P X N E ro c x o y) h):JP P E ro c x o y:=by
 obtain ⟨r,_,hJ,hp⟩:=Ar hD hX hv
 cases r with
 | v v H=>exact (by cases o<;>exact hp.elim)
 | normal a H =>
  cases o with
  | normal=>exact UZ hx hy hJ hp
  | _=>exact hp.elim
 | exit id a H =>
  cases o with
  | exit id' =>
   have hp:cond (Nat.beq id id') (E.pack y a H) False:=hp
   cases q:Nat.beq id id' with
   | false=>rw [q] at hp;exact hp.elim
   | true =>
    rw [q] at hp
    have hp2:E.pack y a H:=hp
    have:=nb q
    subst this
    exact UZ (o := .exit id) hx hy hJ hp2
  | _=>exact hp.elim
 | ret a H =>
  cases o with
  | ret=>exact UZ (o := .ret) hx hy hJ hp
  | _=>exact hp.elim
def Ok.block (o:Ok) (id:Nat):Ok:=match o with | .exit id'=>cond (Nat.beq id' id) .normal (.exit id') | o=>o
theorem zy {E:Env} {ro:Option Nat} {id:Nat} {c:Code} {x y:TS} {o:Ok} (h1:JP P E ro c x o y):JP P E ro (.block id c) x (o.block id) y:=by
 obtain ⟨m1,h1⟩:=h1
 refine ⟨0,fun R w nn rr Rk wk Ak hr hw hf hro hs hfk hak=>wpIn_block (Go.wpIn_mono (wpM.wp (h1 R w nn rr Rk wk Ak hr hw hf hro hs hfk hak)) fun e A1 w1 ⟨R1,s1,f1,x1⟩=>?_)⟩
 cases o with
 | normal=>cases e<;>first | exact x1.elim | exact ⟨R1,s1,f1,x1⟩
 | ret=>cases e<;>first | exact x1.elim | exact ⟨R1,s1,f1,x1⟩
 | exit i1 =>
  cases e with
  | normal=>exact False.elim x1
  | ret=>exact False.elim x1
  | goto _=>exact False.elim x1
  | panic _=>exact False.elim x1
  | outgrown=>exact False.elim x1
  | exit i2 =>
  have x2:i2=i1∧AR R1 (E.A y) A1:=x1
  rcases x2 with ⟨e1,x2⟩
  rw [e1]
  by_cases q:i1=id
  ·have hb:Ok.block (.exit i1) id = .normal:=by show cond (Nat.beq i1 id) Ok.normal _=_;rw [q,iO];rfl
   rw [hb]
   have:OU E R w .normal y .normal A1 w1:=⟨R1,s1,f1,x2⟩
   simp only [Exit.inBlock,if_pos q];exact this
  ·have hn:Nat.beq i1 id=false:=by
    cases z:Nat.beq i1 id with
    | false=>rfl
    | true=>exact absurd (nb z) q
   have hb:Ok.block (.exit i1) id = .exit i1:=by show cond (Nat.beq i1 id) Ok.normal _=_;rw [hn];rfl
   rw [hb]
   have:OU E R w (.exit i1) y (.exit i1) A1 w1:=⟨R1,s1,f1,rfl,x2⟩
   simp only [Exit.inBlock,if_neg q];exact this
theorem Aq {E:Env} {ro:Option Nat} {id:Nat} {c:Code} {x y:TS} (h1:JP P E ro c x (.exit id) y):JP P E ro (.block id c) x .normal y:=by
 have:=zy (id:=id) h1
 have e:Ok.block (.exit id) id = .normal:=by show cond (Nat.beq id id) Ok.normal _=_;rw [iO];rfl
 rw [e] at this;exact this
def vY (P:Program) (g:FuncId) (r:Res):Option Res:=match P.funcs[g]? with | some fn=>gq P fn (some r) | none=>none
theorem yK {g:FuncId} {args:List V} {H H':EH} {r:Res} {v:V} (s:Bool) (h1:FQ P g args=true) (hJ:J P none (cZ P g) ⟨ja s args,zt P g,[]⟩ H r) (ha:vY P g r=some (.v v H')):SpecCall P g args H v H':=by
  unfold FQ at h1
  unfold vY at ha
  unfold cZ zt at hJ
  cases hf:P.funcs[g]? with
  | none=>rw [hf] at h1;cases h1
  | some fn =>
    rw [hf] at h1 ha hJ
    simp only at h1 ha hJ
    cases hn : decide (fn.name = "runtime.NumGoroutine") with
    | true=>rw [hn] at h1;cases h1
    | false =>
      rw [hn] at h1
      simp only [cond_false] at h1
      cases hb:fn.body with
      | none=>rw [hb] at h1;cases h1
      | some c =>
        rw [hb] at h1 hJ
        simp only at h1 hJ
        exact aaC hf hn hb h1 hJ ha
def Ap (H:EH) (a:EA) (ps:Array Tmp) (as bd:Code):EH:=⟨(H.objs.set H.next (.dfr true)).set (Nat.succ H.next) (.loop .ready none a.tm a.n ps as bd H.next),Nat.succ (Nat.succ H.next),H.grps,H.low⟩
theorem Oq (hD:bi P) {g:Operand} {ps:Array Tmp} {asg bd:Code} {a:EA} {H H2:EH} {f:FuncId} {first captured:List V} {v:V} {st:LoopState} {tm:T V} {n:Nat} {ps2:Array Tmp} {as2 bd2:Code} {df:Nat}
 (hg:a.eval g = .func f first captured) (hs:SpecCall P f (app3 first [.yld (Nat.succ H.next)] captured) (Ap H a ps asg bd) v H2) (hl:H2.objs.get (Nat.succ H.next)=some (.loop st none tm n ps2 as2 bd2 df)) (hb:lK st=true) :
 J P none (.rangeFunc g ps asg bd) a H (.normal ⟨a.tm,a.n,H.next::a.df⟩ (fH H2 (Nat.succ H.next) .exhausted none tm n ps2 as2 bd2 df)):=by
 have hsp:Spec P (.call f (app3 first [.yld (Nat.succ H.next)] captured) (Ap H a ps asg bd)) (.v v H2):=⟨v,H2,rfl,hs⟩
 refine jf hD (ji hsp) ?_
 show iq _ none g ps asg bd a H=_
 unfold iq
 rw [eu]
 unfold mG
 rw [eu,hg]
 show afterLoop _ none (Nat.succ H.next) _ (GN _ _ (.call f (app3 first [.yld (Nat.succ H.next)] captured) (Ap H a ps asg bd)))=_
 rw [oZ]
 show (match H2.objs.get (Nat.succ H.next) with
  | some (.loop st pend tm n ps asg bd df)=>cond (lK st) (DF _ none ⟨a.tm,a.n,H.next::a.df⟩ (fH H2 (Nat.succ H.next) .exhausted pend tm n ps asg bd df) pend) none
  | _=>none)=_
 rw [hl]
 simp only
 rw [hb];rfl
noncomputable def CG (c:Code):Array Tmp:=match c with | .rangeFunc _ ps _ _=>ps | _=>#[]
noncomputable def BO (c:Code):Code:=match c with | .rangeFunc _ _ x _=>x | _ => .skip
noncomputable def BP (c:Code):Code:=match c with | .rangeFunc _ _ _ bd=>bd | _ => .skip
def resD (P:Program) (g:FuncId) (φ:V→EH→Prop) (r:Res):Prop:=match vY P g r with | some (.v v H)=>φ v H | _=>False
theorem Ua (hD:bi P) {X:Ext} (hX:dM P X) {N:Nat} {g:FuncId} {das:List DA} {p:List Nat} {φ:V→EH→Prop} {a1:EA} {H1:EH} {r:Res} {h:HT} (h1:FQ P g (enc das 0)=true) (hto:qZ P X N g p das=some (a1,H1)) (hJ:J P none (sub p (cZ P g)) a1 H1 r)
 (hv:vc (iM P kD X (.leaf False) N none p (cZ P g) r (fun r => .leaf (resD P g φ r))) h):∃ v' H',SpecCall P g (enc das 0) (aU (rJ das 0+1)) v' H'∧φ v' H':=by
 obtain ⟨r1,j1,j2⟩:=wM hD hX p hto _ hJ (kz _ _ hv)
 have j2:resD P g φ r1:=j2
 unfold resD at j2
 cases ha:vY P g r1 with
 | none=>rw [ha] at j2;exact j2.elim
 | some q =>
  rw [ha] at j2
  cases q with
  | v v H'=>exact ⟨v,H',yK false h1 j1 ha,j2⟩
  | _=>exact j2.elim
def Z8 (n:Nat) (v:V):V:=match v with | .fz _ _ c len e => .fz true n c len e | v=>v
def aci (n:Nat) (l:List V):List V:=List.rec (motive:=fun _=>List V) [] (fun v _ ih=>Z8 n v::ih) l
def ZH (n:Nat) (v:V):V:=match v with | .tup l => .tup (aci n l) | v=>Z8 n v
def VE (ok:Bool) (n:Nat) (r:Option (Bool×V)):Option (Bool×V):=match r with | some (b,v)=>some (cond ok b false,ZH n v) | none=>none
def cfR (val:Val):CF:=fun args H=>match dec args with | some das=>VE (yA args) H.next (val das) | none=>none
def frP (H:EH) (k:Nat) (v v':V):Prop:=∀ as new,FrV H k as new v (ZH new v')
def abl (P:Program) (g:FuncId) (val:Val):Prop:=∀ das v,val das=some (true,v)→∃ v' H',SpecCall P g (enc das 0) (aU (rJ das 0+1)) v' H'∧frP H' (rJ das 0) v' v
theorem WH {g:FuncId} {val:Val} (h:abl P g val):oK P (g,cfR val):=fun args H v hv=>by
 have hv:(match dec args with | some das=>VE (yA args) H.next (val das) | none=>none)=some (true,v):=hv
 cases hd:dec args with
 | none=>rw [hd] at hv;cases hv
 | some das =>
  rw [hd] at hv
  have hv:VE (yA args) H.next (val das)=some (true,v):=hv
  cases hval:val das with
  | none=>rw [hval] at hv;cases hv
  | some bv =>
   obtain ⟨b,v'⟩:=bv
   rw [hval] at hv
   have e0:cond (yA args) b false=true:=by injection hv with hv;injection hv
   obtain ⟨e1,e3⟩:=ah e0
   have e2:ZH H.next v'=v:=by injection hv with hv;injection hv
   subst e2
   subst e3
   obtain ⟨v1,H',hs,hvp⟩:=h das v' hval
   have key:∀ (R:Ren) (w:World),rJ das 0=0+(sJ args).length∧∀ ys,AL R args ys→AL (kR R w (rJ das 0) (fun n=>(sJ args).getD n 0)) (enc das 0) ys:=fun R w=>by
    have h1:=(oL (R:=R) (w:=w) (k:=0+(sJ args).length) (as:=fun n=>(sJ args).getD n 0) (n:=0) hd e1 (fun i hi=>by simp) (Nat.le_refl _))
    refine ⟨h1.1,?_⟩
    rw [h1.1];exact h1.2
   exact wL (as:=fun n=>(sJ args).getD n 0) hs (fun R w ys _ ha=>(key R w).2 ys ha) (hvp _ _)
def rowIs (b len:Nat) (c:T V) (v:V) (H:EH):Prop:=v = .slice b 0 len 1∧(match H.block b with | .mk c' lo sz _=>cond (Nat.beq lo 0) ((Int.ofNat sz=Int.ofNat len)∧c'=c) False | .no=>False)
theorem Vo {b len k:Nat} {c:T V} {v:V} {H:EH} (h:rowIs b len c v H) {f:Nat→Int} (hc:∀ i,i<len→c.get i=some (.int .i64 (f i))):frP H k v (.fz true 0 (ae .i64 (fun i _=>f i)) len 1):=fun as new=>by
 obtain ⟨h1,h2⟩:=h
 subst h1
 split at h2
 ·rename_i c' lo sz g hb
  cases q:Nat.beq lo 0 with
  | false=>rw [q] at h2;exact h2.elim
  | true =>
   rw [q] at h2
   have:=nb q
   subst this
   obtain ⟨e1,e2⟩:=(show (Int.ofNat sz=Int.ofNat len)∧c'=c from h2)
   have e1:sz=len:=by injection e1
   subst e1;subst e2
   refine .one (.one (.slice (d:=ae .i64 (fun i _=>f i)) hb (Nat.le_refl _) (by omega) (fun i j hi hj=>?_) (fun _ _ _ _=>rfl) (fun _ _ _ _ => .int _ _) fun _ _ _ _ => .int _ _))
   have:j=0:=by omega
   subst this
   rw [show 0+(i*1+0)=i by omega];exact hc i hi
 ·exact h2.elim
theorem O0 {E:Env} {ro:Option Nat} {c c':Code} {x y:TS} {o:Ok} (e:c=c') (h:JP P E ro c' x o y):JP P E ro c x o y:=by rw [e];exact h
end
end Go.Ev
/- Contracts whose values hold new rows, also where arguments lie in memory; closed calls as contracts. -/
namespace Go.Ev
open Go
noncomputable section
variable {P:Program}
inductive Fn0 (H:EH) (k new:Nat):V→V→Prop where
 | bool (b:Bool):Fn0 H k new (.bool b) (.bool b)
 | int (kd:IntKind) (n:Int):Fn0 H k new (.int kd n) (.int kd n)
 | nilSlice:Fn0 H k new .nilSlice .nilSlice
 | nilS {q:Bool} {a:Nat} {c:Nat→Nat→V} {e:Nat}:Fn0 H k new .nilSlice (.fz q a c 0 e)
 | fz {q:Bool} {a:Nat} {c c':Nat→Nat→V} {len e:Nat} (h0:k<a) (hs:∀ i j,i<len→j<e→fP (c' i j)=true) (ha:∀ i j,i<len→j<e→Aged new (c' i j))
  (h:∀ i j,i<len→j<e→Fn0 H k new (c i j) (c' i j)):Fn0 H k new (.fz q a c len e) (.fz true new c' len e)
 | slice {b off len e lo sz g:Nat} {c:T V} {d c':Nat→Nat→V} (hb:H.block b = .mk c lo sz g) (hl:lo≤off) (hz:off+len*e≤sz) (hd:∀ i j,i<len→j<e→c.get (off+(i*e+j))=some (d i j))
  (hs:∀ i j,i<len→j<e→fP (c' i j)=true) (ha:∀ i j,i<len→j<e→Aged new (c' i j)) (h:∀ i j,i<len→j<e→Fn0 H k new (d i j) (c' i j)):Fn0 H k new (.slice b off len e) (.fz true new c' len e)
inductive Fn1 (H:EH) (k new:Nat):V→V→Prop where
 | one {v v':V} (h:Fn0 H k new v v'):Fn1 H k new v v'
 | agg {n:Nat} {c c':T V} (d d':Nat→V) (h1:∀ i,i<n→c.get i=some (d i)) (h2:∀ i,i<n→c'.get i=some (d' i)) (hs:∀ i,i<n→fP (d' i)=true) (h:∀ i,i<n→Fn0 H k new (d i) (d' i)):Fn1 H k new (.agg n c) (.agg n c')
inductive FnV (H:EH) (k new:Nat):V→V→Prop where
 | one {v v':V} (h:Fn1 H k new v v'):FnV H k new v v'
 | tup {l l':List V} (hl:l.length=l'.length) (h:∀ i (h1:i<l.length) (h2:i<l'.length),Fn1 H k new l[i] l'[i]):FnV H k new (.tup l) (.tup l')
section
variable {H':EH} {k new:Nat} {R' R2:Ren} {w':World} (hr:Rel R' All H' w')
 (hnew:∀ a r cs,k<a→R'.cz a r=some cs→R2.cz new r=some cs)
 (hobj:∀ b r d o,H'.objs.get b=some o→R'.bm b=some (r,d)→∀ cs t fz,w'.heap[r]?=some (.cells cs t fz)→R2.cz new r=some cs)
include hr hnew hobj
theorem TL {v v':V} (h:Fn0 H' k new v v'):∀ {x:Value},VR R' v x→VR R2 v' x:=by
 induction h with
 | bool b=>intro x hx;cases hx;exact .bool b
 | int kd n=>intro x hx;cases hx;exact .int kd n
 | nilSlice=>intro x hx;cases hx;exact .nilSlice
 | nilS=>intro x hx;cases hx;exact .fzN
 | fz h0 hs ha _ ih =>
  intro x hx
  cases hx with
  | fzN=>exact .fzN
  | fzE h0=>exact .fzE (fun q=>by cases q)
  | fz y hc hl hy hs' ha' hv _=>exact .fz y (hnew _ _ _ h0 hc) hl hy hs ha fun i j hi hj=>ih i j hi hj (hv i j hi hj)
 | slice hb hl hz hd hs ha _ ih =>
  rename_i b off len e lo sz g c d c' h
  intro x hx
  cases hx with
  | slice hm ho hle hzz =>
   rename_i r dd o cap
   obtain ⟨cs,t,fz,a1,a2,a3,a4⟩:=hr.row hb hm trivial
   have hcz:=hobj b r dd _ (dN hb).1 hm cs t fz a1
   by_cases h0:len=0
   ·subst h0;exact .fzE (fun q=>by cases q)
   ·have hcap:cap≠0:=by omega
    have ho':=ho hcap
    have key:∀ i j,i<len→j<e→∃ y,cs[o+(i*e+j)]?=some y∧VR R' (d i j) y:=fun i j hi hj=>by
     have hlt:i*e+j<len*e:=by
      have:(i+1)*e≤len*e:=Nat.mul_le_mul_right _ hi
      rw [Nat.add_mul] at this;omega
     obtain ⟨p,x,y,e1,e2,e3,e4⟩:=a4 (off+(i*e+j)) (by omega) (by omega)
     rw [hd i j hi hj] at e1;cases e1
     rw [show off+(i*e+j)-dd=o+(i*e+j) by omega] at e3
     exact ⟨y,e3,e4⟩
    refine .fz (fun i j=>if h:i<len∧j<e then (key i j h.1 h.2).choose else undef) hcz hle (fun i j hi hj=>?_) hs ha fun i j hi hj=>?_
    ·show _=some (if h:i<len∧j<e then (key i j h.1 h.2).choose else undef)
     rw [dif_pos ⟨hi,hj⟩];exact (key i j hi hj).choose_spec.1
    ·show VR R2 (c' i j) (if h:i<len∧j<e then (key i j h.1 h.2).choose else undef)
     rw [dif_pos ⟨hi,hj⟩];exact ih i j hi hj (key i j hi hj).choose_spec.2
theorem U0 {v v':V} (h:Fn1 H' k new v v') {x:Value} (hx:VR R' v x):VR R2 v' x:=by
 cases h with
 | one h=>exact TL hr hnew hobj h hx
 | agg d d' h1 h2 hs h=>exact hx.agg_as d d' h1 h2 hs fun i hi y hy=>TL hr hnew hobj (h i hi) hy
theorem ZA {v v':V} (h:FnV H' k new v v') {x:Value} (hx:VR R' v x):VR R2 v' x:=by
 cases h with
 | one h=>exact U0 hr hnew hobj h hx
 | tup hl h =>
  cases hx with
  | tup hl' hv=>exact .tup (by omega) fun i h1 h2=>U0 hr hnew hobj (h i (by omega) h1) (hv i (by omega) h2)
end
theorem zY {g:FuncId} {args0:List V} {k:Nat} {v:V} {H':EH} (hs:SpecCall P g args0 (aU (k+1)) v H') {args:List V} {H:EH}
 (hal:∀ R w ys,Rel R All H w→(∀ r,R.cz H.next r=none)→AL R args ys→∃ R0:Ren,(∀ b,R0.bm b=none)∧(∀ a r cs,R0.cz a r=some cs→a≤k∧∃ t fz,w.heap[r]?=some (.cells cs t fz))∧AL R0 args0 ys)
 {v':V} (hF:FnV H' k H.next v v'):SpecCall P g args H v' (bump H):=by
 obtain ⟨n1,hfn,hk⟩:=hs
 refine ⟨Nat.le_succ _,hfn,fun R w args' n hr hw hf ha=>?_⟩
 have hfn0:=hf H.next (Nat.le_refl _) (Nat.lt_succ_self _)
 obtain ⟨R0,hbm,hczk,hal0⟩:=hal R w args' hr hfn0.2 ha
 have hr0:Rel R0 All (aU (k+1)) w:=by
  refine ⟨fun b r d h=>(by rw [hbm] at h;cases h),fun b o r d h=>(by cases h),fun b b' o o' r d d' h=>(by cases h),fun a r cs e=>?_⟩
  exact ⟨(hczk a r cs e).2,fun b d q=>by rw [hbm] at q;cases q⟩
 have hfree:Free R0 (aU (k+1)) H':=fun b h1 _=>⟨hbm b,fun r=>by
  have h1:k+1≤b:=h1
  cases e:R0.cz b r with
  | none=>rfl
  | some cs=>have:=(hczk b r cs e).1;omega⟩
 refine CallsIn.mono (hk R0 w args' n hr0 (uH (k+1)) hfree hal0) fun en w' ⟨x,R',e1,e2,e3⟩=>?_
 have hkeep:∀ r,r<w.heap.size→w'.heap[r]?=w.heap[r]?:=fun r hr=>e3.fr.keep r hr fun b o d ho=>by cases ho
 let R2:Ren:=⟨R.bm,R.zs,fun a r=>if a=H.next then (if w.heap.size≤r then (match w'.heap[r]? with | some (.cells cs _ _)=>some cs | _=>none) else none) else R.cz a r⟩
 have hR2:∀ r cs t fz,w.heap.size≤r→w'.heap[r]?=some (.cells cs t fz)→R2.cz H.next r=some cs:=fun r cs t fz h1 h2=>by
  show (if H.next=H.next then (if w.heap.size≤r then (match w'.heap[r]? with | some (.cells cs _ _)=>some cs | _=>none) else none) else R.cz H.next r)=some cs
  rw [if_pos rfl,if_pos h1,h2]
 have hcz:∀ a r cs,R2.cz a r=some cs→(a≠H.next∧R.cz a r=some cs)∨(a=H.next∧w.heap.size≤r∧∃ t fz,w'.heap[r]?=some (.cells cs t fz)):=fun a r cs e=>by
  have e:(if a=H.next then (if w.heap.size≤r then (match w'.heap[r]? with | some (.cells cs _ _)=>some cs | _=>none) else none) else R.cz a r)=some cs:=e
  split at e
  ·rename_i ea
   split at e
   ·rename_i hz
    split at e
    ·rename_i c t fz hc;cases e;exact .inr ⟨ea,hz,t,fz,hc⟩
    ·cases e
   ·cases e
  ·rename_i ea;exact .inl ⟨ea,e⟩
 have hrel':=SimA.rel e3
 have hv:VR R2 v' x:=by
  refine ZA (R':=R') (R2:=R2) (w':=w') (k:=k) hrel' (fun a r cs ha q=>?_) (fun b r d o ho hb cs t fz q=>?_) hF e2
  ·rcases e3.rx.czn a r cs q with z | z
   ·have:=(hczk a r cs z).1;omega
   ·obtain ⟨⟨t,fz,hc⟩,_⟩:=hrel'.frz a r cs q
    exact hR2 r cs t fz z hc
  ·refine hR2 r cs t fz ?_ q
   have hlt:=e3.wf.lt b o ho
   by_cases hb0:k+1≤b
   ·rcases e3.rx.neu b r d hb0 hlt hb with z | ⟨_,_,_,z,_⟩
    ·exact z
    ·cases z
   ·rw [e3.rx.same b (by show ¬ (k+1≤b∧_);omega),hbm] at hb
    cases hb
 refine ⟨x,R2,e1,hv,⟨⟨Nat.le_succ _,Nat.le_refl _,fun b o h=>⟨o,h,rfl,rfl⟩,fun b o h _=>⟨h,rfl⟩,fun b o h _=>⟨o,h⟩,yN hw,fun g h=>h,fun b o h hb=>absurd (hw.lt b o h) (by omega)⟩,
  ⟨fun _ _=>rfl,fun _ _=>rfl,fun b r d h1 h2 e=>?_,fun a ha=>?_,fun a r cs e=>?_⟩,⟨e3.fr.os,e3.fr.tape,e3.fr.output,e3.fr.size,fun r hr _=>hkeep r hr⟩,
  ⟨fun b r d hb=>Nat.lt_of_lt_of_le (hr.img b r d hb) e3.fr.size,fun b o r d ho hb=>(hr.obj b o r d ho hb).mono (R':=R2) ⟨fun _ _ e=>e,fun _ _ _ _=>rfl,fun a r cs e=>?_⟩ hb (hkeep r (hr.img b r d hb)) (fun _=>trivial) (fun v=>by cases o<;>exact v),hr.inj,fun a r cs e=>?_⟩⟩⟩
 ·have h2:b<H.next+1:=h2
  have:b=H.next:=by omega
  subst this
  have e:R.bm H.next=some (r,d):=e
  rw [hfn0.1] at e;cases e
 ·funext r
  show (if a=H.next then _ else R.cz a r)=R.cz a r
  rw [if_neg (fun q=>ha ⟨by omega,by show a<H.next+1;omega⟩)]
 ·rcases hcz a r cs e with ⟨_,q⟩ | ⟨_,q,_⟩
  ·exact .inl q
  ·exact .inr q
 ·show (if a=H.next then _ else R.cz a r)=some cs
  rw [if_neg (fun q=>by rw [q,hfn0.2 r] at e;cases e)];exact e
 ·rcases hcz a r cs e with ⟨_,q⟩ | ⟨_,q,t,fz,hc⟩
  ·obtain ⟨⟨t,fz,z1⟩,z2⟩:=hr.frz a r cs q
   exact ⟨⟨t,fz,(hkeep r (hr.frz.lt q)).trans z1⟩,z2⟩
  ·refine ⟨⟨t,fz,hc⟩,fun b d z=>?_⟩
   have:=hr.img b r d z
   omega
def abT (n:Nat) (v:V):V:=match v with | .fz _ _ c len e => .fz true n c len e | v=>v
def aaM (n:Nat) (v:V):V:=match v with | .fz _ _ c len e => .fz true n (fun i j=>abT n (c i j)) len e | v=>v
def aan (n:Nat) (l:List V):List V:=List.rec (motive:=fun _=>List V) [] (fun v _ ih=>aaM n v::ih) l
def JD (n:Nat) (v:V):V:=match v with | .tup l => .tup (aan n l) | v=>aaM n v
def WZ (ok:Bool) (n:Nat) (r:Option (Bool×V)):Option (Bool×V):=match r with | some (b,v)=>some (cond ok b false,JD n v) | none=>none
def WJ (P:Program) (g:FuncId) (val:Val):Prop:=∀ das v,val das=some (true,v)→∃ v' H',SpecCall P g (enc das 0) (aU (rJ das 0+1)) v' H'∧∀ new,FnV H' (rJ das 0) new v' (JD new v)
def cfN (val:Val):CF:=fun args H=>match dec args with | some das=>WZ (yA args) H.next (val das) | none=>none
def okO (ok:Bool) (r:Option (Bool×V)):Option (Bool×V):=match r with | some (b,v)=>some (cond ok b false,v) | none=>none
theorem PE {ok:Bool} {n:Nat} {r:Option (Bool×V)} {v:V} (h:WZ ok n r=some (true,v)):∃ v0,r=some (true,v0)∧ok=true∧v=JD n v0:=by
 cases r with
 | none=>cases h
 | some bv =>
  obtain ⟨b,v'⟩:=bv
  have e0:cond ok b false=true:=by injection h with h;injection h
  have e2:JD n v'=v:=by injection h with h;injection h
  obtain ⟨e1,e3⟩:=ah e0
  subst e3
  exact ⟨v',rfl,e1,e2.symm⟩
theorem Gj {g:FuncId} {val:Val} (h:WJ P g val):oK P (g,cfN val):=fun args H v hv=>by
 have hv:(match dec args with | some das=>WZ (yA args) H.next (val das) | none=>none)=some (true,v):=hv
 cases hd:dec args with
 | none=>rw [hd] at hv;cases hv
 | some das =>
  rw [hd] at hv
  obtain ⟨v0,hval,e1,rfl⟩:=PE (show WZ (yA args) H.next (val das)=some (true,v) from hv)
  obtain ⟨v1,H',hs,hvp⟩:=h das v0 hval
  refine zY hs (fun R w ys hr hf0 ha=>?_) (hvp _)
  have h1:=(oL (R:=R) (w:=w) (k:=0+(sJ args).length) (as:=fun n=>(sJ args).getD n 0) (n:=0) hd e1 (fun i hi=>by simp) (Nat.le_refl _))
  rw [← h1.1] at h1
  refine ⟨_,fun b=>rfl,fun a r cs e=>?_,h1.2 ys ha⟩
  rcases kF e with ⟨q,e⟩ | ⟨q,e⟩
  ·exact ⟨by omega,(hr.frz _ _ _ e).1⟩
  ·exact ⟨by omega,e⟩
structure CL where
 (g:FuncId) (das:List DA) (v:V)
def aaF (v v':V):Bool:=match v,v' with
 | .bool x,.bool y=>jk x y
 | .int k x,.int k' y=>cond (jA k k') (bY x y) false
 | .nilSlice,.nilSlice=>true
 | _,_=>false
def rowB (one:V→V→Bool) (H:EH) (v v':V):Bool:=match v,v' with
 | .slice b off len e,.fz _ _ c' len' e'=>cond (Nat.beq len len') (cond (Nat.beq e e') (match H.block b with
  | .mk c lo sz _=>cond (Nat.ble lo off) (cond (Nat.ble (Nat.add off (Nat.mul len e)) sz) (eX (fun i=>eX (fun j=>match c.get (Nat.add off (Nat.add (Nat.mul i e) j)) with | some v=>one v (c' i j) | none=>false) e) len) false) false
  | .no=>false) false) false
 | .nilSlice,.fz _ _ _ len _=>Nat.beq len 0
 | v,v'=>aaF v v'
end
end Go.Ev
/- Contracts whose value is a struct with new rows. -/
namespace Go.Ev
open Go
noncomputable section
variable {P:Program}
def aaT (P:Program) (g:FuncId) (val:Nat→Val):Prop:=∀ das new v,val new das=some (true,v)→∃ v' H',SpecCall P g (enc das 0) (aU (rJ das 0+1)) v' H'∧FnV H' (rJ das 0) new v' v
def cfG (val:Nat→Val):CF:=fun args H=>match dec args with | some das=>okO (yA args) (val H.next das) | none=>none
theorem QX {ok:Bool} {r:Option (Bool×V)} {v:V} (h:okO ok r=some (true,v)):r=some (true,v)∧ok=true:=by
 cases r with
 | none=>cases h
 | some bv =>
  obtain ⟨b,v'⟩:=bv
  have e0:cond ok b false=true:=by injection h with h;injection h
  have e2:v'=v:=by injection h with h;injection h
  obtain ⟨e1,e3⟩:=ah e0
  subst e3;subst e2
  exact ⟨rfl,e1⟩
theorem Xd {g:FuncId} {val:Nat→Val} (h:aaT P g val):oK P (g,cfG val):=fun args H v hv=>by
 have hv:(match dec args with | some das=>okO (yA args) (val H.next das) | none=>none)=some (true,v):=hv
 cases hd:dec args with
 | none=>rw [hd] at hv;cases hv
 | some das =>
  rw [hd] at hv
  obtain ⟨hval,e1⟩:=QX (show okO (yA args) (val H.next das)=some (true,v) from hv)
  obtain ⟨v1,H',hs,hvp⟩:=h das _ v hval
  refine zY hs (fun R w ys hr hf0 ha=>?_) hvp
  have h1:=(oL (R:=R) (w:=w) (k:=0+(sJ args).length) (as:=fun n=>(sJ args).getD n 0) (n:=0) hd e1 (fun i hi=>by simp) (Nat.le_refl _))
  rw [← h1.1] at h1
  refine ⟨_,fun b=>rfl,fun a r cs e=>?_,h1.2 ys ha⟩
  rcases kF e with ⟨q,e⟩ | ⟨q,e⟩
  ·exact ⟨by omega,(hr.frz _ _ _ e).1⟩
  ·exact ⟨by omega,e⟩
def aJ (P:Program) (X:Ext) (n:Nat) (g:FuncId) (args:List V) (k:Nat) (φ:V→EH→Prop):D:=evK P kD X (.leaf False) n (.call g args (aU (k+1))) (fun r=>match r with | .v v H => .leaf (φ v H) | _ => .leaf False)
theorem aY (hD:bi P) {X:Ext} (hX:dM P X) {n:Nat} {g:FuncId} {args:List V} {k:Nat} {φ:V→EH→Prop} {h:HT} (hv:VC (aJ P X n g args k φ) h):∃ v H',SpecCall P g args (aU (k+1)) v H'∧φ v H':=by
 have hv:=kz _ _ hv.ok
 unfold aJ at hv
 rw [pF (B:=kD) (φ:=den) (fun _ _ _=>rfl) (fun _ _=>rfl)] at hv
 cases hr:ev P X n (.call g args (aU (k+1))) with
 | none=>rw [hr] at hv;exact hv.elim
 | some r =>
  rw [hr] at hv
  cases r with
  | v v H'=>exact ⟨v,H',EW hD hX hr,hv⟩
  | _=>exact hv.elim
def MF (k:Nat) (v:V) (len:Nat) (f:Nat→Nat→Int):Prop:=match v with | .fz q a c l e=>cond (Nat.blt k a) (V.fz q a c l e=V.fz q a (ae .i64 f) len 1) False | _=>False
theorem Fb {H:EH} {k:Nat} {v:V} {len:Nat} {f:Nat→Nat→Int} (h:MF k v len f) (new:Nat):Fn0 H k new v (.fz true new (ae .i64 f) len 1):=by
 unfold MF at h
 split at h
 ·rename_i q a c l e
  cases hb:Nat.blt k a with
  | false=>rw [hb] at h;exact h.elim
  | true =>
   rw [hb] at h
   have h:V.fz q a c l e=V.fz q a (ae .i64 f) len 1:=h
   rw [h]
   exact .fz (bZ hb) (fun _ _ _ _=>rfl) (fun _ _ _ _ => .int _ _) (fun _ _ _ _ => .int _ _)
 ·exact h.elim
def Gg (k:Nat) (c:T V) (off len:Nat) (ls:Nat→Nat) (f:Nat→Nat→Nat→Int):Nat→Prop :=
 Nat.rec (motive:=fun _=>Nat→Prop) (fun _=>True) (fun _ ih i=>(match c.get (Nat.add off i) with | some v=>MF k v (ls i) (f i) | none=>False)∧ih (Nat.succ i)) len
theorem IE {k:Nat} {c:T V} {off:Nat} {ls:Nat→Nat} {f:Nat→Nat→Nat→Int}:∀ {len i:Nat},Gg k c off len ls f i→∀ j,j<len→∃ v,c.get (off+(i+j))=some v∧MF k v (ls (i+j)) (f (i+j)):=by
 intro len
 induction len with
 | zero=>intro i h j hj;omega
 | succ len ih =>
  intro i h j hj
  obtain ⟨h1,h2⟩:=(show (match c.get (Nat.add off i) with | some v=>MF k v (ls i) (f i) | none=>False)∧Gg k c off len ls f (i+1) from h)
  cases j with
  | zero =>
   cases hc:c.get (Nat.add off i) with
   | none=>rw [hc] at h1;exact h1.elim
   | some v=>rw [hc] at h1;exact ⟨v,rfl,h1⟩
  | succ j =>
   obtain ⟨v,e1,e2⟩:=ih h2 j (by omega)
   rw [show i+1+j=i+(j+1) by omega] at e1 e2
   exact ⟨v,e1,e2⟩
def Ll (k:Nat) (H:EH) (v:V) (n:Nat) (ls:Nat→Nat) (f:Nat→Nat→Nat→Int):Prop:=match v with
 | .nilSlice=>Int.ofNat n=Int.ofNat 0
 | .slice b off len e=>(Int.ofNat len=Int.ofNat n)∧(match H.block b with | .mk c lo sz _=>cond (Nat.beq e 1) (cond (Nat.ble lo off) (cond (Nat.ble (Nat.add off len) sz) (Gg k c off len ls f 0) False) False) False | .no=>False)
 | _=>False
theorem bF {b:Bool} {p:Prop} (h:cond b p False):b=true∧p:=by
 cases b with
 | true=>exact ⟨rfl,h⟩
 | false=>exact h.elim
def Kv (P:Program) (X:Ext) (N:Nat) (p:List Nat) (c:Code) (base:EH) (lt:LT) (n:Nat) (s:LS) (base2:EH) (lt2:LT) (M2:Nat) (s2:LS):D :=
 oM P kD X (.leaf False) N none p c ⟨kS (lF lt.ts s.l),n,[]⟩ (dE base lt.B s.rows) (fun a H => .leaf (Xz base2 lt2 n M2 s2 a H))
def uy (P:Program) (X:Ext) (N:Nat) (p:List Nat) (c:Code) (base:EH) (lt:LT) (n M:Nat) (lv:Lv) (base2:EH) (lt2:LT) (M2:Nat) (lv2:Lv):D :=
 iM P kD X (.leaf False) N none p c (lv2.res lt2 n (iw base2 lt2 M2 lv2)) (fun r => .leaf (IC base lt n M lv r))
theorem FM (hD:bi P) {X:Ext} (hX:dM P X) {N:Nat} {base base2:EH} {lt lt2:LT} {n M M2:Nat} {c:Code} {s s2:LS} {lv lv2:Lv} {p:List Nat} {h h':HT}
 (hok:QC base lt n M=true) (hl:Nat.beq (jm s.rows) (Nat.sub base.next lt.B)=true) (he:VC (Kv P X N p c base lt n s base2 lt2 M2 s2) h') (hL:JL P base2 lt2 n M2 none (sub p c) s2 lv2) (hv:VC (uy P X N p c base lt n M lv base2 lt2 M2 lv2) h):JL P base lt n M none c s lv:=by
 obtain ⟨a1,H1,q1,q2⟩:=qU p (kz _ _ he.ok)
 obtain ⟨e1,e2⟩:=(show Em H1 base2∧cond (Ei base2 lt2 n M2 a1) (Hy base2 lt2 a1 s2) False from q2)
 have e1:=vM e1
 subst e1
 obtain ⟨e3,e4⟩:=bF e2
 obtain ⟨k1,k2⟩:=ah e3
 obtain ⟨k2,k3⟩:=ah k2
 unfold Hy at e4
 cases hrw:rowsOf H1 H1.next (Nat.sub H1.next lt2.B) lt2.B with
 | none=>rw [hrw] at e4;exact e4.elim
 | some rows =>
  rw [hrw] at e4
  have e4:(⟨gG a1 lt2.ts,rows⟩:LS)=s2:=su e4
  subst e4
  have hJ:=JQ hL k1 hrw (nb k2) (lN k3) rfl
  obtain ⟨r,j1,j2⟩:=wM hD hX p q1 (IC base lt n M lv) hJ (kz _ _ hv.ok)
  exact X5 hok ((rq _).symm.trans (nb hl)) j1 (GV j2)
theorem O9 {H:EH} {k:Nat} {v:V} {n:Nat} {ls:Nat→Nat} {f:Nat→Nat→Nat→Int} (h:Ll k H v n ls f) (new:Nat):Fn0 H k new v (.fz true new (aQ new 1 ls f) n 1):=by
 unfold Ll at h
 split at h
 ·have h:n=0:=by injection h
  subst h
  exact .nilS
 ·rename_i b off len e
  obtain ⟨h1,h2⟩:=h
  have h1:len=n:=by injection h1
  subst h1
  split at h2
  ·rename_i c lo sz g hb
   obtain ⟨q1,h3⟩:=bF h2
   clear h2
   obtain ⟨q2,h4⟩:=bF h3
   clear h3
   obtain ⟨q3,h5⟩:=bF h4
   clear h4
   have:=nb q1;subst this
   have q2:=Nat.le_of_ble_eq_true q2
   have q3:off+len≤sz:=Nat.le_of_ble_eq_true q3
   have hg:=fun j hj=>IE h5 j hj
   refine .slice (d:=fun i _=>getD' c (off+i)) hb q2 (by omega) (fun i j hi hj=>?_) (fun _ _ _ _=>rfl) (fun i j hi hj=>?_) (fun i j hi hj=>?_)
   ·have:j=0:=by omega
    subst this
    obtain ⟨v,e1,_⟩:=hg i hi
    rw [show off+(i*1+0)=off+(0+i) by omega,e1]
    unfold getD'
    rw [show off+i=off+(0+i) by omega,e1]
   ·exact .fz _ (Nat.le_refl _) fun _ _ _ _ => .int _ _
   ·obtain ⟨v,e1,e2⟩:=hg i hi
    have e3:getD' c (off+i)=v:=by
     unfold getD'
     rw [show off+i=off+(0+i) by omega,e1]
    rw [e3]
    rw [Nat.zero_add] at e2
    exact Fb e2 new
  ·exact h2.elim
 ·exact h.elim
def pW (k:Nat) (lw:Nat) (fw:Nat→Nat→Int) (lm:Nat) (fm:Nat→Nat→Int) (n:Nat) (ls:Nat→Nat) (f:Nat→Nat→Nat→Int) (v:V) (H:EH):Prop:=match v with
 | .agg m c=>cond (Nat.beq m 3) (match c.get 0,c.get 1,c.get 2 with | some a,some b,some d=>MF k a lw fw∧MF k b lm fm∧Ll k H d n ls f | _,_,_=>False) False
 | _=>False
theorem UO {H:EH} {k:Nat} {v:V} {lw:Nat} {fw:Nat→Nat→Int} {lm:Nat} {fm:Nat→Nat→Int} {n:Nat} {ls:Nat→Nat} {f:Nat→Nat→Nat→Int} (h:pW k lw fw lm fm n ls f v H) (new:Nat) :
 FnV H k new v (.agg 3 (T.setL .lf 0 [.fz true new (ae .i64 fw) lw 1,.fz true new (ae .i64 fm) lm 1,.fz true new (aQ new 1 ls f) n 1])):=by
 unfold pW at h
 split at h
 ·rename_i m c
  obtain ⟨q1,h⟩:=bF h
  have:=nb q1;subst this
  cases h0:c.get 0 with
  | none=>rw [h0] at h;exact h.elim
  | some a =>
  cases h1:c.get 1 with
  | none=>rw [h0,h1] at h;exact h.elim
  | some b =>
  cases h2:c.get 2 with
  | none=>rw [h0,h1,h2] at h;exact h.elim
  | some d =>
   rw [h0,h1,h2] at h
   obtain ⟨p1,p2,p3⟩:=h
   refine .one (.agg (fun i=>[a,b,d].getD i .bad) (fun i=>([.fz true new (ae .i64 fw) lw 1,.fz true new (ae .i64 fm) lm 1,.fz true new (aQ new 1 ls f) n 1]:List V).getD i .bad) (fun i hi=>?_) (fun i hi=>?_) (fun i hi=>?_) (fun i hi=>?_))
   ·have:i=0∨i=1∨i=2:=by omega
    rcases this with rfl | rfl | rfl
    ·exact h0
    ·exact h1
    ·exact h2
   ·have:i=0∨i=1∨i=2:=by omega
    rcases this with rfl | rfl | rfl<;>rfl
   ·have:i=0∨i=1∨i=2:=by omega
    rcases this with rfl | rfl | rfl<;>rfl
   ·have:i=0∨i=1∨i=2:=by omega
    rcases this with rfl | rfl | rfl
    ·exact Fb p1 new
    ·exact Fb p2 new
    ·exact O9 p3 new
 ·exact h.elim
end
end Go.Ev
/- Contracts whose values hold rows of the arguments, as they are, and new ones: the value is said by data. -/
namespace Go.Ev
open Go
noncomputable section
variable {P:Program}
inductive S0 where
 | old (d:D0) (a:Nat)
 | new (d:D0)
inductive S1 where
 | one (s:S0)
 | ag (l:List S0)
inductive SV where
 | one (s:S1)
 | tup (l:List S1)
def Gt (l:List Nat):Nat→Nat:=List.rec (motive:=fun _=>Nat→Nat) (fun _=>0) (fun x _ ih i=>match i with | 0=>x | Nat.succ i=>ih i) l
theorem O5:∀ (l:List Nat) (i:Nat),Gt l i=l.getD i 0
 | [],i=>by simp [Gt]
 | x::l,0=>rfl
 | x::l,i+1=>by
  show Gt l i=_
  rw [O5 l i];simp
def Qn (as:Nat→Nat) (nw:Nat) (s:S0):V:=match s with | .old d a=>KR d (as a) | .new d=>KR d nw
def zZ (as:Nat→Nat) (nw:Nat) (l:List S0):List V:=List.rec (motive:=fun _=>List V) [] (fun s _ ih=>Qn as nw s::ih) l
def Xi (as:Nat→Nat) (nw:Nat) (s:S1):V:=match s with | .one s=>Qn as nw s | .ag l => .agg (jm l) (T.setL .lf 0 (zZ as nw l))
def Ik (as:Nat→Nat) (nw:Nat) (l:List S1):List V:=List.rec (motive:=fun _=>List V) [] (fun s _ ih=>Xi as nw s::ih) l
def Wv (as:Nat→Nat) (nw:Nat) (s:SV):V:=match s with | .one s=>Xi as nw s | .tup l => .tup (Ik as nw l)
def Oy (c:T V) (g:Nat→Int) (e:Nat):Nat→Nat→Prop :=
 Nat.rec (motive:=fun _=>Nat→Nat→Prop) (fun _ _=>True) (fun _ ih p j=>(match c.get p with | some v=>oV v (.int .i64 (g j)) | none=>False)∧ih (Nat.succ p) (Nat.succ j)) e
theorem P8 {c:T V} {g:Nat→Int}:∀ {e p j:Nat},Oy c g e p j→∀ k,k<e→c.get (p+k)=some (.int .i64 (g (j+k))):=by
 intro e
 induction e with
 | zero=>intro p j _ k hk;omega
 | succ e ih =>
  intro p j h k hk
  obtain ⟨h1,h2⟩:=(show (match c.get p with | some v=>oV v (.int .i64 (g j)) | none=>False)∧Oy c g e (p+1) (j+1) from h)
  cases k with
  | zero =>
   cases hc:c.get p with
   | none=>rw [hc] at h1;exact h1.elim
   | some v=>rw [hc] at h1;first | (rw [Nat.add_zero,hc,gI h1];rfl) | (rw [gI h1];rfl)
  | succ k =>
   have:=ih h2 k (by omega)
   rw [show p+(k+1)=p+1+k by omega,show j+(k+1)=j+1+k by omega];exact this
def MM (c:T V) (e:Nat) (f:Nat→Nat→Int) (len:Nat):Nat→Nat→Prop :=
 Nat.rec (motive:=fun _=>Nat→Nat→Prop) (fun _ _=>True) (fun _ ih p i=>Oy c (f i) e p 0∧ih (Nat.add p e) (Nat.succ i)) len
theorem AY {c:T V} {e:Nat} {f:Nat→Nat→Int}:∀ {len p i:Nat},MM c e f len p i→∀ k j,k<len→j<e→c.get (p+(k*e+j))=some (.int .i64 (f (i+k) j)):=by
 intro len
 induction len with
 | zero=>intro p i _ k j hk;omega
 | succ len ih =>
  intro p i h k j hk hj
  obtain ⟨h1,h2⟩:=(show Oy c (f i) e p 0∧MM c e f len (p+e) (i+1) from h)
  cases k with
  | zero =>
   have:=P8 h1 j hj
   rw [Nat.zero_add] at this
   rw [Nat.zero_mul,Nat.zero_add];exact this
  | succ k =>
   have:=ih h2 k j (by omega) hj
   rw [show p+((k+1)*e+j)=p+e+(k*e+j) by rw [Nat.add_mul];omega,show i+(k+1)=i+1+k by omega];exact this
def dw (k:Nat) (H:EH) (v:V) (len e:Nat) (f:Nat→Nat→Int):Prop:=match v with
 | .nilSlice=>Int.ofNat 0=Int.ofNat len
 | .fz q a c l e'=>cond (Nat.blt k a) (V.fz q a c l e'=V.fz q a (ae .i64 f) len e) False
 | .slice b off l e'=>(Int.ofNat l=Int.ofNat len)∧(match H.block b with | .mk c lo sz _=>cond (Nat.beq e' e) (cond (Nat.ble lo off) (cond (Nat.ble (Nat.add off (Nat.mul l e)) sz) (MM c e f l off 0) False) False) False | .no=>False)
 | _=>False
def RV (k:Nat) (H:EH) (c:T V) (e:Nat) (ls:Nat→Nat) (f:Nat→Nat→Nat→Int) (len:Nat):Nat→Nat→Prop :=
 Nat.rec (motive:=fun _=>Nat→Nat→Prop) (fun _ _=>True) (fun _ ih p i=>(match c.get p with | some v=>dw k H v (ls i) e (f i) | none=>False)∧ih (Nat.succ p) (Nat.succ i)) len
theorem Ep {k:Nat} {H:EH} {c:T V} {e:Nat} {ls:Nat→Nat} {f:Nat→Nat→Nat→Int}:∀ {len p i:Nat},RV k H c e ls f len p i→∀ j,j<len→∃ v,c.get (p+j)=some v∧dw k H v (ls (i+j)) e (f (i+j)):=by
 intro len
 induction len with
 | zero=>intro p i _ j hj;omega
 | succ len ih =>
  intro p i h j hj
  obtain ⟨h1,h2⟩:=(show (match c.get p with | some v=>dw k H v (ls i) e (f i) | none=>False)∧RV k H c e ls f len (p+1) (i+1) from h)
  cases j with
  | zero =>
   cases hc:c.get p with
   | none=>rw [hc] at h1;exact h1.elim
   | some v=>rw [hc] at h1;exact ⟨v,(by first | exact hc | rfl),h1⟩
  | succ j =>
   obtain ⟨v,e1,e2⟩:=ih h2 j (by omega)
   exact ⟨v,by rw [show p+(j+1)=p+1+j by omega];exact e1,by rw [show i+(j+1)=i+1+j by omega];exact e2⟩
def N7 (k:Nat) (H:EH) (v:V) (len e:Nat) (ls:Nat→Nat) (f:Nat→Nat→Nat→Int):Prop:=match v with
 | .nilSlice=>Int.ofNat 0=Int.ofNat len
 | .fz q a c l e'=>cond (Nat.blt k a) (V.fz q a c l e'=V.fz q a (aQ a e ls f) len 1) False
 | .slice b off l e'=>(Int.ofNat l=Int.ofNat len)∧(match H.block b with | .mk c lo sz _=>cond (Nat.beq e' 1) (cond (Nat.ble lo off) (cond (Nat.ble (Nat.add off l) sz) (RV k H c e ls f l off 0) False) False) False | .no=>False)
 | _=>False
def D6 (a k:Nat) (v v':V):Prop:=match v,v' with
 | .fz q b c l e,.fz _ _ c' l' e'=>cond (Nat.beq b a) (cond (Nat.blt a k) (V.fz q b c l e=V.fz q b c' l' e') False) False
 | _,_=>False
def aab (k:Nat) (v:V) (d:D0) (a:Nat):Prop:=match d with
 | .i kd n=>oV v (.int kd n)
 | .b x=>oV v (.bool x)
 | .sl e len f=>D6 a k v (.fz true a (ae .i64 f) len e)
 | .rr e len ls f=>D6 a k v (.fz true a (aQ a e ls f) len 1)
def abn (k:Nat) (H:EH) (v:V) (d:D0):Prop:=match d with
 | .i kd n=>oV v (.int kd n)
 | .b x=>oV v (.bool x)
 | .sl e len f=>dw k H v len e f
 | .rr e len ls f=>N7 k H v len e ls f
def isS0 (k:Nat) (H:EH) (v:V) (s:S0):Prop:=match s with | .old d a=>aab k v d a | .new d=>abn k H v d
def Za (k:Nat) (H:EH) (c:T V) (l:List S0):Nat→Prop:=List.rec (motive:=fun _=>Nat→Prop) (fun _=>True) (fun s _ ih i=>(match c.get i with | some v=>isS0 k H v s | none=>False)∧ih (Nat.succ i)) l
def ZP (k:Nat) (H:EH) (v:V) (l:List S0):Prop:=match v with | .agg n c=>cond (Nat.beq n (jm l)) (Za k H c l 0) False | _=>False
def Tm (k:Nat) (H:EH) (v:V) (s:S1):Prop:=match s with
 | .one s=>isS0 k H v s
 | .ag l=>ZP k H v l
def Ug (k:Nat) (H:EH) (vs:List V):List S1→Prop:=List.rec (motive:=fun _=>List S1→Prop) (fun m=>match m with | []=>True | _=>False) (fun v _ ih m=>match m with | s::m=>Tm k H v s∧ih m | []=>False) vs
def ZI (k:Nat) (H:EH) (v:V) (l:List S1):Prop:=match v with | .tup vs=>Ug k H vs l | _=>False
def fV (k:Nat) (H:EH) (v:V) (s:SV):Prop:=match s with
 | .one s=>Tm k H v s
 | .tup l=>ZI k H v l
theorem FO {q q':Bool} {a a':Nat} {c c':Nat→Nat→V} {l l' e e':Nat} (h:V.fz q a c l e=V.fz q' a' c' l' e'):a=a'∧c=c'∧l=l'∧e=e':=by
 injection h with h1 h2 h3 h4 h5
 exact ⟨h2,h3,h4,h5⟩
theorem GG (d:D0) (a:Nat):fP (KR d a)=true:=by cases d<;>rfl
theorem Nh {k:Nat} {H:EH} {v:V} {len e:Nat} {f:Nat→Nat→Int} (h:dw k H v len e f) (as:Nat→Nat) (new:Nat):Fr0 H k as new v (.fz true new (ae .i64 f) len e):=by
 unfold dw at h
 split at h
 ·have h:(0:Nat)=len:=by injection h
  subst h
  exact .nilS
 ·obtain ⟨h1,h2⟩:=bF h
  obtain ⟨_,rfl,rfl,rfl⟩:=FO h2
  have h1:=bZ h1
  exact .fz (by omega) (fun q=>by omega) (fun _=>rfl) (fun _ _ _ _=>rfl) (fun _ _ _ _ => .int _ _) (fun _ _ _ _ => .int _ _)
 ·rename_i b off l e'
  obtain ⟨h1,h2⟩:=h
  have h1:l=len:=by injection h1
  subst h1
  split at h2
  ·rename_i c lo sz g hb
   obtain ⟨q1,h3⟩:=bF h2
   clear h2
   obtain ⟨q2,h4⟩:=bF h3
   clear h3
   obtain ⟨q3,h5⟩:=bF h4
   clear h4
   have:=nb q1
   subst this
   have q2:=Nat.le_of_ble_eq_true q2
   have q3:off+l*e'≤sz:=Nat.le_of_ble_eq_true q3
   refine .slice (d:=ae .i64 f) hb q2 q3 (fun i j hi hj=>?_) (fun _ _ _ _=>rfl) (fun _ _ _ _ => .int _ _) (fun _ _ _ _ => .int _ _)
   have:=AY h5 i j hi hj
   rw [Nat.zero_add] at this
   exact this
  ·exact h2.elim
 ·exact h.elim
theorem Vu {k:Nat} {H:EH} {v:V} {len e:Nat} {ls:Nat→Nat} {f:Nat→Nat→Nat→Int} (h:N7 k H v len e ls f) (as:Nat→Nat) (new:Nat):Fr0 H k as new v (.fz true new (aQ new e ls f) len 1):=by
 unfold N7 at h
 split at h
 ·have h:(0:Nat)=len:=by injection h
  subst h
  exact .nilS
 ·obtain ⟨h1,h2⟩:=bF h
  obtain ⟨_,rfl,rfl,rfl⟩:=FO h2
  have h1:=bZ h1
  exact .fz (by omega) (fun q=>by omega) (fun _=>rfl) (fun _ _ _ _=>rfl) (fun _ _ _ _ => .fz _ (Nat.le_refl _) fun _ _ _ _ => .int _ _)
   (fun _ _ _ _ => .fz (by omega) (fun q=>by omega) (fun _=>rfl) (fun _ _ _ _=>rfl) (fun _ _ _ _ => .int _ _) (fun _ _ _ _ => .int _ _))
 ·rename_i b off l e'
  obtain ⟨h1,h2⟩:=h
  have h1:l=len:=by injection h1
  subst h1
  split at h2
  ·rename_i c lo sz g hb
   obtain ⟨q1,h3⟩:=bF h2
   clear h2
   obtain ⟨q2,h4⟩:=bF h3
   clear h3
   obtain ⟨q3,h5⟩:=bF h4
   clear h4
   have:=nb q1
   subst this
   have q2:=Nat.le_of_ble_eq_true q2
   have q3:off+l≤sz:=Nat.le_of_ble_eq_true q3
   refine .slice (d:=fun i _=>getD' c (off+i)) hb q2 (by omega) (fun i j hi hj=>?_) (fun _ _ _ _=>rfl) (fun _ _ _ _ => .fz _ (Nat.le_refl _) fun _ _ _ _ => .int _ _) (fun i j hi hj=>?_)
   ·have:j=0:=by omega
    subst this
    obtain ⟨v,e1,_⟩:=Ep h5 i hi
    rw [show off+(i*1+0)=off+i by omega,e1]
    unfold getD'
    rw [e1]
   ·obtain ⟨v,e1,e2⟩:=Ep h5 i hi
    rw [Nat.zero_add] at e2
    have e3:getD' c (off+i)=v:=by
     unfold getD'
     rw [e1]
    show Fr0 H k as new (getD' c (off+i)) _
    rw [e3]
    exact Nh e2 as new
  ·exact h2.elim
 ·exact h.elim
theorem Ea {a k:Nat} {v:V} {c':Nat→Nat→V} {l' e':Nat} (h:D6 a k v (.fz true a c' l' e')):∃ q,v = .fz q a c' l' e'∧a<k:=by
 unfold D6 at h
 split at h
 ·rename_i q b c l e q0 a0 c0 l0 e0 he
  obtain ⟨rfl,rfl,rfl,rfl⟩:=FO he
  obtain ⟨h1,h3⟩:=bF h
  clear h
  obtain ⟨h2,h4⟩:=bF h3
  clear h3
  have:=nb h1
  subst this
  exact ⟨q,h4,bZ h2⟩
 ·exact h.elim
theorem OO {k:Nat} {H:EH} {v:V} {s:S0} (h:isS0 k H v s) (as:Nat→Nat) (new:Nat):Fr0 H k as new v (Qn as new s):=by
 cases s with
 | old d a =>
  cases d with
  | i kd n=>have:=gI (show oV v (.int kd n) from h);subst this;exact .int _ _
  | b x=>have:=gI (show oV v (.bool x) from h);subst this;exact .bool _
  | sl e len f =>
   obtain ⟨q,rfl,hk⟩:=Ea (show D6 a k v (.fz true a (ae .i64 f) len e) from h)
   exact .fz (by omega) (fun _=>rfl) (fun q=>by omega) (fun _ _ _ _=>rfl) (fun _ _ _ _ => .int _ _) (fun _ _ _ _ => .int _ _)
  | rr e len ls f =>
   obtain ⟨q,rfl,hk⟩:=Ea (show D6 a k v (.fz true a (aQ a e ls f) len 1) from h)
   exact .fz (by omega) (fun _=>rfl) (fun q=>by omega) (fun _ _ _ _=>rfl) (fun _ _ _ _ => .fz _ (Nat.le_refl _) fun _ _ _ _ => .int _ _)
    (fun _ _ _ _ => .fz (by omega) (fun _=>rfl) (fun q=>by omega) (fun _ _ _ _=>rfl) (fun _ _ _ _ => .int _ _) (fun _ _ _ _ => .int _ _))
 | new d =>
  cases d with
  | i kd n=>have:=gI (show oV v (.int kd n) from h);subst this;exact .int _ _
  | b x=>have:=gI (show oV v (.bool x) from h);subst this;exact .bool _
  | sl e len f=>exact Nh (show dw k H v len e f from h) as new
  | rr e len ls f=>exact Vu (show N7 k H v len e ls f from h) as new
theorem H5 (as:Nat→Nat) (new:Nat):∀ l:List S0,(zZ as new l).length=l.length
 | []=>rfl
 | s::l=>by show (zZ as new l).length+1=_;rw [H5 as new l];rfl
theorem Ib (as:Nat→Nat) (new:Nat):∀ (l:List S0) (i:Nat) (h:i<l.length),(zZ as new l)[i]?=some (Qn as new l[i])
 | s::l,0,_=>rfl
 | s::l,i+1,h=>by
  show (zZ as new l)[i]?=_
  rw [Ib as new l i (by simpa using h)];rfl
theorem N9 {α:Type}:∀ l:List α,jm l=l.length
 | []=>rfl
 | x::l=>by show jm l+1=_;rw [N9 l];rfl
theorem Ip {k:Nat} {H:EH} {c:T V}:∀ {l:List S0} {p:Nat},Za k H c l p→∀ i (h:i<l.length),∃ v,c.get (p+i)=some v∧isS0 k H v l[i]:=by
 intro l
 induction l with
 | nil=>intro p _ i h;cases h
 | cons s l ih =>
  intro p h i hi
  obtain ⟨h1,h2⟩:=(show (match c.get p with | some v=>isS0 k H v s | none=>False)∧Za k H c l (p+1) from h)
  cases i with
  | zero =>
   cases hc:c.get p with
   | none=>rw [hc] at h1;exact h1.elim
   | some v=>rw [hc] at h1;exact ⟨v,(by first | exact hc | rfl),h1⟩
  | succ i =>
   obtain ⟨v,e1,e2⟩:=ih h2 i (by simpa using hi)
   exact ⟨v,by rw [show p+(i+1)=p+1+i by omega];exact e1,e2⟩
theorem NI {k:Nat} {H:EH} {v:V} {s:S1} (h:Tm k H v s) (as:Nat→Nat) (new:Nat):Frz1 H k as new v (Xi as new s):=by
 cases s with
 | one s=>exact .one (OO h as new)
 | ag l =>
  have h:ZP k H v l:=h
  unfold ZP at h
  split at h
  ·rename_i n c h0
   obtain ⟨h1,h2⟩:=bF h
   clear h
   have:=nb h1
   subst this
   show Frz1 H k as new (.agg (jm l) c) (.agg (jm l) (T.setL .lf 0 (zZ as new l)))
   rw [N9]
   have e2:∀ i,i<l.length→(T.setL .lf 0 (zZ as new l)).get i=some (getD' (T.setL .lf 0 (zZ as new l)) i)∧∃ hi:i<l.length,getD' (T.setL .lf 0 (zZ as new l)) i=Qn as new l[i]:=fun i hi=>by
    have:(T.setL .lf 0 (zZ as new l)).get i=some (Qn as new l[i]):=by
     rw [T.get_setL,if_pos ⟨Nat.zero_le _,by rw [H5];omega⟩,Nat.sub_zero,Ib as new l i hi]
    unfold getD'
    rw [this]
    exact ⟨rfl,hi,rfl⟩
   refine .agg (fun i=>getD' c i) (fun i=>getD' (T.setL .lf 0 (zZ as new l)) i) (fun i hi=>?_) (fun i hi=>(e2 i hi).1) (fun i hi=>?_) (fun i hi=>?_)
   ·obtain ⟨v,e1,_⟩:=Ip h2 i hi
    rw [Nat.zero_add] at e1
    unfold getD'
    rw [e1]
   ·obtain ⟨_,q⟩:=(e2 i hi).2
    rw [q]
    cases l[i] with
    | old d a=>exact GG d _
    | new d=>exact GG d _
   ·obtain ⟨_,q⟩:=(e2 i hi).2
    obtain ⟨v,e1,e3⟩:=Ip h2 i hi
    rw [Nat.zero_add] at e1
    show Fr0 H k as new (getD' c i) _
    rw [q]
    unfold getD'
    rw [e1]
    exact OO e3 as new
  ·exact h.elim
theorem PQ {k:Nat} {H:EH}:∀ {vs:List V} {l:List S1},Ug k H vs l→vs.length=l.length∧∀ i (h1:i<vs.length) (h2:i<l.length),Tm k H vs[i] l[i]:=by
 intro vs
 induction vs with
 | nil =>
  intro l h
  cases l with
  | nil=>exact ⟨rfl,fun i h=>by cases h⟩
  | cons s l=>exact (show False from h).elim
 | cons v vs ih =>
  intro l h
  cases l with
  | nil=>exact (show False from h).elim
  | cons s l =>
   obtain ⟨h1,h2⟩:=(show Tm k H v s∧Ug k H vs l from h)
   obtain ⟨e1,e2⟩:=ih h2
   refine ⟨by simp [e1],fun i hi1 hi2=>?_⟩
   cases i with
   | zero=>exact h1
   | succ i=>exact e2 i (by simpa using hi1) (by simpa using hi2)
theorem xA (as:Nat→Nat) (new:Nat):∀ l:List S1,(Ik as new l).length=l.length
 | []=>rfl
 | s::l=>by show (Ik as new l).length+1=_;rw [xA as new l];rfl
theorem Dx (as:Nat→Nat) (new:Nat):∀ (l:List S1) (i:Nat) (h:i<(Ik as new l).length) (h2:i<l.length),(Ik as new l)[i]=Xi as new l[i]
 | s::l,0,_,_=>rfl
 | s::l,i+1,h,h2=>Dx as new l i (by simpa [xA] using h2) (by simpa using h2)
theorem XD {k:Nat} {H:EH} {v:V} {s:SV} (h:fV k H v s) (as:Nat→Nat) (new:Nat):FrV H k as new v (Wv as new s):=by
 cases s with
 | one s=>exact .one (NI h as new)
 | tup l =>
  have h:ZI k H v l:=h
  unfold ZI at h
  split at h
  ·rename_i vs
   obtain ⟨h1,h2⟩:=PQ h
   refine .tup (by rw [xA];exact h1) fun i hi1 hi2=>?_
   rw [Dx as new l i hi2 (by omega)]
   exact NI (h2 i hi1 (by omega)) as new
  ·exact h.elim
abbrev Cf:=List DA→Option (Bool×SV)
def Jj (P:Program) (g:FuncId) (val:Cf):Prop:=∀ das s,val das=some (true,s)→∃ v' H',SpecCall P g (enc das 0) (aU (rJ das 0+1)) v' H'∧fV (rJ das 0) H' v' s
def okS (ok:Bool) (as:Nat→Nat) (nw:Nat) (r:Option (Bool×SV)):Option (Bool×V):=match r with | some (b,s)=>some (cond ok b false,Wv as nw s) | none=>none
def cfS (val:Cf):CF:=fun args H=>match dec args with | some das=>okS (yA args) (Gt (sJ args)) H.next (val das) | none=>none
theorem SG {ok:Bool} {as:Nat→Nat} {nw:Nat} {r:Option (Bool×SV)} {v:V} (h:okS ok as nw r=some (true,v)):∃ s,r=some (true,s)∧ok=true∧v=Wv as nw s:=by
 cases r with
 | none=>cases h
 | some bv =>
  obtain ⟨b,s⟩:=bv
  have e0:cond ok b false=true:=by injection h with h;injection h
  have e2:Wv as nw s=v:=by injection h with h;injection h
  obtain ⟨e1,e3⟩:=ah e0
  subst e3
  exact ⟨s,rfl,e1,e2.symm⟩
theorem oW {g:FuncId} {val:Cf} (h:Jj P g val):oK P (g,cfS val):=fun args H v hv=>by
 have hv:(match dec args with | some das=>okS (yA args) (Gt (sJ args)) H.next (val das) | none=>none)=some (true,v):=hv
 cases hd:dec args with
 | none=>rw [hd] at hv;cases hv
 | some das =>
  rw [hd] at hv
  obtain ⟨s,hval,e1,rfl⟩:=SG (show okS (yA args) (Gt (sJ args)) H.next (val das)=some (true,v) from hv)
  obtain ⟨v1,H',hs,hvp⟩:=h das s hval
  have key:∀ (R:Ren) (w:World),rJ das 0=0+(sJ args).length∧∀ ys,AL R args ys→AL (kR R w (rJ das 0) (Gt (sJ args))) (enc das 0) ys:=fun R w=>by
   have h1:=(oL (R:=R) (w:=w) (k:=0+(sJ args).length) (as:=Gt (sJ args)) (n:=0) hd e1 (fun i hi=>by rw [Nat.zero_add];exact O5 _ _) (Nat.le_refl _))
   refine ⟨h1.1,?_⟩
   rw [h1.1];exact h1.2
  exact wL (as:=Gt (sJ args)) hs (fun R w ys _ ha=>(key R w).2 ys ha) (XD hvp _ _)
end
end Go.Ev
/- A function with two loops, one behind the other. -/
namespace Go.Ev
open Go
noncomputable section
variable {P:Program}
def Rx (P:Program) (X:Ext) (N:Nat) (p:List Nat) (c:Code) (lt1:LT) (n M1:Nat) (base1:EH) (id:Nat) (l1:LS) (base2:EH) (lt2:LT) (M2:Nat) (s2:LS):D :=
 oM P kD X (.leaf False) N none p c ⟨kS (lF lt1.xs l1.l),n,[]⟩ (iw base1 lt1 M1 (.exit id l1)) (fun a H => .leaf (Xz base2 lt2 n M2 s2 a H))
def uI (P:Program) (X:Ext) (N:Nat) (p:List Nat) (c:Code) (n:Nat) (base2:EH) (lt2:LT) (M2:Nat) (lv2:Lv) (g:FuncId) (v:V):D :=
 iM P kD X (.leaf False) N none p c (lv2.res lt2 n (iw base2 lt2 M2 lv2)) (fun r => .leaf (JM P g (fun v'=>dB v' v) r))
theorem NF {base:EH} {lt:LT} {n M:Nat} {s:LS} {a1:EA} {H1:EH} (h:Xz base lt n M s a1 H1) {c:Code} {lv:Lv} (hL:JL P base lt n M none c s lv):H1=base∧J P none c a1 base (lv.res lt n (iw base lt M lv)):=by
 obtain ⟨e1,e2⟩:=(show Em H1 base∧cond (Ei base lt n M a1) (Hy base lt a1 s) False from h)
 have e1:=vM e1
 subst e1
 obtain ⟨e3,e4⟩:=bF e2
 obtain ⟨k1,k2⟩:=ah e3
 obtain ⟨k2,k3⟩:=ah k2
 unfold Hy at e4
 cases hrw:rowsOf H1 H1.next (Nat.sub H1.next lt.B) lt.B with
 | none=>rw [hrw] at e4;exact e4.elim
 | some rows =>
  rw [hrw] at e4
  have e4:(⟨gG a1 lt.ts,rows⟩:LS)=s:=su e4
  subst e4
  exact ⟨rfl,JQ hL k1 hrw (nb k2) (lN k3) rfl⟩
theorem Xr (hD:bi P) {X:Ext} (hX:dM P X) {N:Nat} {g:FuncId} {das:List DA} {v:V} {p p2:List Nat} {lt1 lt2:LT} {n M1 M2 id:Nat} {l1 s1 s2:LS} {lv2:Lv} {base1 base2:EH} {b1 rest:Code} {h h' h2:HT} (h1:FQ P g (enc das 0)=true) (hn:zt P g=n)
 (he:VC (ql P X N g p das base1 lt1 n M1 s1) h) (hc:sub p (cZ P g) = .seq (.block id (.loop b1)) rest) (hL1:JL P base1 lt1 n M1 none (.loop b1) s1 (.exit id l1))
 (he2:VC (Rx P X N p2 rest lt1 n M1 base1 id l1 base2 lt2 M2 s2) h') (hL2:JL P base2 lt2 n M2 none (sub p2 rest) s2 lv2) (hv:VC (uI P X N p2 rest n base2 lt2 M2 lv2 g v) h2)
 (hf:∀ r (K:Res→D),iM P kD X (.leaf False) N none p (cZ P g) r K=K r) :
 ∃ v' H',SpecCall P g (enc das 0) (aU (rJ das 0+1)) v' H'∧dB v' v:=by
 subst hn
 obtain ⟨a1,H1,q1,q2⟩:=qU p (kz _ _ he.ok)
 obtain ⟨e1,j1⟩:=NF q2 hL1
 subst e1
 have jb:=Nj hD j1 (id:=id) (r' := .normal ⟨kS (lF lt1.xs l1.l),zt P g,[]⟩ (iw H1 lt1 M1 (.exit id l1))) (by
  show iQ id (some (.exit id _ _))=_
  show cond (Nat.beq id id) _ _=_
  rw [iO];rfl)
 obtain ⟨a3,H3,q3,q4⟩:=qU p2 (kz _ _ he2.ok)
 obtain ⟨e2,j2⟩:=NF q4 hL2
 subst e2
 obtain ⟨r,j3,j4⟩:=wM hD hX p2 q3 (JM P g (fun v'=>dB v' v)) j2 (kz _ _ hv.ok)
 have jw:=MJ jb j3
 rw [← hc] at jw
 obtain ⟨r2,j5,j6⟩:=wM hD hX p q1 (JM P g (fun v'=>dB v' v)) jw (by rw [hf];exact j4)
 exact abx false h1 j5 j6
end
end Go.Ev
/- A function with a loop that appends: from its entry, with conditions. -/
namespace Go.Ev
open Go
noncomputable section
variable {P:Program}
end
end Go.Ev
/- Code with several loops, one behind the other: from each to the next. -/
namespace Go.Ev
open Go
noncomputable section
variable {P:Program}
end
end Go.Ev
/- Loops that keep a new row of numbers from one round to the next (the best list so far): its age is the loop's own. -/
namespace Go.Ev
open Go
noncomputable section
variable {P:Program}
def HA (base:EH):EH:=⟨base.objs,Nat.succ base.next,base.grps,big⟩
structure KA (R R2:Ren) (N0:Nat) (w w':World):Prop where
 bm:R2.bm=R.bm
 cz:∀ a,a≠N0→R2.cz a=R.cz a
 czu:∀ r cs,R.cz N0 r=some cs→R2.cz N0 r=some cs
 czn:∀ r cs,R2.cz N0 r=some cs→R.cz N0 r=some cs∨w.heap.size≤r
 zs:∀ r,r<w.heap.size→R2.zs r=R.zs r
 os:w'.os=w.os
 tape:w'.tape=w.tape
 output:w'.output=w.output
 size:w.heap.size≤w'.heap.size
 keep:∀ r,r<w.heap.size→w'.heap[r]?=w.heap[r]?
theorem KA.trans {R R1 R2:Ren} {N0:Nat} {w w1 w2:World} (h:KA R R1 N0 w w1) (k:KA R1 R2 N0 w1 w2):KA R R2 N0 w w2 :=
 ⟨k.bm.trans h.bm,fun a ha=>(k.cz a ha).trans (h.cz a ha),fun r cs e=>k.czu r cs (h.czu r cs e),fun r cs e=>by
  rcases k.czn r cs e with q | q
  ·exact h.czn r cs q
  ·exact .inr (Nat.le_trans h.size q),fun r hr=>(k.zs r (Nat.lt_of_lt_of_le hr h.size)).trans (h.zs r hr),k.os.trans h.os,k.tape.trans h.tape,k.output.trans h.output,Nat.le_trans h.size k.size,fun r hr=>(k.keep r (Nat.lt_of_lt_of_le hr h.size)).trans (h.keep r hr)⟩
def PostA (base:EH) (lt:LT) (n:Nat) (R:Ren) (lv:Lv) (w:World):Exit→Act→World→Prop:=fun e A w'=>∃ R2,KA R R2 base.next w w'∧Rel R2 All (HA base) w'∧ExitR R2 (lv.res lt n (HA base)) e A
def JA (P:Program) (base:EH) (lt:LT) (n M:Nat) (c:Code) (l:List V) (lv:Lv):Prop :=
 ∃ m,∀ R w A k,Rel R All (HA base) w→WF (HA base)→lJ R (Nat.succ base.next) M→R.bm base.next=none→AR R ⟨kS (lF lt.ts l),n,[]⟩ A→wpM m (FF none) k P c (PostA base lt n R lv w) A w
def reF (N0 M:Nat) (v:V) (q':Bool) (c':Nat→Nat→V) (len' e':Nat):Prop:=match v with
 | .fz q a c len e=>cond (Nat.ble N0 a) (cond (Nat.blt a M) (V.fz q a c len e=V.fz q' a c' len' e') False) False
 | _=>False
def reP (N0 M:Nat) (v v':V):Prop:=match v' with
 | .fz q' a' c' len' e'=>cond (Nat.beq a' N0) (reF N0 M v q' c' len' e') (cond (jI N0 v) (v=V.fz q' a' c' len' e') False)
 | v'=>cond (jI N0 v) (oV v v') False
def reL (N0 M:Nat) (l:List V):List V→Prop:=List.rec (motive:=fun _=>List V→Prop) (fun m=>match m with | []=>True | _=>False) (fun v _ ih m=>match m with | v'::m=>reP N0 M v v'∧ih m | []=>False) l
def rowsI? (N0:Nat) (l:List V):Prop:=∀ v∈l,∀ q c len e,v=V.fz q N0 c len e→∃ f,c=ae .i64 f
theorem Ol {N0 M:Nat}:∀ {l l':List V},reL N0 M l l'→∀ (ts:List Nat) (p:Nat×V),p∈lF ts l'→∃ v,(p.1,v)∈lF ts l∧reP N0 M v p.2∧p.2∈l'
 | [],[],_,ts,p,hp=>by cases ts<;>cases hp
 | [],_::_,h,_,_,_=>h.elim
 | v::l,[],h,_,_,_=>h.elim
 | v::l,v'::l',h,[],p,hp=>by cases hp
 | v::l,v'::l',h,t::ts,p,hp=>by
  obtain ⟨h1,h2⟩:=(show reP N0 M v v'∧reL N0 M l l' from h)
  have hp:p∈(t,v')::lF ts l':=hp
  rcases List.mem_cons.1 hp with rfl | hp
  ·exact ⟨v,(show (t,v)∈(t,v)::lF ts l from List.mem_cons_self),h1,List.mem_cons_self⟩
  ·obtain ⟨x,q1,q2,q3⟩:=Ol h2 ts p hp
   exact ⟨x,(show (p.1,x)∈(t,v)::lF ts l from List.mem_cons_of_mem _ q1),q2,List.mem_cons_of_mem _ q3⟩
theorem ZV {N0 M:Nat} {v v':V} (h:reP N0 M v v') (hi:∀ q c len e,v'=V.fz q N0 c len e→∃ f,c=ae .i64 f) {R' R2:Ren} (hd:Dn N0 R2 R') (hc:∀ a r cs,N0≤a→a<M→R'.cz a r=some cs→R2.cz N0 r=some cs) {x:Value} (hv:VR R' v x):VR R2 v' x:=by
 have old:∀ {y:V},jI N0 v=true→v=y→VR R2 y x:=fun ho e=>by subst e;exact hv.down hd ho
 cases v' with
 | fz q' a' c' len' e' =>
  have h:cond (Nat.beq a' N0) (reF N0 M v q' c' len' e') (cond (jI N0 v) (v=V.fz q' a' c' len' e') False):=h
  cases hb:Nat.beq a' N0 with
  | true =>
   rw [hb] at h
   have:=nb hb
   subst this
   cases v with
   | fz q a c len e =>
    have h:cond (Nat.ble a' a) (cond (Nat.blt a M) (V.fz q a c len e=V.fz q' a c' len' e') False) False:=h
    obtain ⟨h1,h⟩:=bF h
    obtain ⟨h2,h⟩:=bF h
    have h1:=Nat.le_of_ble_eq_true h1
    have h2:=bZ h2
    obtain ⟨f,rfl⟩:=hi q' c' len' e' rfl
    injection h with z1 z2 z3 z4 z5
    subst z1;subst z3;subst z4;subst z5
    cases hv with
    | fzN=>exact .fzN
    | fzE h0=>exact .fzE h0
    | fz y hcz hl hy hs ha hh h0 =>
     exact .fz y (hc a _ _ h1 h2 hcz) hl hy (fun _ _ _ _=>rfl) (fun _ _ _ _ => .int _ _) (fun i j hi hj=>by
      have q:=hh i j hi hj
      generalize y i j=z at q
      cases q with
      | int=>exact .int _ _) h0
   | _=>exact h.elim
  | false =>
   rw [hb] at h
   obtain ⟨h1,h2⟩:=bF h
   exact old h1 h2
 | _ =>
  obtain ⟨h1,h2⟩:=bF h
  exact old h1 (gI h2)
def liveA (base:EH) (lt:LT) (n M:Nat) (lv:Lv) (r:Res):Prop:=match r,lv with
 | .normal a H,.next s=>cond (okA base n M a H) (reL base.next M (gG a lt.ts) s.l) False
 | .exit i a H,.exit j s=>cond (Nat.beq i j) (cond (okA base n M a H) (reL base.next M (gG a lt.xs) s.l) False) False
 | .ret a H,.ret s=>cond (okA base n M a H) (reL base.next M (gG a lt.rs) s.l) False
 | _,_=>False
where okA (base:EH) (n M:Nat) (a:EA) (H:EH):Bool:=cond (Nat.beq a.n n) (cond (Nat.ble (Nat.succ base.next) H.low) (cond (Nat.ble H.next M) (BQ a.df []) false) false) false
theorem yZ {base:EH} {n M:Nat} {a:EA} {H:EH} (h:liveA.okA base n M a H=true):a.n=n∧base.next<H.low∧H.next≤M∧a.df=[]:=by
 obtain ⟨h1,h⟩:=ah h
 obtain ⟨h2,h⟩:=ah h
 obtain ⟨h3,h4⟩:=ah h
 exact ⟨nb h1,Nat.le_of_ble_eq_true h2,Nat.le_of_ble_eq_true h3,lN h4⟩
open Classical in
def czA (R':Ren) (N0 M:Nat) (r:Nat):Option (Array Value):=if h:∃ a cs,N0≤a∧a<M∧R'.cz a r=some cs then some (Classical.choose (Classical.choose_spec h)) else none
theorem TG {R':Ren} {N0 M r:Nat} {w:World} (hf:Frz R' w) {a:Nat} {cs:Array Value} (h1:N0≤a) (h2:a<M) (h:R'.cz a r=some cs):czA R' N0 M r=some cs:=by
 have hx:∃ a cs,N0≤a∧a<M∧R'.cz a r=some cs:=⟨a,cs,h1,h2,h⟩
 unfold czA
 rw [dif_pos hx]
 have q:=(Classical.choose_spec (Classical.choose_spec hx)).2.2
 obtain ⟨⟨t,fz,e1⟩,_⟩:=hf _ _ _ h
 obtain ⟨⟨t',fz',e2⟩,_⟩:=hf _ _ _ q
 rw [e1] at e2
 injection e2 with e2
 injection e2 with e2
 rw [← e2]
theorem Og {R':Ren} {N0 M r:Nat} {cs:Array Value} (h:czA R' N0 M r=some cs):∃ a,N0≤a∧a<M∧R'.cz a r=some cs:=by
 unfold czA at h
 split at h
 ·rename_i hx
  have q:=Classical.choose_spec (Classical.choose_spec hx)
  cases h
  exact ⟨_,q⟩
 ·cases h
def lV (R R':Ren) (N0 M:Nat):Ren:=⟨R.bm,R'.zs,fun a r=>if a=N0 then czA R' N0 M r else R.cz a r⟩
theorem keepA {base:EH} {M:Nat} {R R':Ren} {w w':World} {H':EH} (hr:Rel R All (HA base) w) (hw:WF (HA base)) (hf:lJ R (Nat.succ base.next) M) (hN:base.next<M) (s:SimA R R' (HA base) H' w w') (hl:base.next<H'.low) (hM:H'.next≤M) :
 KA R (lV R R' base.next M) base.next w w'∧Rel (lV R R' base.next M) All (HA base) w'∧Dn base.next (lV R R' base.next M) R'∧∀ a r cs,base.next≤a→a<M→R'.cz a r=some cs→(lV R R' base.next M).cz base.next r=some cs:=by
 have hfz:=(SimA.rel s).frz
 have nx:(HA base).next=base.next+1:=rfl
 have bmO:∀ b,¬ (base.next+1≤b∧b<M)→R'.bm b=R.bm b:=fun b hb=>s.rx.same b (by rw [nx];omega)
 have czO:∀ a,¬ (base.next+1≤a∧a<M)→R'.cz a=R.cz a:=fun a ha=>s.rx.cz a (by rw [nx];omega)
 have slot:∀ r,(lV R R' base.next M).cz base.next r=czA R' base.next M r:=fun r=>by show (if base.next=base.next then _ else _)=_;rw [if_pos rfl]
 have other:∀ a,a≠base.next→(lV R R' base.next M).cz a=R.cz a:=fun a ha=>by funext r;show (if a=base.next then _ else _)=_;rw [if_neg ha]
 have up:∀ r cs,R.cz base.next r=some cs→(lV R R' base.next M).cz base.next r=some cs:=fun r cs e=>by
  rw [slot]
  exact TG hfz (Nat.le_refl _) hN (by rw [czO base.next (by omega)];exact e)
 have hkeep:∀ r,r<w.heap.size→w'.heap[r]?=w.heap[r]?:=fun r hr'=>s.fr.keep r hr' fun b o d ho hb q=>by
  have q:H'.low≤aF b o:=q
  have q1:=hw.lt b o ho
  have q2:=hw.root b o ho
  rw [nx] at q1
  omega
 have back:∀ r cs,(lV R R' base.next M).cz base.next r=some cs→R.cz base.next r=some cs∨w.heap.size≤r:=fun r cs e=>by
  rw [slot] at e
  obtain ⟨a,a1,a2,a3⟩:=Og e
  by_cases ha:a=base.next
  ·subst ha;rw [czO _ (by omega)] at a3;exact .inl a3
  ·rcases s.rx.czn a r cs a3 with q | q
   ·rw [(hf a (by omega) a2).2 r] at q;cases q
   ·exact .inr q
 have hle:R.le (lV R R' base.next M):=⟨fun b x e=>e,fun b r d e=>s.rx.zs r (hr.img b r d e),fun a r cs e=>by
  by_cases ha:a=base.next
  ·subst ha;exact up r cs e
  ·rw [other a ha];exact e⟩
 refine ⟨⟨rfl,other,up,back,s.rx.zs,s.fr.os,s.fr.tape,s.fr.output,s.fr.size,hkeep⟩,⟨fun b r d hb=>Nat.lt_of_lt_of_le (hr.img b r d hb) s.fr.size,fun b o r d ho hb=>(hr.obj b o r d ho hb).mono hle hb (hkeep r (hr.img b r d hb)) (fun _=>trivial) (fun v=>by cases o<;>exact v),hr.inj,fun a r cs e=>?_⟩,
  ⟨fun b hb=>bmO b (by omega),fun b r d hb e=>rfl,fun a ha=>by rw [other a (by omega)];exact czO a (by omega)⟩,fun a r cs a1 a2 e=>by rw [slot];exact TG hfz a1 a2 e⟩
 by_cases ha:a=base.next
 ·subst ha
  rw [slot] at e
  obtain ⟨a,a1,a2,a3⟩:=Og e
  obtain ⟨q1,q2⟩:=hfz a r cs a3
  refine ⟨q1,fun b d hb=>?_⟩
  have hb:R.bm b=some (r,d):=hb
  by_cases hbb:base.next+1≤b∧b<M
  ·rw [(hf b hbb.1 hbb.2).1] at hb;cases hb
  ·exact q2 b d (by rw [bmO b hbb];exact hb)
 ·rw [other a ha] at e
  obtain ⟨⟨t,fz,q1⟩,q2⟩:=hr.frz a r cs e
  exact ⟨⟨t,fz,(hkeep r (hr.frz.lt e)).trans q1⟩,q2⟩
def ltA (base:EH) (lt:LT) (n M:Nat):Bool:=cond (jC n lt.ts) (cond (jC n lt.xs) (cond (jC n lt.rs) (Nat.blt base.next M) false) false) false
theorem NG {base:EH} {lt:LT} {n M:Nat} (h:ltA base lt n M=true):jC n lt.ts=true∧jC n lt.xs=true∧jC n lt.rs=true∧base.next<M:=by
 obtain ⟨h1,h⟩:=ah h
 obtain ⟨h2,h⟩:=ah h
 obtain ⟨h3,h4⟩:=ah h
 exact ⟨h1,h2,h3,bZ h4⟩
theorem aa4 {base:EH} {lt:LT} {n M:Nat} {c:Code} {l:List V} {r:Res} {lv:Lv} (hok:ltA base lt n M=true) (hJ:J P none c ⟨kS (lF lt.ts l),n,[]⟩ (HA base) r) (hk:liveA base lt n M lv r) (hi:rowsI? base.next lv.s.l):JA P base lt n M c l lv:=by
 obtain ⟨ht,hx,hrs,hN⟩:=NG hok
 obtain ⟨_,j2,m,j3⟩:=hJ
 have hM:r.H.next≤M:=by
  cases r with
  | v v H1=>exact hk.elim
  | normal a H1=>cases lv with
   | next s=>obtain ⟨q,_⟩:=bF hk;exact (yZ q).2.2.1
   | _=>exact hk.elim
  | exit id a H1=>cases lv with
   | exit j s=>obtain ⟨_,q⟩:=bF hk;obtain ⟨q,_⟩:=bF q;exact (yZ q).2.2.1
   | _=>exact hk.elim
  | ret a H1=>cases lv with
   | ret s=>obtain ⟨q,_⟩:=bF hk;exact (yZ q).2.2.1
   | _=>exact hk.elim
 refine ⟨m,fun R w A k hr hw hf hn ha=>(j3 R w A k none hr hw (fun b h1 h2=>hf b h1 (by have h2:b<r.H.next:=h2;omega)) ha trivial).mono fun e A' w' ⟨R',s,x⟩=>?_⟩
 have core:∀ (a:EA) (H1:EH) (ts:List Nat) (l':List V),r.H=H1→jC n ts=true→liveA.okA base n M a H1=true→reL base.next M (gG a ts) l'→rowsI? base.next l'→AR R' a A' →
  ∃ R2,KA R R2 base.next w w'∧Rel R2 All (HA base) w'∧AR R2 ⟨kS (lF ts l'),n,[]⟩ A':=fun a H1 ts l' hH hlt hok2 hre hi' ha'=>by
  obtain ⟨e2,e3,e4,e5⟩:=yZ hok2
  rw [← hH] at e3 e4
  obtain ⟨k1,k2,k3,k4⟩:=keepA hr hw hf hN s e3 e4
  refine ⟨_,k1,k2,⟨?_,?_⟩⟩
  ·have ht':=ha'.tm
   rw [e2] at ht'
   refine TR.live ht' _ fun p hp=>?_
   obtain ⟨v,q1,q2,q3⟩:=Ol hre ts p hp
   obtain ⟨z1,z2,z3⟩:=rf _ _ q1
   have z1:p.1∈ts:=z1
   have z2:v=a.get p.1:=z2
   refine ⟨oO hlt _ z1,ZV q2 (hi' _ q3) k3 k4 ?_⟩
   rw [z2]
   exact ht'.val p.1
  ·have:=ha'.df
   rw [e5] at this
   cases hd:A'.defers with
   | nil=>exact trivial
   | cons d ds=>rw [hd] at this;exact this.elim
 cases r with
 | v v H1=>exact hk.elim
 | normal a H1=>cases lv with
  | next s' =>
   obtain ⟨q1,q2⟩:=bF hk
   cases e<;>try exact x.elim
   obtain ⟨R2,a1,a2,a3⟩:=core a H1 lt.ts s'.l rfl ht q1 q2 hi x
   exact ⟨R2,a1,a2,a3⟩
  | _=>exact hk.elim
 | exit id a H1=>cases lv with
  | exit j s' =>
   obtain ⟨q0,q⟩:=bF hk
   obtain ⟨q1,q2⟩:=bF q
   have:=nb q0
   subst this
   cases e<;>try exact x.elim
   obtain ⟨x1,x2⟩:=x
   obtain ⟨R2,a1,a2,a3⟩:=core a H1 lt.xs s'.l rfl hx q1 q2 hi x2
   exact ⟨R2,a1,a2,x1,a3⟩
  | _=>exact hk.elim
 | ret a H1=>cases lv with
  | ret s' =>
   obtain ⟨q1,q2⟩:=bF hk
   cases e<;>try exact x.elim
   obtain ⟨R2,a1,a2,a3⟩:=core a H1 lt.rs s'.l rfl hrs q1 q2 hi x
   exact ⟨R2,a1,a2,a3⟩
  | _=>exact hk.elim
def dA (P:Program) (X:Ext) (N:Nat) (c:Code) (base:EH) (lt:LT) (n M:Nat) (l:List V) (lv:Lv):D:=Jk P X N none c ⟨kS (lF lt.ts l),n,[]⟩ (HA base) (liveA base lt n M lv)
theorem aV (hD:bi P) {X:Ext} (hX:dM P X) {base:EH} {lt:LT} {n M N:Nat} {c:Code} {l:List V} {lv:Lv} {h:HT} (hv:VC (dA P X N c base lt n M l lv) h) (hok:ltA base lt n M=true) (hi:rowsI? base.next lv.s.l):JA P base lt n M c l lv:=by
 obtain ⟨r,_,hJ,hp⟩:=Ar hD hX hv.ok
 exact aa4 hok hJ hp hi
theorem zH {base:EH} {lt:LT} {n M:Nat} {body:Code} {lv:Lv} (hlv:∀ l,lv ≠ .next l):∀ (N:Nat) (S:Nat→List V),(∀ k,k<N→JA P base lt n M body (S k) (.next ⟨S (k+1),[]⟩))→JA P base lt n M body (S N) lv→JA P base lt n M (.loop body) (S 0) lv:=by
 intro N
 induction N with
 | zero =>
  intro S _ hN
  obtain ⟨m,hm⟩:=hN
  refine ⟨1,fun R w A k hr hw hf hn ha=>?_⟩
  show Code.roundsIn (FF none) k P body _ 1 A w
  refine Go.wpIn_mono (wpM.wp (hm R w A k hr hw hf hn ha)) fun e A1 w1 p=>?_
  cases e with
  | normal=>obtain ⟨R2,_,_,x⟩:=p;cases lv with
   | next l=>exact absurd rfl (hlv l)
   | _=>exact x.elim
  | _=>exact p
 | succ N ih =>
  intro S h hN
  obtain ⟨m1,h1⟩:=h 0 (by omega)
  obtain ⟨m2,h2⟩:=ih (fun k=>S (k+1)) (fun k hk=>h (k+1) (by omega)) hN
  refine ⟨m2+1,fun R w A k hr hw hf hn ha=>?_⟩
  show Code.roundsIn (FF none) k P body _ (m2+1) A w
  refine Go.wpIn_mono (wpM.wp (h1 R w A k hr hw hf hn ha)) fun e A1 w1 ⟨R2,kp,rel2,x⟩=>?_
  cases e<;>try exact x.elim
  have:=h2 R2 w1 A1 k rel2 hw (fun b q1 q2=>by rw [kp.bm,kp.cz b (by omega)];exact hf b q1 q2) (by rw [kp.bm];exact hn) x
  have:Code.roundsIn (FF none) k P body (PostA base lt n R2 lv w1) m2 A1 w1:=this
  exact nO (fun e A w' ⟨R3,k3,r3,x3⟩=>⟨R3,kp.trans k3,r3,x3⟩) m2 A1 w1 this
def aaO (base:EH) (M:Nat):EH:=⟨base.objs,M,base.grps,base.low⟩
theorem Wj {base:EH} {lt:LT} {n M:Nat} {c:Code} {l:List V} {lv:Lv} (h:JA P base lt n M c l lv) (hok:ltA base lt n M=true) {a:EA} (hn:a.n=n) (hd:a.df=[]) (hl:gG a lt.ts=l):J P none c a base (lv.res lt n (aaO base M)):=by
 obtain ⟨ht,hx,hrs,hN⟩:=NG hok
 obtain ⟨m,hm⟩:=h
 refine ⟨(fun v H' e=>by cases lv<;>cases e),(by rw [Lv.res_H];exact Nat.le_of_lt hN),m,fun R w A k rr hr hw hf ha hro=>?_⟩
 rw [Lv.res_H] at hf
 have hf:lJ R base.next M:=hf
 cases rr with
 | some lr=>exact hro.elim
 | none =>
 have hw2:WF (HA base):=⟨fun b o ho=>Nat.lt_succ_of_lt (hw.lt b o ho),hw.root,hw.uniq,fun g x hx=>Nat.lt_succ_of_lt (hw.gdom g x hx)⟩
 have hr2:Rel R All (HA base) w:=⟨hr.img,fun b o r d ho hb=>(hr.obj b o r d ho hb).mono (.refl R) hb rfl id (fun v=>by cases o<;>exact v),hr.inj,hr.frz⟩
 refine (hm R w A k hr2 hw2 (fun b h1 h2=>hf b (by omega) h2) (hf base.next (Nat.le_refl _) hN).1 ⟨?_,?_⟩).mono fun e A' w' ⟨R2,ka,rel2,x⟩=>⟨R2,?_,x.raise⟩
 ·have ht':=ha.tm
  rw [hn] at ht'
  rw [← hl]
  refine TR.live ht' _ fun p hp=>?_
  obtain ⟨q1,q2,q3⟩:=rf _ _ hp
  exact ⟨oO ht _ q1,by rw [q2];exact ht'.val p.1⟩
 ·have:=ha.df
  rw [hd] at this;exact this
 ·rw [Lv.res_H]
  refine ⟨⟨Nat.le_of_lt hN,Nat.le_refl _,fun b o h=>⟨o,h,rfl,rfl⟩,fun b o h _=>⟨h,rfl⟩,fun b o h _=>⟨o,h⟩,⟨fun b o h=>Nat.lt_trans (hw.lt b o h) hN,hw.root,hw.uniq,fun g x h=>Nat.lt_trans (hw.gdom g x h) hN⟩,fun g h=>h,fun b o h hb=>absurd (hw.lt b o h) (Nat.not_lt.2 hb)⟩,
   ⟨(fun b _=>by rw [ka.bm]),ka.zs,(fun b r d h1 h2 e=>by rw [ka.bm,(hf b h1 h2).1] at e;cases e),(fun a ha=>ka.cz a (fun e=>ha (by subst e;exact ⟨Nat.le_refl _,hN⟩))),(fun a r cs e=>?_)⟩,
   ⟨ka.os,ka.tape,ka.output,ka.size,fun r hr' _=>ka.keep r hr'⟩,Rel.weak (S:=All) ⟨rel2.img,fun b o r d ho hb=>(rel2.obj b o r d ho hb).mono (.refl _) hb rfl id (fun v=>by cases o<;>exact v),rel2.inj,rel2.frz⟩ fun _ _=>trivial⟩
  by_cases hh:a=base.next
  ·subst hh;exact ka.czn r cs e
  ·rw [ka.cz a hh] at e;exact .inl e
def enA (base:EH) (lt:LT) (n M:Nat) (l0:List V) (a:EA) (H:EH):Prop:=Em H base∧cond (ltA base lt n M) (cond (Nat.beq a.n n) (cond (BQ a.df []) (sN (gG a lt.ts) l0) False) False) False
def EI (P:Program) (X:Ext) (N:Nat) (g:FuncId) (p:List Nat) (das:List DA) (base:EH) (lt:LT) (n M:Nat) (l0:List V):D:=oM P kD X (.leaf False) N none p (cZ P g) ⟨ja false (enc das 0),zt P g,[]⟩ (aU (rJ das 0+1)) (fun a H => .leaf (enA base lt n M l0 a H))
def QW (P:Program) (X:Ext) (N:Nat) (g:FuncId) (p:List Nat) (base:EH) (lt:LT) (n M:Nat) (lv:Lv) (φ:V→EH→Prop):D:=iM P kD X (.leaf False) N none p (cZ P g) (lv.res lt n (aaO base M)) (fun r => .leaf (resD P g φ r))
theorem D5 (hD:bi P) {X:Ext} (hX:dM P X) {N:Nat} {g:FuncId} {das:List DA} {p:List Nat} {φ:V→EH→Prop} {base:EH} {lt:LT} {n M:Nat} {l0:List V} {lv:Lv} {h h':HT} (h1:FQ P g (enc das 0)=true) (he:VC (EI P X N g p das base lt n M l0) h)
 (hJ:JA P base lt n M (sub p (cZ P g)) l0 lv) (hv:VC (QW P X N g p base lt n M lv φ) h'):∃ v' H',SpecCall P g (enc das 0) (aU (rJ das 0+1)) v' H'∧φ v' H':=by
 obtain ⟨a1,H1,q1,q2⟩:=qU p (kz _ _ he.ok)
 obtain ⟨e1,e2⟩:=(show enA base lt n M l0 a1 H1 from q2)
 have e1:=vM e1
 subst e1
 obtain ⟨c1,e2⟩:=bF e2
 obtain ⟨c2,e2⟩:=bF e2
 obtain ⟨c3,e2⟩:=bF e2
 obtain ⟨r1,j1,j2⟩:=wM hD hX p q1 (resD P g φ) (Wj hJ c1 (nb c2) (lN c3) (oz e2)) (kz _ _ hv.ok)
 have j2:resD P g φ r1:=j2
 unfold resD at j2
 cases ha:vY P g r1 with
 | none=>rw [ha] at j2;exact j2.elim
 | some q =>
  rw [ha] at j2
  cases q with
  | v v H'=>exact ⟨v,H',yK false h1 j1 ha,j2⟩
  | _=>exact j2.elim
end
end Go.Ev
