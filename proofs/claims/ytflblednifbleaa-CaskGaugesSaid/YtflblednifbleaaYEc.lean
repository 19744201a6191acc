/- What is known of a closed call, said of each call that looks the same, in whatever heap. -/
import Derived.Test.YtflblednifbleaaYEb
set_option linter.all false
set_option linter.unusedSimpArgs false
set_option linter.unusedVariables false
namespace Go.Ev
open Go
noncomputable section
variable {P:Program}
def Jc (l:List (Nat×T V)):Nat→List EO:=List.rec (motive:=fun _=>Nat→List EO) (fun _=>[]) (fun r _ ih i => .cells r.2 0 r.1 i::ih (Nat.succ i)) l
def iR (l:List (Nat×T V)):EH:=⟨T.setL .lf 0 (Jc l 0),eY l,.lf,big⟩
structure Ent where
 (g:FuncId) (args:List V) (rows:List (Nat×T V)) (v:V)
def vV (rows:List (Nat×T V)) (H:EH) (b0 b:Nat):Option Nat:=match lM rows b0,H.block b with
 | some (sz0,c0),.mk c lo sz g=>cond (Nat.beq lo 0) (cond (Nat.ble sz0 sz) (some g) none) none
 | _,_=>none
abbrev Mt:=List (Nat×Nat×Nat)
def xG (m:Mt) (b0 g:Nat):Bool:=List.rec (motive:=fun _=>Bool) true (fun p _ ih=>cond (Nat.beq p.1 b0) false (cond (Nat.beq p.2.2 g) false ih)) m
def WL (m:Mt) (b0 b:Nat) (g:Option Nat):Option Mt:=match g with | some g=>cond (xG m b0 g) (some ((b0,b,g)::m)) none | none=>none
def mt0 (rows:List (Nat×T V)) (H:EH) (x0 x:V) (m:Mt):Option Mt:=match x0,x with
 | .slice b0 o0 l0 e0,.slice b o l e=>cond (Nat.beq o0 o) (cond (Nat.beq l0 l) (cond (Nat.beq e0 e) (WL m b0 b (vV rows H b0 b)) none) none) none
 | x0,x=>cond (o9 0 x0) (cond (eq0 x0 x) (some m) none) none
def mtT (rows:List (Nat×T V)) (H:EH) (c0 c:T V) (k:Nat):Nat→Mt→Option Mt:=Nat.rec (motive:=fun _=>Nat→Mt→Option Mt) (fun _ m=>some m)
 (fun _ ih i m=>match c0.get i,c.get i with | some x,some y=>(match mt0 rows H x y m with | some m=>ih (Nat.succ i) m | none=>none) | _,_=>none) k
def mtV (rows:List (Nat×T V)) (H:EH) (x0 x:V) (m:Mt):Option Mt:=match x0,x with
 | .agg n c0,.agg n' c=>cond (Nat.beq n n') (mtT rows H c0 c n 0 m) none
 | x0,x=>mt0 rows H x0 x m
def mtL (rows:List (Nat×T V)) (H:EH) (l0:List V):List V→Mt→Option Mt:=List.rec (motive:=fun _=>List V→Mt→Option Mt) (fun l m=>match l with | []=>some m | _=>none)
 (fun x0 _ ih l m=>match l with | x::l=>(match mtV rows H x0 x m with | some m=>ih l m | none=>none) | []=>none) l0
def QY (rows:List (Nat×T V)) (H:EH) (ps:Mt):Mt→Option Mt:=List.rec (motive:=fun _=>Mt→Option Mt) (fun m=>some m)
 (fun p _ ih m=>match lM rows p.1,H.block p.2.1 with | some (sz0,c0),.mk c _ _ _=>(match mtT rows H c0 c sz0 0 m with | some m=>ih m | none=>none) | _,_=>none) ps
def lkM (m:Mt) (b0:Nat):Option Nat:=List.rec (motive:=fun _=>Option Nat) none (fun p _ ih=>cond (Nat.beq p.1 b0) (some p.2.1) ih) m
def Xc (o:Option Nat) (b:Nat):Bool:=match o with | some a=>Nat.beq a b | none=>false
def BN (m:Mt) (x y:V):Bool:=match x,y with
 | .slice b0 o0 l0 e0,.slice b o l e=>cond (Nat.beq o0 o) (cond (Nat.beq l0 l) (cond (Nat.beq e0 e) (Xc (lkM m b0) b) false) false) false
 | x,y=>cond (o9 0 x) (eq0 x y) false
def yP (m:Mt) (c0 c:T V) (k:Nat):Nat→Bool:=Nat.rec (motive:=fun _=>Nat→Bool) (fun _=>true)
 (fun _ ih i=>match c0.get i,c.get i with | some x,some y=>cond (BN m x y) (ih (Nat.succ i)) false | _,_=>false) k
def yO (rows:List (Nat×T V)) (H:EH) (m:Mt) (ps:Mt):Bool:=List.rec (motive:=fun _=>Bool) true
 (fun p _ ih=>match lM rows p.1,H.block p.2.1 with | some (sz0,c0),.mk c _ _ _=>cond (yP m c0 c sz0 0) ih false | _,_=>false) ps
def gy (rows:List (Nat×T V)) (H:EH) (l0 l:List V):Option Mt:=match mtL rows H l0 l [] with
 | some m=>(match QY rows H m m with | some m2=>cond (yO rows H m2 m2) (some m2) none | none=>none)
 | none=>none
def VP (l:List V):List V→Bool:=List.rec (motive:=fun _=>List V→Bool) (fun m=>match m with | []=>true | _=>false) (fun x _ ih m=>match m with | y::m=>cond (mO x y) (ih m) false | []=>false) l
def JU (l:List V):Bool:=List.rec (motive:=fun _=>Bool) true (fun x _ ih=>cond (nH 0 x) ih false) l
def eqR (a b:V):Bool:=match a,b with | .tup l,.tup m=>VP l m | a,b=>mO a b
def oldR (a:V):Bool:=match a with | .tup l=>JU l | a=>nH 0 a
def We (e:Ent) (r:Option Res):Bool:=match r with | some (.v v H')=>cond (eqR v e.v) (cond (oldR v) (Nat.ble (eY e.rows) H'.low) false) false | _=>false
def pz (P:Program) (X:Ext) (n:Nat) (e:Ent):Bool:=We e (ev P X n (.call e.g e.args (iR e.rows)))
def wW (m:Option Mt):Bool:=match m with | some _=>true | none=>false
def zt (es:List Ent) (g:FuncId) (args:List V) (H:EH):Option (Bool×V):=List.rec (motive:=fun _=>Option (Bool×V)) none
 (fun e _ ih=>cond (Nat.beq e.g g) (cond (wW (gy e.rows H e.args args)) (some (true,e.v)) ih) ih) es
def ni (es:List Ent) (g:FuncId):Bool:=List.rec (motive:=fun _=>Bool) false (fun e _ ih=>cond (Nat.beq e.g g) true ih) es
def EM (es:List Ent):Ext:=⟨fun g=>cond (ni es g) (some (zt es g)) none,false⟩
theorem FY:∀ (l:List (Nat×T V)) (i j:Nat),(Jc l i)[j]?=(match l[j]? with | some r=>some (.cells r.2 0 r.1 (i+j)) | none=>none)
 | [],i,j=>by simp [Jc]
 | r::l,i,j=>by
  show (EO.cells r.2 0 r.1 i::Jc l (i+1))[j]?=_
  cases j with
  | zero=>rfl
  | succ j=>rw [List.getElem?_cons_succ,List.getElem?_cons_succ,FY l (i+1) j,show i+1+j=i+(j+1) by omega]
theorem yR:∀ (l:List (Nat×T V)) (i:Nat),(Jc l i).length=l.length
 | [],_=>rfl
 | _::l,i=>by show (Jc l (i+1)).length+1=_;rw [yR l];rfl
theorem H7 (l:List (Nat×T V)) (b:Nat):(iR l).objs.get b=(match l[b]? with | some r=>some (.cells r.2 0 r.1 b) | none=>none):=by
 show (T.setL .lf 0 (Jc l 0)).get b=_
 rw [T.get_setL]
 by_cases h:b<l.length
 ·rw [if_pos (by rw [yR];omega),Nat.sub_zero,FY,Nat.zero_add]
 ·rw [if_neg (by rw [yR];omega),List.getElem?_eq_none (by omega)];rfl
theorem dO {l:List (Nat×T V)} {b:Nat} {o:EO} (h:(iR l).objs.get b=some o):∃ r,l[b]?=some r∧o = .cells r.2 0 r.1 b∧b<l.length:=by
 rw [H7] at h
 split at h
 ·rename_i r hr
  cases h
  exact ⟨r,hr,rfl,(List.getElem?_eq_some_iff.1 hr).1⟩
 ·cases h
theorem BF (l:List (Nat×T V)):WF (iR l):=by
 refine ⟨fun b o h=>?_,fun b o h=>?_,fun g hg b b' o o' h1 h2 e1 e2=>?_,fun g x e=>by cases e⟩
 ·obtain ⟨r,_,_,h⟩:=dO h;show b<eY l;rw [iP];exact h
 ·obtain ⟨r,_,rfl,_⟩:=dO h;exact Nat.le_refl _
 ·obtain ⟨r,_,rfl,_⟩:=dO h1
  obtain ⟨r',_,rfl,_⟩:=dO h2
  exact e1.trans e2.symm
theorem Qi (m:Mt) (b0:Nat):lkM m b0=(m.find? (fun p=>p.1==b0)).map (·.2.1):=by
 induction m with
 | nil=>rfl
 | cons p m ih =>
  show cond (Nat.beq p.1 b0) (some p.2.1) (lkM m b0)=_
  rw [List.find?_cons]
  cases h:Nat.beq p.1 b0 with
  | true=>rw [show (p.1==b0)=true by rw [nb h];simp];rfl
  | false=>rw [rY] at h;rw [show (p.1==b0)=false by simpa using of_decide_eq_false h];exact ih
def FZ (m:Mt) (x y:V):Prop:=(x=y∧o9 0 x=true)∨∃ b0 b o l e,x = .slice b0 o l e∧y = .slice b o l e∧lkM m b0=some b
theorem NU {m:Mt} {x y:V} (h:BN m x y=true):FZ m x y:=by
 unfold BN at h
 split at h
 ·rename_i b0 o0 l0 e0 b o l e
  obtain ⟨h1,h4⟩:=ax h
  obtain ⟨h2,h5⟩:=ax h4
  obtain ⟨h3,h6⟩:=ax h5
  clear h h4 h5
  have:=nb h1;subst this
  have:=nb h2;subst this
  have:=nb h3;subst this
  refine .inr ⟨b0,b,o0,l0,e0,rfl,rfl,?_⟩
  unfold Xc at h6
  split at h6
  ·rename_i a ha;rw [ha,nb h6]
  ·cases h6
 ·obtain ⟨h1,h2⟩:=ax h
  exact .inl ⟨yC h2,h1⟩
theorem AQ {m:Mt} {c0 c:T V}:∀ {k i:Nat},yP m c0 c k i=true→∀ j,j<k→∃ x y,c0.get (i+j)=some x∧c.get (i+j)=some y∧FZ m x y:=by
 intro k
 induction k with
 | zero=>intro i _ j hj;omega
 | succ k ih =>
  intro i h j hj
  have h:(match c0.get i,c.get i with | some x,some y=>cond (BN m x y) (yP m c0 c k (i+1)) false | _,_=>false)=true:=h
  split at h
  ·rename_i x y hx hy
   obtain ⟨h1,h2⟩:=ax h
   cases j with
   | zero=>exact ⟨x,y,hx,hy,NU h1⟩
   | succ j=>rw [show i+(j+1)=i+1+j by omega];exact ih h2 j (by omega)
  ·cases h
def MtOk (rows:List (Nat×T V)) (H:EH):Mt→Prop
 | []=>True
 | p::m=>vV rows H p.1 p.2.1=some p.2.2∧xG m p.1 p.2.2=true∧MtOk rows H m
def kP (m:Mt) (b0:Nat):Option Nat:=(m.find? (fun p=>p.1==b0)).map (·.2.1)
theorem uV {m:Mt} {b0 g:Nat} (h:xG m b0 g=true):∀ p∈m,p.1≠b0∧p.2.2≠g:=by
 induction m with
 | nil=>intro p hp;cases hp
 | cons q m ih =>
  have h:cond (Nat.beq q.1 b0) false (cond (Nat.beq q.2.2 g) false (xG m b0 g))=true:=h
  cases h1:Nat.beq q.1 b0 with
  | true=>rw [h1] at h;cases h
  | false =>
   rw [h1] at h
   simp only [cond_false] at h
   cases h2:Nat.beq q.2.2 g with
   | true=>rw [h2] at h;cases h
   | false =>
    rw [h2] at h
    rw [rY] at h1 h2
    intro p hp
    cases hp with
    | head=>exact ⟨of_decide_eq_false h1,of_decide_eq_false h2⟩
    | tail _ hp=>exact ih h p hp
theorem rX {m:Mt} {b0 b:Nat} (h:kP m b0=some b):∃ g,(b0,b,g)∈m:=by
 unfold kP at h
 cases hf:m.find? (fun p=>p.1==b0) with
 | none=>rw [hf] at h;cases h
 | some p =>
  rw [hf] at h
  have h1:=List.mem_of_find?_eq_some hf
  have h2:=List.find?_some hf
  obtain ⟨a,b',g⟩:=p
  cases h
  have h2:a=b0:=by simpa using h2
  subst h2
  exact ⟨g,h1⟩
def Suf (m m':Mt):Prop:=∃ l,m'=l++m
theorem Suf.refl (m:Mt):Suf m m:=⟨[],rfl⟩
theorem Suf.trans {a b c:Mt} (h:Suf a b) (k:Suf b c):Suf a c:=by
 obtain ⟨l,rfl⟩:=h;obtain ⟨l',rfl⟩:=k;exact ⟨l'++l,by simp⟩
theorem MtOk.at_cons {rows : List (Nat × T V)} {H : EH} : ∀ {m : Mt}, MtOk rows H m → ∀ {b0 b g : Nat}, (b0, b, g) ∈ m → kP m b0 = some b ∧ vV rows H b0 b = some g
  | p :: m, hm, b0, b, g, h => by
    obtain ⟨h1, h2, h3⟩ := hm
    rcases List.mem_cons.1 h with e | h
    · subst e; exact ⟨by simp [kP], h1⟩
    · obtain ⟨k1, k2⟩ := MtOk.at_cons h3 h
      refine ⟨?_, k2⟩
      have := (uV h2 _ h).1
      unfold kP
      rw [List.find?_cons]
      have e : (p.1 == b0) = false := by
        cases hc : p.1 == b0 with
        | false => rfl
        | true => have : p.1 = b0 := by simpa using hc
                  exact absurd this.symm (by assumption)
      rw [e]
      exact k1
theorem MtOk.roots {rows:List (Nat×T V)} {H:EH}:∀ {m:Mt},MtOk rows H m→∀ {a b g a' b':Nat},(a,b,g)∈m→(a',b',g)∈m→a=a'
 | p::m,⟨_,h2,h3⟩,a,b,g,a',b',h,h'=>by
  rcases List.mem_cons.1 h with e | h
  ·rcases List.mem_cons.1 h' with e' | h'
   ·rw [← e] at e';cases e';rfl
   ·exact absurd (by rw [← e]) (uV h2 _ h').2
  ·rcases List.mem_cons.1 h' with e' | h'
   ·exact absurd (by rw [← e']) (uV h2 _ h).2
   ·exact MtOk.roots h3 h h'
def kG (R:Ren) (m:Mt):Ren:=⟨fun b0=>(kP m b0).bind R.bm,R.zs,fun _ _=>none⟩
theorem Eb {rows:List (Nat×T V)} {H:EH} {x0 x:V} {m m':Mt} (h:mt0 rows H x0 x m=some m') (hm:MtOk rows H m):Suf m m'∧MtOk rows H m' ∧
 ∀ (R:Ren) (m2:Mt),Suf m' m2→MtOk rows H m2→∀ y,VR R x y→VR (kG R m2) x0 y:=by
 unfold mt0 at h
 split at h
 ·rename_i b0 o0 l0 e0 b o l e
  cases h1:Nat.beq o0 o with
  | false=>rw [h1] at h;cases h
  | true =>
  rw [h1] at h
  cases h2:Nat.beq l0 l with
  | false=>rw [h2] at h;cases h
  | true =>
  rw [h2] at h
  cases h3:Nat.beq e0 e with
  | false=>rw [h3] at h;cases h
  | true =>
  rw [h3] at h
  have:=nb h1;subst this
  have:=nb h2;subst this
  have:=nb h3;subst this
  have h:WL m b0 b (vV rows H b0 b)=some m':=h
  unfold WL at h
  split at h
  ·rename_i g hg
   cases h4:xG m b0 g with
   | false=>rw [h4] at h;cases h
   | true =>
    rw [h4] at h
    cases h
    have hm':MtOk rows H ((b0,b,g)::m):=⟨hg,h4,hm⟩
    refine ⟨⟨[_],rfl⟩,hm',fun R m2 hs h2 y hy=>?_⟩
    cases hy with
    | slice p1 p2 p3 p4 =>
     obtain ⟨l2,rfl⟩:=hs
     have:=(MtOk.at_cons h2 (b0:=b0) (b:=b) (g:=g) (by simp)).1
     exact .slice (by show (kP _ b0).bind R.bm=_;rw [this];exact p1) p2 p3 p4
  ·cases h
 ·obtain ⟨h1,h2⟩:o9 0 x0=true∧cond (eq0 x0 x) (some m) none=some m':=by
   cases q:o9 0 x0 with
   | false=>rw [q] at h;cases h
   | true=>rw [q] at h;exact ⟨rfl,h⟩
  cases q:eq0 x0 x with
  | false=>rw [q] at h2;cases h2
  | true =>
   rw [q] at h2
   cases h2
   have:=yC q
   subst this
   exact ⟨.refl _,hm,fun R m2 _ _ y hy=>VR.down0 (R1:=R) (n:=0) ⟨fun b hb=>by omega,fun b r d hb=>by omega,fun a ha=>by omega⟩ hy h1⟩
theorem EG {rows:List (Nat×T V)} {H:EH} {c0 c:T V}:∀ {k i:Nat} {m m':Mt},mtT rows H c0 c k i m=some m'→MtOk rows H m→Suf m m'∧MtOk rows H m' ∧
 ∀ j,j<k→∃ x0 x,c0.get (i+j)=some x0∧c.get (i+j)=some x∧dE x0=dE x∧∀ (R:Ren) (m2:Mt),Suf m' m2→MtOk rows H m2→∀ y,VR R x y→VR (kG R m2) x0 y:=by
 intro k
 induction k with
 | zero=>intro i m m' h hm;cases h;exact ⟨.refl _,hm,fun j hj=>by omega⟩
 | succ k ih =>
  intro i m m' h hm
  have h:(match c0.get i,c.get i with | some x,some y=>(match mt0 rows H x y m with | some m=>mtT rows H c0 c k (i+1) m | none=>none) | _,_=>none)=some m':=h
  split at h
  ·rename_i x0 x h0 h1
   split at h
   ·rename_i m1 h2
    obtain ⟨k1,k2,k3⟩:=Eb h2 hm
    obtain ⟨q1,q2,q3⟩:=ih h k2
    have hsc:dE x0=dE x:=by
     unfold mt0 at h2
     split at h2
     ·rfl
     ·cases q:o9 0 x0 with
      | false=>rw [q] at h2;cases h2
      | true =>
       rw [q] at h2
       have h2:cond (eq0 x0 x) (some m) none=some m1:=h2
       cases q':eq0 x0 x with
       | false=>rw [q'] at h2;cases h2
       | true=>rw [yC q']
    refine ⟨k1.trans q1,q2,fun j hj=>?_⟩
    cases j with
    | zero=>exact ⟨x0,x,h0,h1,hsc,fun R m2 hs=>k3 R m2 (q1.trans hs)⟩
    | succ j=>rw [show i+(j+1)=i+1+j by omega];exact q3 j (by omega)
   ·cases h
  ·cases h
theorem RP {rows:List (Nat×T V)} {H:EH} {x0 x:V} {m m':Mt} (h:mtV rows H x0 x m=some m') (hm:MtOk rows H m):Suf m m'∧MtOk rows H m' ∧
 ∀ (R:Ren) (m2:Mt),Suf m' m2→MtOk rows H m2→∀ y,VR R x y→VR (kG R m2) x0 y:=by
 unfold mtV at h
 split at h
 ·rename_i n c0 n' c
  cases h1:Nat.beq n n' with
  | false=>rw [h1] at h;cases h
  | true =>
   rw [h1] at h
   have:=nb h1;subst this
   obtain ⟨k1,k2,k3⟩:=EG h hm
   refine ⟨k1,k2,fun R m2 hs h2 y hy=>?_⟩
   cases hy with
   | agg g p1 p2 p3 p4 =>
    rename_i cs
    have hd:∀ i,i<n→∃ x0,c0.get i=some x0:=fun i hi=>by
     obtain ⟨x0,x,e1,_⟩:=k3 i hi
     exact ⟨x0,by rw [Nat.zero_add] at e1;exact e1⟩
    refine .agg (fun i=>getD' c0 i) p1 (fun i hi=>?_) (fun i hi=>?_) (fun i hi=>?_)
    ·obtain ⟨x0,e⟩:=hd i hi;unfold getD';rw [e]
    ·obtain ⟨x0,x,e1,e2,e3,_⟩:=k3 i hi
     rw [Nat.zero_add] at e1 e2
     unfold getD';rw [e1]
     show dE x0=true
     rw [p2 i hi] at e2;cases e2
     rw [e3];exact p3 i hi
    ·obtain ⟨x0,x,e1,e2,e3,e4⟩:=k3 i (by omega)
     rw [Nat.zero_add] at e1 e2
     unfold getD';rw [e1]
     rw [p2 i (by omega)] at e2;cases e2
     exact e4 R m2 hs h2 _ (p4 i hi)
 ·exact Eb h hm
theorem Fg {rows:List (Nat×T V)} {H:EH}:∀ {l0 l:List V} {m m':Mt},mtL rows H l0 l m=some m'→MtOk rows H m→Suf m m'∧MtOk rows H m' ∧
 ∀ (R:Ren) (m2:Mt),Suf m' m2→MtOk rows H m2→∀ ys,AL R l ys→AL (kG R m2) l0 ys
 | [],[],m,m',h,hm=>by cases h;exact ⟨.refl _,hm,fun R m2 _ _ ys hy=>⟨hy.1,fun i h1=>by simp at h1⟩⟩
 | [],_::_,m,m',h,hm=>by cases h
 | _::_,[],m,m',h,hm=>by cases h
 | x0::l0,x::l,m,m',h,hm=>by
  have h:(match mtV rows H x0 x m with | some m=>mtL rows H l0 l m | none=>none)=some m':=h
  split at h
  ·rename_i m1 h1
   obtain ⟨k1,k2,k3⟩:=RP h1 hm
   obtain ⟨q1,q2,q3⟩:=Fg h k2
   refine ⟨k1.trans q1,q2,fun R m2 hs h2 ys hy=>?_⟩
   have hsz:=hy.1
   have ht:AL R l (ys.extract 1 ys.size):=⟨by simp at hsz ⊢;omega,fun i a1 a2=>by
    have:=hy.2 (i+1) (by simpa using a1) (by simp at hsz a2 ⊢;omega)
    simpa [Nat.add_comm] using this⟩
   have:=q3 R m2 hs h2 _ ht
   refine ⟨by simp at hsz ⊢;have:=this.1;simp at this;omega,fun i a1 a2=>?_⟩
   cases i with
   | zero=>exact k3 R m2 (q1.trans hs) h2 _ (hy.2 0 (by simp) a2)
   | succ i =>
    have:=this.2 i (by simpa using a1) (by simp;omega)
    simpa [Nat.add_comm] using this
  ·cases h
theorem yt {rows:List (Nat×T V)} {H:EH}:∀ {ps m m':Mt},QY rows H ps m=some m'→MtOk rows H m→Suf m m'∧MtOk rows H m'
 | [],m,m',h,hm=>by cases h;exact ⟨.refl _,hm⟩
 | p::ps,m,m',h,hm=>by
  have h:(match lM rows p.1,H.block p.2.1 with | some (sz0,c0),.mk c _ _ _=>(match mtT rows H c0 c sz0 0 m with | some m=>QY rows H ps m | none=>none) | _,_=>none)=some m':=h
  split at h
  ·split at h
   ·rename_i m1 h1
    obtain ⟨k1,k2,_⟩:=EG h1 hm
    obtain ⟨q1,q2⟩:=yt h k2
    exact ⟨k1.trans q1,q2⟩
   ·cases h
  ·cases h
theorem qE {rows:List (Nat×T V)} {H:EH} {m:Mt}:∀ {ps:Mt},yO rows H m ps=true→∀ p∈ps,∃ sz0 c0 c lo sz g,lM rows p.1=some (sz0,c0)∧H.block p.2.1 = .mk c lo sz g∧yP m c0 c sz0 0=true
 | [],_,p,hp=>by cases hp
 | q::ps,h,p,hp=>by
  have h:(match lM rows q.1,H.block q.2.1 with | some (sz0,c0),.mk c _ _ _=>cond (yP m c0 c sz0 0) (yO rows H m ps) false | _,_=>false)=true:=h
  split at h
  ·rename_i sz0 c0 c lo sz g h1 h2
   obtain ⟨h3,h4⟩:=ax h
   rcases List.mem_cons.1 hp with e | hp
   ·subst e;exact ⟨sz0,c0,c,lo,sz,g,h1,h2,h3⟩
   ·exact qE h4 p hp
  ·cases h
theorem yB {rows:List (Nat×T V)} {H:EH} {l0 l:List V} {m:Mt} (h:gy rows H l0 l=some m):MtOk rows H m∧yO rows H m m=true∧∀ (R:Ren) ys,AL R l ys→AL (kG R m) l0 ys:=by
 unfold gy at h
 split at h
 ·rename_i m1 h1
  split at h
  ·rename_i m2 h2
   cases h3:yO rows H m2 m2 with
   | false=>rw [h3] at h;cases h
   | true =>
    rw [h3] at h
    cases h
    obtain ⟨_,k2,k3⟩:=Fg h1 trivial
    obtain ⟨q1,q2⟩:=yt h2 k2
    exact ⟨q2,h3,fun R ys hy=>k3 R m q1 q2 ys hy⟩
  ·cases h
 ·cases h
theorem JK:∀ {l m:List V},VP l m=true→l=m
 | [],[],_=>rfl
 | [],_::_,h=>by cases h
 | _::_,[],h=>by cases h
 | x::l,y::m,h=>by
  have h:cond (mO x y) (VP l m) false=true:=h
  obtain ⟨h1,h2⟩:=ax h
  rw [jW h1,JK h2]
theorem Wu {a b:V} (h:eqR a b=true):a=b:=by
 unfold eqR at h
 split at h
 ·rw [JK h]
 ·exact jW h
theorem zO:∀ {l:List V},JU l=true→∀ i (hi:i<l.length),nH 0 l[i]=true
 | [],_,i,hi=>by simp at hi
 | x::l,h,i,hi=>by
  have h:cond (nH 0 x) (JU l) false=true:=h
  obtain ⟨h1,h2⟩:=ax h
  cases i with
  | zero=>exact h1
  | succ i=>exact zO h2 i (by simpa using hi)
theorem VR.closed {R R1:Ren} {v:V} {x:Value} (h:VR R1 v x) (ho:oldR v=true):VR R v x:=by
 have hd:Dn 0 R R1:=⟨fun b hb=>by omega,fun b r d hb=>by omega,fun a ha=>by omega⟩
 cases h with
 | tup hl hv =>
  rename_i l vs
  have ho:JU l=true:=ho
  exact .tup hl fun i a b=>(hv i a b).down hd (zO ho i a)
 | bad v=>cases ho
 | bool b=>exact .bool b
 | int k n=>exact .int k n
 | str s=>exact .str s
 | nilPtr=>exact .nilPtr
 | ptr h e=>exact VR.down hd (.ptr h e) ho
 | nilSlice=>exact .nilSlice
 | slice h h1 h2 h3=>exact VR.down hd (.slice h h1 h2 h3) ho
 | nilMap=>exact .nilMap
 | map h=>exact VR.down hd (.map h) ho
 | nilFunc=>exact .nilFunc
 | func hl hv hm hv'=>exact VR.down hd (.func hl hv hm hv') ho
 | yld h=>exact VR.down hd (.yld h) ho
 | nilIface=>exact .nilIface
 | agg g hn hg hs hv=>exact VR.down hd (.agg g hn hg hs hv) ho
 | fzN=>exact .fzN
 | fzE h0=>exact .fzE h0
 | fz y hc hl hy hs hg hv h0=>exact VR.down hd (.fz y hc hl hy hs hg hv) ho
 | fp y hc hy hs hg hv=>exact VR.down hd (.fp y hc hy hs hg hv) ho
theorem Jv {f:Task→Option Res} (hs:dQ P f) {e:Ent} (hrun:We e (f (.call e.g e.args (iR e.rows)))=true) {args:List V} {H:EH} {m:Mt} (h:gy e.rows H e.args args=some m):SpecCall P e.g args H e.v H:=by
 unfold We at hrun
 split at hrun
 ·rename_i v H' hev
  obtain ⟨a1,hrun⟩:=ax hrun
  obtain ⟨a2,a3⟩:=ax hrun
  have:=Wu a1
  subst this
  have a3:=Nat.le_of_ble_eq_true a3
  rw [iP] at a3
  obtain ⟨v1,H1,e1,n1,hfn,k⟩:=hs _ _ hev
  cases e1
  obtain ⟨hm,hrows,hal⟩:=yB h
  refine ⟨Nat.le_refl _,hfn,fun R w args' n' hr hw hf ha=>?_⟩
  have hobj:∀ b0 o r d,(iR e.rows).objs.get b0=some o→(kG R m).bm b0=some (r,d)→∃ sz0 c0 b c lo sz g,o = .cells c0 0 sz0 b0∧(b0,b,g)∈m∧R.bm b=some (r,d)∧H.block b = .mk c lo sz g∧lo=0∧sz0≤sz∧yP m c0 c sz0 0=true:=fun b0 o r d ho hb=>by
   obtain ⟨row,p1,p2,_⟩:=dO ho
   have hb:(kP m b0).bind R.bm=some (r,d):=hb
   cases hbm:kP m b0 with
   | none=>rw [hbm] at hb;cases hb
   | some b =>
    rw [hbm] at hb
    obtain ⟨g,hg⟩:=rX hbm
    have:=(hm.at_cons hg).2
    unfold vV at this
    rw [fB,p1] at this
    split at this
    ·rename_i sz0 c0 c lo sz g' q1 q2
     cases q1
     rw [aH] at this
     by_cases hl:lo=0
     ·rw [if_pos hl,bg] at this
      by_cases hs:sz0≤sz
      ·rw [if_pos hs] at this
       cases this
       obtain ⟨sz1,c1,c',lo',sz',g',z1,z2,q3⟩:=qE hrows _ hg
       rw [fB,p1] at z1
       cases z1
       rw [q2] at z2
       cases z2
       exact ⟨sz0,c0,b,c,lo,sz,_,p2,hg,hb,q2,hl,hs,q3⟩
      ·rw [if_neg hs] at this;cases this
     ·rw [if_neg hl] at this;cases this
    ·cases this
  have hr0:Rel (kG R m) All (iR e.rows) w:=by
   refine ⟨fun b0 r d hb=>?_,fun b0 o r d ho hb=>?_,fun b0 b0' o o' r d d' ho ho' hb hb'=>?_,fun a r cs e=>(by cases e)⟩
   ·have hb:(kP m b0).bind R.bm=some (r,d):=hb
    cases hbm:kP m b0 with
    | none=>rw [hbm] at hb;cases hb
    | some b=>rw [hbm] at hb;exact hr.img b r d hb
   ·obtain ⟨sz0,c0,b,c,lo,sz,g,rfl,hg,hb1,hbk,hl,hs,hrow⟩:=hobj b0 o r d ho hb
    obtain ⟨q1,q2⟩:=aV hbk
    obtain ⟨cs,t,fz,r1,r2,r3,r4⟩:=hr.obj b _ r d q1 hb1
    refine ⟨cs,t,fz,r1,r2,r3,fun _ _ i h1 h2=>?_⟩
    obtain ⟨d1,x,y,s1,s2,s3,s4⟩:=r4 trivial q2 i (by omega) (by omega)
    obtain ⟨x',y',t1,t2,t3⟩:=AQ hrow i h2
    rw [Nat.zero_add] at t1 t2
    rw [s1] at t2;cases t2
    rcases t3 with ⟨rfl,t3⟩ | ⟨b0',b',o',l',e',rfl,rfl,t3⟩
    ·exact ⟨d1,x',y,t1,s2,s3,s4.down0 (R1:=R) (n:=0) ⟨fun b hb=>by omega,fun b r d hb=>by omega,fun a ha=>by omega⟩ t3⟩
    ·refine ⟨d1,_,y,t1,rfl,s3,?_⟩
     cases s4 with
     | slice v1 v2 v3 v4=>exact .slice (by show (kP m b0').bind R.bm=_;unfold kP;rw [← Qi,t3];exact v1) v2 v3 v4
   ·obtain ⟨sz0,c0,b,c,lo,sz,g,rfl,hg,hb1,hbk,_⟩:=hobj b0 o r d ho hb
    obtain ⟨sz0',c0',b',c',lo',sz',g',rfl,hg',hb1',hbk',_⟩:=hobj b0' o' r d' ho' hb'
    have g1:=(aV hbk).1
    have g2:=(aV hbk').1
    rcases hr.inj b b' _ _ r d d' g1 g2 hb1 hb1' with q | ⟨_,_,_,q⟩
    ·subst q
     rw [g1] at g2;cases g2
     exact .inl (hm.roots hg hg')
    ·have q:g=g':=q
     subst q
     exact .inl (hm.roots hg hg')
  have hfree:Free (kG R m) (iR e.rows) H':=fun b h1 _=>by
   refine ⟨?_,fun _=>rfl⟩
   show (kP m b).bind R.bm=none
   cases hbm:kP m b with
   | none=>rfl
   | some b' =>
    obtain ⟨g,hg⟩:=rX hbm
    have:=(hm.at_cons hg).2
    unfold vV at this
    have h1:eY e.rows≤b:=h1
    rw [iP] at h1
    rw [fB,List.getElem?_eq_none h1] at this
    cases this
  refine CallsIn.mono (k (kG R m) w args' n' hr0 (BF _) hfree (hal R args' ha)) fun en w' ⟨x,R',e1,e2,e3⟩=>?_
  have hkeep:∀ r,r<w.heap.size→w'.heap[r]?=w.heap[r]?:=fun r hr=>e3.fr.keep r hr fun b o d ho hb q=>by
   obtain ⟨row,_,rfl,hlt⟩:=dO ho
   have q:H'.low≤b:=q
   omega
  exact ⟨x,R,e1,e2.closed a2,⟨⟨Nat.le_refl _,Nat.le_refl _,fun b o h=>⟨o,h,rfl,rfl⟩,fun b o h _=>⟨h,rfl⟩,fun b o h _=>⟨o,h⟩,hw,fun g h=>h,fun b o h hb=>absurd (hw.lt b o h) (by omega)⟩,.refl _ _ _,
   ⟨e3.fr.os,e3.fr.tape,e3.fr.output,e3.fr.size,fun r hr _=>hkeep r hr⟩,
   ⟨fun b r d hb=>Nat.lt_of_lt_of_le (hr.img b r d hb) e3.fr.size,fun b o r d ho hb=>(hr.obj b o r d ho hb).mono (.refl _) hb (hkeep r (hr.img b r d hb)) (fun _=>trivial) id,hr.inj,
    hr.frz.step rfl (fun r h1 _=>hkeep r h1) fun b r d e => .inr ⟨b,d,e⟩⟩⟩⟩
 ·cases hrun
theorem gm (hD:aN P) {X:Ext} (hX:dC P X) {e:Ent} {n:Nat} (hrun:pz P X n e=true) {args:List V} {H:EH} {m:Mt} (h:gy e.rows H e.args args=some m):SpecCall P e.g args H e.v H:=Jv (nY hD hX n) hrun h
def EntsOK (P:Program) (es:List Ent):Prop:=∀ e∈es,∀ (args:List V) (H:EH) (m:Mt),gy e.rows H e.args args=some m→SpecCall P e.g args H e.v H
theorem EntsOK.nil:EntsOK P []:=fun _ h=>by cases h
theorem EntsOK.cons {e:Ent} {es:List Ent} (h:∀ (args:List V) (H:EH) (m:Mt),gy e.rows H e.args args=some m→SpecCall P e.g args H e.v H) (k:EntsOK P es):EntsOK P (e::es):=fun e' he=>by
 rcases List.mem_cons.1 he with rfl | he
 ·exact h
 ·exact k e' he
theorem uF {g:FuncId} {args:List V} {H:EH} {v:V}:∀ {es:List Ent},zt es g args H=some (true,v)→∃ e∈es,e.g=g∧(∃ m,gy e.rows H e.args args=some m)∧e.v=v
 | [],h=>by cases h
 | e::es,h=>by
  have h:cond (Nat.beq e.g g) (cond (wW (gy e.rows H e.args args)) (some (true,e.v)) (zt es g args H)) (zt es g args H)=some (true,v):=h
  have rest:zt es g args H=some (true,v)→∃ e'∈e::es,e'.g=g∧(∃ m,gy e'.rows H e'.args args=some m)∧e'.v=v:=fun h=>by
   obtain ⟨e',h1,h2⟩:=uF h
   exact ⟨e',List.mem_cons_of_mem _ h1,h2⟩
  cases h1:Nat.beq e.g g with
  | false=>rw [h1] at h;exact rest h
  | true =>
   rw [h1] at h
   cases hm:gy e.rows H e.args args with
   | none=>rw [hm] at h;exact rest h
   | some m=>rw [hm] at h;cases h;exact ⟨e,List.mem_cons_self,nb h1,⟨m,hm⟩,rfl⟩
theorem kV {es:List Ent} (h:EntsOK P es):dC P (EM es):=fun g x args H v hx hv=>by
 have hx:cond (ni es g) (some (zt es g)) none=some x:=hx
 cases hn:ni es g with
 | false=>rw [hn] at hx;cases hx
 | true =>
  rw [hn] at hx
  cases hx
  obtain ⟨e,h1,rfl,⟨m,h3⟩,rfl⟩:=uF hv
  exact (h e h1 args H m h3).bump
end
end Go.Ev
